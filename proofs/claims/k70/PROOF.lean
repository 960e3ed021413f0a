import PyProof.Rows.All
import Wide.All
import OpenK.AllK
import Wide.FinOn
import Lean
import PyProof.EqAt
import PyProof.EqKinds
import PyProof.TupleCall
import PyProof.ExcBaseAll.ValueError
import PyProof.NsDelKeeps
import PyProof.NeKinds
import PyProof.Rows.SortShell
import PyProof.Rows.FStr
import PyProof.FString
import PyProof.ExcAttrAll.ValueError
import PyProof.ExcArgsOwn
import PyProof.Rows.SortRuns
import PyProof.TupleIter
import PyProof.Dict
import KE.KDictSum
import PyProof.Rows.SetFrom
import PyProof.SetRoads
import PyProof.Rows.Range3
import PyProof.WalksMore
import PyProof.Rows.SortRev
import PyProof.Rows.RuleB_bool
import PyProof.TupleOfSeq
import PyProof.EnumMake
import PyProof.SliceList
import PyProof.MinMaxWalk
import PyProof.Rows.EnumRows
import PyProof.WalkInts
import PyProof.Rows.SeqCalls
import KE.KRevIter
import PyProof.CollectIter
import PyProof.TupleOfGen
import PyProof.Rows.FactsT2
import PyProof.ListRange
import PyProof.Rows.CallKwBuiltin
import PyProof.ZipIter
import PyProof.Rows.ZipGen
import PyProof.Rows.RuleM_int
import PyProof.Rows.AssignMoreSeq
import KE.KIntText
import PyProof.Rows.StrKeys3
import PyProof.StrBlock
import PyProof.StrCalls2
import PyProof.StrWalks
import PyProof.Rows.RuleN_abs
import PyProof.StrLawsTight
import PyProof.StrLawsChain
import PyProof.StrLawsIn
import PyProof.Rows.StrItems
import PyProof.FitsReplace
import PySem.Challenge.RW_guardround_k70_one_guard_asked
local macro_rules|`(tactic|ext)=>`(tactic|simp_all)
local macro_rules|`(tactic|symm)=>`(tactic|dsimp only)
local macro_rules|`(∅)=>`(by first|lia|omega|decide|decide +kernel|(simp;done)|simp_all)
set_option tactic.hygienic false
set_option hygiene false
set_option genInjectivity false
set_option Elab.async false
set_option linter.all false
set_option compiler.extract_closed false
set_option bootstrap.genMatcherCode false
set_option genSizeOf false
set_option maxRecDepth 100000
set_option maxHeartbeats 8000000
abbrev YP:=List Int
abbrev XP:=Int×Int
theorem qX{c:Prop}{h:Decidable c}(g:c){i:Sort u}{t e:i}:ite c t e=t:=if_pos g
theorem qY{c:Prop}{h:Decidable c}(g:Not c){i:Sort u}{t e:i}:ite c t e=e:=if_neg g
theorem wX{p:Prop}[i:Decidable p](h:p):decide p=true:=decide_eq_true h
theorem wY{p:Prop}[i:Decidable p](h:Not p):decide p=false:=decide_eq_false h
theorem zX{a b:Prop}(h:a)(n:Not a):b:=absurd h n
open Array renaming getElem?_eq_getElem->LI,getElem?_eq_none->Zk,getElem?_toList->Nf,length_toList->CW,mem_extract_iff_getElem->Tj,mem_of_getElem?->Eb,mem_toList_iff->Bk,perm_iff_toList_perm->Gk,toList->vf,toList_append->DK,toList_map->MX,toList_modify->ez,toList_push->Ld,toList_setIfInBounds->Wa
open Array.Perm renaming refl->RV
open Bool renaming and_eq_true->Bo,false_eq_true->C9,false_ne_true->AQ,false_or->ve,not_eq_true'->GP,not_true->QO,or_eq_true->WN,or_false->vd
open Classical renaming byContradiction->EZ
open Eq renaming trans->G1
open False renaming elim->WX
open ForInStep renaming yield->JR
open Int renaming emod_eq_of_lt->pf,emod_lt_of_pos->LH,emod_nonneg->OZ,eq_ofNat_of_zero_le->bo,fdiv_eq_ediv_of_nonneg->X9,le_refl->Gs,lt_of_le_of_lt->kW,lt_of_lt_of_le->kU,lt_trans->zx,toNat_natCast->Ap,toNat_of_nonneg->Cn,zero_add->zw
open List renaming all_cons->QJ,all_eq_true->FI,all_map->zZ,any_cons->HN,any_eq_false->kO,any_eq_true->NF,any_toArray->NE,append_assoc->BM,append_nil->CQ,drop_drop->PF,drop_eq_getElem_cons->Lc,drop_eq_nil_of_le->bn,drop_left'->qL,drop_sublist->kM,drop_succ_cons->iE,drop_zero->ut,exists_cons_of_ne_nil->W3,ext_getElem?->IV,extract->bm,filterMap_cons->iD,filter_append->j8,filter_cons_of_neg->Zi,filter_cons_of_pos->Zh,filter_nil->qK,find?_cons->D7,flatMap_cons->kL,foldl_append->IU,foldl_cons->qJ,foldl_nil->W2,forIn_cons->qI,forIn_nil->W1,getElem?_append_left->Ah,getElem?_append_right->BE,getElem?_drop->Hg,getElem?_eq_getElem->BX,getElem?_eq_none->JQ,getElem?_eq_some_iff->AE,getElem?_map->Al,getElem?_range->DL,getElem?_replicate->D3,getElem?_set->E0,getElem?_set_ne->Ak,getElem?_set_self->An,getElem?_take_of_lt->ZY,getElem?_zipIdx->Jt,getElem_toArray->et,length->Lp,length_append->Aa,length_cons->Az,length_drop->G0,length_filter_le->cM,length_map->AN,length_nil->J6,length_replicate->OY,length_set->Fn,length_singleton->Ay,length_take->ET,lookup_cons->Gz,map->em,mapM_toArray->kK,map_append->BQ,map_congr_left->Ck,map_cons->At,map_id->UQ,map_id'->zY,map_map->BC,map_nil->IT,mem_append->BO,mem_append_left->Js,mem_append_right->Bt,mem_cons->Am,mem_cons_of_mem->AY,mem_cons_self->Aj,mem_filter->Hc,mem_filterMap->j7,mem_iff_getElem->ej,mem_map->BN,mem_of_getElem?->CH,mem_range->Ea,mem_reverse->pd,mem_singleton->AV,mem_singleton_self->FH,mergeSort_perm->iC,nil_append->qH,nodup_append->Ln,nodup_cons->CA,nodup_nil->Gr,not_mem_nil->CB,of_mem_zip->WM,pairwise_append->Ba,pairwise_cons->Hf,pairwise_iff_getElem->La,pairwise_map->D2,pairwise_mergeSort->Zg,pairwise_singleton->Zf,perm_append_comm->cL,perm_singleton->iB,range->Ca,range_succ->Nb,replicate->BU,set_set->zW,singleton_append->JP,size_toArray->Bp,sublist_append_left->ZX,take_add_one->DJ,take_append_drop->JO,take_length->pZ,take_of_length_le->CI,take_sublist->kJ,take_zero->ur,zipIdx_map->WL,zipIdx_nil->qG,zip_cons_cons->j6,zip_nil_left->kI,zip_nil_right->j5
open List.Pairwise renaming and->zu,nil->zt
open List.Perm renaming append_left->MV,append_right->WW
open List.cons renaming inj->UR
open Nat renaming add_comm->zr,add_sub_cancel->LG,add_zero->zq,and_div_two->WV,and_mod_two_pow->QI,and_self->zp,eq_of_testBit_eq->iA,le_of_ble_eq_true->Jd,le_of_eq->zo,le_of_lt->Na,le_of_not_lt->UP,le_of_succ_le->TM,le_refl->AO,le_succ->IM,le_succ_of_le->TK,le_trans->Ab,lt_irrefl->Dm,lt_of_le_of_lt->Bc,lt_of_lt_of_le->AS,lt_of_not_le->qF,lt_succ_of_lt->Gi,lt_succ_self->DE,lt_trans->cJ,min_eq_left->OX,min_le_right->qE,mod_lt->kH,mod_two_eq_zero_or_one->LF,ne_of_gt->Dk,ne_of_lt->Ao,not_lt->X8,not_lt_zero->WU,pow_le_pow_right->hX,pow_lt_pow_right->hV,pow_succ->cI,strongRecOn->uq,sub_self->zn,testBit_lt_two_pow->cH,testBit_or->vZ,testBit_succ->Ji,testBit_two_pow->EC,testBit_zero->UO,two_pow_pos->WT,zero_add->TJ,zero_le->DV
open Nat.succ renaming inj->QE
open Ne renaming symm->Cc
open Option renaming bind_some->AF,getD_none->j4,getD_some->jz,isSome_iff_exists->Dd,isSome_map->LC,isSome_some->eh,map->zV,map_eq_some_iff->FU
open Option.some renaming inj->B0
open Or renaming inl->LZ,inr->Jr
open PyProof.Rows renaming AllBare->Lq,IntsAre->D4,IsTup->cN,Keyed->BK,SortKind->RZ,SortSt->BG,Subscript_->vW,args_tuple_getitem->vV,arrOf->Ad,boot_min->UN,callWith_builtin1->PD,callWith_type1->Dp,elem'_eq->p9,entry_tuple_getitem->ul,envOfC->KC,failedOf->Kj,firstOfTuple'->gz,general'->cA,listUpdate_at->gy,ltAt'->zQ,mirror->UK,mirror_perm->ZT,pairsOf->Pi,pendingOf->Ae,reverseSlice'->Te,reverseSlice'_eq->Os,seqEpoch_at->p7,seqObj->KB,slot_tuple_getitem->CZ,sortedHeap->bu,subscriptTail->gu,subscriptTail_builtinR->kC,tuples'->zM,wpS_bind->Ag,wpS_forRange->D0,wpS_get->Je,wpS_modify->EG,wpS_mono->IN,wpS_pure->Ai
open PyProof.Rows.F renaming entry_set_update_loop->eu,plain_set_update_loop->Nc
open PyProof.Rows.IsTup renaming new->kP
open PyProof.Rows.SortSt renaming mk'->Ki
open PySem renaming Addr->AW,Around->Bq,BindsTo->bq,DictEntry->SW,FuncData->MW,GenState->qM,Heap->Cb,IsEnum->kQ,IsPart->Rb,JoinOk->vb,Keyword->NW,Model->cK,NameKind->Ra,Paired->HE,PassesOwn->X7,Program->BP,Result->kG,Scope->WS,SetTable->qC,Shared->AM,Stmt->CY,Value->AH,Within->Ze,World->Bx,argsOk->kF,assign->vU,assignEach->GK,atKey->cD,attributeBase->Eg,backTo->DB,backToKw->HD,behindInMarks->DU,binaryOp->Cg,bindArgs->qB,bindC->jx,bindL->jw,bootBuiltins->HZ,boot_len->qD,builtinsNs->cC,cLine->Ef,call->g9,callWith->qA,call_meets->UL,callerA->WR,cellsFrom->CP,codeAny->Jh,codeAny_builtin->EJ,codeAny_call_builtin->RY,codeAny_mono->GF,codeAny_of_tree->Zd,compareOp->BY,concat_meets->kE,entryFor->p8,eval->Bz,firstArgMember->cB,foldedSetIterable->EE,getItem->Lk,getMethod->jv,holding->Pj,intKind->Lj,intText?->Ot,isSubtype_stop->b9,isTrue->bz,keywordEach->D8,letOwnedTupleGo->QD,mainGlobals->A9,mem_of_lookup->D9,model->AZ,newFunctionEnv->bx,noFill_tuple_add->X1,pickOrder->zj,plainId_quiet->IQ,preSum->UJ,pushCells->HY,pushCells_keeps->Zc,pyIter->NX,pyNext->LA,rawInt->bw,relabel->Lh,seqIndex_of->p0,seq_tuple_add->gx,setItem->zP,setsByText->bv,signature?_of->gw,sizeLine_eq->pz,sliceBounds->RX,slot_list_getitem->zO,spliced->zN,standAt->bg,starEach->AR,storeName->zi,strValues->ju,subscripted->ZS,swapsWith->HX,sysModules->EI,truthy->vT,tupleKind->X0,tupleKind_room_in1->MR,typeIs_str->UI,typeLookup->vS,updateSeq->zh,valueAt->WQ,weight_type_call_type->pX,wpAny->Ac,wpAny_Call_Name_kw->Ev,wpAny_Dict_empty->zg,wpAny_Name->vR,wpAny_askSetting->HW,wpAny_assign_Name->zL,wpAny_attempt->Kh,wpAny_bind->AA,wpAny_call->br,wpAny_callSpecial?_slot->CG,wpAny_call_entry->By,wpAny_comprehension_free->gt,wpAny_dictEntries->WP,wpAny_dictEpoch->Zb,wpAny_eqBool_int->zf,wpAny_execs_cons->ze,wpAny_execs_nil->K9,wpAny_field->JC,wpAny_fieldsOf->Jg,wpAny_handled->gr,wpAny_holding->DT,wpAny_isInstance->Oq,wpAny_isOneOf_keyiter->QF,wpAny_isTrue_Compare1->pW,wpAny_ite_split->Za,wpAny_load->vQ,wpAny_loadName_cell->uk,wpAny_loadName_local->px,wpAny_mono->Dv,wpAny_newList->gq,wpAny_newObj_type->Be,wpAny_of_eq->NV,wpAny_passesOwn->Gj,wpAny_pure->AC,wpAny_pyIter_enum->zK,wpAny_pyIter_keyiter->pr,wpAny_pyIter_list->Jf,wpAny_pyIter_slot->WO,wpAny_pyIter_tuple->MQ,wpAny_rule->Ph,wpAny_seqItems->RW,wpAny_sequenceKey->zJ,wpAny_setEntries_of->TC,wpAny_setField->MP,wpAny_setField_rec->vP,wpAny_setState_of->Gx,wpAny_standAt->gp,wpAny_throw->pp,wpAny_truthy_bool->DW,wpAny_typeNameOfWhole_keyiter->GD,wpAny_typeNameOf_keyiter->IP,wpAny_typeOf->Lg,wpAny_updateSeq->QC
open PySem.Around renaming under_plain->e8,under_plainId->Dj
open PySem.AutoSeq1 renaming wpAny_loadPart'->Kn
open PySem.Builtin renaming bitAnd->BR,bitNot->kX,bitOr->Cp,bitXor->Co
open PySem.Builtin.Dict renaming showsAll->UT
open PySem.Builtin.Frozenset renaming addrOf->qR,newClass->qQ,sizeOf->qP,slot0->qO,updateFrom->qN
open PySem.Builtin.Int renaming intBits->Do
open PySem.Builtin.List renaming listExtendWith->JE,listItems->Km,listLengthHint->QN,listSameRef->SX
open PySem.Builtin.Slice renaming sliceAdjust->Jj,sliceApplied->QM,slicePartIndex->zz,slicePlaces->Fo
open PySem.Builtin.SmallTypes renaming nextOf->Dz
open PySem.Builtin.Str renaming occurrences->Kk,partsBetween->TQ,strKind->W5
open PySem.Builtin.Tuple renaming tupleExact->GN,tupleIsExact->zy,tupleItemsOf->QK
open PySem.Calls renaming Name_function_global->WZ,callWith_builtin->Zj,call_function_entry->W4,spliced_cons->iG,spliced_nil->kB
open PySem.Challenge renaming pw_guardround_k70_one_guard_asked->vY,rw_guardround_k70_one_guard_asked->JD
open PySem.Code renaming quiet_builtin->kA
open PySem.F renaming args_dict_keyiterator_next_1->Ov,args_str_split_2->TN,args_tuple_add_2->LB,args_tuple_iterator_next_1->YA,called_set->HF,entry_dict_keyiterator_next->PB,entry_min_loop->vc,entry_str_split->US,entry_tuple_add->Lm,entry_tuple_iterator_next->ZZ,entry_type_call->uu,plainAttrs_list->W0,plainAttrs_str->X6,plain_extend_loop->WK,plain_list_iadd->Wz,plain_min_loop->Nd,plain_set_new->zc,slot_dict_iter->X5,slot_dict_keyiterator_next->Cv,slot_enumerate_next->j9,slot_list_index->Wy,slot_set_iter->zb,slot_str_split->WY,slot_tuple_add->MU,slot_tuple_iterator_next->G2
open PySem.Heap renaming ExtBut->PH,SameBut->EF,get?_push_of_some->AI,get?_push_size->AT,get?_update_ne->iF,get?_update_other->CJ,get?_update_self->Db,lt_size->AX,size_push->Dq
open PySem.Heap.IsSliceOf renaming new->za
open PySem.Heap.SameBut renaming update->Ej
open PySem.NameKind renaming cell->Da,free->Gy
open PySem.Obj renaming cls_mapFields->pY,data_mapFields->LD,isFreed_of_fields->ei,mapSeq->E5
open PySem.Paired renaming length->Fh,snoc->bj
open PySem.SeqAt renaming EqAt->g8
open PySem.SeqAt.EqAt renaming int_int->ZW,int_str->ZV,str_int->ZU
open PySem.SeqAt.RcAt renaming tuples->zk
open PySem.SetTable renaming below->zR,fresh->Ti
open PySem.Str renaming append_assoc->Ch,cps_append->vX,empty->NP,join->Cj,length_append->TF,ofString->cG
open PySem.Txt renaming contains->NY,join->X2,split->D6
open PySem.Value renaming bool->NO,bytes->zU,float->cE,int->Dy,isInt->zT,isStrOf->um,none->D1,ref->BJ,str->TD,type->Ha
open PySem.W renaming Frag->AD,callWith_K->Pk,cellsFrom_some->X4,codeIn->UM,emptyDict->DF,findIn->De,fnOf->Jw,handedIn->hU,hasDictIn->QH,instObj->Ei,isFn->X3,kdu_collect->bi,keepIn->GM,kia_one->Cu,kitOne->Hh,kitx_dict->ef,kitx_list->ee,lookIn->NZ,makesIn->jy,methodObj->QG,mg_none_of->Dw,mg_of->Tf,nsIn->Li,plainGet->Ll,plainGet_of->Ou,plainOver->eZ,takerIn->TH
open PySem.W.Looks renaming here->zm
open PySem.Walks renaming list->g7,tuple->zS
open PySem.pickOrder renaming go->kD
open Sum renaming inl->Eh,inr->cF
open Sum.inr renaming inj->uo
open True renaming intro->Fb
open PySem PySem.Spec PyProof.Rows
set_option hygiene false
noncomputable section
theorem yq0(h:True:=by rfl):True:=h
def yq0q:=yq0._auto_1
theorem yq1(h:True:=by decide):True:=h
def yq1q:=yq1._auto_1
theorem yq2(h:True:=by first | exact .inl rfl | exact .inr rfl | assumption):True:=h
def yq2q:=yq2._auto_1
theorem yq3(h:True:=by intro _;rfl):True:=h
def yq3q:=yq3._auto_1
theorem yq4(h:True:=by with_unfolding_all rfl):True:=h
def yq4q:=yq4._auto_1
theorem yq5(h:True:=by intro _ _;rfl):True:=h
def yq5q:=yq5._auto_1
theorem yq6(h:True:=by decide +kernel):True:=h
def yq6q:=yq6._auto_1
theorem yq7(h:True:=by first | exact LZ rfl | exact Jr rfl):True:=h
def yq7q:=yq7._auto_1
theorem yq8(h:True:=by intros;rfl):True:=h
def yq8q:=yq8._auto_1
theorem yq9(h:True:=by first | exact LZ rfl | exact Jr (LZ rfl) | exact Jr (Jr rfl)):True:=h
def yq9q:=yq9._auto_1
theorem yq10(h:True:=by kernel_rfl):True:=h
def yq10q:=yq10._auto_1
theorem yq11(h:True:=by exact xn):True:=h
def yq11q:=yq11._auto_1
local macro_rules|`(↑$x)=>`(autoParam $x yq0q)
local macro_rules|`(↥$x)=>`(autoParam $x yq1q)
open Lean in
local macro_rules|`(tactic|let $d:letDecl)=>if d.raw[0].isOfKind `Lean.Parser.Term.letPatDecl then do
 let rec f(n:Nat)(s:Syntax):MacroM (TSyntax `rcasesPat):=match n with
 |n+1=>if s.isIdent then`(rcasesPat|$(⟨s⟩):ident)else if s.isOfKind `Lean.Parser.Term.hole then`(rcasesPat|_)else do
  let a<-s[1].getSepArgs.mapM (f n)
  `(rcasesPat|⟨$[$a:rcasesPat],*⟩)
 |_=>`(rcasesPat|_)
 `(tactic|obtain $(<-f 9 d.raw[0][0]):rcasesPat:=$(⟨d.raw[0][4]⟩))
 else`(tactic|have $d:letDecl)
local macro_rules|`(!$x)=>`(some $x)
local macro_rules|`($a*>$b)=>`($(a).bind $b)
local macro_rules|`(¬$x)=>if x.raw[1].isOfKind `«term_∈_» then Lean.Macro.throwUnsupported else`(List $x)
local macro_rules|`(⇑$x)=>`(Option $x)
local macro_rules|`(-$x)=>if x.raw.isOfKind `num then Lean.Macro.throwUnsupported else`($(x).length)
local macro_rules|`(#[$a,*])=>if a.getElems.size=0 then Lean.Macro.throwUnsupported else`(⟨$a,*⟩)
local macro_rules|`(let $d:letDecl;$b)=>if d.raw[0].isOfKind `Lean.Parser.Term.letIdDecl then`(have $d:letDecl;$b)else Lean.Macro.throwUnsupported
namespace L2
abbrev Key:=Sum Int Str
noncomputable def Xi:Key->AH->Bool
 | .inl k,v=>zT k v
 | .inr x,v=>um x v
noncomputable def keyH(w:Bx):Key->Int
 | .inl k=>hashInt k
 | .inr x=>hashStr w x
theorem Di:∀{k:Key} {v:AH},Xi k v->(∃i t,k=Eh i/\v=Dy i t)∨(∃x t,k=cF x/\v=TD x t)
 | .inl i,v,h=>by
  let#[t,e]:=AH.isInt_shape (k:=i) (v:=v) h;exact .inl #[i,t,rfl,e]
 | .inr x,v,h=>by
  let#[t,e]:=AH.isStrOf_shape (x:=x) (v:=v) h;exact .inr #[x,t,rfl,e]
theorem jI(i:Int)(t:Tok):Xi (.inl i) (.int i t):=by simp[Xi,zT]
theorem jH(x:Str)(t:Tok):Xi (.inr x) (.str x t):=by simp[Xi,um]
theorem yA(a b:Int):decide ((Eh a:Key)=Eh b)=(a==b):=by
 lia
theorem xx(a b:Str):decide ((cF a:Key)=cF b)=decide (a=b):=by
 ext
theorem xz(a:Int)(b:Str):decide ((Eh a:Key)=cF b)=false:=wY (λq=>nomatch q)
theorem xy(a:Str)(b:Int):decide ((cF a:Key)=Eh b)=false:=wY (λq=>nomatch q)
def E3(prog:BP)(w:Bx):PySem.KeyKind prog w Key where
 is:=Xi
 hash:=keyH w
 inj:=λv a b o hb=>by
  rcases Di o with⟨i,t,rfl,rfl⟩ | ⟨x,t,rfl,rfl⟩
  ·rcases Di hb with⟨j,u,rfl,e⟩ | ⟨y,u,rfl,e⟩
   ·injection e with m _;rw[m]
   trivial
  ·rcases Di hb with⟨j,u,rfl,e⟩ | ⟨y,u,rfl,e⟩
   ·exact nomatch e
   ext
 byValue:=λk v h=>by
  rcases Di h with⟨i,t,rfl,rfl⟩ | ⟨x,t,rfl,rfl⟩ <;> rfl
 pyHash:=λg h=>by
  rcases Di g with⟨i,t,rfl,rfl⟩ | ⟨x,t,rfl,rfl⟩
  ·exact wpAny_pyHash_int h
  ·exact wpAny_pyHash_str h
 eqBool:=λs g h=>by
  rcases Di s with⟨i,t,rfl,rfl⟩ | ⟨x,t,rfl,rfl⟩
  ·rcases Di g with⟨j,u,rfl,rfl⟩ | ⟨y,u,rfl,rfl⟩
   ·rw[yA]at h;exact zf h
   ·rw[xz]at h;exact ZV i t y u _ _ _ _ h
  ·rcases Di g with⟨j,u,rfl,rfl⟩ | ⟨y,u,rfl,rfl⟩
   ·rw[xy]at h;exact ZU x t j u _ _ _ _ h
   ·rw[xx]at h;exact wpAny_eqBool_str h
 «strs»:=λk x t v h=>by
  rcases Di h with⟨i,u,rfl,e⟩ | ⟨y,u,rfl,e⟩
  ·trivial
  ·injection e with m _
   subst m
   cases v <;> rfl
theorem ak(prog:BP)(w:Bx)(i:Int)(t:Tok):(E3 prog w).is (.inl i) (.int i t):=jI i t
theorem aj(prog:BP)(w:Bx)(x:Str)(t:Tok):(E3 prog w).is (.inr x) (.str x t):=jH x t
set_option genInjectivity true in
inductive V where
 | non | bl (b:Bool) | int (i:Int) | str (x:Str) | byt (b:Array UInt8) | flt (b:UInt64) | ref (a:AW) | ty (n:String)
 deriving DecidableEq
noncomputable def RelV:V->AH->Prop
 | .non,u=>u=D1
 | .bl b,u=>u=NO b
 | .int i,u=>∃t,u=Dy i t
 | .str x,u=>∃t,u=TD x t
 | .byt b,u=>∃t,u=zU b t
 | .flt b,u=>∃t,u=cE b t
 | .ref a,u=>u=BJ a
 | .ty n,u=>u=Ha n
abbrev Bs:¬V->¬AH->Prop:=HE RelV
theorem Bs.length(r:Bs xs us):-xs=-us:=Fh r
theorem Bs.get:∀{xs:¬V} {us:¬AH} {i:Nat} {x:V},Bs xs us->xs[i]?=!x->∃u,us[i]?=!u/\RelV x u
 | _,_,_,_,.nil,e=>by simp at e
 | _,_,0,_,.cons r _,e=>by ext
 | _,_,i+1,x,.cons _ t,e=>by
  let#[u,g,m]:=Bs.get (i:=i) (x:=x) t (by simpa using e);ext
theorem Bs.set(r:RelV x u):∀{xs:¬V} {us:¬AH} (i:Nat),Bs xs us->Bs (xs.set i x) (us.set i u)
 | _,_,_,.nil=>.nil
 | _,_,0,.cons _ t=>.cons r t
 | _,_,i+1,.cons q t=>.cons q (Bs.set r i t)
theorem Bs.append:∀{xs g:¬V} {us i:¬AH},Bs xs us->Bs g i->Bs (xs++g) (us++i)
 | _,_,_,_,z,s=>by
  cases z with
  | nil=>exact s
  | cons r t=>exact .cons r (Bs.append t s)
theorem Bs.take:∀{xs:¬V} {us:¬AH} (n:Nat),Bs xs us->Bs (xs.take n) (us.take n)
 | _,_,0,_=>.nil
 | _,_,_+1,.nil=>.nil
 | _,_,n+1,.cons r t=>.cons r (Bs.take n t)
theorem Bs.drop:∀{xs:¬V} {us:¬AH} (n:Nat),Bs xs us->Bs (xs.drop n) (us.drop n)
 | _,_,0,r=>r
 | _,_,_+1,.nil=>.nil
 | _,_,n+1,.cons _ t=>Bs.drop n t
def O7:⇑V->⇑AH->Prop
 | some v,!u=>RelV v u
 | none,none=>True
 | _,_=>False
def KV{g:Type}:¬(g×V)->¬(g×AH)->Prop:=HE λ(p:g×V) (q:g×AH)=>p.1=q.1/\RelV p.2 q.2
noncomputable def kV:Key->V
 | .inl i=>.int i
 | .inr x=>.str x
set_option genInjectivity true in
inductive HO where
 | lst (xs:¬V)
 | tup (xs:¬V)
 | dK (j':¬(Key×V)) | dT (j':¬(¬Key×V))
 | set (S:Int->Bool) (n:Nat)
 | ins (C dx:AW) (fs:¬(Str×V))
 | own (x:AW)
 | xd (fs:¬(Str×V))
 | met (f x:AW)
 | rng (lo hi:Int)
 | frz (o:Obj) (u:HO)
 | tbl (ps:Array AH)
 | ext (φ:Cb->Prop)
abbrev Hp:=AW->⇑HO
noncomputable def upd(H:Hp)(a:AW)(o:HO):Hp:=λb=>if b=a then !o else H b
theorem Bv:upd H a o a=!o:=by unfold upd;ext
theorem Bd(h:b≠a):upd H a o b=H b:=by unfold upd;rw[qY h]
theorem AAx{H:Hp}{a b:AW}{o u:HO}(h:H a=!o)(h':H b=!u)(d:o≠u):a≠b:=by
 lia
theorem DY{H:Hp}{a b:AW}{o:HO}(h:H a=!o)(h':H b=none):a≠b:=by
 lia
section
variable(P:BP)(w:Bx)
def EB(H:Hp)(h:Cb)(a:AW):HO->Prop
 | .lst g=>-g<=sizeLine/\∃(m:¬AH) (n:Nat),Bs g m/\h.get? a=some { cls:=.type "list",data:=.seq m.toArray n }
 | .tup g=>(-g<=sizeLine/\∃o,h.get? a=!o/\o.dict=none)/\∃m:¬AH,Bs g m/\cN h a m.toArray
 | .dK s=>-s<=sizeLine/\(a==EI)=false/\∃E,KV s E/\h.DictOf (E3 P w) a E
 | .dT s=>-s<=sizeLine/\(a==EI)=false/\∃g:¬(¬Key×AW×AH),
   HE (λ(p:¬Key×V) (q:¬Key×AW×AH)=>p.1=q.1/\H q.2.1=!.tup (p.1.map kV)/\RelV p.2 q.2.2) s g /\
   ∃o G L,h.get? a=!o/\o.ExactDict/\o.data=.dict G L/\G.toList=g.map (entryOfKey (X0 (E3 P w)))/\(g.map (·.1)).Nodup
 | .set S n=>h.SetOf (Lj P w) a S n
 | .ins C A fs=>H A=!.own a/\-fs<=1000/\A≠a/\h.get? a=!Ei C A /\
   ∃i,h.Ns1 A i/\(∀f,O7 (fs.lookup f) (i f))/\Ze i (fs.map (·.1))
 | .own _=>∃o,h.get? a=!o
 | .xd fs=>∃i,h.Ns1 a i/\∀f,O7 (fs.lookup f) (i f)
 | .rng lo N=>∃t u v,h.get? a=some { cls:=.type "range",data:=.fields [.int lo t,.int N u,.int 1 v].toArray }
 | .frz o u=>h.get? a=!o/\EB H h a u
 | .tbl O=>h.get? a=some { cls:=.none,data:=.fields O }
 | .met f x=>h.get? a=!QG (.ref f) (.ref x)
 | .ext B=>B h/\(∃o,h.get? a=!o)/\∀I J:Cb,B I->(∀o,I.get? a=!o->J.get? a=!o)->B J
def HOk(H:Hp)(h:Cb):Prop:=∀a o,H a=!o->EB P w H h a o
end
section
variable{P:BP}{w:Bx}{H H':Hp}{h h':Cb}{a:AW}{o:HO}
theorem EB.lt(x:EB P w H h a o):a < h.objs.size:=by
 cases o with
 | lst g=>let#[_,_,_,_,e]:=x;exact AX e
 | tup g=>let#[_,_,_,p]:=x;exact p.lt
 | dK i=>let#[_,_,_,_,o,_,_,e,_]:=x;exact AX e
 | dT i=>let#[_,_,_,_,o,_,_,e,_]:=x;exact AX e
 | set S n=>let#[o,_,_,_,e,_]:=x;exact AX e
 | ins C m fs=>let#[_,_,_,e,_]:=x;exact AX e
 | own y=>let#[_,e]:=x;exact AX e
 | xd fs=>let#[_,#[_,_,_,e,_],_]:=x;exact AX e
 | rng lo s=>let#[_,_,_,e]:=x;exact AX e
 | frz A u=>let#[e,_]:=x;exact AX e
 | tbl B=>exact AX (show h.get? a=!_ from x)
 | met f y=>exact AX (show h.get? a=!_ from x)
 | ext E=>let#[_,#[_,e],_]:=x;exact AX e
theorem HE.mapP{m s:Type}{F G:m->s->Prop}:∀{g:¬m} {i:¬s},HE F g i->(∀a b,F a b->G a b)->HE G g i
 | _,_,z,f=>by
  cases z with
  | nil=>exact .nil
  | cons r t=>exact .cons (f _ _ r) (HE.mapP t f)
theorem EB.stay(x:EB P w H h a o)(k:∀b u,(b=a∨H b=!.own a)->h.get? b=!u->h'.get? b=!u)
  (ho:∀b,H b=!.own a->H' b=!.own a) (I:∀b xs,H b=!.tup xs->H' b=!.tup xs):EB P w H' h' a o:=by
 induction o with
 | lst xs=>let#[z,s,n,r,e]:=x;exact#[z,s,n,r,k _ _ (.inl rfl) e]
 | tup xs=>let#[#[z,J,A,L],s,r,g,e,c]:=x;exact#[#[z,J,k _ _ (.inl rfl) A,L],s,r,g,k _ _ (.inl rfl) e,c]
 | dK N=>let#[z,y,O,r,g,i,m,e,c]:=x;exact#[z,y,O,r,g,i,m,k _ _ (.inl rfl) e,c]
 | dT N=>
  let#[z,y,xs,r,g,i,m,e,c]:=x;exact#[z,y,xs,HE.mapP r λp q z=>#[z.1,I _ _ z.2.1,z.2.2],g,i,m,k _ _ (.inl rfl) e,c]
 | set S n=>let#[g,i,m,t,e,c]:=x;exact#[g,i,m,t,k _ _ (.inl rfl) e,c]
 | ins C T fs=>
  let#[d,z,Q,e,B,#[E,i,m,A,c],r]:=x;exact#[ho _ d,z,Q,k _ _ (.inl rfl) e,B,#[E,i,m,k _ _ (.inr d) A,c],r]
 | own y=>let#[g,e]:=x;exact#[g,k _ _ (.inl rfl) e]
 | xd fs=>let#[B,#[E,i,m,e,c],r]:=x;exact#[B,#[E,i,m,k _ _ (.inl rfl) e,c],r]
 | rng lo U=>let#[t,u,v,e]:=x;exact#[t,u,v,k _ _ (.inl rfl) e]
 | frz g u R=>let#[e,q]:=x;exact#[k _ _ (.inl rfl) e,R q]
 | tbl G=>
  let e:h.get? a=some { cls:=.none,data:=.fields G }:=x;show h'.get? a=some { cls:=.none,data:=.fields G };exact k a _ (.inl rfl) e
 | met f y=>
  let e:h.get? a=!QG (.ref f) (.ref y):=x;show h'.get? a=!QG (.ref f) (.ref y);exact k a _ (.inl rfl) e
 | ext X=>let#[p,#[o,e],st]:=x;exact#[st _ _ p λo q=>k _ _ (.inl rfl) q,#[o,k _ _ (.inl rfl) e],st]
theorem HOk.lt(x:HOk P w H h)(e:H a=!o):a < h.objs.size:=(x a o e).lt
theorem HOk.fresh(x:HOk P w H h)(e:h.objs.size<=a):H a=none:=by
 cases q:H a with
 | none=>rfl
 | some u=>exact zX (AS (x.lt q) e) (Dm _)
theorem HOk.kept(x:HOk P w H h)(k:∀b u,h.get? b=!u->h'.get? b=!u):HOk P w H h':=λa o e=>
 (x a o e).stay (λb u z q=>k b u q) (λz q=>q) λz z q=>q
theorem HOk.laid(x:HOk P w H h)(k:∀b u,h.get? b=!u->h'.get? b=!u)(i:h.objs.size<=a)(new:EB P w (upd H a o) h' a o):HOk P w (upd H a o) h':=λb u e=>by
 let g:=x.fresh i
 by_cases hb:b=a
 ·subst hb;rw[Bv]at e;ext
 ·rw[Bd hb]at e
  exact(x b u e).stay (λc v z q=>k c v q) (λc q=>by rw[Bd (DY q g)];exact q) λc m q=>by rw[Bd (DY q g)];exact q
end
def Rd(H:Hp)(a:AW)(u:HO):Prop:=H a=!u∨∃o,H a=!.frz o u
theorem Rd.ok(r:Rd H a u)(x:HOk P w H h):EB P w H h a u:=by
 rcases r with r | ⟨o,r⟩
 ·exact x a u r
 ·let#[_,q]:=x a _ r
  exact q
def Mut:⇑HO->Prop
 | some (.lst _)=>True
 | some (.dK _)=>True
 | some (.dT _)=>True
 | some (.set _ _)=>True
 | some (.ins _ _ _)=>True
 | some (.ext _)=>True
 | _=>False
section
variable{P:BP}{w:Bx}{H:Hp}{h h':Cb}{x e:AW}
theorem HOk.write(ok:HOk P w H h)(m:Mut (H x))(B:e=x∨H e=!.own x)(k:∀b u,b≠e->h.get? b=!u->h'.get? b=!u)(s:∃u,h'.get? e=!u)
  (new:EB P w (upd H x o') h' x o'):HOk P w (upd H x o') h':=λb u q=>by
 let g:∀c y,H c=!.own y->c≠x:=λc y r z=>by subst z;rw[r]at m;exact m
 let i:∀c o,H c=!.tup o->c≠x:=λc o r z=>by subst z;rw[r]at m;exact m
 by_cases hb:b=x
 ·subst hb;rw[Bv]at q;ext
 ·rw[Bd hb]at q
  by_cases C:b=e
  ·let A:H b=!.own x:=by
    rcases B with z | z
    ·ext
    ·ext
   rw[q]at A;cases A;let#[v,E]:=s;exact#[v,by ext]
  ·refine(ok b u q).stay (λc v G r=>k c v ?_ r) (λc r=>by rw[Bd (g c b r)];exact r) λc o r=>by rw[Bd (i c o r)];exact r
   grind
end
structure Un(fs ex:¬AW)(H H':Hp)(h h':Cb):Prop where
 keep:∀b o,h.get? b=!o->H b=none->b∉fs->b∉ex->h'.get? b=!o
 slot:∀b o,h.get? b=!o->H b=none->b∈fs->b∉ex->∃sl,h'.get? b=some { o with slots:=sl }
 free:∀b o,h.get? b=!o->H b=none->b∉ex->H' b=none
 there:∀b o,h.get? b=!o->b∉ex->∃o',h'.get? b=!o'
 tups:∀b xs,H b=!.tup xs->H' b=!.tup xs
 frzs:∀b o u,H b=!.frz o u->H' b=!.frz o u
 tbls:∀b ps,H b=!.tbl ps->∃more,H' b=!.tbl (ps++more)
section
variable{fs ex:¬AW}{H H1:Hp}{h h1 h':Cb}{a x e:AW}{o:HO}
theorem Un.any(u:Un fs ex H H1 h h1)(q:h.get? b=!g)(n:H b=none)(i:b∉ex):∃sl,h1.get? b=some { g with slots:=sl }:=by
 by_cases hb:b∈fs
 ·exact u.slot b g q n hb i
 ·exact#[g.slots,u.keep b g q n hb i]
theorem Un.kept(k:∀b u,h.get? b=!u->h'.get? b=!u):Un fs ex H H h h':=
 #[λb g q z z z=>k b g q,λb g q z z z=>#[g.slots,k b g q],λz z z n z=>n,λb g q z=>#[g,k b g q],λz z q=>q,λz z z q=>q,λz i q=>#[#[],by rw[q];simp]]
theorem Un.refl:Un fs ex H H h h:=Un.kept λz z q=>q
theorem Un.laid(k:∀b u,h.get? b=!u->h'.get? b=!u)(i:h.objs.size<=a)(g:H a=none):Un fs ex H (upd H a o) h h' where
 keep:=λb u q z z z=>k b u q
 slot:=λb u q z z z=>#[u.slots,k b u q]
 free:=λb u q n z=>by rw[Bd (Ao (AS (AX q) i))];exact n
 there:=λb u q z=>#[u,k b u q]
 tups:=λb m q=>by rw[Bd (DY q g)];exact q
 frzs:=λb u m q=>by rw[Bd (DY q g)];exact q
 tbls:=λb s q=>#[#[],by rw[Bd (DY q g),q];simp]
theorem Un.write(g:Mut (H x))(m:e=x∨H e=!.own x)(k:∀b u,b≠e->h.get? b=!u->h'.get? b=!u)(s:∃u,h'.get? e=!u):Un fs ex H (upd H x o) h h':=by
 let i:∀b,H b=none->b≠x:=λb n z=>by subst z;rw[n]at g;exact g
 let hb:∀b,H b=none->b≠e:=λb n z=>by
  subst z
  rcases m with r | r
  ·exact i b n r
  ·rw[n]at r;cases r
 let hm:∀b u,H b=!u->Not (Mut (!u))->b≠x:=λb u q A z=>by subst z;rw[q]at g;exact A g
 refine#[λb u q n G G=>k b u (hb b n) q,λb u q n G G=>#[u.slots,k b u (hb b n) q],λb u q n G=>by rw[Bd (i b n)];exact n,λb u q G=>?_,
  λb B q=>by rw[Bd (hm b _ q λz=>z)];exact q,λb u B q=>by rw[Bd (hm b _ q λz=>z)];exact q,λb C q=>#[#[],by rw[Bd (hm b _ q λz=>z),q];simp]]
 grind
end
noncomputable def trk(h:Cb)(H:Hp):¬AW:=(Ca h.objs.size).filter λa=>(H a).isSome
def Yx(h:Cb)(H:Hp):Cb:=PySem.W.hideAll h (trk h H)
theorem jO(h:Cb)(H:Hp):(Yx h H).objs.size=h.objs.size:=PySem.W.hideAll_size _ _
theorem oE(e:h.get? b=!o)(n:H b=none):(Yx h H).get? b=!o:=
 PySem.W.hideAll_get _ e λhm=>by
  let q:(H b).isSome:=(Hc.mp hm).2
  ext
theorem sr(e:(Yx h H).get? b=!o):h.get? b=!o/\H b=none:=by
 let g:h.get? b=!o:=PySem.W.of_hideAll (trk h H) e;refine#[g,?_]
 cases q:H b with
 | none=>rfl
 | some x=>
  let hm:b∈trk h H:=Hc.mpr #[Ea.mpr (AX g),by simp[q]];let z:(Yx h H).get? b=none:=PySem.W.hideAll_none (trk h H) hm
  ext
structure Mod(K:AD)(mg:Str->⇑AH)(base:Cb):Prop where
 kin:K.In base
 glob:base.Ns A9 mg
 blt:∃mb,base.Ns cC mb/\∀x:Str,x≠"__name__"->mb x=HZ x
 nolimit:base.NoLimit
structure Cx where
 prog:BP
 w:Bx
 K:AD
 mg:Str->⇑AH
 base:Cb
 A:Bq
 N:¬Str
 s₀:AM
 H₀:Hp
 env:Env
 outer:¬Env
 stack:¬Env
 ex:¬AW
 fn:Str->Bool
 calm:Bool
 pn:¬(AW×Obj)
 xe:AH->AM->Prop
noncomputable def frs(l:¬Env):¬AW:=l.filterMap (·.frame)
abbrev Cx.fs(X:Cx):¬AW:=frs X.outer
def Vis(g:WS)(x:Str):Prop:=g.names.lookup x=!.local∨g.names.lookup x=!.cell∨g.names.lookup x=!.free
def Loc(g:WS)(x:Str):Prop:=g.names.lookup x=!.local∨g.names.lookup x=!.cell
def Look(g:Env)(h:Cb)(m:Str->⇑AH)(x:Str)(u:AH):Prop:=
 (g.kindOf x=!.local/\m x=!u)∨((g.kindOf x=!.cell∨g.kindOf x=!.free)/\∃c,g.cells.lookup x=!c/\h.IsCell c (!u))
structure Cx.Ok(X:Cx):Prop where
 mod:Mod X.K X.mg X.base
 kind:X.env.scope.kind=.function
 glob:X.env.globals=A9
 blt:X.env.builtins=cC
 above:X.s₀.heap.objs.size<=X.env.locals
 inj:∀x y c,X.env.cells.lookup x=!c->X.env.cells.lookup y=!c->x=y
 has:∀x,(X.env.kindOf x=!.cell∨X.env.kindOf x=!.free)->∃c,X.env.cells.lookup x=!c
 cab:∀x c,X.fn x->X.env.cells.lookup x=!c->X.s₀.heap.objs.size<=c
 hd:X.calm->X.A.handled=none
 frames:X.A.frames=!X.stack
 stk:X.stack=X.outer∨(X.stack=X.env :: X.outer/\X.env.frame=!X.env.locals)
 exf:∀b∈X.ex,b≠X.env.locals/\∀x c,X.env.cells.lookup x=!c->c≠b
 bs:∀b o,X.base.get? b=!o->X.s₀.heap.get? b=!o/\X.H₀ b=none
 bsz:X.base.objs.size<=X.s₀.heap.objs.size
 noex:∀b o,X.base.get? b=!o->b∉X.ex
 exfs:∀b∈X.ex,b∉X.fs
 funs:X.s₀.heap.FunFrames X.base X.outer
 frf:∀b∈X.fs,X.H₀ b=none
structure Inv(X:Cx)(ζ:¬(AW×Obj))(σ:¬⇑V)(H:Hp)(s:AM):Prop where
 ok:X.Ok
 os:s.os=X.s₀.os
 bare:Lq s.gens
 base:Un X.fs X.ex X.H₀ H X.s₀.heap s.heap
 loc:∃m,s.heap.Ns X.env.locals m/\∀(i:Nat) (x:Str) (v:V),X.N[i]?=!x->σ[i]?=!(!v)->Vis X.env.scope x->∃u,RelV v u/\Look X.env s.heap m x u
 cell:∀x c,X.env.cells.lookup x=!c->∃v,s.heap.IsCell c v
 free:H X.env.locals=none
 freeC:∀x c,X.env.cells.lookup x=!c->H c=none
 pin:∀p∈X.pn++ζ,s.heap.get? p.1=!p.2/\H p.1=none/\p.1≠X.env.locals/\p.1∉X.fs/\∀v,p.2.data≠.cell v
 hok:HOk X.prog X.w H s.heap
 len:-σ=-X.N
section
variable{X:Cx}{ζ:¬(AW×Obj)}{σ:¬⇑V}{H H':Hp}{s:AM}{h':Cb}
theorem Cx.Ok.nofr(ok:X.Ok)(e:X.base.get? b=!o):b∉X.fs:=λhb=>by
 let:=(ok.funs.mem hb).1
 ext
theorem Inv.bs(I:Inv X ζ σ H s):∀b o,X.base.get? b=!o->s.heap.get? b=!o/\H b=none:=λb o e=>
 #[I.base.keep b o (I.ok.bs b o e).1 (I.ok.bs b o e).2 (I.ok.nofr e) (I.ok.noex b o e),I.base.free b o (I.ok.bs b o e).1 (I.ok.bs b o e).2 (I.ok.noex b o e)]
theorem Inv.bk(I:Inv X ζ σ H s):∀b o,X.base.get? b=!o->s.heap.get? b=!o:=λb o e=>(I.bs b o e).1
theorem Inv.mod(I:Inv X ζ σ H s):Mod X.K X.mg X.base:=I.ok.mod
theorem Inv.kIn(I:Inv X ζ σ H s):X.K.In s.heap:=I.ok.mod.kin.keeps I.bk
theorem Inv.lt(I:Inv X ζ σ H s):X.env.locals < s.heap.objs.size:=let #[_,g,_]:=I.loc;g.lt
theorem Inv.sz(I:Inv X ζ σ H s):X.s₀.heap.objs.size<=s.heap.objs.size:=Ab I.ok.above (Na I.lt)
theorem Inv.nofs(I:Inv X ζ σ H s)(h:s.heap.objs.size<=a):a∉X.fs:=λhb=>by
 let#[_,o,g,_]:=I.ok.funs.mem hb;exact zX (AS (AX g) (Ab I.sz h)) (Dm _)
theorem Inv.cne(I:Inv X ζ σ H s):∀x c,X.env.cells.lookup x=!c->c≠X.env.locals:=λx c e z=>by
 let#[v,o,A,B]:=I.cell x c e;let#[m,#[C,E,G,g,i,_],_]:=I.loc
 ext
theorem Inv.funs(I:Inv X ζ σ H s):s.heap.FunFrames X.base X.outer:=by
 let all:∀(l:¬Env),(∀b∈frs l,b∈X.fs)->X.s₀.heap.FunFrames X.base l->s.heap.FunFrames X.base l:=by
  intro l
  induction l with
  | nil=>intro _ _;trivial
  | cons A r B=>
   intro i C;let#[E,#[L,o,m,G,J,N],O]:=C;let g:L∈X.fs:=i L (by unfold frs;ext)
   let#[sl,e]:=I.base.slot L o J (I.ok.frf L g) g λz=>I.ok.exfs L z g
   exact#[E,#[L,_,m,G,e,N],B (λb hb=>i b (by unfold frs;rw[iD,m];exact AY _ hb)) O]
 exact all X.outer (λM hb=>hb) I.ok.funs
theorem Inv.stack(I:Inv X ζ σ H s):s.heap.FunFrames X.base X.stack:=by
 rcases I.ok.stk with e | ⟨e,g⟩
 ·rw[e];exact I.funs
 ·rw[e]
  let#[m,i,_]:=I.loc;refine .cons (by rw[I.ok.kind];decide) g i ?_ I.funs;exact Cb.get?_none_of_le (Ab I.ok.bsz I.ok.above)
theorem Inv.stkSub(I:Inv X ζ σ H s):∀b∈frs X.stack,b∈X.env.locals :: X.fs:=λb hb=>by
 rcases I.ok.stk with e | ⟨e,g⟩
 ·ext
 ·rw[e]at hb
  unfold frs at hb;rw[iD,g]at hb;exact hb
theorem Inv.stkFree(I:Inv X ζ σ H s):∀b∈frs X.stack,H b=none:=λb hb=>by
 rcases Am.mp (I.stkSub b hb)with e | hb
 ·rw[e];exact I.free
 ·let#[_,o,g,_]:=I.ok.funs.mem hb
  exact I.base.free b o g (I.ok.frf b hb) λz=>I.ok.exfs b z hb
theorem Inv.step{g':Array qM}{t':Nat}{d':Drawn}{ch:¬AW}(I:Inv X ζ σ H s)
  (A:∀b∈ch,(b∈X.ex∨X.s₀.heap.objs.size<=b)/\b≠X.env.locals/\(∀x c,X.env.cells.lookup x=!c->c≠b)/\∀p∈X.pn++ζ,p.1≠b)
  (keep:∀b o,b≠X.env.locals->b∉X.fs->b∉ch->s.heap.get? b=!o->H b=none->h'.get? b=!o)
  (slot:∀b o,b≠X.env.locals->b∈X.fs->b∉ch->s.heap.get? b=!o->H b=none->∃sl,h'.get? b=some { o with slots:=sl }) (free:∀b o,b∉ch->s.heap.get? b=!o->H b=none->H' b=none)
  (there:∀b o,b∉ch->s.heap.get? b=!o->∃o',h'.get? b=!o')
  (L:∀b xs,H b=!.tup xs->H' b=!.tup xs) (N:∀b o u,H b=!.frz o u->H' b=!.frz o u) (U:∀b P,H b=!.tbl P->∃more,H' b=!.tbl (P++more))
  (ns:∀m,s.heap.Ns X.env.locals m->h'.Ns X.env.locals m) (Q:HOk X.prog X.w H' h') (hg:Lq g') :
  Inv X ζ σ H' { s with heap:=h',gens:=g',drawn:=d',toks:=t' }:=by
 let O:∀b o,X.s₀.heap.get? b=!o->b≠X.env.locals:=λb o e=>Ao (AS (AX e) I.ok.above)
 let E:∀b o,X.s₀.heap.get? b=!o->b∉X.ex->b∉ch:=λb o e g hb=>by
  rcases(A b hb).1 with z | z
  ·exact g z
  ·exact zX (AS (AX e) z) (Dm _)
 let B:∀x c,X.env.cells.lookup x=!c->∀v,s.heap.IsCell c v->h'.IsCell c v:=by
  rintro x c e v ⟨o,J,R⟩
  let C:c∉ch:=λz=>(A c z).2.2.1 x c e rfl
  by_cases Y:c∈X.fs
  ·let#[sl,q]:=slot c o (I.cne x c e) Y C J (I.freeC x c e)
   exact#[_,q,R]
  ·exact#[o,keep c o (I.cne x c e) Y C J (I.freeC x c e),R]
 refine#[I.ok,I.os,hg,#[λb o e n hb g=>?_,λb o e n hb g=>?_,λb o e n g=>?_,λb o e g=>?_,λb xs e=>L b xs (I.base.tups b xs e),λb o xs e=>N b o xs (I.base.frzs b o xs e),λb P e=>?_],?_,λx c e=>?_,?_,λx c e=>?_,λp Z=>?_,Q,I.len]
 ·exact keep b o (O b o e) hb (E b o e g) (I.base.keep b o e n hb g) (I.base.free b o e n g)
 ·let#[sl,G]:=I.base.slot b o e n hb g
  let#[S,T]:=slot b _ (O b o e) hb (E b o e g) G (I.base.free b o e n g);exact#[S,T]
 ·let#[o',G]:=I.base.there b o e g
  exact free b o' (E b o e g) G (I.base.free b o e n g)
 ·let#[o',G]:=I.base.there b o e g
  exact there b o' (E b o e g) G
 ·let#[m1,G]:=I.base.tbls b P e
  grind
 ·let#[m,hn,hl]:=I.loc
  refine#[m,ns m hn,λi x v G T e3=>?_];let#[u,r,l]:=hl i x v G T e3;refine#[u,r,?_]
  rcases l with l | ⟨k,c,e,z⟩
  ·exact .inl l
  ·exact .inr #[k,c,e,B x c e _ z]
 ·let#[v,z]:=I.cell x c e
  exact#[v,B x c e v z]
 ·let#[m,#[o,_,_,J,_],_]:=I.loc
  exact free _ o (λz=>(A _ z).2.1 rfl) J I.free
 ·let#[v,o,J,R]:=I.cell x c e
  exact free c o (λz=>(A c z).2.2.1 x c e rfl) J (I.freeC x c e)
 ·let#[e,n,ne,nf,d]:=I.pin p Z
  let C:p.1∉ch:=λz=>(A p.1 z).2.2.2 p Z rfl
  exact#[keep p.1 p.2 ne nf C e n,free p.1 p.2 C e n,ne,nf,d]
theorem Inv.un{t':Nat}(I:Inv X ζ σ H s)(u:Un X.fs [] H H' s.heap h')(i:HOk X.prog X.w H' h'):Inv X ζ σ H' { s with heap:=h',toks:=t' }:=by
 let#[m,#[o,J,L,B,r],_]:=id I.loc;let#[sl,C]:=u.any B I.free ∅
 exact I.step (g':=s.gens) (d':=s.drawn) (ch:=[]) (λM z=>nomatch z) (λb o M hb M e n=>u.keep b o e n hb (by omega)) (λb o M hb M e n=>u.slot b o e n hb ∅) (λb o M e n=>u.free b o e n ∅) (λb o M e=>u.there b o e ∅) u.tups u.frzs u.tbls (λN hm=>by
  let#[O,E,A,g,G]:=hm;rw[B]at g;cases g
  exact#[_,E,A,C,G]) i I.bare
theorem Inv.call{g':Array qM}{t':Nat}{d':Drawn}{ch:¬AW}(I:Inv X ζ σ H s)(u:Un (frs X.stack) ch H H' s.heap h')(B:HOk X.prog X.w H' h')(J:Lq g')
  (i:∀b∈ch,(b∈X.ex∨X.s₀.heap.objs.size<=b)/\b≠X.env.locals/\(∀x c,X.env.cells.lookup x=!c->c≠b)/\∀p∈X.pn++ζ,p.1≠b) :
  Inv X ζ σ H' { s with heap:=h',gens:=g',drawn:=d',toks:=t' }:=by
 let#[m,#[o,O,P,G,r],_]:=id I.loc
 let#[sl,C]:=u.any G I.free λz=>(i _ z).2.1 rfl
 exact I.step (ch:=ch) i (λb o C hb g e n=>u.keep b o e n (λz=>(Am.mp (I.stkSub b z)).elim C hb) g) (λb o M M g e n=>u.any e n g) (λb o g e n=>u.free b o e n g) (λb o g e=>u.there b o e g) u.tups u.frzs u.tbls (λQ hm=>by
  let#[R,L,E,A,N]:=hm;rw[G]at A;cases A
  exact#[_,L,E,C,N]) B J
theorem Inv.turned{t':Nat}{it:AW}(I:Inv X ζ σ H s)(k:∀b o,b≠it->s.heap.get? b=!o->h'.get? b=!o)(N:H it=none)(i:it≠X.env.locals)
  (A:it∈X.ex∨X.s₀.heap.objs.size<=it) (B:∀x c,X.env.cells.lookup x=!c->c≠it) (C:∀p∈X.pn++ζ,p.1≠it):Inv X ζ σ H { s with heap:=h',toks:=t' }:=by
 let E:∀b u,H b=!u->b≠it:=λb u e z=>by ext
 refine I.step (g':=s.gens) (d':=s.drawn) (ch:=[it]) (λb hb=>?_) (λb o M M g e M=>k b o (λz=>g (by simp[z])) e) (λb o M M g e M=>#[o.slots,k b o (λz=>g (by simp[z])) e]) (λM M M M n=>n)
  (λb o g e=>#[o,k b o (λz=>g (by simp[z])) e]) (λM M e=>e) (λM M M e=>e) (λb O e=>#[#[],by rw[e];simp]) (λm hm=>?_) (λb u e=>?_) I.bare
 ·let e:b=it:=by simpa using hb
  subst e;exact#[A,i,B,C]
 ·let#[o,G,J,L,r]:=hm
  exact#[o,G,J,k _ o (Cc i) L,r]
 ·refine(I.hok b u e).stay (λc v g q=>k c v ?_ q) (λM q=>q) λM M q=>q
  lia
theorem Inv.tok(I:Inv X ζ σ H s)(t:Nat):Inv X ζ σ H { s with toks:=t }:=I.un (h':=s.heap) (t':=t) Un.refl I.hok
theorem Inv.kept(I:Inv X ζ σ H s)(k:∀b u,s.heap.get? b=!u->h'.get? b=!u):Inv X ζ σ H { s with heap:=h',toks:=t' }:=I.un (Un.kept k) (I.hok.kept k)
theorem Inv.laid(I:Inv X ζ σ H s)(k:∀b u,s.heap.get? b=!u->h'.get? b=!u)(g:s.heap.objs.size<=a)(new:EB X.prog X.w (upd H a o) h' a o) :
  Inv X ζ σ (upd H a o) { s with heap:=h',toks:=t' }:=I.un (Un.laid k g (I.hok.fresh g)) (I.hok.laid k g new)
theorem Inv.write(I:Inv X ζ σ H s)(i:Mut (H x))(m:e=x∨H e=!.own x)(k:∀b u,b≠e->s.heap.get? b=!u->h'.get? b=!u)(g:∃u,h'.get? e=!u)
  (new:EB X.prog X.w (upd H x o) h' x o):Inv X ζ σ (upd H x o) { s with heap:=h',toks:=t' }:=I.un (Un.write i m k g) (I.hok.write i m k g new)
theorem Inv.pins_of(I:Inv X ζ σ H s)(h:∀p∈pins',s.heap.get? p.1=!p.2/\H p.1=none/\p.1≠X.env.locals/\p.1∉X.fs/\∀v,p.2.data≠.cell v):Inv X pins' σ H s:=
 #[I.ok,I.os,I.bare,I.base,I.loc,I.cell,I.free,I.freeC,λp g=>(BO.mp g).elim (λz=>I.pin p (Js _ z)) (h p),I.hok,I.len]
theorem ag{N:¬Str}(hN:N.Nodup){i j:Nat}{x:Str}(a:N[i]?=!x)(b:N[j]?=!x):i=j:=by
 let#[o,g]:=AE.mp a;let#[A,m]:=AE.mp b;exact(List.getElem_inj hN).mp (g.trans m.symm)
theorem XG{M:cK}{A:Bq}{E:AH->AM->Prop}{i:Nat}{x:Str}{v:V}{u:AH}{Q:Unit->AM->Prop}(I:Inv X ζ σ H s)(hN:X.N.Nodup)(hi:X.N[i]?=!x)(G:Loc X.env.scope x)(r:RelV v u)
  (h:∀s',Inv X ζ (σ.set i (!v)) H s'->(∃a,EF a s.heap s'.heap/\(a=X.env.locals∨X.env.cells.lookup x=!a))->Q () s') (hf:autoParam (X.fn x=true∨X.env.scope.names.lookup x=!.local) yq2q):Ac M A (zi X.env x u) Q E s:=by
 let#[m,Z,hl]:=id I.loc
 let T:(X.env.scope.kind==.class||(X.env.scope.kind==.module&&X.env.locals != X.env.globals))=false:=by rw[I.ok.kind];rfl
 let O:i < -σ:=by rw[I.len];exact(AE.mp hi).1
 let cne:=I.cne
 let B:∀{a:AW} {h':Cb},(∃o,s.heap.get? a=!o/\H a=none)->EF a s.heap h'->HOk X.prog X.w H h':=λ{a h'} ha g b ob e=>by
  let#[_,_,hfree]:=ha
  refine(I.hok b ob e).stay (λc w' J q=>(g.2 c ?_).trans q) (λ_ q=>q) λ_ _ q=>q
  lia
 rcases G with S | S
 ·refine wpAny_storeName_local S Z (λh' ϣ g=>?_) T
  let#[oL,_,_,hoL,_]:=id Z;refine h _ #[I.ok,I.os,I.bare,#[λb o e n hb G=>?_,λb o e n hb G=>?_,I.base.free,λb o e G=>?_,I.base.tups,I.base.frzs,I.base.tbls],#[_,ϣ,λj y v' C L e3=>?_],λy c e=>?_,I.free,I.freeC,λp hp=>?_,B #[oL,hoL,I.free] g,by simpa using I.len] #[_,g,.inl rfl]
  ·exact(g.2 b (Ao (AS (AX e) I.ok.above))).trans (I.base.keep b o e n hb G)
  ·let#[sl,C]:=I.base.slot b o e n hb G
   exact#[sl,(g.2 b (Ao (AS (AX e) I.ok.above))).trans C]
  ·let#[o',C]:=I.base.there b o e G
   exact#[o',(g.2 b (Ao (AS (AX e) I.ok.above))).trans C]
  ·by_cases P:j=i
   ·subst P
    rw[hi]at C;cases C;rw[An O]at L;cases L;exact#[u,r,.inl #[S,by simp]]
   ·rw[Ak (Cc P)]at L
    let#[u',r',q]:=hl j y v' C L e3;refine#[u',r',?_]
    rcases q with⟨k,e⟩ | ⟨k,c,e,z⟩
    ·refine .inl #[k,?_]
     let:y≠x:=λe=>P (ag hN C (e▸hi))
     ext
    ·exact .inr #[k,c,e,z.sameBut g (cne y c e)]
  ·let#[w',z]:=I.cell y c e
   exact#[w',z.sameBut g (cne y c e)]
  ·let#[e,n,U,nf,d]:=I.pin p hp
   exact#[(g.2 p.1 U).trans e,n,U,nf,d]
 ·let R:X.fn x:=by
   rcases hf with z | z
   ·exact z
   ·ext
  let#[c,J]:=I.ok.has x (.inl S);let#[w',z]:=I.cell x c J;refine wpAny_storeName_cell I.ok.kind S J z (λh' Ϩ g=>?_);let#[oc,hoc,hocd]:=id z;refine h { s with heap:=h' } #[I.ok,I.os,I.bare,#[λb o e n hb G=>?_,λb o e n hb G=>?_,I.base.free,λb o e G=>?_,I.base.tups,I.base.frzs,I.base.tbls],#[m,Z.sameBut g (Cc (cne x c J)),λj y v' C L e3=>?_],λy Y e=>?_,I.free,I.freeC,λp hp=>?_,B #[oc,hoc,I.freeC x c J] g,by simpa using I.len] #[c,g,.inr J]
  ·exact(g.2 b (Ao (AS (AX e) (I.ok.cab x c R J)))).trans (I.base.keep b o e n hb G)
  ·let#[sl,C]:=I.base.slot b o e n hb G
   exact#[sl,(g.2 b (Ao (AS (AX e) (I.ok.cab x c R J)))).trans C]
  ·let#[o',C]:=I.base.there b o e G
   exact#[o',(g.2 b (Ao (AS (AX e) (I.ok.cab x c R J)))).trans C]
  ·by_cases P:j=i
   ·subst P
    rw[hi]at C;cases C;rw[An O]at L;cases L;exact#[u,r,.inr #[.inl S,c,J,Ϩ]]
   ·rw[Ak (Cc P)]at L
    let#[u',r',q]:=hl j y v' C L e3;refine#[u',r',?_]
    rcases q with q | ⟨k,Y,e,z'⟩
    ·exact .inl q
    ·refine .inr #[k,Y,e,z'.sameBut g ?_]
     rintro rfl;exact P (ag hN C (I.ok.inj _ _ _ e J▸hi))
  ·by_cases hcc:Y=c
   ·grind
   ·let#[w2,z2]:=I.cell y Y e
    exact#[w2,z2.sameBut g hcc]
  ·let#[e,n,U,nf,d]:=I.pin p hp
   refine#[(g.2 p.1 ?_).trans e,n,U,nf,d]
   grind
theorem Uq(I:Inv X ζ σ H s)(hN:X.N.Nodup)(hi:X.N[i]?=!x)(g:Loc X.env.scope x)(r:RelV v u)
  (h:∀s',Inv X ζ (σ.set i (!v)) H s'->Q () s') (hf:autoParam (X.fn x=true∨X.env.scope.names.lookup x=!.local) yq2q):Ac M A (zi X.env x u) Q E s:=
 XG I hN hi g r (λs' m z=>h s' m) hf
theorem Inv.call'(I:Inv X ζ σ H s)(ho:s'.os=s.os)(u:Un (frs X.stack) ch H H' s.heap s'.heap)(g:HOk X.prog X.w H' s'.heap)(m:Lq s'.gens)
  (i:∀b∈ch,(b∈X.ex∨X.s₀.heap.objs.size<=b)/\b≠X.env.locals/\(∀x c,X.env.cells.lookup x=!c->c≠b)/\∀p∈X.pn++ζ,p.1≠b):Inv X ζ σ H' s':=by
 let#[h',g',d',t',o]:=s';let e:o=s.os:=ho;subst e;exact I.call (g':=g') (t':=t') (d':=d') u g m i
end
noncomputable abbrev XK:=AH->⇑AW->Hp->Prop
abbrev St:=¬⇑V
abbrev VK:=V->Hp->Prop
abbrev TE:=St->Hp->VK->Prop
abbrev TT:=St->Hp->(Bool->Hp->Prop)->Prop
abbrev TA:=St->Hp->(¬V->Hp->Prop)->Prop
structure jt where
 nx:St->Hp->Prop
 rt:VK
 bk:St->Hp->Prop:=λz z=>False
 ct:St->Hp->Prop:=λz z=>False
abbrev TS:=jt->St->Hp->Prop
def EP(X:Cx)(i:¬(AW×Obj))(m:St)(Q:VK)(u:AH)(s':AM):Prop:=∃v g,Inv X i m g s'/\RelV v u/\Q v g
def TP(X:Cx)(i:¬(AW×Obj))(m:St)(Q:Bool->Hp->Prop)(b:Bool)(s':AM):Prop:=∃g,Inv X i m g s'/\Q b g
def AP(X:Cx)(m:¬(AW×Obj))(o:St)(Q:¬V->Hp->Prop)(us:¬AH)(s':AM):Prop:=∃g i,Inv X m o i s'/\Bs g us/\Q g i
def SP(X:Cx)(m:¬(AW×Obj))(D:jt)(f:Flow)(s':AM):Prop:=
 match f with
 | .next=>∃g i,Inv X m g i s'/\D.nx g i
 | .brk=>∃g i,Inv X m g i s'/\D.bk g i
 | .cont=>∃g i,Inv X m g i s'/\D.ct g i
 | .ret u=>∃v g i,Inv X m g i s'/\RelV v u/\D.rt v i
def PE(X:Cx)(e:Expr)(t:TE):Prop:=
 ∀(i:¬(AW×Obj)) (s:AM) (g:St) (H:Hp) (Q:VK),Inv X i g H s->t g H Q->Ac (AZ X.prog X.w) X.A (Bz e X.env) (EP X i g Q) X.xe s
def PT(X:Cx)(e:Expr)(t:TT):Prop:=
 ∀(i:¬(AW×Obj)) (s:AM) (g:St) (H:Hp) (Q:Bool->Hp->Prop),Inv X i g H s->t g H Q->Ac (AZ X.prog X.w) X.A (bz e X.env (Bz e X.env)) (TP X i g Q) X.xe s
def PW(X:Cx)(e:Expr)(t:TT):Prop:=
 ∀(g:Sem AH) (m:¬(AW×Obj)) (s:AM) (i:St) (H:Hp) (Q:Bool->Hp->Prop),Inv X m i H s->t i H Q->Ac (AZ X.prog X.w) X.A (bz e X.env g) (TP X m i Q) X.xe s
theorem PW.pt(h:PW X e t):PT X e t:=h _
def PA(X:Cx)(es:¬Expr)(t:TA):Prop:=
 ∀(g:Pos) (m:¬(AW×Obj)) (s:AM) (i:St) (H:Hp) (Q:¬V->Hp->Prop),Inv X m i H s->t i H Q->Ac (AZ X.prog X.w) X.A (zN (DB g (AR es X.env))) (AP X m i Q) X.xe s
def PS(X:Cx)(st:CY)(t:TS):Prop:=
 ∀(g:¬(AW×Obj)) (s:AM) (i:St) (H:Hp) (D:jt),Inv X g i H s->t D i H->Ac (AZ X.prog X.w) X.A (exec st X.env) (SP X g D) X.xe s
def PSs(X:Cx)(st:¬CY)(t:TS):Prop:=
 ∀(g:¬(AW×Obj)) (s:AM) (i:St) (H:Hp) (D:jt),Inv X g i H s->t D i H->Ac (AZ X.prog X.w) X.A (execs st X.env) (SP X g D) X.xe s
theorem thn{g:Type}{t:Sem g}{Q i:g->AM->Prop}{M:cK}{A:Bq}{E:AH->AM->Prop}{s:AM}(h:Ac M A t Q E s)(m:∀a s,Q a s->i a s):Ac M A t i E s:=Dv h m λz z x=>x
section
variable{X:Cx}
def wR(i:Nat):TE:=λg H Q=>∃v,g[i]?=!(!v)/\Q v H
def tC(v:V):TE:=λz H Q=>Q v H
theorem xD(hN:X.N[i]?=!x)(C:Vis X.env.scope x)(o:↥((x==("__debug__" : Str))=false)) (E:↥((x==("__classdict__" : Str))=false)):PE X (.Name x pos) (wR i):=by
 intro G s J H Q I h;let#[v,e,h]:=h;let#[m,L,O]:=I.loc;let#[u,r,l]:=O i x v hN e C;let fin:EP X G J Q u s:=#[v,H,I,r,h]
 rcases l with⟨g,hm⟩ | ⟨g,c,A,B⟩
 ·exact vR (px I.ok.kind g L hm fin) o
 ·rcases g with g | g
  ·exact vR (uk I.ok.kind g A B fin) o
  ·exact vR (wpAny_loadName_free I.ok.kind g A B fin E) o
theorem mY{i j pos}:PE X (.Constant (.int i) j pos) (tC (.int i)):=λz z z H z I h=>wpAny_Constant_int #[.int i,H,I.tok _,#[_,rfl],h]
theorem AAo{b j pos}:PE X (.Constant (.bool b) j pos) (tC (.bl b)):=λz z z H z I h=>Constant_bool #[.bl b,H,I,rfl,h]
theorem xH{j pos}:PE X (.Constant .none j pos) (tC .non):=λz z z H z I h=>Constant_none #[.non,H,I,rfl,h]
theorem xF{x j pos}:PE X (.Constant (.str x) j pos) (tC (.str x)):=λz z z H z I h=>Calls.Constant_str #[.str x,H,I.tok _,#[_,rfl],h]
def Gl(X:Cx)(x:Str):Prop:=X.env.kindOf x=!.globalImplicit
theorem Yt(I:Inv X m o H s)(g:Gl X x)(hm:X.mg x=!u)(h:Q u s)
  (i:↥((x==("__debug__" : Str))=false)):Ac (AZ X.prog X.w) X.A (Bz (.Name x pos) X.env) Q E s:=
 WZ I.ok.kind g (Calls.loadGlobal_global (by rw[I.ok.glob];exact I.mod.glob.keeps I.bk) hm h) i
theorem Mt(I:Inv X G J H s)(g:Gl X x)(hm:X.mg x=none)(i:HZ x=!u)(h:Q u s)
  (m:↥(x≠"__name__")) (o:↥((x==("__debug__" : Str))=false)):Ac (AZ X.prog X.w) X.A (Bz (.Name x pos) X.env) Q E s:=by
 let#[L,B,C]:=I.mod.blt;exact WZ I.ok.kind g (Calls.loadGlobal_builtin (by rw[I.ok.glob];exact I.mod.glob.keeps I.bk) hm (by rw[I.ok.blt];exact B.keeps I.bk) ((C x m).trans i) h) o
theorem YZ(g:Gl X x)(hm:X.mg x=!u)(r:RelV v u)(i:↥((x==("__debug__" : Str))=false)):PE X (.Name x pos) (tC v):=
 λz z z H z I h=>Yt I g hm #[v,H,I,r,h] i
theorem sY(g:Gl X x)(hm:X.mg x=none)(i:HZ x=!u)(r:RelV v u)(m:↥(x≠"__name__")) (o:↥((x==("__debug__" : Str))=false)):PE X (.Name x pos) (tC v):=
 λz z z H z I h=>Mt I g hm i #[v,H,I,r,h] m o
variable{a b:Expr}{ta tb:TE}{pos:Pos}
def PC(X:Cx)(op:CmpOp)(a b:Expr)(t:TE):Prop:=
 ∀(o:¬(AW×Obj)) (s:AM) (m:St) (H:Hp) (Q:VK),Inv X o m H s->t m H Q ->
  Ac (AZ X.prog X.w) X.A (Bz a X.env) (λv g=>Ac (AZ X.prog X.w) X.A (Bz b X.env) (λu i=>Ac (AZ X.prog X.w) X.A (BY op v u) (EP X o m Q) X.xe i) X.xe g) X.xe s
def tB(t:TE):TT:=λg H Q=>t g H λx i=>∃c,x=.bl c/\Q c i
theorem mN(h:PC X op a b t)(g:DU op b=false:=by first | exact nobehind _ ∅ ∅ | rfl):PT X (.Compare a [op] [b] pos) (tB t):=by
 intro i s m H Q I hw;refine pW (thn (h i s m H _ I hw) λv G g=>thn g λu J o=>thn o ?_) g;rintro c L ⟨x,A,B,C,E⟩;let#[d,rfl,q]:=E;cases C;exact DW #[A,B,q]
theorem ww(h:PE X e t)(i:autoParam (∀g,bz e X.env g=(do let v <-g;bg e.pos;Pj [v] (vT v))) yq3q):PT X e (tB t):=by
 intro m s o H Q I hw;refine isTrue_plain (thn (h m s o H _ I hw) λv G #[x,A,B,C,E]=>?_) (i _);let#[d,rfl,q]:=E;cases C;exact DW #[A,B,q]
variable{tA tB':TT}{rest:¬Expr}
def tAnd(t u:TT):TT:=λg H Q=>t g H λc i=>if c=true then u g i Q else Q false i
def tOr(t u:TT):TT:=λg H Q=>t g H λc i=>if c=true then Q true i else u g i Q
def tNot(t:TT):TT:=λg H Q=>t g H λc i=>Q (not c) i
theorem rn(g:PT X a tA):PW X (.BoolOp .And [a] pos) tA:=by
 intro o i s m H Q I h;refine isTrue_and (thn (g i s m H Q I h) λc A e=>?_)
 cases c with
 | true=>exact isTrue_and_nil e
 | false=>exact e
theorem wm(g:PT X a tA):PW X (.BoolOp .Or [a] pos) tA:=by
 intro o i s m H Q I h;refine isTrue_or (thn (g i s m H Q I h) λc A e=>?_)
 cases c with
 | false=>exact isTrue_or_nil e
 | true=>exact e
theorem wu(m:PT X a tA)(hb:PW X (.BoolOp .And (b :: rest) pos) tB'):PW X (.BoolOp .And (a :: b :: rest) pos) (tAnd tA tB'):=by
 intro o g s i H Q I h;refine isTrue_and (thn (m g s i H _ I h) λc A #[B,C,E]=>?_)
 cases c with
 | true=>exact hb o g A i B Q C E
 | false=>assumption
theorem AAi(m:PT X a tA)(hb:PW X (.BoolOp .Or (b :: rest) pos) tB'):PW X (.BoolOp .Or (a :: b :: rest) pos) (tOr tA tB'):=by
 intro o g s i H Q I h;refine isTrue_or (thn (m g s i H _ I h) λc A #[B,C,E]=>?_)
 cases c with
 | true=>assumption
 | false=>exact hb o g A i B Q C E
theorem wx(g:PT X a tA):PT X (.UnaryOp .Not a pos) (tNot tA):=by
 intro i s m H Q I h;exact isTrue_not (g i s m H (λc o=>Q (not c) o) I h)
def AAS(ta tb:TE):TE:=λg H Q=>ta g H λx i=>∃c,x=.bl c/\if c=true then tb g i Q else Q (.bl false) i
theorem xG{op}{t}(h:PE X a t):PE X (.BoolOp op [a] pos) t:=λg s i H Q I hw=>BoolOp_one (h g s i H Q I hw)
theorem xL(B:PE X a ta)(hb:PE X (.BoolOp .And (b :: rest) pos) tb):PE X (.BoolOp .And (a :: b :: rest) pos) (AAS ta tb):=by
 intro i s m H Q I h;refine BoolOp_and (thn (B i s m H _ I h) ?_);rintro v C ⟨x,o,A,E,g⟩;let#[c,rfl,g]:=g;cases E;refine DW ?_
 cases c with
 | true=>exact hb i C m o Q A g
 | false=>exact#[.bl false,o,A,rfl,g]
def tIf(t:TT)(ta tb:TE):TE:=λg H Q=>t g H λc i=>if c=true then ta g i Q else tb g i Q
theorem mZ(C:PT X c tA)(E:PE X a ta)(hb:PE X b tb):PE X (.IfExp c a b pos) (tIf tA ta tb):=by
 intro g s i H Q I h;refine wpAny_IfExp (thn (C g s i H _ I h) λd m #[o,A,B]=>?_)
 cases d with
 | true=>exact E g m i o Q A B
 | false=>exact hb g m i o Q A B
end
def SqL(K:AD)(H:Hp)(a:AW)(xs:¬V):Prop:=
 Rd H a (.lst xs) ∨
  ∃(o:Obj) (g:Array AH) (n:Nat),K.lookup a=!o/\o.cls=.type "list"/\o.dict=none/\o.data=.seq g n/\g.size<=sizeLine/\Bs xs g.toList
def SqT(K:AD)(H:Hp)(a:AW)(xs:¬V):Prop:=
 Rd H a (.tup xs) ∨
  ∃(o:Obj) (g:Array AH) (n:Nat),K.lookup a=!o/\o.cls=.type "tuple"/\o.data=.seq g n/\g.size<=sizeLine/\Bs xs g.toList
noncomputable def absV:AH->⇑V
 | .none=>!.non
 | .bool b=>!.bl b
 | .int i _=>!.int i
 | .str x _=>!.str x
 | .bytes b _=>!.byt b
 | .float b _=>!.flt b
 | .ref a=>!.ref a
 | .type n=>!.ty n
 | _=>none
theorem RelV.abs(r:RelV x u):absV u=!x:=by
 cases x with
 | non=>cases r;rfl
 | bl _=>cases r;rfl
 | int _=>let#[t,rfl]:=r;rfl
 | str _=>let#[t,rfl]:=r;rfl
 | byt _=>let#[t,rfl]:=r;rfl
 | flt _=>let#[t,rfl]:=r;rfl
 | ref _=>cases r;rfl
 | ty _=>cases r;rfl
theorem RelV.inj(r:RelV x u)(q:RelV y u):x=y:=B0 (r.abs.symm.trans q.abs)
theorem Bs.inj:∀{xs g:¬V} {us:¬AH},Bs xs us->Bs g us->xs=g
 | _,_,_,h,g=>by
  cases h with
  | nil=>cases g;rfl
  | cons r t=>cases g with
   | cons i m=>rw[r.inj i,Bs.inj t m]
section
variable{X:Cx}{ζ:¬(AW×Obj)}{σ:St}{H:Hp}{s:AM}{a:AW}{xs ys:¬V}
theorem Inv.list(I:Inv X ζ σ H s)(h:SqL X.K H a xs):∃g:¬AH,Bs xs g/\PlainL s.heap a g.toArray/\-xs<=sizeLine:=by
 rcases h with h | ⟨o,g,n,i,m,A,B,C,r⟩
 ·let#[z,g,n,r,e]:=h.ok I.hok
  exact#[g,r,#[_,n,e,rfl,rfl,rfl],z]
 ·refine#[g.toList,r,#[o,n,I.kIn a o i,m,A,by simpa using B],?_]
  let e:=-r;ext
theorem Inv.tuple(I:Inv X ζ σ H s)(h:SqT X.K H a xs):∃g:¬AH,Bs xs g/\cN s.heap a g.toArray/\-xs<=sizeLine:=by
 rcases h with h | ⟨o,g,n,i,m,A,B,r⟩
 ·let#[z,g,r,p]:=h.ok I.hok
  exact#[g,r,p,z.1]
 ·refine#[g.toList,r,#[o,I.kIn a o i,m,n,by simpa using A],?_]
  let e:=-r;ext
theorem Inv.list_inj(I:Inv X ζ σ H s)(h:SqL X.K H a xs)(h':SqL X.K H a ys):xs=ys:=by
 let#[m,r,#[o,n,e,_,_,d],_]:=I.list h;let#[its',A,#[B,C,g,_,_,i],_]:=I.list h';rw[e]at g;cases g;rw[d]at i
 injection i with d1 _
 let:m=its':=by simpa using congrArg vf d1
 subst this;exact r.inj A
theorem Inv.tuple_inj(I:Inv X ζ σ H s)(h:SqT X.K H a xs)(h':SqT X.K H a ys):xs=ys:=by
 let#[m,r,#[o,e,_,n,d],_]:=I.tuple h;let#[its',A,#[B,g,_,C,i],_]:=I.tuple h';rw[e]at g;cases g;rw[d]at i
 injection i with d1 _
 let:m=its':=by simpa using congrArg vf d1
 subst this;exact r.inj A
end
section
variable{X:Cx}{st:CY}{rest:¬CY}{t u:TS}{e:Expr}{te:TE}{pos:Pos}
def AAK:TS:=λD g H=>D.nx g H
def tSeq(t u:TS):TS:=λD g H=>t { D with nx:=u D } g H
theorem sC:PSs X [] AAK:=λz z g H z I h=>K9 #[g,H,I,h]
theorem mP(m:PS X st t)(o:PSs X rest u):PSs X (st :: rest) (tSeq t u):=by
 intro i s A H D I h;refine ze (thn (m i s A H { D with nx:=u D } I h) λf B q=>?_)
 cases f with
 | next=>
  let#[g,C,E,q]:=q;exact o i B g C D E q
 | ret v=>exact q
 | brk=>exact q
 | cont=>exact q
theorem rq(g:PS X st t):PSs X [st] t:=by
 intro i s m H D I h;refine ze (thn (g i s m H D I h) λf o q=>?_)
 cases f with
 | next=>exact K9 q
 | ret v=>exact q
 | brk=>exact q
 | cont=>exact q
theorem Inv.quiet(I:Inv X g i H s):interactive X.env=false:=by simp[interactive,I.ok.kind]
def AAM(te:TE):TS:=λD g H=>te g H λz i=>D.nx g i
theorem sD(i:PE X e te)(m:↑(HX e none pos.line X.env=pure false)):PS X (.Expr e pos) (AAM te):=by
 intro o s g H D I h;exact wpAny_Expr_any (thn (i o s g H _ I h) λv E #[x,A,B,G,C]=>#[g,A,B,C]) I.quiet m
def tRet(te:TE):TS:=λD g H=>te g H D.rt
theorem wz(i:PE X e te):PS X (.Return (!e) pos) (tRet te):=by
 intro m s g H D I h;exact wpAny_Return_some (thn (i m s g H _ I h) (by rintro v E ⟨x,o,A,B,C⟩;exact #[x,g,o,A,B,C]))
def tIfS(c:TT)(t u:TS):TS:=λD g H=>c g H λb i=>if b=true then t D g i else u D g i
theorem AAj(C:PT X c tc)(E:PSs X a t)(hb:PSs X b u):PS X (.If c a b pos) (tIfS tc t u):=by
 intro g s i H D I h;refine wpAny_If (thn (C g s i H _ I h) ?_);rintro d m ⟨o,A,B⟩
 cases d with
 | true=>exact E g m i o D A B
 | false=>exact hb g m i o D A B
def wU:TS:=λz z z=>False
theorem mS:PS X st wU:=λz z z z z z h=>h.elim
end
abbrev TG:=V->St->Hp->(St->Hp->Prop)->Prop
abbrev TGs:=¬V->St->Hp->(St->Hp->Prop)->Prop
def PG(X:Cx)(B:Expr)(t:TG):Prop:=
 ∀(i:¬(AW×Obj)) (s:AM) (m:St) (H:Hp) (v:V) (u:AH) (Q:St->Hp->Prop),Inv X i m H s->RelV v u->t v m H Q ->
  Ac (AZ X.prog X.w) X.A (vU B X.env u) (λz C=>∃g o,Inv X i g o C/\Q g o) X.xe s
def PGs(X:Cx)(ts:¬Expr)(t:TGs):Prop:=
 ∀(i:¬(AW×Obj)) (s:AM) (m:St) (H:Hp) (o:¬V) (B:¬AH) (Q:St->Hp->Prop),Inv X i m H s->Bs o B->t o m H Q ->
  Ac (AZ X.prog X.w) X.A (assignInOrder ((GK ts X.env).map (·.2)) B) (λz E=>∃g C,Inv X i g C E/\Q g C) X.xe s
abbrev TSet:=V->V->V->Hp->(Hp->Prop)->Prop
def PSet(X:Cx)(t:TSet):Prop:=
 ∀(g:¬(AW×Obj)) (s:AM) (m:St) (H:Hp) (o i v:V) (B C u:AH) (Q:Hp->Prop),Inv X g m H s->RelV o B->RelV i C->RelV v u->t o i v H Q ->
  Ac (AZ X.prog X.w) X.A (zP B C u) (λz G=>∃E,Inv X g m E G/\Q E) X.xe s
abbrev TIp:=V->V->Hp->VK->Prop
def PIp(X:Cx)(op:Operator)(t:TIp):Prop:=
 ∀(g:¬(AW×Obj)) (s:AM) (i:St) (H:Hp) (x y:V) (v u:AH) (Q:VK),Inv X g i H s->RelV x v->RelV y u->t x y H Q ->
  Ac (AZ X.prog X.w) X.A (inplaceOp op v u) (EP X g i Q) X.xe s
section
variable{X:Cx}{pos:Pos}
def gV(i:Nat):TG:=λv g H Q=>Q (g.set i (!v)) H
theorem sP(hN:X.N.Nodup)(hi:X.N[i]?=!x)(g:Loc X.env.scope x)(hf:autoParam (X.fn x=true∨X.env.scope.names.lookup x=!.local) yq2q):PG X (.Name x pos) (gV i):=by
 intro o s A H v u Q I r h;exact zL (Uq I hN hi g r (λB m=>#[_,H,m,h]) hf)
def gNil:TGs:=λg i H Q=>g=[]/\Q i H
def ABI(t:TG)(u:TGs):TGs:=λi m H Q=>∃v r,i=v :: r/\t v m H λg o=>u r g o Q
theorem sO:PGs X [] gNil:=by
 intro i s g H m o Q I r h;let#[e,h]:=h;subst e;cases r;exact assignInOrder_nil #[g,H,I,h]
theorem mW(m:PG X e t)(o:PGs X es u)
  (A:↑((GK (e :: es) X.env).map (·.2)=vU e X.env :: (GK es X.env).map (·.2))):PGs X (e :: es) (ABI t u):=by
 intro i s B H O P Q I r h;let#[v,R,C,h]:=h;subst C
 cases r with
 | cons r E=>
  rw[A];refine assignInOrder_cons (thn (m i s B H _ _ _ I r h) λ_ G #[g,J,L,N]=>?_);exact o i G g J _ _ Q L E N
def gTup(K:AD)(n:Nat)(t:TGs):TG:=λv i H Q=>∃a g,v=.ref a/\SqT K H a g/\-g=n/\t g i H Q
theorem xC(A:X.calm)(h:PGs X es t)
  (B:↑(-GK es X.env=n)) (g:↑((GK es X.env).findIdx? (·.1)=none)):PG X (.Tuple es k pos) (gTup X.K n t):=by
 intro i s m H v u Q I r hw;let#[a,C,E,G,J,hw]:=hw;subst E;cases r;let#[S,L,N,T]:=I.tuple G
 refine assign_Tuple_tuple (I.ok.hd A) N (by simp[B,<-J,L.length]) g λO P=>?_
 let R:Inv X i m H { s with heap:=O }:=I.kept (t':=s.toks) λb o e=>P b o (Ao (AX e)) e
 exact h i _ m H C _ Q R (by ext) hw
def wZ(te:TE)(g:TG):TS:=λD i H=>te i H λx m=>g x i m D.nx
theorem w9(o:PE X e te)(A:PG X tg g)(B:↑(swapsWithSole [tg] e pos.line X.env=pure false))(hw:↑(swappedStores [tg] e X.env=pure none))
  (C:↑((GK [tg] X.env).map (·.2)=[vU tg X.env])):PS X (.Assign [tg] e pos) (wZ te g):=by
 intro i s m H D I h;refine wpAny_Assign_stores (thn (o i s m H _ I h) ?_) B hw;rintro v E ⟨x,G,J,L,N⟩;rw[C]
 exact thn (A i E m G x v _ J L N) λz O q=>q
theorem wy(hN:X.N.Nodup)(hi:X.N[i]?=!x)(m:Loc X.env.scope x)(o:PE X e te)(A:↑(HX e (!.Name x g) pos.line X.env=pure false))(hf:autoParam (X.fn x=true∨X.env.scope.names.lookup x=!.local) yq2q) :
  PS X (.Assign [.Name x g] e pos) (wZ te (gV i)):=by
 intro B s C H D I h;refine wpAny_Assign_Name (thn (o B s C H _ I h) ?_) A;rintro v P ⟨y,E,G,J,L⟩;exact Uq G hN hi m J (λQ O=>#[_,E,O,L]) hf
def tAug(i:Nat)(te:TE)(m:TIp):TS:=λD g H=>∃x,g[i]?=!(!x)/\te g H λy o=>m x y o λz s=>D.nx (g.set i (!z)) s
theorem w8(hN:X.N.Nodup)(hi:X.N[i]?=!x)(C:Loc X.env.scope x)(O:PE X e te)(ho:PIp X op P)(hf:autoParam (X.fn x=true∨X.env.scope.names.lookup x=!.local) yq2q) :
  PS X (.AugAssign (.Name x J) op e pos) (tAug i te P):=by
 intro E s L H D I h;let#[v,Q,h]:=h;let#[m,R,S]:=I.loc
 let G:Vis X.env.scope x:=by rcases C with k | k;exact .inl k;exact .inr (.inl k)
 let#[u,r,l]:=S i x v hi Q G;refine wpAny_AugAssign_Name ?_
 let go:Ac (AZ X.prog X.w) X.A (Bz e X.env) (λw o=>Ac (AZ X.prog X.w) X.A (inplaceOp op u w) (λr B=>Ac (AZ X.prog X.w) X.A (zi X.env x r) (λM=>SP X E D .next) X.xe B) X.xe o) X.xe s:=by
  refine thn (O E s L H _ I h) ?_;rintro w T ⟨y,U,Y,Z,q1⟩
  refine thn (ho E T L U v y u w _ Y r Z q1) ?_;rintro z s2 ⟨zv,H2,I2,r2,q2⟩
  exact Uq I2 hN hi C r2 (λs3 I3=>#[_,H2,I3,q2]) hf
 rcases l with⟨g,hm⟩ | ⟨g,c,hc,Ο⟩
 ·exact px I.ok.kind g R hm go
 ·rcases g with g | g
  ·exact uk I.ok.kind g hc Ο go
  ·rcases C with k | k
   ·let:X.env.scope.names.lookup x=!.free:=g
    ext
   ·let:X.env.scope.names.lookup x=!.free:=g
    ext
def AAR(to B te:TE)(g:V->V->Hp->VK->Prop)(A:TIp)(m:TSet):TS:=λD s H=>to s H λo C=>B s C λi E=>g o i E λx G=>te s G λy I=>A x y I λz J=>m o i z J λL=>D.nx s L
def PGet(X:Cx)(t:V->V->Hp->VK->Prop):Prop:=
 ∀(g:¬(AW×Obj)) (s:AM) (m:St) (H:Hp) (o i:V) (B C:AH) (Q:VK),Inv X g m H s->RelV o B->RelV i C->t o i H Q ->
  Ac (AZ X.prog X.w) X.A (Lk B C) (EP X g m Q) X.xe s
theorem sH(ho:PE X o to)(hi:PE X i Q)(R:PGet X C)(S:PE X e te)(T:PIp X op G)(U:PSet X E)
  (Y:autoParam (∀g m new,augStore i g m new=(do Pj [new,g,m] (zP g m new);release [new,g,m] [];pure .next)) yq8q):PS X (.AugAssign (.Subscript o i tpos) op e pos) (AAR to Q te C G E):=by
 intro B s A H D I h;refine wpAny_AugAssign_SubscriptAny (thn (ho B s A H _ I h) ?_) Y;rintro g Z ⟨L,H1,I1,N,q1⟩
 refine thn (hi B Z A H1 _ I1 q1) ?_;rintro m s2 ⟨O,H2,I2,P,q2⟩
 refine thn (R B s2 A H2 L O g m _ I2 N P q2) ?_;rintro J s3 ⟨x3,H3,I3,r3,q3⟩
 refine thn (S B s3 A H3 _ I3 q3) ?_;rintro v s4 ⟨x4,H4,I4,r4,q4⟩
 refine thn (T B s4 A H4 x3 x4 J v _ I4 r3 r4 q4) ?_;rintro new s5 ⟨x5,H5,I5,r5,q5⟩
 exact thn (U B s5 A H5 L O x5 g m new _ I5 N P r5 q5) (by rintro _ s6 ⟨H6,I6,q6⟩;exact #[A,H6,I6,q6])
def ipI(f:Int->Int->Int):TIp:=λx y H Q=>∃i j,x=.int i/\y=.int j/\Q (.int (f i j)) H
theorem yI:PIp X .Add (ipI λi j=>i+j):=by
 intro B s C H x y v u Q I g m h;let#[i,j,o,A,q]:=h;subst o;subst A;let#[t,rfl]:=g;let#[E,rfl]:=m;exact iadd_int #[.int _,H,I.tok _,#[_,rfl],q]
def wQ(c:TT)(B:TS):TS:=λD g H=>∃W:Nat->St->Hp->Prop,(∃m,W m g H)/\∀m g H,W m g H ->
 c g H λb o=>if b=true then ∃N:St->Hp->Prop,(∀i s,N i s->∃A,A < m/\W A i s)/\B { D with nx:=N,ct:=N,bk:=D.nx } g o else D.nx g o
theorem mR(P:X7 (AZ X.prog X.w) X.A X.env X.xe)(Y:PT X c tc)(hb:PSs X body Z):PS X (.While c body [] pos) (wQ tc Z):=by
 intro E s σ H D I h;let#[W,#[m0,w0],turn]:=h;refine wpAny_While (codeAny_whileLoop (λn s'=>∃m Q,Inv X E m Q s'/\W n m Q) ?_ m0 #[σ,H,I,w0]);rintro n s1 ⟨i,R,I1,w1⟩;refine Gj P (thn (Y E s1 i R _ I1 (turn n i R w1)) ?_);rintro b s2 ⟨S,T,B⟩
 cases b with
 | true=>
  let#[N,U,B]:=B;rw[qX rfl];refine Gj P (thn (hb E s2 i S _ T B) λf s3 C=>?_)
  cases f with
  | next=>
   let#[g,o,G,J]:=C;let#[L,hm,O]:=U g o J;exact#[L,hm,g,o,G,O]
  | cont=>
   let#[g,o,G,J]:=C;let#[L,hm,O]:=U g o J;exact#[L,hm,g,o,G,O]
  | brk=>exact C
  | ret v=>exact C
 | false=>
  rw[qY AQ];exact K9 #[i,S,T,B]
end
structure It where
 go:Nat->Hp->Prop
 yld:Nat->Hp->V->Hp->Prop
 stop:Nat->Hp->Prop
def RT(X:Cx)(g:¬(AW×Obj))(H:Hp)(b:AW):Prop:=
 H b=none/\b≠X.env.locals/\b∉X.fs/\(b∈X.ex∨X.s₀.heap.objs.size<=b)/\(∀x c,X.env.cells.lookup x=!c->c≠b)/\∀p∈X.pn++g,p.1≠b
theorem Inv.fpOk(I:Inv X g A H s)(hb:s.heap.objs.size<=b)(i:m b=none):RT X g m b:=by
 refine#[i,Dk (AS I.lt hb),I.nofs hb,.inr (Ab I.sz hb),λx c e z=>?_,λp o z=>?_]
 ·let#[v,q]:=I.cell x c e
  exact zX (AS q.lt (by ext)) (Dm _)
 ·exact zX (AS (AX (I.pin p o).1) (by ext)) (Dm _)
structure ZO(P:BP)(w:Bx)(K:AD)(tg:Expr)(J:It)(fp:¬AW)(it:AW)(tn:Nat->Cb->Prop):Prop where
 mem:it∈fp
 obj:∀i h,tn i h->∀b∈fp,∃o,h.get? b=!o/\∀v,o.data≠.cell v
 keep:∀i h h',tn i h->(∀b∈fp,∀o,h.get? b=!o->h'.get? b=!o)->tn i h'
 item:∀(X:Cx),X.prog=P->X.w=w->X.K=K->X.calm->∀(i:Nat) (ζ:¬(AW×Obj)) (s:AM) (σ:St) (H:Hp) (E:AH->AM->Prop),Inv X ζ σ H s->(∀b∈fp,RT X ζ H b)->tn i s.heap->J.go i H ->
  Ac (AZ P w) X.A (LA (.ref it)) (λr s1=>∃u,r=!u /\
   Ac (AZ P w) X.A (QD tg (.ref it) u) (λz s2=>∃x H',Inv X ζ σ H' s2/\RelV x u/\J.yld i H x H'/\tn (i+1) s2.heap/\∀b∈fp,H' b=none) E s1) E s
 done:∀(X:Cx),X.prog=P->X.w=w->X.K=K->X.calm->∀(i:Nat) (ζ:¬(AW×Obj)) (s:AM) (σ:St) (H:Hp) (E:AH->AM->Prop),Inv X ζ σ H s->(∀b∈fp,RT X ζ H b)->tn i s.heap->J.stop i H ->
  Ac (AZ P w) X.A (LA (.ref it)) (λr s1=>r=none/\Inv X ζ σ H s1) E s
 self:∀(A:Bq) (i:Nat) (s:AM) (Q:AH->AM->Prop) (E:AH->AM->Prop),tn i s.heap->Q (.ref it) s->Ac (AZ P w) A (NX (.ref it)) Q E s
abbrev TI:=St->Hp->(It->Hp->Prop)->Prop
def PIE(X:Cx)(m:¬(AW×Obj))(B:St)(tg:Expr)(R:It->Hp->Prop)(g:AH)(o:AM):Prop:=
 ∃(it:AW) (s:¬AW) (A:Nat->Cb->Prop) (J:It) (i:Hp),g=.ref it/\Inv X m B i o/\ZO X.prog X.w X.K tg J s it A/\A 0 o.heap/\(∀b∈s,RT X m i b)/\R J i
def PI(X:Cx)(tg iter:Expr)(m:TI):Prop:=
 ∀(i:¬(AW×Obj)) (s:AM) (g:St) (H:Hp) (R:It->Hp->Prop),Inv X i g H s->m g H R ->
  Ac (AZ X.prog X.w) X.A (Bz iter X.env) (λv o=>Ac (AZ X.prog X.w) X.A (NX v) (PIE X i g tg R) X.xe o) X.xe s
theorem bB(ho:s.heap.get? it=!o)(i:o.cls=.type n)(m:o.data=.fields vs)
  (B:["enumerate", "zip", "dict_itemiterator", "dict_reverseitemiterator", "odict_iterator", "itertools.zip_longest", "itertools.pairwise"].contains n=false) (g:Q () s):Ac M A (QD tg (.ref it) u) Q E s:=by
 unfold QD
 cases tg <;> first
  | exact AC g
  | (cases u <;> first
    | exact AC g
    | (refine AA (vQ ho ?_)
       rw[i,m];show Ac M A (if (["enumerate", "zip", "dict_itemiterator", "dict_reverseitemiterator", "odict_iterator", "itertools.zip_longest", "itertools.pairwise"].contains n&&vs[0]?==!bw _) then _ else _) Q E s;rw[qY (by intro h;rw[B,Bool.false_and]at h;cases h)]
       exact AC g))
def Itl(K:AD)(a:AW):It:=
 #[λi H=>∃g x,SqL K H a g/\g[i]?=!x,λi H x m=>m=H/\∀g,SqL K H a g->g[i]?=!x,λi H=>∃g,SqL K H a g/\-g<=i]
def Itt(K:AD)(a:AW):It:=
 #[λi H=>∃g x,SqT K H a g/\g[i]?=!x,λi H x m=>m=H/\∀g,SqT K H a g->g[i]?=!x,λi H=>∃g,SqT K H a g/\-g<=i]
def Itr(lo:Int)(n:Nat):It:=#[λi z=>i < n,λi H x g=>g=H/\x=.int (lo+i),λi z=>n<=i]
theorem iP{P}{w}{K}{tg}(a it:AW):ZO P w K tg (Itl K a) [it] it (λi h=>h.IsListIter it a i) where
 mem:=by simp
 obj:=λi h st b hb=>by
  let e:b=it:=by simpa using hb
  subst e;let#[o,e,c,d]:=st
  ext
 keep:=λi h m st k=>st.at λo e=>k it ∅ o e
 item:=by
  intro X C hw G U i Y s Z H E I A st J;subst C hw G;let#[xs,x,B,L]:=J;let#[tx,N,p,hz]:=I.list B;let#[u,hu,ru]:=N.get L;let#[O,Q,f2,R,S,T]:=A it ∅
  refine wpAny_pyNext_list_item st p.isList (x:=u) (by ext) λm g sb=>?_
  let I1:Inv X Y Z H { s with heap:=m }:=I.turned (t':=s.toks) (λb o hb e=>(sb.2 b hb).trans e) O Q R S T;let#[o,e,c,d]:=id g;exact#[u,rfl,bB (s:={ s with heap:=m }) e c d (by rfl) #[x,H,I1,ru,#[rfl,λys hy=>by rw[I.list_inj hy B];exact L],g,λb hb=>(A b hb).1]]
 done:=by
  intro X C hw G U i Y s Z H E I A st J;subst C hw G;let#[xs,B,L]:=J;let#[tx,N,p,hz]:=I.list B;let#[O,Q,f2,R,S,T]:=A it ∅;let hl:=-N
  exact wpAny_pyNext_list_end (I.ok.hd U) st p.isList (by simp;ext) λm eb=>#[rfl,I.turned (t':=s.toks) (λb o hb e=>eb b o hb e) O Q R S T]
 self:=λz z z z z st h=>wpAny_pyIter_listiter st h
theorem cf{P}{w}{K}{tg}(a it:AW):ZO P w K tg (Itt K a) [it] it (λi h=>h.IsTupleIter it a i) where
 mem:=by simp
 obj:=λi h st b hb=>by
  let e:b=it:=by simpa using hb
  subst e;let#[o,e,c,d]:=st
  grind
 keep:=λi h m st k=>st.at λo e=>k it ∅ o e
 item:=by
  intro X C hw G Y i Z s σ H E I A st J;subst C hw G;let#[xs,x,B,L]:=J;let#[N,O,p,hz]:=I.tuple B;let#[u,hu,ru]:=O.get L;let#[Q,R,f2,S,T,U]:=A it ∅
  refine wpAny_pyNext_tuple_item st (show s.heap.IsTuple a N.toArray from p) (x:=u) (by grind) λm g sb=>?_
  let I1:Inv X Z σ H { s with heap:=m }:=I.turned (t':=s.toks) (λb o hb e=>(sb.2 b hb).trans e) Q R S T U;let#[o,e,c,d]:=id g;exact#[u,rfl,bB (s:={ s with heap:=m }) e c d (by rfl) #[x,H,I1,ru,#[rfl,λys hy=>by rw[I.tuple_inj hy B];exact L],g,λb hb=>(A b hb).1]]
 done:=by
  intro X C hw G Y i Z s σ H E I A st J;subst C hw G;let#[xs,B,L]:=J;let#[N,O,p,hz]:=I.tuple B;let#[Q,R,f2,S,T,U]:=A it ∅;let hl:=-O
  exact wpAny_pyNext_tuple_end (I.ok.hd Y) st (show s.heap.IsTuple a N.toArray from p) (by simp;lia) λm eb=>#[rfl,I.turned (t':=s.toks) (λb o hb e=>eb b o hb e) Q R S T U]
 self:=λz z z z z st h=>wpAny_pyIter_tupleiter st h
theorem cg{P}{w}{K}{tg}(it:AW)(lo:Int)(n:Nat):ZO P w K tg (Itr lo n) [it] it (λi h=>IsRangeIter h it (lo+(i:Nat) * 1) ((n:Int) - (i:Nat)) 1) where
 mem:=by simp
 obj:=λi h st b hb=>by
  ext
 keep:=λi h m st k=>k it ∅ _ st
 item:=by
  intro X B hw C G i S s T H E I A st J;subst B hw C;let#[L,N,Y,O,Q,R]:=A it ∅;let W:=Walks.range (prog:=X.prog) (w:=X.w) (I.ok.hd G) it lo 1 n
  refine W.item i s _ _ J st λv m U Z g kk=>?_
  let#[t,rfl]:=Z;let I1:Inv X S T H { s with heap:=m,toks:=U }:=I.turned (λb o hb e=>kk b o (by simpa using hb) e) L N O Q R;refine#[_,rfl,bB (s:={ s with heap:=m,toks:=U }) (n:="range_iterator") g rfl rfl (by rfl) #[.int (lo+i),H,I1,#[t,?_],#[rfl,rfl],g,λb hb=>(A b hb).1]]
  ext
 done:=by
  intro X B hw C G i S s T H E I A st J;subst B hw C;let#[L,N,Y,O,Q,R]:=A it ∅
  exact wpAny_pyNext_range_end (I.ok.hd G) st (by let:n<=i:=J;lia) λm eb=>#[rfl,I.turned (t':=s.toks) (λb o hb e=>eb b o hb e) L N O Q R]
 self:=λz z z z z st h=>wpAny_pyIter_rangeiter st h
section
variable{X:Cx}
def ABE(K:AD)(i:TE):TI:=λm H R=>i m H λx g=>∃a,x=.ref a/\(∃o,SqL K g a o)/\R (Itl K a) g
def iTup(K:AD)(i:TE):TI:=λm H R=>i m H λx g=>∃a,x=.ref a/\(∃o,SqT K g a o)/\R (Itt K a) g
theorem sL{l}{m}(A:PE X l m):PI X tg l (ABE X.K m):=by
 intro B s C H R I h
 refine thn (A B s C H _ I h) ?_;rintro v g ⟨x,E,i,G,J⟩
 let#[a,e,#[N,L],q]:=J;subst e;cases G;let#[O,P,p,Q]:=i.list L;refine Jf p.isList ?_;refine#[g.heap.objs.size,[g.heap.objs.size],_,_,E,rfl,i.kept (t':=g.toks) λb o e=>AI _ e,iP a _,#[_,AT _ rfl,rfl,rfl],λb hb=>?_,q]
 let e:b=g.heap.objs.size:=by simpa using hb
 subst e;exact i.fpOk (AO _) (i.hok.fresh (AO _))
theorem xA{l}{m}(A:PE X l m):PI X tg l (iTup X.K m):=by
 intro B s C H R I h
 refine thn (A B s C H _ I h) ?_;rintro v g ⟨x,E,i,G,J⟩
 let#[a,e,#[O,L],q]:=J;subst e;cases G;let#[N,P,p,Q]:=i.tuple L;refine MQ (show g.heap.IsTuple a N.toArray from p) ?_;refine#[g.heap.objs.size,[g.heap.objs.size],_,_,E,rfl,i.kept (t':=g.toks) λb o e=>AI _ e,cf a _,#[_,AT _ rfl,rfl,rfl],λb hb=>?_,q]
 let e:b=g.heap.objs.size:=by simpa using hb
 subst e;exact i.fpOk (AO _) (i.hok.fresh (AO _))
theorem aO{g}{i}{H}{s}{R}{E}{lo hi}{t u v}{m}(I:Inv X g i H s)(C:(unop% Neg.neg (2 ^ 62))<=lo)(G:lo < 2 ^ 62)(J:(unop% Neg.neg (2 ^ 62))<=hi)(L:hi < 2 ^ 62)
  (q:R (Itr lo (hi - lo).toNat) H):Ac (AZ X.prog X.w) X.A (NX (.ref s.heap.objs.size)) (PIE X g i tg R) E { s with heap:=s.heap.push { cls:=.type "range",data:=.fields [.int lo t,.int hi u,.int 1 v].toArray },toks:=m }:=by
 refine wpAny_pyIter_range (IsRange.new ..) (small_one C G J L) ?_
 let B:Inv X g i H { s with heap:=s.heap.push { cls:=.type "range",data:=.fields [.int lo t,.int hi u,.int 1 v].toArray },toks:=m }:=I.kept λb o e=>AI _ e
 refine#[(s.heap.push { cls:=.type "range",data:=.fields [.int lo t,.int hi u,.int 1 v].toArray }).objs.size,[(s.heap.push { cls:=.type "range",data:=.fields [.int lo t,.int hi u,.int 1 v].toArray }).objs.size],_,_,H,rfl,
  B.kept (t':=m) λb o e=>AI _ e,cg _ lo (hi - lo).toNat,?_,λb hb=>?_,q]
 ·let N:lo+((0:Nat):Int) * 1=lo:=by simp
  let O:(((hi - lo).toNat:Nat):Int) - ((0:Nat):Int)=Builtin.Range.rangeSize lo hi 1:=by rw[rangeSize_one];split <;> grind
  show IsRangeIter _ _ (lo+((0:Nat):Int) * 1) ((((hi - lo).toNat:Nat):Int) - ((0:Nat):Int)) 1;rw[N,O];exact AT _ rfl
 ·let e:b=(s.heap.push { cls:=.type "range",data:=.fields [.int lo t,.int hi u,.int 1 v].toArray }).objs.size:=by simpa using hb
  subst e;exact B.fpOk (AO _) (B.hok.fresh (AO _))
def ABC(g:TA):TI:=λi H R=>g i H λm o=>∃j:Int,m=[.int j]/\(unop% Neg.neg (2 ^ 62))<=j/\j < 2 ^ 62/\R (Itr 0 j.toNat) o
def ABB(g:TA):TI:=λm H R=>g m H λo s=>∃i j:Int,o=[.int i,.int j]/\((unop% Neg.neg (2 ^ 62))<=i/\i < 2 ^ 62/\(unop% Neg.neg (2 ^ 62))<=j/\j < 2 ^ 62)/\R (Itr i (j - i).toNat) s
theorem i6{a}{i}{p pos}(m:Gl X "range") (hm:X.mg "range" = none) (o:PA X [a] i) (A:↑(AR [a] X.env=[(false,Bz a X.env)])):PI X tg (.Call (.Name "range" p) [a] [] pos) (ABC i):=by
 intro B s C H R I h;refine Call_ (Mt I m hm boot_range (Dp (thn (o pos B s C H _ I h) ?_) A rfl));rintro N O ⟨P,Q,E,G,g⟩;let#[j,e,g,J,q]:=g;subst e
 cases G with
 | cons r L=>
  cases L;let#[t,rfl]:=r;exact call_range_1 (aO E (by ext) (by ext) g J (by simpa using q))
theorem i5(A:Gl X "range") (hm:X.mg "range" = none) (B:PA X [a,b] C) (E:↑(AR [a,b] X.env=[(false,Bz a X.env),(false,Bz b X.env)])) (o:↑(AR [b] X.env=[(false,Bz b X.env)])) :
  PI X tg (.Call (.Name "range" p) [a,b] [] pos) (ABB C):=by
 intro G s J H R I h;refine Call_ (Mt I A hm boot_range (Dp (thn (B pos G s J H _ I h) ?_) (by rw[E,o]) (by rw[o];rfl)));rintro T U ⟨Y,Z,L,N,g⟩;let#[i,j,e,#[g,O,P,Q],q]:=g;subst e
 cases N with
 | cons r m=>
  cases m with
  | cons S m=>
   cases m;let#[t,rfl]:=r;let#[t',rfl]:=S;exact call_range_2 (aO L g O P Q q)
def tFor(E:TI)(g:TG)(G:TS):TS:=λD o H=>E o H λJ I=>∃W:Nat->Nat->St->Hp->Prop,(∃m,W 0 m o I)/\∀i m o H,W i m o H ->
 (J.stop i H/\D.nx o H)∨(J.go i H/\∃N:St->Hp->Prop,(∀s A,N s A->∃C,C < m/\W (i+1) C s A)/\∀x A,J.yld i H x A->g x o A λB L=>G { D with nx:=N,ct:=N,bk:=D.nx } B L)
noncomputable def VP(g:¬AW)(h:Cb):¬(AW×Obj):=g.filterMap λb=>(h.get? b).map λo=>(b,o)
theorem Mq(hb:b∈g)(e:h.get? b=!o):(b,o)∈VP g h:=j7.mpr #[b,hb,by rw[e];rfl]
theorem jB(g:p∈VP i h):p.1∈i/\h.get? p.1=!p.2:=by
 let#[b,hb,e]:=j7.mp g
 cases q:h.get? b with
 | none=>ext
 | some o=>
  grind
theorem Inv.pinned(I:Inv X g m H s)(hf:∀b∈i,RT X g H b)(ho:∀b∈i,∃o,s.heap.get? b=!o/\∀v,o.data≠.cell v):Inv X (g++VP i s.heap) m H s:=
 I.pins_of λp A=>(BO.mp A).elim (λz=>I.pin p (Bt _ z)) λz=>by
  let#[hb,e]:=jB z;let#[B,C,E,_]:=hf p.1 hb
  grind
theorem Inv.unpinned(I:Inv X (g++pl) i H s):Inv X g i H s:=I.pins_of λp m=>I.pin p (Bt _ (Js _ m))
theorem w5(R:X7 (AZ X.prog X.w) X.A X.env X.xe)(hc:X.calm)(hi:PI X tg iter wi)(hg:PG X tg g)(hb:PSs X body tb)
  (hs:autoParam (∀x,EE iter X.env x=pure x) yq3q):PS X (.For tg iter body [] pos) (tFor wi g tb):=by
 intro P s σ H D I h;refine wpAny_For (thn (hi P s σ H _ I h) λv s1 h1=>thn h1 λitv s2 h2=>?_) hs;let#[it,S,tn,J,H2,e,I2,T,A',f2,W,#[m0,w0],turn]:=h2;subst e
 let ϩ:∀{H':Hp},(∀b∈S,H' b=none)->∀b∈S,RT X P H' b:=λhn b hb=>#[hn b hb,(f2 b hb).2]
 refine codeAny_forLoop_any (λn s'=>∃i C H',Inv X P C H' s'/\tn i s'.heap/\(∀b∈S,H' b=none)/\W i n C H') ?_ m0 #[0,σ,H2,I2,A',λb hb=>(f2 b hb).1,w0];rintro n s3 ⟨i,E,H3,I3,Ϥ,U,w3⟩
 rcases turn i n E H3 w3 with⟨Y,qn⟩ | ⟨go,N,hN,step⟩
 ·refine Gj R (thn (T.done X rfl rfl rfl hc i P s3 E H3 X.xe I3 (ϩ U) Ϥ Y) ?_);rintro r s4 ⟨hr,I4⟩
  subst hr;exact K9 #[E,H3,I4,qn]
 ·refine Gj R (thn (T.item X rfl rfl rfl hc i P s3 E H3 X.xe I3 (ϩ U) Ϥ go) ?_);rintro r s4 ⟨u,hr,h4⟩
  subst hr;refine Gj R (thn h4 ?_);rintro _ s5 ⟨x,H5,I5,r5,y5,Q,fr5⟩;let I5':=I5.pinned (ϩ fr5) (T.obj _ _ Q);refine Gj R (thn (hg _ s5 E H5 x u _ I5' r5 (step x H5 y5)) ?_);rintro _ s6 ⟨σ6,H6,I6,q6⟩;refine Gj R (thn (hb _ s6 σ6 H6 _ I6 q6) λf s7 O=>?_)
  let again:∀{B:St} {G:Hp},Inv X (P++VP S s5.heap) B G s7->N B G->∃m,m < n/\∃i C H',Inv X P C H' s7/\tn i s7.heap/\(∀b∈S,H' b=none)/\W i m C H':=λ{B G} L Z=>by
   let#[m',hm,w7]:=hN B G Z;refine#[m',hm,i+1,B,G,L.unpinned,T.keep _ _ _ Q λb hb o e=>(L.pin (b,o) (Bt _ (Bt _ (Mq hb e)))).1,λb hb=>?_,w7];let#[o,e,d]:=T.obj _ _ Q b hb;exact(L.pin (b,o) (Bt _ (Bt _ (Mq hb e)))).2.1
  cases f with
  | next=>let#[B,G,L,Z]:=O;exact again L Z
  | cont=>let#[B,G,L,Z]:=O;exact again L Z
  | brk=>let#[B,G,L,O]:=O;exact#[B,G,L.unpinned,O]
  | ret v=>let#[x7,B,G,L,r7,O]:=O;exact#[x7,B,G,L.unpinned,r7,O]
end
abbrev R2:=V->V->Hp->VK->Prop
def OpR(X:Cx)(f:AH->AH->Sem AH)(r:R2):Prop:=
 ∀(g:¬(AW×Obj)) (s:AM) (i:St) (H:Hp) (x y:V) (v u:AH) (Q:VK),Inv X g i H s->RelV x v->RelV y u->r x y H Q ->
  Ac (AZ X.prog X.w) X.A (f v u) (EP X g i Q) X.xe s
def UnR(X:Cx)(f:AH->Sem AH)(r:V->Hp->VK->Prop):Prop:=
 ∀(g:¬(AW×Obj)) (s:AM) (i:St) (H:Hp) (x:V) (v:AH) (Q:VK),Inv X g i H s->RelV x v->r x H Q ->
  Ac (AZ X.prog X.w) X.A (f v) (EP X g i Q) X.xe s
def Jb(X:Cx)(f:AH)(r:¬V->Hp->VK->Prop):Prop:=
 ∀(g:¬(AW×Obj)) (s:AM) (i:St) (H:Hp) (m:¬V) (o:¬AH) (Q:VK),Inv X g i H s->Bs m o->r m H Q ->
  Ac (AZ X.prog X.w) X.A (call f o) (EP X g i Q) X.xe s
def TruR(X:Cx)(r:V->Hp->(Bool->Hp->Prop)->Prop):Prop:=
 ∀(g:¬(AW×Obj)) (s:AM) (i:St) (H:Hp) (x:V) (v:AH) (Q:Bool->Hp->Prop),Inv X g i H s->RelV x v->r x H Q ->
  Ac (AZ X.prog X.w) X.A (vT v) (TP X g i Q) X.xe s
def tOp(r:R2)(i m:TE):TE:=λg H Q=>i g H λx o=>m g o λy s=>r x y s Q
def tUn(r:V->Hp->VK->Prop)(g:TE):TE:=λi H Q=>g i H λx m=>r x m Q
def rI(C:Int->Int->Prop)(g:Int->Int->V):R2:=λx y H Q=>∃i j,x=.int i/\y=.int j/\C i j/\Q (g i j) H
def rI0(g:Int->Int->V):R2:=λx y H Q=>∃i j,x=.int i/\y=.int j/\Q (g i j) H
def rU(g:Int->V):V->Hp->VK->Prop:=λx H Q=>∃i,x=.int i/\Q (g i) H
section
variable{X:Cx}{a b:Expr}{ta tb:TE}{pos:Pos}
theorem zC(G:PE X a ta)(hb:PE X b tb){B:¬(AW×Obj)}{s:AM}{g:St}{H:Hp}{R:V->V->Hp->Prop}(I:Inv X B g H s)
  (h:ta g H λx E=>tb g E λy i=>R x y i) {Q:AH->AM->Prop} {f:AH->AH->Sem AH}
  (hf:∀v u C x y i,Inv X B g i C->RelV x v->RelV y u->R x y i->Ac (AZ X.prog X.w) X.A (f v u) Q X.xe C) :
  Ac (AZ X.prog X.w) X.A (Bz a X.env) (λv m=>Ac (AZ X.prog X.w) X.A (Bz b X.env) (λu o=>Ac (AZ X.prog X.w) X.A (f v u) Q X.xe o) X.xe m) X.xe s:=by
 refine thn (G B s g H _ I h) ?_;rintro v J ⟨x,E,L,N,O⟩
 refine thn (hb B J g E _ L O) ?_;rintro u C ⟨y,i,P,S,T⟩
 exact hf v u C x y i P N S T
theorem AAm{op:Operator}{r:R2}(ho:OpR X (Cg op) r)(g:PE X a ta)(hb:PE X b tb):PE X (.BinOp a op b pos) (tOp r ta tb):=by
 intro i s m H Q I h;exact wpAny_BinOp (zC g hb I h λv u o x y A B C E q=>ho i o m A x y v u Q B C E q)
theorem AAl(ho:UnR X (unaryOp op) r)(m:PE X a ta):PE X (.UnaryOp op a pos) (tUn r ta):=by
 intro g s i H Q I h;exact UnaryOp_ (thn (m g s i H _ I h) (by rintro v o ⟨x,A,B,C,E⟩;exact ho g o i A x v Q B C E))
theorem opI{f:AH->AH->Sem AH}{C:Int->Int->Prop}{g:Int->Int->Int}
  (rule:∀(i j:Int) (t u:Tok) (s:AM) (Q:AH->AM->Prop) (E:AH->AM->Prop),C i j->Q (.int (g i j) s.toks) { s with toks:=s.toks+1 }->Ac (AZ X.prog X.w) X.A (f (.int i t) (.int j u)) Q E s) :
  OpR X f (rI C λi j=>.int (g i j)):=by
 intro J s L H x y v u Q I m o h;let#[i,j,rfl,rfl,B,q]:=h;let#[t,rfl]:=m;let#[G,rfl]:=o;exact rule i j t G s _ _ B #[.int (g i j),H,I.tok _,#[_,rfl],q]
theorem si{f:AH->AH->Sem AH}{g:Int->Int->Int}
  (rule:∀(i j:Int) (t u:Tok) (s:AM) (Q:AH->AM->Prop) (E:AH->AM->Prop),Q (.int (g i j) s.toks) { s with toks:=s.toks+1 }->Ac (AZ X.prog X.w) X.A (f (.int i t) (.int j u)) Q E s) :
  OpR X f (rI0 λi j=>.int (g i j)):=by
 intro C s G H x y v u Q I m o h;let#[i,j,rfl,rfl,q]:=h;let#[t,rfl]:=m;let#[B,rfl]:=o;exact rule i j t B s _ _ #[.int (g i j),H,I.tok _,#[_,rfl],q]
theorem sj{f:AH->AH->Sem AH}{g:Int->Int->Bool}
  (rule:∀(i j:Int) (t u:Tok) (s:AM) (Q:AH->AM->Prop) (E:AH->AM->Prop),Q (.bool (g i j)) s->Ac (AZ X.prog X.w) X.A (f (.int i t) (.int j u)) Q E s) :
  OpR X f (rI0 λi j=>.bl (g i j)):=by
 intro C s G H x y v u Q I m o h;let#[i,j,rfl,rfl,q]:=h;let#[t,rfl]:=m;let#[B,rfl]:=o;exact rule i j t B s _ _ #[.bl (g i j),H,I,rfl,q]
noncomputable def pV(i j:Int):Prop:=0 < j/\j < 1073741824
def uj(i j:Int):Prop:=0<=j/\j<=1000000/\i.natAbs < 2 ^ 64
def bf(i j:Int):Prop:=((unop% Neg.neg (2 ^ 64)) < i/\i < 2 ^ 64)∨((unop% Neg.neg (2 ^ 64)) < j/\j < 2 ^ 64)
theorem bf.ok(h:bf i j):IntMulOk i j:=by
 rcases h with⟨g,m⟩ | ⟨g,m⟩
 ·exact .of_left (intBits_le_64 g m)
 ·exact .of_right (intBits_le_64 g m)
theorem cb(k:Nat):(0:Int)<=2 ^ k:=by
 lia
theorem xa:OpR X (Cg .Add) (rI0 λi j=>.int (i+j)):=si λz z z z z z z q=>add_int q
theorem xR:OpR X (Cg .Sub) (rI0 λi j=>.int (i - j)):=si λz z z z z z z q=>sub_int q
theorem xU:OpR X (Cg .Mult) (rI bf λi j=>.int (i * j)):=opI λz z z z z z z g q=>mul_int q g.ok
theorem sf:OpR X (Cg .FloorDiv) (rI pV λi j=>.int (i / j)):=opI λi j z z z z z g q=>by
 let m:(0:Int) < j:=g.1;let o:j < 1073741824:=g.2;exact floordiv_int ∅ (by rw[X9 i ∅];exact q) (.inl (PyProof.noPylong_small (by grind)))
theorem xV:OpR X (Cg .Mod) (rI (λz j=>0 < j) λi j=>.int (i % j)):=opI λi j z z z z z g q=>by
 let m:(0:Int) < j:=g;exact mod_int' ∅ (by rw[Int.fmod_eq_emod_of_nonneg i ∅];exact q)
theorem xT:OpR X (Cg .LShift) (rI uj λi j=>.int (i * 2 ^ j.toNat)):=opI λz z z z z z z g q=>lshift_int_small g.1 g.2.1 g.2.2 q
theorem xS:OpR X (Cg .RShift) (rI (λz j=>0<=j) λi j=>.int (i / 2 ^ j.toNat)):=opI λi j z z z z z g q=>
 rshift_int g (by rw[X9 i (cb _)];exact q)
theorem xZ:OpR X (Cg .BitAnd) (rI0 λi j=>.int (BR i j)):=si λz z z z z z z q=>and_int q
theorem xQ:OpR X (Cg .BitXor) (rI0 λi j=>.int (Co i j)):=si λz z z z z z z q=>xor_int q
theorem unI{f:AH->Sem AH}{g:Int->Int}
  (rule:∀(i:Int) (t:Tok) (s:AM) (Q:AH->AM->Prop) (E:AH->AM->Prop),Q (.int (g i) s.toks) { s with toks:=s.toks+1 }->Ac (AZ X.prog X.w) X.A (f (.int i t)) Q E s) :
  UnR X f (rU λi=>.int (g i)):=by
 intro o s B H x v Q I m h;let#[i,rfl,q]:=h;let#[t,rfl]:=m;exact rule i t s _ _ #[.int (g i),H,I.tok _,#[_,rfl],q]
theorem wL:UnR X (unaryOp .USub) (rU λi=>.int ((unop% Neg.neg i))):=unI λz z z z z q=>neg_int q
end
section
variable{X:Cx}{a b c:Expr}{ta tb tc:TE}{pos:Pos}
theorem oY(I:Inv X g i H s)(q:Q (.bl k) H)(e:k=m):EP X g i Q (.bool m) s:=by
 subst e;exact#[.bl k,H,I,rfl,q]
theorem AAp:OpR X (BY .Lt) (rI0 λi j=>.bl (decide (i < j))):=sj λz z z z z z z q=>lt_int q
theorem AAq:OpR X (BY .LtE) (rI0 λi j=>.bl (decide (i<=j))):=sj λz z z z z z z q=>le_int q
theorem AAr:OpR X (BY .Gt) (rI0 λi j=>.bl (decide (j < i))):=sj λz z z z z z z q=>gt_int q
theorem AAs:OpR X (BY .GtE) (rI0 λi j=>.bl (decide (j<=i))):=sj λz z z z z z z q=>ge_int q
theorem xX:OpR X (BY .Is) (λx y H Q=>y=.non/\Q (.bl (decide (x=.non))) H):=by
 intro m s o H x y v u Q I g i h;let#[rfl,q]:=h;cases i;refine is_none_gen (oY I q ?_)
 cases x <;> first
  | (cases g;rfl)
  | (let#[t,rfl]:=g;rfl)
theorem se:OpR X (BY .IsNot) (λx y H Q=>y=.non/\Q (.bl (not (decide (x=.non)))) H):=by
 intro m s o H x y v u Q I g i h;let#[rfl,q]:=h;cases i;refine isnot_none_gen (oY I q ?_)
 cases x <;> first
  | (cases g;rfl)
  | (let#[t,rfl]:=g;rfl)
theorem OpR.or(h:OpR X f r)(h':OpR X f A):OpR X f (λx y H Q=>r x y H Q∨A x y H Q):=by
 intro g s i H x y v u Q I m o q
 rcases q with q | q
 ·exact h g s i H x y v u Q I m o q
 ·exact h' g s i H x y v u Q I m o q
theorem CC(b:Expr)(h:↥(op≠.In))(m:↥(op≠.NotIn)):DU op b=false:=by
 let g:(op==CmpOp.In)=false:=by cases op <;> first | rfl | trivial
 let i:(op==CmpOp.NotIn)=false:=by cases op <;> first | rfl | trivial
 cases b <;> simp[DU,g,i]
theorem sW{op:CmpOp}{r:R2}(ho:OpR X (BY op) r)(g:PE X a ta)(hb:PE X b tb)(hm:DU op b=false):PE X (.Compare a [op] [b] pos) (tOp r ta tb):=by
 intro i s m H Q I h;exact wpAny_Compare1 (zC g hb I h λv u o x y A B C E q=>ho i o m A x y v u Q B C E q) hm
def ux(t:TE):TT:=λg H Q=>t g H λx i=>∃k,x=.bl k/\Q k i
theorem fU(ho:OpR X (BY op) r)(m:PE X a ta)(hb:PE X b tb)(hm:DU op b=false):PT X (.Compare a [op] [b] pos) (ux (tOp r ta tb)):=by
 intro g s i H Q I h
 refine pW (thn (m g s i H _ I h) λv o #[x,A,B,C,E]=>thn (hb g o i A _ B E) λu G #[y,J,L,N,O]=>
  thn (ho g G i J x y v u _ L C N O) λc U #[z,P,R,S,k,e,T]=>?_) hm
 subst e;cases S;exact DW #[P,R,T]
def lS(r m:R2)(ta tb tc:TE):TE:=λg H Q=>ta g H λx o=>tb g o λy s=>r x y s λz i=>∃k,z=.bl k /\
 (if k=true then tc g i λA B=>m y A B Q else Q (.bl false) i)
theorem mO(ho:OpR X (BY op) r)(o:OpR X (BY g) G)(J:PE X a ta)(hb:PE X b tb)(L:PE X c tc)
  (hm:autoParam (lastMarks [op,g] [b,c]=false) yq4q):PT X (.Compare a [op,g] [b,c] pos) (ux (lS r G ta tb tc)):=by
 intro i s m H Q I h
 refine isTrue_chain (thn (J i s m H _ I h) λv N #[x,O,P,R,S]=>test_link (thn (hb i N m O _ P S) λu T #[y,U,Y,A,Z]=>
  thn (ho i T m U x y v u _ Y R A Z) ?_)) hm;rintro d s3 ⟨z,B,C,r3,k,e,E⟩
 subst e;cases r3;refine DW ?_
 cases k with
 | false=>
  let#[k',e',q']:=E;cases e';exact ite_ff #[B,C,q']
 | true=>
  refine ite_tt (test_last (thn (L i s3 m B _ C E) λw' s4 #[z',H4,I4,r4,q4]=>thn (o i s4 m H4 y z' u w' _ I4 A r4 q4) ?_));rintro d' s5 ⟨z2,H5,I5,r5,k2,e2,q5⟩;subst e2;cases r5;exact DW #[H5,I5,q5]
def zG(K:AD)(x:V)(H:Hp)(k:Bool):Prop:=
 match x with
 | .non=>k=false
 | .bl b=>k=b
 | .int i=>k=(i != 0)
 | .str y=>-y<=sizeLine/\k=((-y:Int) != 0)
 | .byt y=>y.size<=sizeLine/\k=((y.size:Int) != 0)
 | .ref p=>(∃g,SqL K H p g/\k = not g.isEmpty)∨(∃g,SqT K H p g/\k = not g.isEmpty)∨∃m,H p=!.dK m/\k = not m.isEmpty
 | _=>False
theorem da{g:Type}{i:¬(g×V)}{vs:¬(g×AH)}(r:KV i vs):(not vs.isEmpty) = not i.isEmpty:=by
 cases r <;> rfl
theorem Vo(r:Bs xs g):(not g.toArray.isEmpty) = not xs.isEmpty:=by
 cases r <;> simp
theorem OD:(sizeLine:Nat) < 2 ^ 63:=by rw[pz];decide
theorem wP:TruR X (λx H Q=>∃k,zG X.K x H k/\Q k H):=by
 intro R s S H x v Q I B h;let#[k,e,q]:=h;let T:=OD;let U:sizeLine=16777216:=pz
 cases x with
 | non=>
  cases B;let g:k=false:=e;subst g;exact truthy_none #[H,I,q]
 | bl b=>
  cases B;let g:k=b:=e;subst g;exact DW #[H,I,q]
 | int i=>
  let#[t,rfl]:=B;let g:k=(i != 0):=e;subst g;exact PySem.P.truthy_int #[H,I,q]
 | str y=>
  let#[t,rfl]:=B;obtain⟨L,g⟩:-y<=sizeLine/\k=((-y:Int) != 0):=e;subst g;exact PySem.P.truthy_str ∅ #[H,I.tok _,q]
 | byt y=>
  let#[t,rfl]:=B;obtain⟨L,g⟩:y.size<=sizeLine/\k=((y.size:Int) != 0):=e;subst g;exact PySem.W.truthy_bytes ∅ #[H,I.tok _,q]
 | ref p=>
  cases B
  let g:(∃A,SqL X.K H p A/\k = not A.isEmpty)∨(∃A,SqT X.K H p A/\k = not A.isEmpty)∨∃C,H p=!.dK C/\k = not C.isEmpty:=e
  rcases g with⟨A,E,g⟩ | ⟨A,E,g⟩ | ⟨C,E,g⟩
  ·subst g
   let#[N,r,G,J]:=I.list E;let o:=-r;exact wpAny_truthy_list G.isList (by simp only[Bp];lia) #[H,I.tok _,by rw[Vo r];exact q]
  ·subst g
   let#[N,r,G,J]:=I.tuple E;let o:=-r;exact truthy_tuple G (by simp only[Bp];lia) #[H,I.tok _,by rw[Vo r];exact q]
  ·subst g
   obtain⟨J,O,vs,r,m⟩:-C<=sizeLine/\(p==EI)=false/\∃vs,KV C vs/\s.heap.DictOf (E3 X.prog X.w) p vs:=I.hok p _ E
   let o:-C=-vs:=Fh r;exact wpAny_truthy_dict O m ∅ #[H,I.tok _,by rw[da r];exact q]
 | _=>exact(show False from e).elim
theorem mM(A:PE X a ta)(B:∀g,bz a X.env g=(do let v <-g;bg a.pos;Pj [v] (vT v))) :
  PT X a (λi H Q=>ta i H λx m=>∃k,zG X.K x m k/\Q k m):=by
 intro o s i H Q I h;exact isTrue_plain (thn (A o s i H _ I h) (by rintro v C ⟨x,E,G,J,L⟩;exact wP o C i E x v Q G J L)) (B _)
theorem vals1(r:Bs [x] us):∃u,us=[u]/\RelV x u:=by
 cases r with
 | cons g i=>cases i;exact#[_,rfl,g]
theorem vals2(r:Bs [x,y] us):∃u w',us=[u,w']/\RelV x u/\RelV y w':=by
 cases r with
 | cons g i=>
  cases i with
  | cons m o=>cases o;exact#[_,_,rfl,g,m]
theorem jm(m:X.calm):Jb X (.builtin "max") (λxs H Q=>∃i j,xs=[.int i,.int j]/\Q (.int (if j > i then j else i)) H):=by
 intro o s A H xs B Q I r h;let#[i,j,rfl,q]:=h;let#[u,C,rfl,#[t,rfl],#[E,rfl]]:=vals2 r
 refine max_two_ints (I.ok.hd m) λG J k=>#[_,H,I.kept k,?_,q]
 by_cases g:j > i
 ·rw[qX g,qX g];exact#[_,rfl]
 ·rw[qY g,qY g];exact#[_,rfl]
theorem jl(m:X.calm):Jb X (.builtin "min") (λxs H Q=>∃i j,xs=[.int i,.int j]/\Q (.int (if j < i then j else i)) H):=by
 intro o s A H xs B Q I r h;let#[i,j,rfl,q]:=h;let#[u,C,rfl,#[t,rfl],#[E,rfl]]:=vals2 r
 refine min_two_ints (I.ok.hd m) λG J k=>#[_,H,I.kept k,?_,q]
 by_cases g:j < i
 ·rw[qX g,qX g];exact#[_,rfl]
 ·rw[qY g,qY g];exact#[_,rfl]
end
structure eW(h:Cb)(x dx C:AW)(mA:Str->⇑AH):Prop where
 obj:h.get? x=!Ei C dx
 ns:h.Ns1 dx mA
 ne:dx≠x
set_option tactic.hygienic true in
theorem jG{h:Cb}{i:AW}{m:Str->⇑AH}(n:h.Ns1 i m):∃s,h.get? i=!s/\∀name,NZ name s=!m name:=by
 let#[o,A,H,B,C,E,_,hm]:=n;refine#[o,B,λname=>?_];let e:=hm name;unfold nsFind findBy at e;rw[<-Array.find?_toList]at e;unfold NZ;rw[C];symm;split
 ·ext
 ·rename_i q
  rw[q]at e
  let a:A.toList.any (·.refKey)=false:=by
   rw[kO];intro y G;let#[z,t,g]:=E y (Bk.mp G);simp[SW.refKey,g]
  grind
theorem eW.look{h}{x i C}{m}(I:eW h x i C m):∃g,PySem.W.InstAt h x (Ei C i) C (!g)/\∀name,NZ name g=!m name:=
 let #[g,o,s]:=jG I.ns
 #[g,#[I.obj,rfl,rfl,o],s]
section
variable{prog:BP}{w:Bx}{A:Bq}{E:AH->AM->Prop}{s:AM}{K:AD}{x dx C f:AW}{mA:Str->⇑AH}{name:Str}{v:AH}
theorem tY(X:K.In s.heap)(I:eW s.heap x dx C mA)(i:Ll K C name)(m:QH K C)
  (o:De K (.ref C) name=!none) (B:mA name=!v) (g:hU v) (h:Q v { s with toks:=s.toks+1 }) :
  Ac (AZ prog w) A (getAttr (.ref x) name expr) Q E s:=by
 let#[H,J,G]:=I.look;exact PySem.W.get_value X J (Ou i).1 (PySem.W.findObj_own m o rfl (by rw[G,B])) g h
theorem oJ(X:K.In s.heap)(I:eW s.heap x dx C mA)(g:Ll K C name)
  (hf:De K (.ref C) name=!(!.ref f)) (i:X3 K (.ref f)) (o:mA name=none) (h:Q (.ref f,[.ref x]) s) :
  Ac (AZ prog w) A (jv (.ref x) name pl) Q E s:=by
 let#[m,J,B]:=I.look;exact PySem.W.method_fn X J (Ou g).1 (Ou g).2 hf (beq_iff_eq.mp i) (by show(NZ name m).map (·.isSome)=!false;ext) h
theorem rc(X:K.In s.heap)(I:eW s.heap x dx C mA)
  (H:De K (.ref C) "__setattr__" = !(!.builtin "object.__setattr__")) (L:eZ K C) (N:TH K C name=!none) (O:QH K C)
  (hw:Ze mA P) (hsz:-P<=sizeLine)
  (h:∀h',eW h' x dx C (λy=>if y=name then !v else mA y)->EF dx s.heap h'->Q () { s with heap:=h',toks:=s.toks+2 }) :
  Ac (AZ prog w) A (setAttr (.ref x) name v) Q E s:=by
 let#[Y,J,Z]:=I.look;refine PySem.W.set_plain X J H (PySem.W.osa_open (s:={ s with toks:=s.toks+1 }) (r:=none) X J L N λb=>?_);let#[cd,R,g]:=PySem.W.any_some O;let S:s.heap.get? x=!#[.ref C,!dx,.plain,#[]]:=I.obj;refine AA (AC (AA (AA (wpAny_loadPart S (AA (zm (s:={ s with toks:=s.toks+1 }) (PySem.W.looks_clsIn X R) ?_))))));rw[g];refine AC (a:=!dx) (AA (AC (AA ?_)))
 refine wpAny_nsSet1 (s:={ s with toks:=s.toks+1 }) I.ns λh' B G=>?_
 let#[oD,T,U,i,m,o]:=B.count (Ze.cons name v hw);refine AA (wpAny_lookBehind i (by rw[m];exact pastItsLine_dict (Ab o ∅)) ?_);exact AC (h _ #[(G.2 _ (Cc I.ne)).trans I.obj,B,I.ne] G)
theorem nK(X:K.In s.heap)(hm:jy K C)
  (hi:De K (.ref C) "__init__" = !(!.ref f)) (hf:PySem.W.typeIn K (.ref f)=!.type "function")
  (h:Jh (AZ prog w) (A.under (.builtin "type.__call__" #[.ref C :: vs,i])) (.call (.ref f) #[.ref (s.heap.objs.size+1) :: vs,i]) (PySem.W.InitBack (s.heap.objs.size+1) R)
   { s with heap:=(s.heap.push DF).push (Ei C s.heap.objs.size) }) :
  Jh (AZ prog w) A (.call (.ref C) #[vs,i]) R s:=by
 let#[m,g,d,t,os]:=s;exact PySem.W.make_core (PySem.W.makes_of X hm) (PySem.W.looks_findIn X hi) (λself=>PySem.W.bind_fn X self hf) (.inl rfl) h
end
noncomputable def putF(f:Str)(v:V):¬(Str×V)->¬(Str×V)
 | []=>[(f,v)]
 | (g,x) :: r=>if g=f then(g,v) :: r else(g,x) :: putF f v r
theorem Sr(f g:Str)(v:V):∀fs:¬(Str×V),(putF f v fs).lookup g=if g=f then !v else fs.lookup g
 | []=>by
  show List.lookup g [(f,v)]=_
  grind
 | (k,x) :: r=>by
  let i:=Sr f g v r;rw[show putF f v ((k,x) :: r)=(if k=f then(k,v) :: r else(k,x) :: putF f v r)from rfl]
  grind
theorem SG(f:Str)(v:V):∀fs:¬(Str×V),f∈(putF f v fs).map (·.1)/\∀g,g∈fs.map (·.1)->g∈(putF f v fs).map (·.1)
 | []=>#[by simp[putF],λg h=>by simp at h]
 | (k,x) :: r=>by
  let#[i,m]:=SG f v r;rw[show putF f v ((k,x) :: r)=(if k=f then(k,v) :: r else(k,x) :: putF f v r)from rfl]
  grind
theorem Su(f:Str)(v:V):∀fs:¬(Str×V),(putF f v fs).length<=-fs+1
 | []=>by simp[putF]
 | (k,x) :: r=>by
  let i:=Su f v r;rw[show putF f v ((k,x) :: r)=(if k=f then(k,v) :: r else(k,x) :: putF f v r)from rfl]
  by_cases g:k=f
  ·rw[qX g,Az,Az];ext
  ext
theorem O7.some_of(r:O7 (!v) o):∃u,o=!u/\RelV v u:=by
 cases o with
 | none=>exact(show False from r).elim
 | some u=>exact#[u,rfl,r]
theorem O7.none_of(r:O7 none o):o=none:=by
 cases o with
 | none=>rfl
 | some u=>exact(show False from r).elim
theorem jP(r:RelV v u):hU u:=by
 cases v with
 | non=>cases(show u=D1 from r);rfl
 | bl b=>cases(show u=NO b from r);rfl
 | int i=>let#[t,e]:=(show ∃t,u=Dy i t from r);cases e;rfl
 | str x=>let#[t,e]:=(show ∃t,u=TD x t from r);cases e;rfl
 | byt b=>let#[t,e]:=(show ∃t,u=zU b t from r);cases e;rfl
 | flt b=>let#[t,e]:=(show ∃t,u=cE b t from r);cases e;rfl
 | ref a=>cases(show u=BJ a from r);rfl
 | ty n=>cases(show u=Ha n from r);rfl
section
variable{P:BP}{w:Bx}{H:Hp}{h:Cb}{a C dx:AW}{fs:¬(Str×V)}
theorem UB(i:HOk P w H h)(e:H a=!.ins C dx fs):∃g,eW h a dx C g/\(∀f,O7 (fs.lookup f) (g f))/\Ze g (fs.map (·.1))/\-fs<=1000/\H dx=!.own a:=by
 let#[d,z,m,o,g,n,r,q]:=(show EB P w H h a (.ins C dx fs)from i a _ e);exact#[g,#[o,n,m],r,q,z,d]
end
structure Cls(K:AD)(C:AW):Prop where
 pg:Ll K C NP=true
 hd:QH K C=true
 po:eZ K C=true
 sa:De K (.ref C) "__setattr__" = !(!.builtin "object.__setattr__")
theorem Cls.get{K}{C}(c:Cls K C)(f:Str):Ll K C f:=c.pg
def Ez(K:AD)(C:AW)(f:Str):Prop:=De K (.ref C) f=!none
theorem Ez.taker{K}{C}{f}(n:Ez K C f):TH K C f=!none:=by
 unfold TH;rw[show De K (.ref C) f=!none from n];rfl
structure O8(K:AD)(C:AW)(m:Str)(f:AW):Prop where
 at_:De K (.ref C) m=!(!.ref f)
 fn:X3 K (.ref f)=true
 kp:GM K (.ref f)=true
section
variable{X:Cx}{ζ:¬(AW×Obj)}{σ:St}{H:Hp}{s:AM}{a C dx:AW}{fs:¬(Str×V)}{f:Str}{v:V}{A:Bq}{E:AH->AM->Prop}
theorem dc(I:Inv X ζ σ H s)(e:H a=!.ins C dx fs)(c:Cls X.K C)(n:Ez X.K C f)(l:fs.lookup f=!v)
  (h:∀u s',Inv X ζ σ H s'->RelV v u->Q u s'):Ac (AZ X.prog X.w) A (getAttr (.ref a) f b) Q E s:=by
 let#[i,O,r,_,_,_]:=UB I.hok e;let#[u,m,g]:=O7.some_of (v:=v) (o:=i f) (by grind);exact tY I.kIn O (c.get f) c.hd n m (jP g) (h u _ (I.tok _) g)
theorem db(I:Inv X ζ σ H s)(e:H a=!.ins C dx fs)(c:Cls X.K C)(k:O8 X.K C m g)(l:fs.lookup m=none)
  (h:Q (.ref g,[.ref a]) s):Ac (AZ X.prog X.w) A (jv (.ref a) m pl) Q E s:=by
 let#[i,O,r,_,_,_]:=UB I.hok e;let o:i m=none:=O7.none_of (by grind);exact oJ I.kIn O (c.get m) k.at_ k.fn o h
theorem cy(I:Inv X ζ σ H s)(e:H a=!.ins C dx fs)(c:Cls X.K C)(n:Ez X.K C f)(U:-fs < 1000)(G:RelV y u)
  (h:∀s',Inv X ζ σ (upd H a (.ins C dx (putF f y fs))) s'->Q () s'):Ac (AZ X.prog X.w) A (setAttr (.ref a) f u) Q E s:=by
 let#[J,O,r,m,_,B]:=UB I.hok e
 let L:-fs.map (·.1)<=sizeLine:=by rw[AN,pz];lia
 refine rc I.kIn O c.sa c.po n.taker c.hd m L λN i P=>h _ ?_
 let R:∃o,N.get? dx=!o:=let #[o,_,_,S,_]:=i.ns;#[o,S]
 refine I.write (x:=a) (e:=dx) (by rw[e];exact Fb) (.inr B) (λb q hb z=>(P.2 b hb).trans z) R ?_;refine#[by rw[Bd O.ne];exact B,?_,O.ne,i.obj,_,i.ns,λg=>?_,λg T=>?_]
 ·let:=Su f y fs;lia
 ·show O7 ((putF f y fs).lookup g) (if g=f then !u else J g)
  rw[Sr]
  by_cases q:g=f
  ·rw[qX q,qX q];exact G
  ext
 ·by_cases q:g=f
  ·rw[q];exact(SG f y fs).1
  ·refine(SG f y fs).2 g (m g λz=>T ?_)
   ext
theorem Inv.made(I:Inv X ζ σ H s):Inv X ζ σ (upd (upd H s.heap.objs.size (.own (s.heap.objs.size+1))) (s.heap.objs.size+1) (.ins C s.heap.objs.size []))
  { s with heap:=(s.heap.push DF).push (Ei C s.heap.objs.size) }:=by
 let g:(s.heap.push DF).get? s.heap.objs.size=!DF:=AT s.heap rfl
 let m:((s.heap.push DF).push (Ei C s.heap.objs.size)).get? (s.heap.objs.size+1)=!Ei C s.heap.objs.size:=by
  let:=AT (s.heap.push DF) (o:=Ei C s.heap.objs.size) rfl;rwa [Dq]at this
 let B:(s.heap.push DF).Ns s.heap.objs.size (λz=>none):=#[DF,#[],_,g,rfl,(λe G=>zX G ∅),λz=>rfl];let J:=I.laid (a:=s.heap.objs.size) (o:=.own (s.heap.objs.size+1)) (h':=s.heap.push DF) (t':=s.toks) (λb u q=>AI _ q) (AO _) #[_,g];refine J.laid (a:=s.heap.objs.size+1) (o:=.ins C s.heap.objs.size []) (t':=s.toks) (λb u q=>AI _ q) (zo (Dq _ _)) ?_;let i:s.heap.objs.size≠s.heap.objs.size+1:=Ao (DE _);refine#[by rw[Bd i,Bv],DV _,i,m,λz=>none,(Cb.Ns1.of_empty B).at λo q=>AI _ q,λz=>Fb,λy L=>zX rfl L]
theorem uT(hb:Eg e f g (Bz e g)=Bz e g)
  (h:Ac (AZ prog w) A (Bz e g) (λo i=>Ac (AZ prog w) A (getAttr o f true) Q E i) E s):Ac (AZ prog w) A (Bz (.Attribute e f pos) g) Q E s:=
 Attribute_any_ h (by rw[arm_eval_Attribute,hb])
end
def tFld(K:AD)(i:TE)(f:Str):TE:=λm H Q=>i m H λx g=>∃a C o fs v,x=.ref a/\g a=!.ins C o fs/\Cls K C/\Ez K C f/\fs.lookup f=!v/\Q v g
def sFld(K:AD)(o s:TE)(f:Str):TS:=λD g H=>s g H λy A=>o g A λx i=>∃a C m fs,x=.ref a/\i a=!.ins C m fs/\Cls K C/\Ez K C f/\-fs < 1000 /\
 D.nx g (upd i a (.ins C m (putF f y fs)))
section
variable{X:Cx}{o e value:Expr}{f:Str}{pos pos':Pos}{ta tv:TE}
theorem xJ(g:PE X e ta)(hb:Eg e f X.env (Bz e X.env)=Bz e X.env):PE X (.Attribute e f pos) (tFld X.K ta f):=by
 intro i s m H Q I h;refine uT hb (thn (g i s m H _ I h) ?_);rintro u N ⟨x,A,B,E,a,C,O,fs,v,ex,G,c,n,l,q⟩;subst ex;obtain rfl:u=BJ a:=E
 exact dc B G c n l λP R J L=>#[v,A,J,L,q]
theorem w6(m:PE X o ta)(A:PE X value tv)(B:HX value (!.Attribute o f pos') pos.line X.env=pure false):PS X (.Assign [.Attribute o f pos'] value pos) (sFld X.K ta tv f):=by
 intro i s g H D I h;refine plainObj_wpAny_Assign_Attribute (thn (A i s g H _ I h) λu E #[y,G,J,L,q]=>thn (m i E g G _ J q) ?_) B;rintro N T ⟨x,U,O,P,a,C,Y,fs,ex,Q,c,n,l,R⟩;subst ex;obtain rfl:N=BJ a:=P
 exact cy O Q c n l L λZ S=>#[g,_,S,R]
end
section
variable{X:Cx}{ζ:¬(AW×Obj)}{σ:St}{H:Hp}{s:AM}{A:Bq}{E:AH->AM->Prop}{Q:AH->AM->Prop}{c:AH}{b:Bool}
set_option genInjectivity true in
inductive RQ(K:AD)(H:Hp):V->AH->Prop where
 | non:RQ K H .non (.type "NoneType")
 | bl (x:Bool):RQ K H (.bl x) (.type "bool")
 | int (i:Int):RQ K H (.int i) (.type "int")
 | str (x:Str):RQ K H (.str x) (.type "str")
 | flt (x:UInt64):RQ K H (.flt x) (.type "float")
 | lst {a:AW} {xs:¬V} (e:H a=!.lst xs):RQ K H (.ref a) (.type "list")
 | frz {a:AW} {o:Obj} {xs:¬V} (e:H a=!.frz o (.lst xs)):RQ K H (.ref a) (.type "list")
 | tup {a:AW} {xs:¬V} (e:H a=!.tup xs):RQ K H (.ref a) (.type "tuple")
 | dK {a:AW} {j':¬(Key×V)} (e:H a=!.dK j'):RQ K H (.ref a) (.type "dict")
 | dT {a:AW} {j':¬(¬Key×V)} (e:H a=!.dT j'):RQ K H (.ref a) (.type "dict")
 | ins {a C dx:AW} {fs:¬(Str×V)} (e:H a=!.ins C dx fs) (cl:Cls K C) (ha:De K (.ref C) "__class__" = !(!.builtin "object.__class__"))
   (hn:PySem.W.specialIn K (.builtin "object.__class__") "__get__" = !(!.builtin "getset_descriptor.__get__")) (htk:PySem.W.takesIn K (.builtin "object.__class__")=!true)
   (hm:PySem.W.mroIn K C (.type "object")=!true):RQ K H (.ref a) (.ref C)
theorem jK(I:Inv X ζ σ H s)(g:RelV x u)(ty:RQ X.K H x t)(e:Hh X.K t c=!b)(h:∀S,Q (.bool b) { s with toks:=S }) :
  Ac (AZ X.prog X.w) A (call (.builtin "isinstance") [u,c]) Q E s:=by
 cases ty with
 | non=>cases(show u=D1 from g);exact Cu PySem.W.kitx_none I.kIn Fb e (λz=>nomatch z) h
 | bl y=>cases(show u=NO y from g);exact Cu PySem.W.kitx_bool I.kIn Fb e (λz=>nomatch z) h
 | int i=>let#[t,q]:=(show ∃t,u=Dy i t from g);cases q;exact Cu PySem.W.kitx_int I.kIn Fb e (λz=>nomatch z) h
 | str y=>let#[t,q]:=(show ∃t,u=TD y t from g);cases q;exact Cu PySem.W.kitx_str I.kIn Fb e (λz=>nomatch z) h
 | flt y=>let#[t,q]:=(show ∃t,u=cE y t from g);cases q;exact Cu PySem.W.kitx_float I.kIn Fb e (λz=>nomatch z) h
 | @lst a G m=>
  cases(show u=BJ a from g);let#[_,_,n,_,B]:=(show EB X.prog X.w H s.heap a (.lst G)from I.hok a _ m);exact Cu ee I.kIn #[_,B,rfl] e (λz=>nomatch z) h
 | @frz a T G m=>
  cases(show u=BJ a from g);let#[_,_,_,n,_,B]:=(show EB X.prog X.w H s.heap a (.frz T (.lst G))from I.hok a _ m);exact Cu ee I.kIn #[_,B,rfl] e (λz=>nomatch z) h
 | @tup a G m=>
  cases(show u=BJ a from g);let#[_,_,_,p]:=(show EB X.prog X.w H s.heap a (.tup G)from I.hok a _ m);let#[o,B,L,_]:=p;exact Cu PySem.W.kitx_tuple I.kIn #[o,B,L] e (λz=>nomatch z) h
 | @dK a N m=>
  cases(show u=BJ a from g);let#[_,_,vs,_,p]:=(show EB X.prog X.w H s.heap a (.dK N)from I.hok a _ m);let#[o,U,Y,B,L,_]:=p;exact Cu ef I.kIn #[o,B,L.1] e (λz=>nomatch z) h
 | @dT a N m=>
  cases(show u=BJ a from g);let#[_,_,G,_,o,U,Y,B,L,_]:=(show EB X.prog X.w H s.heap a (.dT N)from I.hok a _ m);exact Cu ef I.kIn #[o,B,L.1] e (λz=>nomatch z) h
 | @ins a C dx fs m R Z hn P hm=>
  cases(show u=BJ a from g);let#[mA,O,_]:=UB I.hok m;let#[od,J,_]:=O.look;exact Cu (PySem.W.kitx_own (R.get _) R.hd Z hn P hm) I.kIn J e (λz=>nomatch z) h
end
structure He(k:Nat)(A:Bq):Prop where
 hd:A.handled=none
 dp:A.depth+3 * k+5 < recursionLimit
 un:A.units+16 * k+200 < Ef
theorem He.mono(r:He k A)(h:j<=k):He j A:=#[r.hd,by let:=r.dp;lia,by let:=r.un;lia]
theorem He.deeper(r:He (k+1) A)(g:Env):He k (A.deeper g):=
 #[r.hd,by let:=r.dp;show A.depth+1+3 * k+5 < _;lia,by let:=r.un;show A.units+3+16 * k+200 < _;lia]
theorem dP{A:Bq}{C:AW}{us:¬AH}{g:¬(Str×AH)}:(A.under (.builtin "type.__call__" #[.ref C :: us,g])).depth=A.depth+1:=by
 rfl
theorem dO{A:Bq}{C:AW}{us:¬AH}{g:¬(Str×AH)}:(A.under (.builtin "type.__call__" #[.ref C :: us,g])).units=A.units+1:=by
 rfl
theorem He.make{k}{A}(r:He (k+1) A)(C:AW)(us:¬AH)(g:¬(Str×AH)):He k (A.under (.builtin "type.__call__" #[.ref C :: us,g])):=
 #[r.hd,by let:=r.dp;rw[dP];lia,by let:=r.un;rw[dO];lia]
theorem He.depth(r:He k A):A.depth < recursionLimit:=by let:=r.dp;lia
theorem He.units(r:He k A):A.units+64 < Ef:=by let:=r.un;lia
def tNil:TA:=λz H Q=>Q [] H
def AAP(i:TE)(m:TA):TA:=λg H Q=>i g H λx o=>m g o λs A=>Q (x :: s) A
section
variable{X:Cx}{e:Expr}{es:¬Expr}{te:TE}{t:TA}{pos:Pos}
theorem GX:PA X [] tNil:=λz z z z H Q I h=>kB #[[],H,I,.nil,h]
theorem EV(m:PE X e te)(o:PA X es t)(A:↑(AR (e :: es) X.env=(false,Bz e X.env) :: AR es X.env)):PA X (e :: es) (AAP te t):=by
 intro pos g s i H Q I h;rw[A];show Ac _ _ (zN ((false,Bz e X.env) :: DB pos (AR es X.env))) _ _ s;refine iG (thn (m g s i H _ I h) ?_);rintro u B ⟨x,C,E,G,J⟩
 exact thn (o pos g B i C _ E J) (by rintro S T ⟨L,N,O,P,R⟩;exact #[x :: L,N,O,.cons G P,R])
def tTup(t:TA):TE:=λm H Q=>t m H λg i=>-g<=sizeLine/\∀p,i p=none->Q (.ref p) (upd i p (.tup g))
def tLst(t:TA):TE:=λm H Q=>t m H λg i=>-g<=sizeLine/\∀p,i p=none->Q (.ref p) (upd i p (.lst g))
theorem xE{x1}(h:PA X es t):PE X (.Tuple es x1 pos) (tTup t):=by
 intro o s A H Q I B;refine wpAny_Tuple_spliced (thn (h pos o s A H _ I B) λC g #[E,i,m,r,z,q]=>#[by rw[<-r.length];exact z,?_]);let G:i g.heap.objs.size=none:=m.hok.fresh (AO _);refine#[.ref g.heap.objs.size,upd i g.heap.objs.size (.tup E),m.laid (t':=g.toks) (λb u e=>AI _ e) (AO _) ?_,rfl,q _ G];exact#[#[z,#[_,AT _ rfl,rfl]],C,r,#[_,AT _ rfl,rfl,_,rfl]]
theorem xI(h:PA X es t):PE X (.List es pos) (tLst t):=by
 intro o s A H Q I B;refine wpAny_List_spliced (thn (h pos o s A H _ I B) λC g #[E,i,m,r,z,q]=>#[by rw[<-r.length];exact z,?_]);let G:i g.heap.objs.size=none:=m.hok.fresh (AO _);refine#[.ref g.heap.objs.size,upd i g.heap.objs.size (.lst E),m.laid (t':=g.toks) (λb u e=>AI _ e) (AO _) ?_,rfl,q _ G];exact#[z,C,0,r,AT _ rfl]
end
abbrev Sp:=¬V->Hp->VK->XK->Prop
abbrev CXT:=¬Env->Hp->AM->XK->AH->AM->Prop
structure eX(P:BP)(w:Bx)(K:AD)(mg:Str->⇑AH)(base:Cb)(A:Bq)(outer:¬Env)(s:AM)(H:Hp):Prop where
 frames:A.frames=!outer
 mod:Mod K mg base
 bs:∀b o,base.get? b=!o->s.heap.get? b=!o/\H b=none
 bsz:base.objs.size<=s.heap.objs.size
 funs:s.heap.FunFrames base outer
 frf:∀b∈frs outer,H b=none
 hok:HOk P w H s.heap
 bare:Lq s.gens
def CE(g:¬Env)(P:BP)(w:Bx)(H:Hp)(s:AM)(Q:VK)(u:AH)(s':AM):Prop:=
 ∃v i,s'.os=s.os/\Lq s'.gens/\Un (frs g) [] H i s.heap s'.heap/\HOk P w i s'.heap/\RelV v u/\Q v i
def CR(CX:CXT)(g:¬Env)(P:BP)(w:Bx)(H:Hp)(s:AM)(Q:VK)(E:XK)(r:kG)(s':AM):Prop:=
 match r with
 | .ok (.ret u)=>CE g P w H s Q u s'
 | .ok _=>False
 | .error e=>CX g H s E e s'
structure IL(P:BP)(w:Bx)(K:AD)(mg:Str->⇑AH)(base:Cb)(CX:CXT)(k:Nat)(f:AW)(fd:MW)(ps:¬Str)(sp:Sp):Prop where
 len:∀vs H Q E,sp vs H Q E->-vs=-ps
 run:∀(A:Bq) (outer:¬Env) (s:AM) (H:Hp) (args:Args) (us:¬AH) (vs:¬V) (Q:VK) (E:XK),He k A->eX P w K mg base A outer s H->bq s fd args (ps.zip us)->Bs vs us->sp vs H Q E ->
  Jh (AZ P w) A (.call (.ref f) args) (CR CX outer P w H s Q E) s
theorem IL.imp{P}{w}{K}{m}{base}{CX}{k}{f}{fd}{o}{sp sp'}(F:IL P w K m base CX k f fd o sp)
  (h:∀vs H Q E,sp' vs H Q E->sp vs H Q E):IL P w K m base CX k f fd o sp':=
 #[λvs H Q E q=>F.len vs H Q E (h _ _ _ _ q),λA g s H i B vs Q E C G hb I J=>F.run A g s H i B vs Q E C G hb I (h _ _ _ _ J)]
theorem eX.make{P}{w}{K}{i}{base}{A}{g}{s}{H}(e:eX P w K i base A g s H)(C:AW)(us:¬AH)(m:¬(Str×AH)) :
  eX P w K i base (A.under (.builtin "type.__call__" #[.ref C :: us,m])) g s H:=#[by first | exact e.frames | (simpa[Bq.under,Code.envs,Code.isFrame,pushEnvs]using e.frames),e.mod,e.bs,e.bsz,e.funs,e.frf,e.hok,e.bare]
section
variable{X:Cx}{ζ:¬(AW×Obj)}{σ:St}{H:Hp}{s s':AM}
theorem Inv.env0(I:Inv X ζ σ H s):eX X.prog X.w X.K X.mg X.base X.A X.stack s H:=
 #[I.ok.frames,I.ok.mod,I.bs,Ab I.ok.bsz I.sz,I.stack,I.stkFree,I.hok,I.bare]
theorem Inv.after(I:Inv X ζ σ H s)(h:CE X.stack X.prog X.w H s Q u s'):EP X ζ σ Q u s':=by
 let#[v,A,os,i,un,m,r,q]:=h;let#[B,g,d,t,o]:=s';obtain rfl:o=s.os:=os;exact#[v,A,I.call (h':=B) (g':=g) (d':=d) (t':=t) (ch:=[]) un m i (λb z=>zX z ∅),r,q]
end
def AAQ(sp:Sp)(i:¬V)(E:St->XK)(t:TA):TE:=λg H Q=>t g H λm o=>sp (m++i) o Q (E g)
def uy(C:AW)(m:Str)(sp:Sp)(o:¬V)(E:St->XK)(s:TE)(t:TA):TE:=λg H Q=>s g H λx i=>∃a A fs,x=.ref a/\i a=!.ins C A fs/\fs.lookup m=none /\
 t g i λB G=>sp (x :: (B++o)) G Q (E g)
def AAL(C:AW)(sp:Sp)(o:¬V)(E:St->XK)(t:TA):TE:=λm H Q=>t m H λs i=>∀x g,i x=none->i g=none->g≠x ->
 sp (.ref x :: (s++o)) (upd (upd i g (.own x)) x (.ins C g [])) (λv A=>v=.non/\Q (.ref x) A) (E m)
def Binds(K:AD)(fd:MW)(i:¬Str)(ds:¬AH):Prop:=
 ∀(s:AM) (g:¬AH),K.In s.heap->-(g++ds)=-i->bq s fd #[g,[]] (i.zip (g++ds))
theorem Binds.all{K}{fd}{g}(h:∀us:¬AH,us.length=-g->qB fd #[us,[]]=pure (g.zip us)):Binds K fd g []:=λs us z i=>by
 rw[CQ]at i ⊢;exact .of_eq (h us i)
def NC(CX:CXT)(X:Cx)(E:St->XK):Prop:=∀(m:¬(AW×Obj)) (g:St) (H:Hp) (s:AM) (e:AH) (i:AM),Inv X m g H s->CX X.stack H s (E g) e i->X.xe e i
section
variable{X:Cx}{k:Nat}{f C:AW}{fd:MW}{ps:¬Str}{sp:Sp}{E:St->XK}{x m:Str}{p pos apos:Pos}{e o:Expr}{es:¬Expr}{ta:TE}{t:TA}
theorem mD(F:IL X.prog X.w X.K X.mg X.base CX k f fd ps sp)(L:He k X.A)(hb:Binds X.K fd ps ds)(N:Bs i ds)(O:NC CX X E)
  (I:Inv X B g H s) (r:Bs vs us) (h:sp (vs++i) H Q (E g)):Ac (AZ X.prog X.w) X.A (call (.ref f) us) (EP X B g Q) X.xe s:=by
 let G:Bs (vs++i) (us++ds):=r.append N
 let P:-(us++ds)=-ps:=by rw[<-G.length];exact F.len _ _ _ _ h
 refine br (GF (F.run X.A X.stack s H #[us,[]] (us++ds) (vs++i) Q (E g) L I.env0 (hb s us I.kIn P) G h) λr R J=>?_)
 cases r with
 | error e=>exact O B g H s e R I J
 | ok S=>
  cases S with
  | ret u=>exact I.after J
  | next=>assumption
  | brk=>assumption
  | cont=>assumption
theorem sX(F:IL X.prog X.w X.K X.mg X.base CX k f fd ps sp)(i:He k X.A)(B:Gl X x)(hm:X.mg x=!.ref f)(G:GM X.K (.ref f))(hb:Binds X.K fd ps ds)(J:Bs L ds)(N:NC CX X E)
  (O:PA X (e :: es) t) (P:↥((x==("__debug__" : Str))=false)) (R:↑(AR (e :: es) X.env=(false,Bz e X.env) :: AR es X.env)) (S:↑((DB pos (AR es X.env)).any (·.1)=false)) :
  PE X (.Call (.Name x p) (e :: es) [] pos) (AAQ sp L E t):=by
 intro T s U H Q I h;refine Ev (Yt I B hm ?_ P);refine Pk (h₀:=X.base) I.ok.mod.kin G (thn (O pos T s U H _ I h) λY Z #[vs,H1,g,r,q]=>#[g.kIn,?_]) R S;exact mD F i hb J N g r q
theorem sS(N:PE X o ta)(c:Cls X.K C)(hm:O8 X.K C m f)(F:IL X.prog X.w X.K X.mg X.base CX k f fd ps sp)(O:He k X.A)(hb:Binds X.K fd ps ds)(P:Bs R ds)(S:NC CX X E)(T:PA X (e :: es) t)
  (g:↑(AR (e :: es) X.env=(false,Bz e X.env) :: AR es X.env)) (U:↑((DB pos (AR es X.env)).any (·.1)=false))
  (Y:↑(Bz (.Call (.Attribute o m apos) (e :: es) [] pos) X.env=(do
   let i <-Bz o X.env
   bg apos.atName
   let (f,fts) <-Pj [i] (jv i m pl)
   qA pos f fts (DB pos (AR (e :: es) X.env)) (HD pos (D8 [] X.env))))) :
  PE X (.Call (.Attribute o m apos) (e :: es) [] pos) (uy C m sp R E ta t):=by
 intro B s G H Q I h;refine PySem.W.methodCall_KW (pl:=pl) (thn (N B s G H _ I h) ?_) Y;rintro u Z ⟨x,H1,J,rx,a,dx,fs,ex,ea,l,q⟩;subst ex;obtain rfl:u=BJ a:=rx;refine db J ea c hm l ?_;refine Pk (first:=[.ref a]) (h₀:=X.base) I.ok.mod.kin hm.kp (thn (T pos B Z G H1 _ J q) λus s2 #[vs,H2,L,r,q2]=>#[L.kIn,?_]) g U;exact mD (us:=.ref a :: us) (vs:=.ref a :: vs) F O hb P S L (.cons rfl r) q2
structure Mk(K:AD)(C f:AW):Prop where
 makes:jy K C=true
 init:De K (.ref C) "__init__" = !(!.ref f)
 fn:X3 K (.ref f)=true
 kp:GM K (.ref C)=true
theorem l8(M:Mk X.K C f)(F:IL X.prog X.w X.K X.mg X.base CX k f fd ps sp)(P:He (k+1) X.A)(hb:Binds X.K fd ps ds)(R:Bs J ds)
  (S:NC CX X E) (I:Inv X L i H s) (r:Bs vs us)
  (h:∀x B,H x=none->H B=none->B≠x->sp (.ref x :: (vs++J)) (upd (upd H B (.own x)) x (.ins C B [])) (λv T=>v=.non/\Q (.ref x) T) (E i)) :
  Ac (AZ X.prog X.w) X.A (call (.ref C) us) (EP X L i Q) X.xe s:=by
 let N:=h (s.heap.objs.size+1) s.heap.objs.size (I.hok.fresh (IM _)) (I.hok.fresh (AO _)) (Ao (DE _));let G:=Inv.made (C:=C) I;let O:Bs (V.ref (s.heap.objs.size+1) :: (vs++J)) (BJ (s.heap.objs.size+1) :: (us++ds)):=.cons rfl (r.append R)
 let U:-(BJ (s.heap.objs.size+1) :: us++ds)=-ps:=by
  let e:=-O;rw[F.len _ _ _ _ N]at e;exact e.symm
 refine br (nK (f:=f) I.kIn M.makes M.init (beq_iff_eq.mp M.fn) (GF (F.run _ X.stack _ _ #[BJ (s.heap.objs.size+1) :: us,[]] (BJ (s.heap.objs.size+1) :: (us++ds)) _ _ (E i) (P.make C us [])
  (G.env0.make C us []) (hb _ (BJ (s.heap.objs.size+1) :: us) G.kIn U) O N) λr Y g=>?_))
 cases r with
 | error e=>exact S L i _ _ e Y G g
 | ok Z=>
  cases Z with
  | ret u=>
   let#[v,H',I3,rv,ev,q3]:=G.after g;subst ev;exact#[rv,#[V.ref (s.heap.objs.size+1),H',I3,rfl,q3]]
  | next=>assumption
  | brk=>assumption
  | cont=>assumption
theorem sT(M:Mk X.K C f)(F:IL X.prog X.w X.K X.mg X.base CX k f fd ps sp)(i:He (k+1) X.A)(B:Gl X x)(hm:X.mg x=!.ref C)(hb:Binds X.K fd ps ds)(G:Bs J ds)(L:NC CX X E)
  (N:PA X (e :: es) t) (O:↥((x==("__debug__" : Str))=false)) (P:↑(AR (e :: es) X.env=(false,Bz e X.env) :: AR es X.env)) (R:↑((DB pos (AR es X.env)).any (·.1)=false)) :
  PE X (.Call (.Name x p) (e :: es) [] pos) (AAL C sp J E t):=by
 intro S s T H Q I h;refine Ev (Yt I B hm ?_ O);refine Pk (h₀:=X.base) I.ok.mod.kin M.kp (thn (N pos S s T H _ I h) λU Y #[Z,H1,g,r,q]=>#[g.kIn,?_]) P R;exact l8 M F i hb G L g r q
end
structure K6(N P:¬Str)(sc:WS):Prop where
 kind:sc.kind=.function
 co:sc.isCoroutine=false
 gen:sc.isGenerator=false
 nd:N.Nodup
 pre:N.take (-P)=P
 par:∀x∈P,sc.names.lookup x=!.local∨sc.names.lookup x=!.cell
 nofree:∀y∈sc.names,y.2≠.free
theorem Xs{kindOf}{x}:∀{binds:¬(Str×AH)} {m:Str->⇑AH},(∀v,(x,v)∉binds)->jw kindOf binds m x=m x
 | [],_,_=>rfl
 | (n,v) :: r,m,h=>by
  unfold jw;rw[Xs λw hw=>h w (AY _ hw)];split
  ·grind
  ·rfl
theorem Xu{kindOf}{x}:∀{binds:¬(Str×AH)} {m:Str->⇑AH},(∀v,(x,v)∉binds)->jx kindOf binds m x=m x
 | [],_,_=>rfl
 | (n,v) :: r,m,h=>by
  unfold jx;rw[Xu λw hw=>h w (AY _ hw)];split
  ·rfl
  grind
theorem Xt{kindOf}{x}{v}:∀{P:¬Str} {vs:¬AH} {i:Nat} {m:Str->⇑AH},P.Nodup->P[i]?=!x->vs[i]?=!v->kindOf x=!.local ->
  jw kindOf (P.zip vs) m x=!v
 | [],_,_,_,_,h,_,_=>by simp at h
 | _ :: _,[],_,_,_,_,h,_=>by simp at h
 | p :: P,w :: vs,0,m,s,g,o,A=>by
  simp at g o;subst g;subst o;show jw kindOf ((p,w) :: P.zip vs) m p=_;unfold jw;rw[Xs λv B=>(CA.mp s).1 (WM B).1,qX A];simp
 | p :: P,w :: vs,i+1,m,s,g,o,A=>by
  show jw kindOf ((p,w) :: P.zip vs) m x=_;unfold jw;exact Xt (i:=i) (CA.mp s).2 (by simpa using g) (by simpa using o) A
theorem Xv{kindOf}{x}{v}:∀{P:¬Str} {vs:¬AH} {i:Nat} {m:Str->⇑AH},P.Nodup->P[i]?=!x->vs[i]?=!v->kindOf x≠!.local ->
  jx kindOf (P.zip vs) m x=!v
 | [],_,_,_,_,h,_,_=>by simp at h
 | _ :: _,[],_,_,_,_,h,_=>by simp at h
 | p :: P,w :: vs,0,m,s,g,o,A=>by
  simp at g o;subst g;subst o;show jx kindOf ((p,w) :: P.zip vs) m p=_;unfold jx;rw[Xu λv B=>(CA.mp s).1 (WM B).1,qY A];simp
 | p :: P,w :: vs,i+1,m,s,g,o,A=>by
  show jx kindOf ((p,w) :: P.zip vs) m x=_;unfold jx;exact Xv (i:=i) (CA.mp s).2 (by simpa using g) (by simpa using o) A
noncomputable def start(N:¬Str)(vs:¬V):St:=vs.map some++BU (-N - -vs) none
def Y9(CX:CXT)(P:BP)(w:Bx)(K:AD)(mg:Str->⇑AH)(base:Cb)(N:¬Str)(g:Str)(scope:WS)(f:AW)(m:AH)(A:Bq)(outer:¬Env)(s:AM)(H:Hp)(E:XK):Cx where
 prog:=P
 w:=w
 K:=K
 mg:=mg
 base:=base
 A:=A.deeper (KC g scope s.heap.objs.size f m)
 N:=N
 s₀:=s
 H₀:=H
 env:=KC g scope s.heap.objs.size f m
 outer:=outer
 stack:=KC g scope s.heap.objs.size f m :: outer
 ex:=[]
 calm:=true
 fn:=λz=>true
 pn:=[]
 xe:=λe o=>Ac (AZ P w) (A.deeper (KC g scope s.heap.objs.size f m)) (leaving (KC g scope s.heap.objs.size f m) e) (λz i=>CX outer H s E e i) (λB i=>CX outer H s E B i) o
theorem bP{g:WS}{n:Nat}{x:Str}(h:g.names.lookup x=!.cell):∃c,(CP n g.names []).lookup x=!c:=by
 let q:=X4 g.names n [] (.inl h);exact Dd.mp q
theorem jL{CX:CXT}{P:BP}{w:Bx}{K:AD}{T:Str->⇑AH}{base:Cb}{N B:¬Str}{m:Str}{scope:WS}{f:AW}{O:AH}{A:Bq}{g:¬Env}{s s1:AM}{H:Hp}{E:XK}{us:¬AH}{vs:¬V}
  (S:K6 N B scope) (Y:A.handled=none) (o:eX P w K T base A g s H) (hl:-vs=-B) (r:Bs vs us)
  (x:InCallC s s.heap.objs.size (jw (KC m scope s.heap.objs.size f O).kindOf (B.zip us) λM=>none) (CP (s.heap.objs.size+1) scope.names []) (jx (KC m scope s.heap.objs.size f O).kindOf (B.zip us) λM=>none) s1) :
  Inv (Y9 CX P w K T base N m scope f O A g s H E) [] (start N vs) H s1:=by
 let Ρ:-B<=-N:=by let:=congrArg Lp S.pre;rw[ET]at this;lia
 let#[Q,tk,rfl,U]:=x.done
 let C:∀b:AW,b∉(Y9 CX P w K T base N m scope f O A g s H E).ex:=λb z=>zX (show b∈([]:¬AW)from z) ∅
 refine#[#[o.mod,S.kind,rfl,rfl,AO _,λy z c Q G=>?_,λy I=>?_,λy c M h=>?_,λM=>Y,Bq.frames_deeper o.frames,.inr #[rfl,rfl],λb z=>zX z (C b),o.bs,o.bsz,λb M M=>C b,λb z=>zX z (C b),o.funs,o.frf],
  rfl,o.bare,Un.kept U,#[_,x.toInCall.ns,λi y v Q G h3=>?_],λy c h=>#[_,x.cell y c h],o.hok.fresh (AO _),λy c h=>?_,λp J=>zX (show p∈([]:¬(AW×Obj))from J) ∅,o.hok.kept U,?_]
 ·exact name_of_addr x.apart (D9 Q) (D9 G)
 ·let I:scope.names.lookup y=!.cell∨scope.names.lookup y=!.free:=I
  rcases I with I | I
  ·exact bP I
  ·exact zX rfl (S.nofree _ (D9 I))
 ·exact Na (x.above y c (D9 h))
 ·let R:i < -vs:=by
   unfold start at G
   by_cases R:i < -vs
   ·exact R
   ·rw[BE (by simpa using R)]at G
    rw[D3]at G
    ext
  let Z:vs[i]?=!v:=by
   unfold start at G;rw[Ah (by simpa using R),Al]at G
   cases e:vs[i]? with
   | none=>ext
   | some a=>ext
  let#[u,X,rv]:=r.get Z
  let J:B[i]?=!y:=by
   rw[<-S.pre,ZY (by ext)];exact Q
  let L:B.Nodup:=by rw[<-S.pre];exact S.nd.sublist (kJ _ _)
  refine#[u,rv,?_]
  rcases S.par y (CH J)with k | k
  ·exact .inl #[k,Xt L J X k]
  ·let#[c,e]:=bP (n:=s.heap.objs.size+1) k
   refine .inr #[.inl k,c,e,?_];let q:=x.cell y c e;rw[Xv L J X (by show scope.names.lookup y≠_;ext)]at q;exact q
 ·exact o.hok.fresh (Na (x.above y c (D9 h)))
 ·unfold start
  show _=-N;ext
theorem ABL{CX}{P}{w}{K}{U}{base}{k}{f}{name i}{params}{body}{scope}{dV kV O pm C ct oc}{an od}
  {Y} {N X} {sp} (lk:K.lookup f=!#[oc,od,.func (Jw name i params body scope dV kV O pm an C ct),Y]) (Ϛ:UM K C i=true) (S:K6 N X scope)
  (len:∀vs H Q E,sp vs H Q E->-vs=-X)
  (ϟ:∀(A:Bq) (g:¬Env) (s:AM) (H:Hp) (vs:¬V) (Q:VK) (E:XK),He k (A.deeper (KC i scope s.heap.objs.size f C))->sp vs H Q E ->
   ∃t,PSs (Y9 CX P w K U base N i scope f C A g s H E) body t/\t { nx:=λz B=>Q .non B,rt:=Q } (start N vs) H) :
  IL P w K U base CX (k+1) f (Jw name i params body scope dV kV O pm an C ct) X sp:=by
 refine#[len,λA g s H args us vs Q E Z R hb r T=>?_];let hl:=len _ _ _ _ T
 let KX:K.In s.heap:=R.mod.kin.keeps λb o e=>(R.bs b o e).1
 let lim:s.heap.NoLimit:=R.mod.nolimit.keeps λb o e=>(R.bs b o e).1
 let G:∀y∈X.zip us,scope.names.lookup y.1=!.local∨(scope.names.lookup y.1=!.cell/\((CP (s.heap.objs.size+1) scope.names []).lookup y.1).isSome=true):=by
  rintro ⟨n,v⟩ hy
  rcases S.par n (WM hy).1 with q | q
  ·exact .inl q
  ·exact .inr #[q,X4 _ _ _ (.inl q)]
 refine codeAny_call_function Z.depth (KX _ _ lk) rfl S.co S.gen rfl (PySem.W.codeRec_of KX Ϛ) (hb _ _ _ _ ?_)
 refine wpAny_newFunctionEnv_cells S.kind G λenv he s1 x=>?_
 subst he;refine#[lim.keeps x.toInCall.keep,codeAny_func ?_];let#[t,ht,hq]:=ϟ A g s H vs Q E (Z.deeper _) T;let I:Inv (Y9 CX P w K U base N i scope f C A g s H E) [] (start N vs) H s1:=jL S Z.hd R hl r x
 refine Dv (ht [] s1 (start N vs) H _ I hq) (λfl s' L=>?_) λe s' L=>L
 let fin:∀{m:St} {B:Hp} {v:V} {u:AH},Inv (Y9 CX P w K U base N i scope f C A g s H E) [] m B s'->RelV v u->Q v B->CE g P w H s Q u s':=
  λ{m B v u} J rv q=>#[v,B,J.os,J.bare,J.base,J.hok,rv,q]
 cases fl with
 | ret u=>
  let#[v,m,B,J,rv,q]:=L;exact fin J rv q
 | next=>
  let#[m,B,J,q]:=L;exact fin (v:=V.non) (u:=D1) J rfl q
 | brk=>
  let#[_,_,_,q]:=L
  ext
 | cont=>
  let#[_,_,_,q]:=L
  ext
section
variable{X:Cx}{x:Str}{p pos:Pos}{e:Expr}{es:¬Expr}{t:TA}{id T:String}{r:¬V->Hp->VK->Prop}
def tCB(r:¬V->Hp->VK->Prop)(t:TA):TE:=λg H Q=>t g H λi m=>r i m Q
theorem KO(m:Jb X (.builtin id) r)(o:Gl X x)(hm:X.mg x=none)(A:HZ x=!.builtin id)(B:PA X (e :: es) t)(C:↥(x≠"__name__")) (E:↥((x==("__debug__" : Str))=false))
  (G:↑(AR (e :: es) X.env=(false,Bz e X.env) :: AR es X.env)) (J:↑((DB pos (AR es X.env)).any (·.1)=false)):PE X (.Call (.Name x p) (e :: es) [] pos) (tCB r t):=by
 intro g s i H Q I h;refine Ev (Mt I o hm A ?_ C E);exact PD (thn (B pos g s i H _ I h) (by rintro L N ⟨O,P,R,S,U⟩;exact m g N i P O L Q R S U)) G J
theorem Rz(m:Jb X (.type T) r)(o:Gl X x)(hm:X.mg x=none)(A:HZ x=!.type T)(B:PA X (e :: es) t)(C:↥(x≠"__name__")) (E:↥((x==("__debug__" : Str))=false))
  (G:↑(AR (e :: es) X.env=(false,Bz e X.env) :: AR es X.env)) (J:↑((DB pos (AR es X.env)).any (·.1)=false)):PE X (.Call (.Name x p) (e :: es) [] pos) (tCB r t):=by
 intro g s i H Q I h;refine Ev (Mt I o hm A ?_ C E);exact Dp (thn (B pos g s i H _ I h) λL N #[O,P,R,S,U]=>m g N i P O L Q R S U) G J
end
end L2
namespace HT
noncomputable def lexLt:YP->YP->Bool
 | [],[]=>false
 | [],_ :: _=>true
 | _ :: _,[]=>false
 | x :: g,y :: i=>if x=y then lexLt g i else decide (x < y)
theorem dW(x y:Int)(xs g:YP):lexLt (x :: xs) (y :: g)=if x=y then lexLt xs g else decide (x < y):=rfl
theorem Wo:lexLt [] []=false:=rfl
theorem Vh(y:Int)(g:YP):lexLt [] (y :: g):=rfl
theorem Vi(x:Int)(xs:YP):lexLt (x :: xs) []=false:=rfl
theorem ou(A:Bq)(s:AM)(a:Int)(t:Tok)(c:Int)(u:Tok):∃e,g8 A s (.int a t) (.int c u) e/\(e=true↔a=c):=
 #[(a==c),ZW a t c u,by simp]
theorem mI(A:Bq)(s:AM)(a:Int)(t:Tok)(c:Int)(u:Tok)(prog:BP)(w:Bx)(E:AH->AM->Prop)(Q:AH->AM->Prop)(h:Q (.bool (decide (a < c))) s) :
  Ac (AZ prog w) A (richCompare .Lt (.int a t) (.int c u)) Q E s:=
 (PyProof.Rows.lt_int h:Ac (AZ prog w) A (BY .Lt (.int a t) (.int c u)) Q E s)
section
open PySem.SeqAt
open PySem.AutoSeq1 (wpAny_loadPart')
open PySem.MeetsSeq PySem.MeetsSeq2 PySem.MeetsSeq3
theorem Wc(l b:AW)(items L:Array AH)(n n2:Nat)(dd Z:⇑AW)(sl sl2:Array (⇑AH))(Q S:YP)(hi:D4 items.toList Q)(hj:D4 L.toList S) :
  Meets (Builtin.«tuple.__lt__» #[[.ref l,.ref b],[]])
   (λz R s=>s.heap.get? l=some { cls:=.type "tuple",dict:=dd,data:=.seq items n,slots:=sl }/\s.heap.get? b=some { cls:=.type "tuple",dict:=Z,data:=.seq L n2,slots:=sl2 } /\
    R (.ok (.ret (.bool (lexLt Q S)))) s):=
 .of_wp λC w A R s h=>by
  let#[T,g,d,U,os]:=s;let#[hl,hb,h]:=h;let f2:=AutoSeq1.sub_tuple_tuple
  let z1:items.size=-Q:=by rw[<-hi.length];simp
  let z2:L.size=-S:=by rw[<-hj.length];simp
  wp_walk using wpAny_loadPart' hl,wpAny_loadPart' hb,wpAny_forIn_list _ (λE b s'=>b.1=none/\s'=#[T,g,d,U,os]/\∃(X Y:¬AH) (m o:YP),E=X.zip Y /\
   D4 X m/\D4 Y o/\-m+L.size=-o+items.size/\R (.ok (.ret (.bool (lexLt m o)))) #[T,g,d,U,os]) _
  case turn=>
   rintro⟨y,x⟩ E b s' ⟨ϐ,rfl,X,Y,m,o,H,I,B,i,N⟩
   cases I with
   | nil=>rw[kI]at H;cases H
   | cons a t O=>
    cases B with
    | nil=>rw[j5]at H;cases H
    | cons c u P=>
     rw[j6]at H
     injection H with hyx J
     injection hyx with hy hx
     subst hy hx;rw[dW]at N;simp only[Az]at i;let#[e,he,G]:=ou A.in1 #[T,g,d,U,os] a t c u;refine AA (he C w _ _ ?_)
     cases e with
     | true=>
      rw[qX (G.mp rfl)]at N
      wp_walk
      exact#[rfl,rfl,_,_,_,_,J,O,P,by lia,N]
     | false=>
      rw[qY (λq=>zX (G.mpr q) AQ)]at N;let hri:=mI A.in1 #[T,g,d,U,os] a t c u C w
      wp_walk using hri
      ext
  case fin=>
   rintro⟨b1,b2⟩ s' ⟨ϐ,rfl,X,Y,m,o,H,I,B,i,N⟩;simp only at ϐ;subst ϐ
   let hv:lexLt m o=decide (items.size < L.size):=by
    cases I with
    | nil=>
     cases B with
     | nil=>
      simp only[J6]at i;rw[Wo];ext
     | cons c u hw=>
      simp only[J6,Az]at i;rw[Vh];ext
    | cons a t hv=>
     cases B with
     | nil=>
      simp only[J6,Az]at i;rw[Vi];exact(wY ∅).symm
     | cons c u hw=>
      trivial
   rw[hv]at N
   wp_walk
   exact#[_,rfl,by assumption]
  case h=>
   exact#[rfl,rfl,items.toList,L.toList,Q,S,rfl,hi,hj,by lia,h]
end
section
variable{prog:BP}{w:Bx}{A:Bq}{E:AH->AM->Prop}{s:AM}
theorem dR(L:cN s.heap l items)(hb:cN s.heap b C)(hi:D4 items.toList i)(N:D4 C.toList m)
  (O:A.units < Ef) (h:Q (.bool (lexLt i m)) s):Ac (AZ prog w) A (BY .Lt (.ref l) (.ref b)) Q E s:=by
 let#[#[cls,P,data,sl],G,H,n,I]:=id L;let#[#[J,o,data2,B],g,hc2,R,hd2]:=id hb;simp only at H I hc2 hd2;subst H I hc2 hd2
 exact richCompare_meets_room (op:=.Lt) #[_,G,rfl] #[_,g,rfl] PySem.F.slot_tuple_lt PySem.F.entry_tuple_lt (PySem.F.args_tuple_lt_2 _ _) (Wc l b items C n R P o sl B i m hi N)
  #[G,g,show NO (lexLt i m)≠AH.notImplemented/\Q (.bool (lexLt i m)) s from#[(λx=>nomatch x),h]] O
theorem uN(L:cN s.heap t vs.toArray)(hb:cN s.heap b g.toArray)(N:vs≠[])
  (O:g=[]->Q (.ref t) s) (P:g≠[]->Q (.ref s.heap.objs.size) { s with heap:=s.heap.push { cls:=.type "tuple",data:=.seq (vs++g).toArray } })
  (hsz:-vs+-g<=sizeLine):Ac (AZ prog w) A (Cg .Add (.ref t) (.ref b)) Q E s:=by
 let#[#[cls,C,data,sl],B,G,n,H]:=id L;let#[#[I,m,data2,o],i,hc2,J,hd2]:=id hb;simp only at G H hc2 hd2;subst G H hc2 hd2
 let e:vs.toArray++g.toArray=(vs++g).toArray:=by simp
 by_cases hw:g=[]
 ·exact kE #[_,B,rfl] #[_,i,rfl] X1 gx MU Lm (LB _ _)
   (tuple_addW1 t b vs.toArray g.toArray n J C m sl o (by simpa using N) (by simp[hw])) #[B,i,O hw]
 ·refine kE #[_,B,rfl] #[_,i,rfl] X1 gx MU Lm (LB _ _)
   (tuple_addW2 t b vs.toArray g.toArray n J C m sl o (by ext) (by ext) (by assumption)) #[B,i,?_]
  rw[e];exact P hw
noncomputable def sIx(n d:Nat):⇑Int->Nat
 | none=>d
 | some v=>if v < 0 then(v+(n:Int)).toNat else min v.toNat n
theorem Qi(n d:Nat):sIx n d none=d:=rfl
theorem Tt(n d k:Nat):sIx n d (!(k:Int))=min k n:=by
 rfl
theorem wg(n d:Nat)(i:d<=n)(o:⇑Int):sIx n d o<=n:=by
 cases o with
 | none=>exact i
 | some v=>
  show(if v < 0 then(v+(n:Int)).toNat else min v.toNat n)<=n
  by_cases g:v < 0
  ·rw[qX g];lia
  ·rw[qY g];exact qE _ _
theorem gh(v:Int)(n d:Nat):(if v < 0 then max (v+(n:Int)) 0 else min v (n:Int))=((sIx n d (!v):Nat):Int):=by
 show(if v < 0 then max (v+(n:Int)) 0 else min v (n:Int))=(((if v < 0 then(v+(n:Int)).toNat else min v.toNat n):Nat):Int)
 by_cases g:v < 0
 ·ext
 ·simp only[qY g];grind
theorem eR(lo hi:⇑Int)(n:Nat):Jj lo hi 1 (n:Int)=(((sIx n 0 lo:Nat):Int),((sIx n n hi:Nat):Int)):=by
 let g:Not ((1:Int) < 0):=by decide
 unfold Jj;simp only[g,if_false];refine Prod.ext ?_ ?_
 ·cases lo with
  | none=>rfl
  | some v=>exact gh v n 0
 ·cases hi with
  | none=>rfl
  | some v=>exact gh v n n
theorem dD(i j:Nat):Fo (i:Int) (j:Int) 1=j - i:=by
 unfold Fo
 let g:(1:Int) > 0:=by decide
 simp only[g,if_true,Int.ediv_one]
 split <;> ext
theorem Us(p:Rb v o)(h:Q o s):Ac (AZ prog w) A (zz v) Q E s:=by
 cases p with
 | none=>exact slicePart_none h
 | int i t=>exact slicePart_int h
theorem Ly{sl:AW}{m o:AH}{lo hi:⇑Int}{n:Nat}{Q:Int×Int×Nat->AM->Prop}(B:s.heap.IsSliceOf sl m o .none)(pl:Rb m lo)(C:Rb o hi)
  (h:Q (((sIx n 0 lo:Nat):Int),1,sIx n n hi - sIx n 0 lo) s):Ac (AZ prog w) A (QM (.ref sl) (pure (n:Int))) Q E s:=by
 let#[os,g,G,i]:=id B;unfold QM Builtin.Slice.sliceFields;refine AA (AA (JC g i (x:=m) rfl (AA (JC g i (x:=o) rfl (AA (JC g i (x:=.none) rfl (AC ?_)))))));refine AA (slicePart_none ?_);show Ac _ _ (if ((1:Int)==0) then _ else _) _ _ s;rw[qY (by ext)];refine AA (Us pl (AA (Us C (AA (AC ?_)))));show Ac _ _ (match Jj lo hi 1 (n:Int)with | (lo,hi)=>pure (lo,(1:Int),Fo lo hi 1)) _ _ s;rw[eR lo hi n];show Ac _ _ (pure (((sIx n 0 lo:Nat):Int),(1:Int),Fo ((sIx n 0 lo:Nat):Int) ((sIx n n hi:Nat):Int) 1)) _ _ s;rw[dD];exact AC h
theorem mV(xs:Array AH)(i k:Nat):((Ca k).filterMap λ(m:Nat)=>xs[((i:Int)+(m:Int) * 1).toNat]?).toArray=((xs.toList.drop i).take k).toArray:=by
 let e:(λ(m:Nat)=>xs[((i:Int)+(m:Int) * 1).toNat]?)=λm=>xs[i+m]?:=by
  funext m
  let:((i:Int)+(m:Int) * 1).toNat=i+m:=by lia
  rw[this]
 rw[e];let:=pick_run xs i k;rw[List.filterMap_map]at this
 let g:((λx=>xs[x]?)∘λx=>i+x)=λm=>xs[i+m]?:=rfl
 ext
theorem Q9{t sl}{items}{G H}{lo hi}{Q}(g:cN s.heap t items)(I:s.heap.IsSliceOf sl G H .none)(pl:Rb G lo)(J:Rb H hi)
  (hw:Not (sIx items.size 0 lo=0/\sIx items.size items.size hi=items.size))
  (h:Q (.ref s.heap.objs.size) { s with heap:=s.heap.push { cls:=.type "tuple",data:=.seq ((items.toList.drop (sIx items.size 0 lo)).take (sIx items.size items.size hi - sIx items.size 0 lo)).toArray } })
  (hsz:items.size<=sizeLine):Ac (AZ prog w) A (Lk (.ref t) (.ref sl)) Q E s:=by
 let ϰ:sizeOk (.seq ((items.toList.drop (sIx items.size 0 lo)).take (sIx items.size items.size hi - sIx items.size 0 lo)).toArray):=by
  show((items.toList.drop (sIx items.size 0 lo)).take (sIx items.size items.size hi - sIx items.size 0 lo)).toArray.size<=sizeLine;rw[Bp,ET,G0,CW];omega
 let N:sIx items.size items.size hi<=items.size:=wg _ _ (AO _) hi;let#[os,i,o,L]:=id I;let B:s.TypeIs (.ref sl) "slice":=#[os,i,o];unfold Lk
 try with_reducible refine DT ?_
 first | refine AA (AC ?_) | skip
 refine AA (zJ g.typeIs (by rfl) ?_)
 refine AA (CG (name:=cG "__getitem__") g.typeIs CZ
  (By CZ g.typeIs ul ?_ (vV _ _)))
 show Ac _ _ (QK (.ref t) >>= _) _ _ s;refine AA (tupleItemsOf_ g ?_);refine AA (Lg B ?_);rw[qX (by rfl)];refine AA (Ly I pl J ?_)
 let C:Not ((((sIx items.size 0 lo:Nat):Int)==0&&(1:Int)==1&&(sIx items.size items.size hi - sIx items.size 0 lo)==items.size)=true):=by
  intro q;rw[Bo,Bo]at q;let O:((sIx items.size 0 lo:Nat):Int)=0:=eq_of_beq q.1.1;let P:sIx items.size items.size hi - sIx items.size 0 lo=items.size:=eq_of_beq q.2;exact hw #[by ext,by ext]
 show Ac _ _ (if (((sIx items.size 0 lo:Nat):Int)==0&&(1:Int)==1&&(sIx items.size items.size hi - sIx items.size 0 lo)==items.size) then _ else _) _ _ s;rw[qY C,mV]
 first
  | exact AA (m:=GN _) (Be (AC #[_,rfl,AC h]) ϰ)
  | exact AA (m:=GN _) (Be (AA (AC (AC #[_,rfl,AC h]))) ϰ)
  | exact AA (AA (m:=GN _) (Be (AC (AC #[_,rfl,AC h])) ϰ))
  | exact AA (AA (m:=GN _) (Be (AC #[_,rfl,AC h]) ϰ))
end
end HT
namespace L2
section
abbrev TO:=St->Hp->(⇑Int->Hp->Prop)->Prop
def PO(X:Cx)(e:⇑Expr)(t:TO):Prop:=
 ∀(i:¬(AW×Obj)) (s:AM) (g:St) (H:Hp) (Q:⇑Int->Hp->Prop),Inv X i g H s->t g H Q ->
  Ac (AZ X.prog X.w) X.A (evalPart e X.env) (λu B=>∃o m,Inv X i g m B/\Rb u o/\Q o m) X.xe s
def rM:TO:=λz H Q=>Q none H
def AAJ(t:TE):TO:=λg H Q=>t g H λx m=>∃i,x=.int i/\Q (!i) m
theorem intsAre_of:∀{us:¬AH},Bs (ns.map V.int) us->D4 us ns:=by
 induction ns with
 | nil=>intro us r;rw[IT]at r;cases r;exact .nil
 | cons n ns g=>
  intro us r;rw[At]at r
  cases r with
  | cons i m=>
   let#[t,e]:=i;subst e;exact .cons n t (g m)
section
variable{κ:Type}[DecidableEq κ]
noncomputable def Ma(g:¬(κ×V))(k:κ):⇑V:=(g.find? λi=>decide (i.1=k)).map (·.2)
noncomputable def Ox(i:¬(κ×V))(k:κ)(v:V):¬(κ×V):=
 if (i.any λg=>decide (g.1=k)) then i.map (λg=>if g.1=k then(g.1,v)else g)else i++[(k,v)]
theorem Ue{p:κ×V}{r:¬(κ×V)}{k:κ}(e:p.1=k):Ma (p :: r) k=!p.2:=by simp[Ma,D7,e]
theorem Uf{p:κ×V}{r:¬(κ×V)}{k:κ}(e:Not (p.1=k)):Ma (p :: r) k=Ma r k:=by simp[Ma,D7,e]
theorem Zv(k:κ):∀g:¬(κ×V),(g.any λi=>decide (i.1=k))=(Ma g k).isSome
 | []=>rfl
 | p :: r=>by
  rw[HN]
  by_cases e:p.1=k
  ·simp only[Ue e,wX e,Bool.true_or,eh]
  ·rw[Uf e,wY e,ve];exact Zv k r
theorem Ss(g:¬(κ×V))(k:κ)(v:V):-Ox g k v<=-g+1:=by
 unfold Ox;split
 ·rw[AN];ext
 ext
theorem O7.isSome_eq(r:O7 o u):o.isSome=u.isSome:=by
 cases o with
 | none=>cases u with
  | none=>rfl
  | some _=>exact(show False from r).elim
 | some _=>cases u with
  | none=>exact(show False from r).elim
  | some _=>rfl
theorem KV.val{m:¬(κ×V)}{vs:¬(κ×AH)}(r:KV m vs)(k:κ):O7 (Ma m k) (WQ vs k):=by
 unfold KV at r
 induction r with
 | nil=>exact Fb
 | @cons p q B g h t s=>
  let#[o,A]:=h
  by_cases e:p.1=k
  ·let i:q.1=k:=o.symm.trans e
   let b:WQ (q :: g) k=!q.2:=by simp[WQ,D7,i]
   rw[Ue e,b];exact A
  ·let i:Not (q.1=k):=λz=>e (o.trans z)
   let b:WQ (q :: g) k=WQ g k:=by simp[WQ,D7,i]
   rw[Uf e,b];exact s
theorem KV.any(r:KV i vs)(k:κ):(i.any λg=>decide (g.1=k))=vs.any λg=>decide (g.1=k):=by
 unfold KV at r
 induction r with
 | nil=>rfl
 | cons h t m=>ext
theorem KV.repl(r:KV i vs)(k:κ)(o:RelV y u) :
  KV (i.map λg=>if g.1=k then(g.1,y)else g) (vs.map λg=>if g.1=k then(g.1,u)else g):=by
 unfold KV at r ⊢
 induction r with
 | nil=>exact .nil
 | @cons p q s A h t m=>
  rw[At,At];refine .cons ?_ m
  lia
theorem KV.put(r:KV i vs)(k:κ)(g:RelV y u):KV (Ox i k y) (stored vs k u):=by
 unfold Ox stored;rw[r.any k]
 by_cases e:(vs.any λm=>decide (m.1=k))=true
 ·rw[qX e,qX e];exact r.repl k g
 ·rw[qY e,qY e];exact bj r #[rfl,g]
theorem KV.length(r:KV g vs):-g=-vs:=Fh r
end
theorem a7(r:RelV (kV k) u):(E3 P w).is k u:=by
 cases k with
 | inl i=>let#[t,e]:=(show ∃t,u=Dy i t from r);subst e;exact ak P w i t
 | inr x=>let#[t,e]:=(show ∃t,u=TD x t from r);subst e;exact aj P w x t
theorem Xj:∀{g:¬Key} {us:¬AH},Bs (g.map kV) us->ItemsAre (E3 P w) g us
 | [],_,r=>by rw[IT]at r;cases r;exact .nil
 | k :: g,_,r=>by
  rw[At]at r
  cases r with
  | cons h t=>exact .cons (a7 h) (Xj t)
abbrev KT(H:Hp):¬(¬Key×V)->¬(¬Key×AW×AH)->Prop:=HE λp q=>p.1=q.1/\H q.2.1=!.tup (p.1.map kV)/\RelV p.2 q.2.2
theorem KT.val{H:Hp}{m:¬(¬Key×V)}{xs:¬(¬Key×AW×AH)}(r:KT H m xs)(k:¬Key):O7 (Ma m k) ((cD xs k).map (·.2)):=by
 induction r with
 | nil=>exact Fb
 | @cons p q B g h t s=>
  let#[o,_,A]:=h
  by_cases e:p.1=k
  ·let i:q.1=k:=o.symm.trans e
   let b:cD (q :: g) k=!q.2:=by simp[cD,D7,i]
   rw[Ue e,b];exact A
  ·let i:Not (q.1=k):=λz=>e (o.trans z)
   let b:cD (q :: g) k=cD g k:=by simp[cD,D7,i]
   rw[Uf e,b];exact s
theorem KT.repl(r:KT H i xs)(k:¬Key)(o:RelV y u) :
  KT H (i.map λg=>if g.1=k then(g.1,y)else g) (xs.map (putAt k u)):=by
 induction r with
 | nil=>exact .nil
 | @cons p q s A h t m=>
  rw[At,At];refine .cons ?_ m;let#[B,C,E]:=h;unfold putAt
  lia
theorem KT.put(r:KT H g xs)(k:¬Key)(hb:H b=!.tup (k.map kV))(i:RelV y u) :
  KT H (Ox g k y) (storedH xs k b u):=by
 let e:(g.any λm=>decide (m.1=k))=(cD xs k).isSome:=by
  rw[Zv,(r.val k).isSome_eq,LC]
 unfold Ox storedH;rw[e]
 by_cases q:(cD xs k).isSome=true
 ·rw[qX q,qX q];exact r.repl k i
 ·rw[qY q,qY q];exact bj r #[rfl,hb,i]
theorem KT.keeps(r:KT H i xs)(m:∀b g,H b=!.tup g->o b=!.tup g):KT o i xs:=
 HE.mapP r λG G z=>#[z.1,m _ _ z.2.1,z.2.2]
variable{X:Cx}{e:Expr}{lo hi:⇑Expr}{pos p2:Pos}
theorem sK:PO X none rM:=by
 intro g s i H Q I h;rw[evalPart_none];exact AC #[none,H,I,.none,h]
theorem sJ(h:PE X e te):PO X (!e) (AAJ te):=by
 intro g s m H Q I hw;rw[evalPart_some]
 refine thn (h g s m H _ I hw) ?_;rintro u E ⟨x,o,A,B,C⟩
 let#[i,rfl,q]:=C;let#[t,rfl]:=B;exact#[!i,o,A,.int i t,q]
def SlR(X:Cx)(r:V->⇑Int->⇑Int->Hp->VK->Prop):Prop:=
 ∀(g:¬(AW×Obj)) (s:AM) (i:St) (H:Hp) (x:V) (v m o:AH) (lo hi:⇑Int) (sl:AW) (Q:VK),Inv X g i H s->RelV x v->s.heap.IsSliceOf sl m o .none->Rb m lo->Rb o hi->r x lo hi H Q ->
  ∃T id,vS (.type T) "__getitem__" = pure (!.builtin id)/\s.TypeIs v T/\Ac (AZ X.prog X.w) X.A (Lk v (.ref sl)) (EP X g i Q) X.xe s
theorem SlR.or(h:SlR X r)(h':SlR X G):SlR X (λx lo hi H Q=>r x lo hi H Q∨G x lo hi H Q):=by
 intro g s i H x v m o lo hi sl Q I A B C E q
 rcases q with q | q
 ·exact h g s i H x v m o lo hi sl Q I A B C E q
 ·exact h' g s i H x v m o lo hi sl Q I A B C E q
def tSl(r:V->⇑Int->⇑Int->Hp->VK->Prop)(te:TE)(i m:TO):TE:=λg H Q=>te g H λx o=>i g o λl s=>m g s λu A=>r x l u A Q
theorem aS(E:SlR X r)(G:PE X e te)(J:PO X lo L)(N:PO X hi O):PE X (.Subscript e (.Slice lo hi none p2) pos) (tSl r te L O):=by
 intro i s m H Q I h;refine vW (thn (G i s m H _ I h) ?_);rintro v P ⟨x,R,S,U,Y⟩;refine wpAny_Slice (thn (J i P m R _ S Y) λo Z #[l,H2,I2,pl,q2]=>thn (N i Z m H2 _ I2 q2) ?_);rintro B g ⟨u,C,I3,pu,q3⟩;rw[evalPart_none];refine AC ?_
 let I4:Inv X i m C { g with heap:=g.heap.push { cls:=.type "slice",data:=.fields [o,B,.none].toArray } }:=I3.kept (t':=g.toks) λb ob q=>AI _ q
 let#[T,id,hT,ht,hg]:=E i { g with heap:=g.heap.push { cls:=.type "slice",data:=.fields [o,B,.none].toArray } } m C x v o B l u g.heap.objs.size Q I4 U (za ..) pl pu q3;show Ac (AZ X.prog X.w) X.A (gu e (.Slice lo hi none p2) v (.ref g.heap.objs.size)) (EP X i m Q) X.xe { g with heap:=g.heap.push { cls:=.type "slice",data:=.fields [o,B,.none].toArray } };exact tail_any (ops:=[.ref g.heap.objs.size,v]) ht hT hg (by rfl)
def ZA(xs:¬V)(lo hi:⇑Int):¬V:=(xs.drop (HT.sIx (-xs) 0 lo)).take (HT.sIx (-xs) (-xs) hi - HT.sIx (-xs) 0 lo)
theorem Sx(xs:¬V)(lo hi:⇑Int):-ZA xs lo hi<=-xs:=by
 unfold ZA;rw[ET,G0]
 lia
def rSlT(K:AD):V->⇑Int->⇑Int->Hp->VK->Prop:=λx lo hi H Q=>∃a g,x=.ref a/\SqT K H a g /\
 Not (HT.sIx (-g) 0 lo=0/\HT.sIx (-g) (-g) hi=-g)/\∀p,H p=none->Q (.ref p) (upd H p (.tup (ZA g lo hi)))
theorem lg:SlR X (rSlT X.K):=by
 intro N s O H x v P R lo hi sl Q I A B C E h;let#[a,i,rfl,G,hw,q]:=h;cases A;let#[J,r,m,L]:=I.tuple G
 let g:J.toArray.size=-i:=by rw[Bp];exact r.length.symm
 refine#["tuple",_,CZ.lookup,m.typeIs,?_];refine HT.Q9 m B C E (by rw[g];exact hw) ?_ (by ext);rw[g];refine#[.ref s.heap.objs.size,_,I.laid (t':=s.toks) (o:=.tup (ZA i lo hi)) (λb S q=>AI _ q) (AO _) ?_,rfl,q _ (I.hok.fresh (AO _))];exact#[#[Ab (Sx i lo hi) L,#[_,AT _ rfl,rfl]],_,(r.drop (HT.sIx (-i) 0 lo)).take (HT.sIx (-i) (-i) hi - HT.sIx (-i) 0 lo),kP _ _]
def rLtT(K:AD):R2:=λx y H Q=>∃a b g i,x=.ref a/\y=.ref b/\SqT K H a (g.map V.int)/\SqT K H b (i.map V.int)/\Q (.bl (HT.lexLt g i)) H
theorem xW(g:X.A.units < Ef):OpR X (BY .Lt) (rLtT X.K):=by
 intro O s P H x y v u Q I i m h;let#[a,b,ns,ms,rfl,rfl,o,hb,q]:=h;cases i;cases m;let#[B,C,E,_]:=I.tuple o;let#[G,J,p2,_]:=I.tuple hb;let L:D4 B.toArray.toList ns:=intsAre_of C;let N:D4 G.toArray.toList ms:=intsAre_of J;exact HT.dR E p2 L N g #[.bl (HT.lexLt ns ms),H,I,rfl,q]
def AAf(K:AD):R2:=λx y H Q=>∃a b i g,x=.ref a/\y=.ref b/\SqT K H a i/\SqT K H b g/\i≠[]/\-i+-g<=sizeLine /\
 (g=[]->Q (.ref a) H)/\(g≠[]->∀p,H p=none->Q (.ref p) (upd H p (.tup (i++g))))
theorem Bs.nil_iff(r:Bs xs us):us=[]↔xs=[]:=by
 cases r with
 | nil=>simp
 | cons _ _=>simp
theorem sg:OpR X (Cg .Add) (AAf X.K):=by
 intro P s R H x y v u Q I m A h;let#[a,b,B,C,rfl,rfl,E,hb,G,J,L,N]:=h;cases m;cases A;let#[S,i,O,_]:=I.tuple E;let#[T,g,p2,_]:=I.tuple hb;refine HT.uN O p2 (λz=>G (i.nil_iff.mp z)) (λz=>#[.ref a,H,I,rfl,L (g.nil_iff.mp z)]) (λz=>?_) (by rw[<-i.length,<-g.length];exact J);refine#[.ref s.heap.objs.size,_,I.laid (t':=s.toks) (o:=.tup (B++C)) (λb U q=>AI _ q) (AO _) ?_,rfl,N (λw=>z (g.nil_iff.mpr w)) _ (I.hok.fresh (AO _))];exact#[#[by ext,#[_,AT _ rfl,rfl]],_,i.append g,kP _ _]
end
section
noncomputable def ixN(n:Nat)(i:Int):⇑Nat:=if 0<=i then(if i < n then !i.toNat else none)else if (unop% Neg.neg (n:Int))<=i then !(i+n).toNat else none
def atI{α:Type}(xs:¬α)(i:Int):⇑α:=ixN (-xs) i*>λj=>xs[j]?
theorem gF(h:ixN n i=!j):seqIndex? i n=!j/\j < n/\(unop% Neg.neg (n:Int))<=i/\i < n:=by
 unfold ixN at h
 by_cases m:0<=i
 ·rw[qX m]at h
  by_cases g:i < n
  ·rw[qX g]at h
   let e:i.toNat=j:=B0 h;exact#[by rw[p0 m g,e],by lia,by lia,g]
  ext
 ·rw[qY m]at h
  by_cases g:(unop% Neg.neg (n:Int))<=i
  ·rw[qX g]at h
   let e:(i+n).toNat=j:=B0 h;exact#[by rw[seqIndex_neg (by ext) g,e],by lia,g,by lia]
  ext
theorem ZI{g:Type}{xs:¬g}{i:Int}{v:g}(h:atI xs i=!v):∃j,seqIndex? i (-xs)=!j/\xs[j]?=!v/\j < -xs/\(unop% Neg.neg (-xs:Int))<=i/\i < -xs:=by
 unfold atI at h
 cases e:ixN (-xs) i with
 | none=>ext
 | some j=>
  rw[e]at h;let#[m,o,s,A]:=gF e;exact#[j,m,h,o,s,A]
def ZR(b:Expr):Prop:=∀o i,ZS b false o i=operate [o,i] (Lk o i)
def IxR(X:Cx)(r:R2):Prop:=
 ∀(value slice:Expr) (g:¬(AW×Obj)) (s:AM) (i:St) (H:Hp) (x y:V) (v u:AH) (Q:VK),Inv X g i H s->RelV x v->RelV y u->r x y H Q ->
  ZS slice false v u=operate [v,u] (Lk v u)->Ac (AZ X.prog X.w) X.A (gu value slice v u) (EP X g i Q) X.xe s
def MtR(X:Cx)(id:String)(r:V->¬V->Hp->VK->Prop):Prop:=
 ∀(g:¬(AW×Obj)) (s:AM) (i:St) (H:Hp) (x:V) (m:¬V) (v:AH) (o:¬AH) (Q:VK),Inv X g i H s->RelV x v->Bs m o->r x m H Q ->
  Ac (AZ X.prog X.w) X.A (call (.builtin id) (v :: o)) (EP X g i Q) X.xe s
section
variable{P:BP}{w:Bx}{H:Hp}{h:Cb}{a:AW}
theorem u0(ok:HOk P w H h)(e:Rd H a u):EB P w H h a u:=e.ok ok
theorem bM(ok:HOk P w H h)(e:Rd H a (.dK g)):-g<=sizeLine/\(a==EI)=false/\∃vs,KV g vs/\h.DictOf (E3 P w) a vs:=
 show EB P w H h a (.dK g)from u0 ok e
theorem ABR(ok:HOk P w H h)(e:H a=!.dK g):-g<=sizeLine/\(a==EI)=false/\∃vs,KV g vs/\h.DictOf (E3 P w) a vs:=bM ok (.inl e)
theorem Vm(ok:HOk P w H h)(e:H a=!.tup (g.map kV)):(X0 (E3 P w)).is h g a:=by
 let#[_,i,r,o,m,s,n,A]:=(show EB P w H h a (.tup (g.map kV))from ok a _ e);exact#[o,i.toArray,n,m,s,A,by simpa using Xj r]
theorem bL(ok:HOk P w H h)(e:Rd H a (.dT i)):-i<=sizeLine/\(a==EI)=false /\
  ∃xs,KT H i xs/\h.DictOfH (X0 (E3 P w)) a xs:=by
 let#[z,y,xs,r,o,s,A,B,C,E,G,I]:=(show EB P w H h a (.dT i)from u0 ok e);refine#[z,y,xs,r,o,s,A,B,C,E,G,λx g=>?_,I]
 let all:∀{l:¬(¬Key×V)} {m:¬(¬Key×AW×AH)},KT H l m->∀x∈m,(X0 (E3 P w)).is h x.1 x.2.1:=by
  intro l m q
  induction q with
  | nil=>ext
  | @cons p q L N O t J=>
   intro x g
   rcases Am.mp g with e | g
   ·subst e
    exact Vm ok (by ext)
   ·exact J x g
 exact all r x g
theorem ABQ(ok:HOk P w H h)(e:H a=!.dT g):-g<=sizeLine/\(a==EI)=false /\
  ∃xs,KT H g xs/\h.DictOfH (X0 (E3 P w)) a xs:=bL ok (.inl e)
end
def RU(H:Hp)(a:AW)(y:V)(r:⇑V):Prop:=
 (∃g k,Rd H a (.dK g)/\y=kV k/\r=Ma g k)∨∃g k b,Rd H a (.dT g)/\y=.ref b/\H b=!.tup (k.map kV)/\r=Ma g k
def be(H:Hp)(a:AW)(y v:V)(i:Hp):Prop:=
 (∃g k,H a=!.dK g/\y=kV k/\-g < sizeLine/\i=upd H a (.dK (Ox g k v))) ∨
 ∃g k b,H a=!.dT g/\y=.ref b/\H b=!.tup (k.map kV)/\-g < sizeLine/\i=upd H a (.dT (Ox g k v))
theorem RU.k{H}{a}{g}{k}(e:H a=!.dK g):RU H a (kV k) (Ma g k):=.inl #[g,k,.inl e,rfl,rfl]
theorem RU.t{H}{a b}{g}{k}(e:H a=!.dT g)(i:H b=!.tup (k.map kV)):RU H a (.ref b) (Ma g k):=.inr #[g,k,b,.inl e,rfl,i,rfl]
theorem be.k{H}{a}{g}{k}{v}(e:H a=!.dK g)(i:-g < sizeLine):be H a (kV k) v (upd H a (.dK (Ox g k v))):=.inl #[g,k,e,rfl,i,rfl]
theorem be.t{H}{a b}{g}{k}{v}(e:H a=!.dT g)(i:H b=!.tup (k.map kV))(m:-g < sizeLine) :
  be H a (.ref b) v (upd H a (.dT (Ox g k v))):=.inr #[g,k,b,e,rfl,i,m,rfl]
variable{X:Cx}{a b:Expr}{ta tb:TE}{pos:Pos}
theorem IxR.or(h:IxR X r)(h':IxR X B):IxR X (λx y H Q=>r x y H Q∨B x y H Q):=by
 intro value slice g s i H x y v u Q I m o q A
 rcases q with q | q
 ·exact h value slice g s i H x y v u Q I m o q A
 ·exact h' value slice g s i H x y v u Q I m o q A
theorem AAn(g:IxR X r)(i:PE X a ta)(hb:PE X b tb)(m:ZR b):PE X (.Subscript a b pos) (tOp r ta tb):=by
 intro o s A H Q I h;exact vW (zC i hb I h λv u B x y C E G J q=>g a b o B A C x y v u Q E G J q (m _ _))
def rIxL(K:AD):R2:=λx y H Q=>∃p g i v,x=.ref p/\y=.int i/\SqL K H p g/\atI g i=!v/\Q v H
def rIxT(K:AD):R2:=λx y H Q=>∃p g i v,x=.ref p/\y=.int i/\SqT K H p g/\atI g i=!v/\Q v H
def rIxS:R2:=λx y H Q=>∃z i c,x=.str z/\y=.int i/\-z<=sizeLine/\atI z.cps.toList i=!c/\Q (.str #[[c].toArray]) H
theorem ix_list:IxR X (rIxL X.K):=by
 intro value slice o s A H x y v u Q I E G h B;let#[p,Z,i,z,rfl,rfl,J,L,q]:=h;cases E;let#[t,rfl]:=G;let#[N,r,m,hz]:=I.list J;let#[j,g,O,h3,P,R]:=ZI L;let#[w,ew,S]:=r.get O;let T:=-r;let hn:=OD;let fin:EP X o A Q w s:=#[z,H,I,S,q]
 by_cases C:0<=i
 ·let U:i.toNat=j:=by
   rw[p0 C R]at g;exact B0 g
  exact item_listR m.isList C ∅ (by ext) fin B
 ·let U:(i+(N.toArray.size:Int)).toNat=j:=by
   rw[seqIndex_neg (by ext) P]at g;rw[Bp,<-T];exact B0 g
  exact kC (x:=w) m.isList.typeIs zO.lookup
   (wpAny_getItem_list_neg (Q:=λr Y=>r=w/\EP X o A Q r Y) m.isList ∅ ∅ ∅ (by grind) #[rfl,fin]) B
theorem yD:IxR X (rIxT X.K):=by
 intro value slice g s m H x y v u Q I A B h C;let#[p,O,i,z,rfl,rfl,E,G,q]:=h;cases A;let#[t,rfl]:=B;let#[P,r,o,R]:=I.tuple E;let#[j,S,J,T,U,Y]:=ZI G;let#[w,Z,L]:=r.get J;let hl:=-r;let hn:=OD;let fin:EP X g m Q w s:=#[z,H,I,L,q]
 exact kC (x:=w) o.typeIs slot_tuple_getitem.lookup
  (getItem_tuple (j:=j) (Q:=λr N=>r=w/\EP X g m Q r N) o ∅ ∅ (by ext) (by grind) #[rfl,fin]) C
theorem yE:IxR X rIxS:=by
 intro value slice J s L H x y v u Q I g m h o;let#[z,i,c,rfl,rfl,N,A,q]:=h;let#[t,rfl]:=g;let#[O,rfl]:=m;let#[j,B,P,R,C,E]:=ZI A
 let G:-z.cps.toList=-z:=by simp[Str.length]
 rw[G]at B C E;let S:=OD
 exact tail_any (UI s z t) slot_str_getitem.lookup (getItem_str (c:=c) (by
  lia) (by ext) #[.str #[[c].toArray],H,I.tok _,#[_,rfl],q]) o
theorem dN(g:¬AH)(n j:Nat)(u:AH):E5 (·.setIfInBounds j u) { cls:=.type "list",data:=.seq g.toArray n }={ cls:=.type "list",data:=.seq (g.set j u).toArray n }:=by
 simp[E5]
theorem Inv.lst(I:Inv X i m H s)(h:H p=!.lst xs) :
  ∃(g:¬AH) (n:Nat),Bs xs g/\s.heap.get? p=some { cls:=.type "list",data:=.seq g.toArray n }/\-xs<=sizeLine:=by
 let#[z,g,n,r,e]:=I.hok p _ h;exact#[g,n,r,e,z]
theorem Inv.lstUpd{m:¬(AW×Obj)}{o:St}{H:Hp}{s:AM}{p:AW}{xs g:¬V}{A its':¬AH}{n i:Nat}{f:Obj->Obj}(I:Inv X m o H s)(h:H p=!.lst xs)
  (ho:s.heap.get? p=some { cls:=.type "list",data:=.seq A.toArray n }) (hf:f { cls:=.type "list",data:=.seq A.toArray n }={ cls:=.type "list",data:=.seq its'.toArray i }) (r:Bs g its') (hz:-g<=sizeLine) (t:Nat) :
  Inv X m o (upd H p (.lst g)) { s with heap:=s.heap.update p f,toks:=t }:=by
 let e:(s.heap.update p f).get? p=some { cls:=.type "list",data:=.seq its'.toArray i }:=by
  rw[Db f ho (by rw[hf] <;> rfl),hf]
 refine I.write (x:=p) (e:=p) (by rw[h];trivial) (.inl rfl) (λb u hb q=>(CJ _ _ (Cc hb)).trans q) #[_,e] ?_;exact#[hz,its',i,r,e]
def AAb:V->V->V->Hp->(Hp->Prop)->Prop:=λo i v H Q=>∃p g k j,o=.ref p/\i=.int k/\H p=!.lst g/\ixN (-g) k=!j/\Q (upd H p (.lst (g.set j v)))
theorem lr:PSet X AAb:=by
 intro J s L H o i v Z iv u Q I N O P h;let#[p,R,k,j,rfl,rfl,B,S,q]:=h;cases N;let#[t,rfl]:=O;let#[C,n,r,m,hz]:=I.lst B;let#[g,h2,T,U]:=gF S;let Y:=-r;let hn:=OD
 let E:Inv X J L (upd H p (.lst (R.set j v))) { s with heap:=s.heap.update p (E5 (·.setIfInBounds j u)) }:=
  I.lstUpd B m (dN C n j u) (r.set P j) ∅ s.toks
 by_cases G:0<=k
 ·let A:k.toNat=j:=by
   rw[p0 G U]at g;exact B0 g
  exact PySem.W.ki_setAt m G ∅ ∅ (by rw[A];exact#[_,E,q])
 ·let A:(k+(C.toArray.size:Int)).toNat=j:=by
   rw[seqIndex_neg (by ext) T]at g;rw[Bp,<-Y];exact B0 g
  exact PySem.W.ki_setBack m ∅ ∅ ∅ (by rw[A];exact#[_,E,q])
theorem YQ(lo hi:⇑Int)(n:Nat):(RX lo hi none n).1=((HT.sIx n 0 lo:Nat):Int)/\(RX lo hi none n).2.1=((HT.sIx n n hi:Nat):Int)/\(RX lo hi none n).2.2=1:=by
 refine#[?_,?_,rfl]
 ·cases lo with
  | none=>rfl
  | some i=>
   simp only[RX,HT.sIx,j4,show(1:Int) > 0 by decide,if_true]
   by_cases h:i < 0
   ·simp only[h,if_true] <;> grind
   ·simp only[h,if_false] <;> grind
 ·cases hi with
  | none=>rfl
  | some i=>
   simp only[RX,HT.sIx,j4,show(1:Int) > 0 by decide,if_true]
   by_cases h:i < 0
   ·simp only[h,if_true] <;> lia
   ·simp only[h,if_false] <;> lia
theorem We(g:¬AH)(lo hi:⇑Int):slicePick g.toArray lo hi none=((g.drop (HT.sIx (-g) 0 lo)).take (HT.sIx (-g) (-g) hi - HT.sIx (-g) 0 lo)).toArray:=by
 let#[i,m,o]:=YQ lo hi g.toArray.size;unfold slicePick;rw[i,m,o]
 simp only[sliceRange_one,pick_run,Bp] <;> rfl
def rSlL(K:AD):V->⇑Int->⇑Int->Hp->VK->Prop:=λx lo i H Q=>∃a g,x=.ref a/\SqL K H a g/\∀p,H p=none->Q (.ref p) (upd H p (.lst (ZA g lo i)))
theorem rX:SlR X (rSlL X.K):=by
 intro N s O H x v P R lo m sl Q I B C E G h;let#[a,g,rfl,J,q]:=h;cases B;let#[S,r,A,L]:=I.list J;let i:=-r;refine#["list",_,zO.lookup,A.isList.typeIs,?_];refine wpAny_getItem_list_slice A.isList C E G .none (by decide) ?_ ∅;rw[We,<-i];refine#[.ref s.heap.objs.size,_,I.laid (t':=s.toks) (o:=.lst (ZA g lo m)) (λb T q=>AI _ q) (AO _) ?_,rfl,q _ (I.hok.fresh (AO _))];exact#[Ab (Sx g lo m) L,_,0,(r.drop (HT.sIx (-g) 0 lo)).take (HT.sIx (-g) (-g) m - HT.sIx (-g) 0 lo),AT _ rfl]
def RE:V->Bool
 | .non=>true
 | .bl _=>true
 | .int _=>true
 | .str _=>true
 | _=>false
noncomputable def eqV:V->V->Bool
 | .non,.non=>true
 | .bl a,.bl b=>a==b
 | .bl a,.int b=>(if a then 1 else 0)==b
 | .int a,.bl b=>a==(if b then 1 else 0)
 | .int a,.int b=>a==b
 | .str a,.str b=>a==b
 | _,_=>false
theorem yu(m:RelV y u)(g:RelV x v)(B:RE y)(o:RE x):g8 A s u v (eqV y x):=by
 cases y with
 | non=>
  cases m
  cases x with
  | non=>cases g;exact g8.same _
  | bl b=>cases g;exact g8.none_bool b
  | int b=>let#[t,rfl]:=g;exact g8.none_int b t
  | str b=>let#[t,rfl]:=g;exact g8.none_str b t
  | _=>exact zX (show false=true from o) AQ
 | bl a=>
  cases m
  cases x with
  | non=>cases g;exact g8.bool_none a
  | bl b=>cases g;exact g8.bool_bool a b
  | int b=>let#[t,rfl]:=g;exact g8.bool_int a b t
  | str b=>let#[t,rfl]:=g;exact g8.bool_str a b t
  | _=>exact zX (show false=true from o) AQ
 | int a=>
  let#[i,rfl]:=m
  cases x with
  | non=>cases g;exact g8.int_none a i
  | bl b=>cases g;exact g8.int_bool a i b
  | int b=>let#[t,rfl]:=g;exact ZW a i b t
  | str b=>let#[t,rfl]:=g;exact ZV a i b t
  | _=>exact zX (show false=true from o) AQ
 | str a=>
  let#[i,rfl]:=m
  cases x with
  | non=>cases g;exact g8.str_none a i
  | bl b=>cases g;exact g8.str_bool a i b
  | int b=>let#[t,rfl]:=g;exact ZU a i b t
  | str b=>let#[t,rfl]:=g;exact g8.str_str a i b t
  | _=>exact zX (show false=true from o) AQ
 | _=>exact zX (show false=true from B) AQ
def eqU(x:V)(u:AH):Bool:=match u with
 | .none=>eqV .non x
 | .bool b=>eqV (.bl b) x
 | .int i _=>eqV (.int i) x
 | .str z _=>eqV (.str z) x
 | _=>false
theorem om(r:RelV y u)(f:RE y):eqU x u=eqV y x:=by
 cases y with
 | non=>cases r;rfl
 | bl b=>cases r;rfl
 | int i=>let#[t,rfl]:=r;rfl
 | str z=>let#[t,rfl]:=r;rfl
 | _=>exact zX (show false=true from f) AQ
theorem ZK:∀{xs:¬V} {us:¬AH},Bs xs us->xs.all RE->us.any (eqU x)=xs.any λy=>eqV y x
 | _,_,.nil,_=>rfl
 | y :: xs,u :: us,.cons r t,f=>by
  rw[QJ,Bo]at f;rw[HN,HN,om r f.1,ZK t f.2]
theorem Qx(i:RelV x v)(m:RE x):∀{xs:¬V} {us:¬AH},Bs xs us->xs.all RE->∀u∈us,g8 A s u v (eqU x u)
 | _,_,.nil,_=>λu g=>by cases g
 | y :: xs,u :: us,.cons r t,f=>λo g=>by
  rw[QJ,Bo]at f
  rcases Am.mp g with rfl | g
  ·rw[om r f.1];exact yu r i f.1 m
  ·exact Qx i m t f.2 o g
def inV(x:V)(xs:¬V):Bool:=xs.any λy=>eqV y x
def rIn(K:AD)(neg:Bool):R2:=λx y H Q=>∃p g,y=.ref p/\(SqL K H p g∨SqT K H p g)/\RE x/\g.all RE/\Q (.bl (if neg then not (inV x g) else inV x g)) H
theorem Yb:OpR X (BY .NotIn) (rIn X.K true):=by
 intro E s G H x y v u Q I o B h;let#[p,J,rfl,g,A,fs,q]:=h;cases B
 rcases g with g | g
 ·let#[i,r,m,C]:=I.list g
  refine SeqAt.notIn_listAt (eqU x) m.isList (λw hw=>Qx o A r fs w (by ext)) #[.bl _,H,I,rfl,?_];rw[show i.toArray.any (eqU x)=i.any (eqU x) by simp,ZK r fs];exact q
 ·let#[i,r,m,C]:=I.tuple g
  refine SeqAt.notIn_tupleAt (eqU x) m (λw hw=>Qx o A r fs w (by grind)) #[.bl _,H,I,rfl,?_];rw[show i.toArray.any (eqU x)=i.any (eqU x) by simp,ZK r fs];exact q
theorem ZG:Jb X (.builtin "len") (λxs H Q=>∃p g,xs=[.ref p]/\(SqL X.K H p g∨SqT X.K H p g)/\Q (.int (-g)) H):=by
 intro G s J H xs L Q I r h;let#[p,g,rfl,i,q]:=h;let#[u,rfl,B]:=vals1 r;cases B;let N:=OD
 rcases i with i | i
 ·let#[C,o,A,E]:=I.list i
  let m:=-o;exact Calls.call_len_list A.isList (by simp only[Bp] <;> lia) #[.int (-g),H,I.tok _,#[s.toks+1,by ext],q]
 ·let#[C,o,A,E]:=I.tuple i
  let m:=-o;exact len_tuple A (by simp only[Bp] <;> lia) #[.int (-g),H,I.tok _,#[s.toks+1,by grind],q]
theorem ZF:Jb X (.builtin "len") (λxs H Q=>∃z,xs=[.str z]/\-z<=sizeLine/\Q (.int (-z)) H):=by
 intro g s i H xs m Q I r h;let#[z,rfl,o,q]:=h;let#[u,rfl,t,rfl]:=vals1 r;let A:=OD;exact len_str ∅ #[.int (-z),H,I.tok _,#[_,rfl],q]
theorem Ws:Jb X (.type "tuple") (λxs H Q=>∃p g,xs=[.ref p]/\((SqL X.K H p g/\∀l,H l=none->Q (.ref l) (upd H l (.tup g)))∨(SqT X.K H p g/\Q (.ref p) H))):=by
 intro E s G H xs R Q I r h;let#[p,g,rfl,h]:=h;let#[u,rfl,O]:=vals1 r;cases O
 rcases h with⟨m,q⟩ | ⟨m,q⟩
 ·let#[A,B,C,J]:=I.list m
  let L:=-B;refine call_tuple_list C.isList (λi kp=>?_) ∅;let N:Inv X E G H { s with heap:=i }:=I.kept (t':=s.toks) kp
  let P:Inv X E G (upd H i.objs.size (.tup g)) { s with heap:=i.push { cls:=.type "tuple",data:=.seq A.toArray } }:=
   N.laid (t':=s.toks) (λb o e=>AI _ e) (AO _) (show EB X.prog X.w _ _ _ (.tup g)from#[#[J,#[_,AT _ rfl,rfl]],A,B,kP _ _])
  exact#[.ref i.objs.size,_,P,rfl,q _ (N.hok.fresh (AO _))]
 ·let#[A,B,C,J]:=I.tuple m
  exact call_tuple_same C #[.ref p,H,I,rfl,q]
def tyV(K:AD)(T:String)(x:V)(H:Hp):Prop:=match x with
 | .str _=>T = "str"
 | .int _=>T = "int"
 | .ref p=>(T = "list"/\∃i,SqL K H p i)∨(T = "tuple"/\∃o,K.lookup p=!o/\o.cls=.type "tuple"/\o.dict=none) ∨
   (T = "dict"/\((∃g,H p=!.dK g)∨∃g,H p=!.dT g))∨(T = "set"/\∃S n,H p=!.set S n)
 | _=>False
theorem lJ(I:Inv X L N H s)(r:RelV x v)(ty:tyV X.K T x H) :
  s.TypeIs v T/\∀a,v=.ref a->∃B,s.heap.get? a=!B/\B.dict=none:=by
 cases x with
 | str z=>
  let#[t,rfl]:=r;cases(show T = "str" from ty);exact#[UI s z t,λM e=>nomatch e]
 | int i=>
  let#[t,rfl]:=r;cases(show T = "int" from ty);exact#[typeIs_int s i t,λM e=>nomatch e]
 | ref p=>
  cases r
  rcases ty with⟨rfl,O,E⟩ | ⟨rfl,o,g,G,m⟩ | ⟨rfl,g⟩ | ⟨rfl,S,n,g⟩
  ·let#[P,_,C,_]:=I.list E
   refine#[C.isList.typeIs,λa e=>?_];cases e;let#[o,n,e,c,m,_]:=C;exact#[o,e,m]
  ·refine#[#[o,I.kIn p o g,G],λa e=>?_]
   cases e;exact#[o,I.kIn _ o g,m]
  ·let z:∃o,s.heap.get? p=!o/\o.ExactDict:=by
    rcases g with⟨J,g⟩ | ⟨J,g⟩
    ·let#[_,_,_,_,o,_,_,e,ex,_]:=I.hok p _ g
     ext
    ·let#[_,_,_,_,o,_,_,e,ex,_]:=I.hok p _ g
     ext
   let#[o,e,ex]:=z;refine#[#[o,e,ex.1],λa A=>?_];cases A;exact#[o,e,ex.2.1]
  ·let#[o,_,_,_,e,ex,_]:=I.hok p _ g
   refine#[#[o,e,ex.1],λa A=>?_];cases A;exact#[o,e,ex.2.1]
 | _=>exact WX ty
def tBM0(K:AD)(T:String)(r:V->¬V->Hp->VK->Prop)(to:TE):TE:=λi H Q=>to i H λx g=>tyV K T x g/\r x [] g Q
def tBM(K:AD)(T:String)(r:V->¬V->Hp->VK->Prop)(to:TE)(t:TA):TE:=λg H Q=>to g H λx i=>tyV K T x i/\t g i λm o=>r x m o Q
variable{o e:Expr}{es:¬Expr}{to:TE}{t:TA}{name:Str}{apos E':Pos}{T id:String}{r:V->¬V->Hp->VK->Prop}
theorem xK(C:PlainAttrs T)(slot:Slot T name id)(g:typeOf (.builtin id)=pure (.type "method_descriptor")) (hm:MtR X id r) (ho:PE X o to)
  (E:↑(Eg o name X.env (Bz o X.env)=Bz o X.env)) (G:↑((apos.endLine==E'.line))):PE X (.Call (.Attribute o name apos) [] [] E') (tBM0 X.K T r to):=by
 intro i s m H Q I h;refine wpAny_Call_method0_late E G (thn (ho i s m H _ I h) ?_);rintro v J ⟨x,L,A,B,ty,N⟩;let#[O,P]:=lJ A B ty;exact#[T,id,C,slot,g,O,P,Zj rfl (PySem.evalArgs_none (hm i J m L x [] v [] Q A B .nil N))]
theorem fV(E:PlainAttrs T)(slot:Slot T name id)(g:typeOf (.builtin id)=pure (.type "method_descriptor")) (hm:MtR X id r) (ho:PE X o to) (G:PA X (e :: es) t)
  (J:↑(Eg o name X.env (Bz o X.env)=Bz o X.env))
  (L:↑(((DB E' (AR (e :: es) X.env)).all (λx=>not x.1)&&(HD E' (D8 [] X.env)).all (λx=>x.1.isSome)
    &&decide (-(e :: es)+-([]:¬NW)+(if ([]:¬NW).isEmpty then 0 else 1) < 30))))
  (N:↑((apos.endLine==E'.line))) (O:↑(AR (e :: es) X.env=(false,Bz e X.env) :: AR es X.env)) (Y':↑((DB E' (AR es X.env)).any (·.1)=false)) :
  PE X (.Call (.Attribute o name apos) (e :: es) [] E') (tBM X.K T r to t):=by
 intro i s m H Q I h;refine wpAny_Call_method_late J L N rfl (thn (ho i s m H _ I h) ?_);rintro v P ⟨x,R,A,B,ty,S⟩;let#[U,Y]:=lJ A B ty;refine#[T,id,E,slot,g,U,Y,?_];let C:=G E' i P m R _ A S;rw[O]at C ⊢;refine Zj (by assumption) (Calls.evalArgs_plain ?_)
 exact thn C (by rintro Z s2 ⟨vs,H2,I2,r2,q2⟩;exact hm i s2 m H2 x vs v Z Q I2 B r2 q2)
end
section
def MtM(X:Cx)(id:String)(r:V->¬V->Hp->VK->Prop):Prop:=
 ∀(g:¬(AW×Obj)) (s:AM) (i:St) (H:Hp) (x:V) (m:¬V) (v:AH) (o:¬AH) (Q:VK),Inv X g i H s->RelV x v->Bs m o->r x m H Q ->
  Ac (AZ X.prog X.w) X.A (call (.builtin id) (v :: o)) (EP X g i Q) X.xe s
theorem Bs.one:∀{x:V} {us:¬AH},Bs [x] us->∃u,us=[u]/\RelV x u
 | _,_,h=>by
  cases h with
  | cons r t=>cases t;exact#[_,rfl,r]
section
variable{X:Cx}{ζ:¬(AW×Obj)}{σ:St}{H:Hp}{s:AM}{a:AW}{y v:V}{u r:AH}{o:⇑V}{A:Bq}{E:AH->AM->Prop}
theorem Inv.big(I:Inv X ζ σ H s):EI < s.heap.objs.size:=by
 let h:A9 < s.heap.objs.size:=(I.mod.glob.keeps I.bk).lt;exact cJ ∅ h
theorem je(L:A.units+1 < Ef)(I:Inv X ζ σ H s)(g:RU H a y (!v))(J:RelV y u)(h:∀i s',Inv X ζ σ H s'->RelV v i->Q i s') :
  Ac (AZ X.prog X.w) A (Lk (.ref a) u) Q E s:=by
 rcases g with⟨N,k,e,m,l⟩ | ⟨N,k,b,e,m,O,l⟩
 ·subst m
  let#[z,P,R,rel,B]:=bM I.hok e;let#[i,hw,C]:=O7.some_of (v:=v) (o:=WQ R k) (by rw[l];exact rel.val k);exact wpAny_getItem_of (a7 J) B.mapOf hw (h i _ (I.tok _) C)
 ·subst m
  cases(show u=BJ b from J);let#[z,P,S,rel,B]:=bL I.hok e;let#[i,hw,C]:=O7.some_of (v:=v) (o:=(cD S k).map (·.2)) (by rw[l];exact rel.val k);let#[p,T,G]:=FU.mp hw;refine wpAny_getItem_heap (MR L) (Vm I.hok O) B T ?_;rw[G];exact h i _ (I.tok _) C
theorem d_in(G:A.units+1 < Ef)(I:Inv X ζ σ H s)(g:RU H a y o)(C:RelV y u)(h:∀s',Inv X ζ σ H s'->Q (.bool o.isSome) s') :
  Ac (AZ X.prog X.w) A (BY .In u (.ref a)) Q E s:=by
 rcases g with⟨J,k,e,i,l⟩ | ⟨J,k,b,e,i,L,l⟩
 ·subst i
  let#[z,m,N,rel,B]:=bM I.hok e;refine wpAny_in_of (a7 C) m B.mapOf ?_;rw[<-(rel.val k).isSome_eq,<-l];exact h _ (I.tok _)
 ·subst i
  cases(show u=BJ b from C);let#[z,m,O,rel,B]:=bL I.hok e;refine wpAny_in_heap (MR G) (Vm I.hok L) m B ?_;let q:=(rel.val k).isSome_eq;rw[LC]at q;rw[<-q,<-l];exact h _ (I.tok _)
theorem uK(G:A.units+1 < Ef)(I:Inv X ζ σ H s)(g:RU H a y o)(C:RelV y u)(h:∀s',Inv X ζ σ H s'->Q (.bool (not o.isSome)) s') :
  Ac (AZ X.prog X.w) A (BY .NotIn u (.ref a)) Q E s:=by
 rcases g with⟨J,k,e,i,l⟩ | ⟨J,k,b,e,i,L,l⟩
 ·subst i
  let#[z,m,N,rel,B]:=bM I.hok e;refine wpAny_notIn_of (a7 C) m B.mapOf ?_;rw[<-(rel.val k).isSome_eq,<-l];exact h _ (I.tok _)
 ·subst i
  cases(show u=BJ b from C);let#[z,m,O,rel,B]:=bL I.hok e;refine wpAny_notIn_heap (MR G) (Vm I.hok L) m B ?_;let q:=(rel.val k).isSome_eq;rw[LC]at q;rw[<-q,<-l];exact h _ (I.tok _)
theorem gf(I:Inv X ζ σ H s)(i:Mut (H a))(m:EF a s.heap h')(B:∃q,h'.get? a=!q)(new:EB X.prog X.w (upd H a g) h' a g) :
  Inv X ζ σ (upd H a g) { s with heap:=h',toks:=t' }:=
 I.write (x:=a) (e:=a) i (.inl rfl) (λb q hb z=>(m.2 b hb).trans z) B new
theorem yy(z:-g<=sizeLine)(i:(a==EI)=false)(rel:KV g vs)(m:h'.DictOf (E3 P w) a vs) :
  EB P w B h' a (.dK g):=#[z,i,vs,rel,m]
theorem jd(Z:A.units+1 < Ef)(I:Inv X ζ σ H s)(g:be H a y v H')(R:RelV y u)(S:RelV v r)(h:∀s',Inv X ζ σ H' s'->Q () s') :
  Ac (AZ X.prog X.w) A (zP (.ref a) u r) Q E s:=by
 rcases g with⟨m,k,e,C,l,G⟩ | ⟨m,k,b,e,C,T,l,G⟩
 ·subst C G
  let#[z,J,vs,rel,L]:=ABR I.hok e
  let N:-vs<=sizeLine:=by rw[<-rel.length];exact z
  let O:-Ox m k v<=sizeLine:=by let:=Ss m k v;lia
  refine wpAny_setItem_pairs (hsz:=N) (a7 R) L λU i P=>h _ ?_
  let he:∃q,U.get? a=!q:=let #[q,_,_,B,_]:=i;#[q,B]
  exact gf I (by rw[e];exact Fb) P he (yy O J (rel.put k S) i)
 ·subst C G
  cases(show u=BJ b from R);let#[z,J,xs,rel,L]:=ABQ I.hok e
  let N:-xs<=sizeLine:=by rw[<-Fh rel];exact z
  let O:-Ox m k v<=sizeLine:=by let:=Ss m k v;lia
  refine wpAny_setItem_heap (hsz:=N) (MR Z) (Vm I.hok T) L λU i P=>h _ ?_
  let#[q,es,ep,B,h2,h3,h4,_,h5]:=i;refine gf I (by rw[e];exact Fb) P #[q,B] #[O,J,_,(rel.put k T S).keeps λc ys Y=>?_,q,es,ep,B,h2,h3,h4,h5];rw[Bd (AAx Y e (λz=>nomatch z))];exact Y
variable{X:Cx}{ζ:¬(AW×Obj)}{σ:St}{H:Hp}{s:AM}{l:AW}{xs ys:¬V}
theorem Inv.lset{g its':¬AH}{n:Nat}{f:Array AH->Array AH}{t':Nat}(I:Inv X ζ σ H s)(i:H l=!.lst xs)
  (e:s.heap.get? l=some { cls:=.type "list",data:=.seq g.toArray n }) (hf:f g.toArray=its'.toArray) (m:Bs ys its') (hz:-ys<=sizeLine) :
  Inv X ζ σ (upd H l (.lst ys)) { s with heap:=s.heap.update l (E5 f),toks:=t' }:=by
 let q:=PySem.IsL.update e f;rw[hf]at q;refine I.write (x:=l) (e:=l) (by rw[i];exact trivial) (.inl rfl) (λC u hb B=>(CJ s.heap (E5 f) (Cc hb)).trans B) #[_,q] ?_;exact#[hz,its',_,m,q]
theorem Inv.lnew(I:Inv X ζ σ H s)(i:Bs ys g)(hz:-ys<=sizeLine) :
  Inv X ζ σ (upd H s.heap.objs.size (.lst ys)) { s with heap:=s.heap.push { cls:=.type "list",data:=.seq g.toArray },toks:=t' }:=
 I.laid (λz z q=>AI _ q) (AO _) #[hz,g,0,i,AT _ rfl]
theorem Inv.fresh(I:Inv X ζ σ H s):H s.heap.objs.size=none:=I.hok.fresh (AO _)
theorem Inv.lstM(I:Inv X ζ σ H s)(i:H l=!.lst xs):-xs<=sizeLine/\∃(g:¬AH) (n:Nat),Bs xs g/\-xs=-g/\s.heap.get? l=some { cls:=.type "list",data:=.seq g.toArray n }:=by
 let#[z,g,n,r,e]:=I.hok l _ i;exact#[z,g,n,r,r.length,e]
end
def zH(i:Expr):Prop:=∀g m,ZS i false g m=operate [g,m] (Lk g m)
theorem rS{prog}{w}{A}{E}{s}{C}{value slice}{pos}{T id}{Q}
  (J:vS (.type T) "__getitem__" = pure (!.builtin id)) (L:zH slice)
  (h:Ac (AZ prog w) A (Bz value C) (λo m=>Ac (AZ prog w) A (Bz slice C) (λi s₂=>s₂.TypeIs o T/\Ac (AZ prog w) A (Lk o i) Q E s₂) E m) E s) :
  Ac (AZ prog w) A (Bz (.Subscript value slice pos) C) Q E s:=by
 refine vW (Dv h (λo m G=>Dv G (λi s₂ g=>?_) λz z x=>x) λz z x=>x);let#[I,g]:=g;unfold gu;refine AA ?_;rw[getitemInPython_of_ne I.not_modules];refine AA (wpAny_specialOf I J ?_)
 let fin:Ac (AZ prog w) A (ZS slice false o i) (λr B=>Ac (AZ prog w) A (letTemporaryGo value o r >>= λz=>pure r) Q E B) E s₂:=by
  rw[L o i];exact wpAny_operating (Dv g (λr B H=>AA (wpAny_letTemporaryGo (AC H))) λz z x=>x)
 first
  | exact AC (AA fin)
  | exact AA (AC (AA fin))
  | exact AA fin
theorem bN(I:Inv X A B H s)(g:RU H a y o):s.TypeIs (.ref a) "dict":=by
 rcases g with⟨m,k,e,_,_⟩ | ⟨m,k,b,e,_,_,_⟩
 ·let#[_,_,C,_,i]:=bM I.hok e
  exact i.typeIs
 ·let#[_,_,E,_,i]:=bL I.hok e
  exact i.typeIs
def AAO(m ty:TE):TE:=λg H Q=>m g H λx o=>ty g o λy i=>∃a v,x=.ref a/\RU i a y (!v)/\Q v i
def tDIn(ty m:TE):TE:=λg H Q=>ty g H λy s=>m g s λx i=>∃a o,x=.ref a/\RU i a y o/\Q (.bl o.isSome) i
def fL(ty m:TE):TE:=λg H Q=>ty g H λy s=>m g s λx i=>∃a o,x=.ref a/\RU i a y o/\Q (.bl (not o.isSome)) i
def AAY(m ty o:TE):TS:=λD g H=>o g H λv s=>m g s λx A=>ty g A λy B=>∃a i,x=.ref a/\be B a y v i/\D.nx g i
variable{X:Cx}
def rm:V->¬V->Hp->VK->Prop:=λx i H Q=>∃l g y,x=.ref l/\i=[y]/\H l=!.lst g/\-g < sizeLine/\Q .non (upd H l (.lst (g++[y])))
theorem Xb:MtM X "list.append" rm:=by
 intro B s C H x E v G Q I m o h;let#[l,J,y,rfl,rfl,g,L,q]:=h;cases m;let#[u,rfl,A]:=o.one;let#[z,i,n,r,N,e]:=I.lstM g;refine UL F.slot_list_append #[_,e,rfl] F.entry_list_append (F.args_list_append_2 _ _) (PySem.list_append l i.toArray n u ∅) #[e,?_];refine#[.non,_,I.lset (its':=i++[u]) g e ∅ (r.append (.cons A .nil)) ?_,rfl,q];rw[Aa,Ay]
 trivial
def rCat:R2:=λx y H Q=>∃l b g i,x=.ref l/\y=.ref b/\H l=!.lst g/\H b=!.lst i/\-g+-i<=sizeLine/\∀p,H p=none->Q (.ref p) (upd H p (.lst (g++i)))
theorem xY:OpR X (Cg .Add) rCat:=by
 intro L s N H x y v u Q I m o h;let#[l,b,O,R,rfl,rfl,A,B,S,q]:=h;cases m;cases o;let#[z,g,n,r,T,e]:=I.lstM A;let#[U,i,Y,C,E,G]:=I.lstM B;refine PySem.P.add_list e G ?_ ∅
 let J:g.toArray++i.toArray=(g++i).toArray:=by simp
 rw[J];exact#[.ref _,_,I.lnew (t':=s.toks) (r.append C) ∅,rfl,q _ I.fresh]
section
variable{X:Cx}{o i value:Expr}{pos pos':Pos}{td ty tv:TE}
theorem sU(E:X.A.units+1 < Ef)(ho:PE X o td)(hi:PE X i ty)(G:zH i):PE X (.Subscript o i pos) (AAO td ty):=by
 intro m s B H Q I h;refine rS PySem.F.slot_dict_getitem.lookup G (thn (ho m s B H _ I h) λu J #[x,L,N,O,P]=>thn (hi m J B L _ N P) ?_);rintro Z s2 ⟨y,R,C,S,a,v,ex,g,T⟩;subst ex;obtain rfl:u=BJ a:=O;exact#[bN C g,je E C g S λw' s3 U Y=>#[v,R,U,Y,T]]
theorem xM(C:X.A.units+1 < Ef)(hi:PE X i ty)(ho:PE X o td):PC X .In i o (tDIn ty td):=by
 intro m s B H Q I h
 refine thn (hi m s B H _ I h) λY E #[y,G,J,L,N]=>thn (ho m E B G _ J N) ?_;rintro u Z ⟨x,O,P,R,a,S,ex,g,T⟩
 subst ex;obtain rfl:u=BJ a:=R
 exact d_in C P g L λs3 U=>#[.bl S.isSome,O,U,rfl,T]
theorem i7(C:X.A.units+1 < Ef)(hi:PE X i ty)(ho:PE X o td):PC X .NotIn i o (fL ty td):=by
 intro m s B H Q I h
 refine thn (hi m s B H _ I h) λY E #[y,G,J,L,N]=>thn (ho m E B G _ J N) ?_;rintro u Z ⟨x,O,P,R,a,S,ex,g,T⟩
 subst ex;obtain rfl:u=BJ a:=R
 exact uK C P g L λs3 U=>#[.bl (not S.isSome),O,U,rfl,T]
theorem sE(C:X.A.units+1 < Ef)(ho:PE X o td)(hi:PE X i ty)(E:PE X value tv)(G:HX value (!.Subscript o i pos') pos.line X.env=pure false) :
  PS X (.Assign [.Subscript o i pos'] value pos) (AAY td ty tv):=by
 intro B s m H D I h;refine wpAny_Assign_Subscript (thn (E B s m H _ I h) λr J #[v,L,N,O,P]=>thn (ho B J m L _ N P) λu Q #[x,R,S,T,U]=>thn (hi B Q m R _ S U) ?_) G;rintro iv s3 ⟨y,H3,Y,Z,a,H4,ex,g,q3⟩;subst ex;obtain rfl:u=BJ a:=T
 exact jd C Y g Z O λs4 I4=>#[m,H4,I4,q3]
end
theorem pB(h:Cb)(hb:EI < h.objs.size):EB P w H (h.push { cls:=.type "dict",data:=.dict #[] }) h.objs.size (.dK []):=
 #[DV _,beq_eq_false_iff_ne.mpr (Cc (Ao hb)),[],.nil,Cb.DictOf.new h]
theorem o0(h:Cb)(hb:EI < h.objs.size):EB P w H (h.push { cls:=.type "dict",data:=.dict #[] }) h.objs.size (.dT []):=
 #[DV _,beq_eq_false_iff_ne.mpr (Cc (Ao hb)),[],.nil,_,#[],0,AT _ rfl,#[rfl,rfl,rfl],rfl,rfl,Gr]
def wW:TE:=λz H Q=>∀p,H p=none->Q (.ref p) (upd H p (.dK []))
def wV:TE:=λz H Q=>∀p,H p=none->Q (.ref p) (upd H p (.dT []))
variable{s:AM}
section
variable{X:Cx}{pos:Pos}
theorem me:PE X (.Dict [] [] pos) wW:=λg s i H Q I h=>
 zg #[.ref s.heap.objs.size,_,I.laid (a:=s.heap.objs.size) (o:=.dK []) (t':=s.toks) (λz z q=>AI _ q) (AO _) (pB s.heap I.big),rfl,h _ (I.hok.fresh (AO _))]
theorem md:PE X (.Dict [] [] pos) wV:=λg s i H Q I h=>
 zg #[.ref s.heap.objs.size,_,I.laid (a:=s.heap.objs.size) (o:=.dT []) (t':=s.toks) (λz z q=>AI _ q) (AO _) (o0 s.heap I.big),rfl,h _ (I.hok.fresh (AO _))]
end
end
end L2
namespace Att
open PySem.W PySem.Calls
theorem TZ:∀(ns:YP) (vs:¬AH),WellAll P h vs (ns.map WData.int)->D4 vs ns:=by
 intro ns
 induction ns with
 | nil=>
  intro vs w;rw[IT]at w;cases w;exact .nil
 | cons n ns g=>
  intro vs w;rw[At]at w
  cases w with
  | cons a b=>
   cases a;exact .cons _ _ (g _ b)
theorem ik{l:OpenLaw}{n:Nat}(H:l.most=!n){P:Params}{h:Cb}{args:¬WData}{i:¬AH}
  (C:l.row.toRowW.claim.pre args) (A:WellAll P h i args) :
  ∃a vs g,i=[BJ a]/\args=[WData.list (g.map WData.int)]/\h.get? a=some { cls:=.type "list",data:=.seq vs.toArray }/\D4 vs g/\-g<=n:=by
 let B:WShape.hasAll [] args [.list .int]:=(pre_splitW C).1;let E:l.pre.holds [] { args:=args }=true:=(pre_splitW C).2;let#[d,r,rfl,I,J]:=hasAllW_cons B;obtain rfl:=hasAllW_nil J;let#[R,rfl,L]:=hasW_list I;let#[g,rfl]:=items_int L
 let m:-g<=n:=by
  unfold OpenLaw.pre at E
  let s:(WTm.not (.lt (.lit (.int (n:Int))) (.len (.arg 0)))).holds [] { args:=[.list (g.map .int)] }=true:=by
   let s:=(holds_andW E).1;rw[H]at s;exact s
  let G:=condW_of s (w_not (w_lt w_lit (w_len_list (w_arg rfl))));rw[AN]at G
  refine UP λq=>?_
  let S:(n:Int) < ((-g:Nat):Int):=by ext
  first
   | ext
   | (simp at G;omega)
 cases A with
 | cons N O=>
  cases O
  cases N with
  | list Q o=>exact#[_,_,g,rfl,rfl,Q,TZ g _ o,m]
theorem i4(l:OpenLaw)(args:¬WData):l.row.toRowW.claim.post args (.bool true) args:=
 postW_of (r:=l.row.toRowW) (X:=(true==true))
  (show WShape.has [] (.bool true) .bool=true by rfl)
  (show(WTm.eq .res (.lit (.bool true))).value [] { args:=args,res:=!.bool true,after:=args }=!.bool (true==true)from w_eq_bool (w_res rfl) w_lit) rfl
theorem bU{l:OpenLaw}{n:Nat}{q:BP}{i:¬Str}{R:(Str->⇑AH)->Cb->Prop}{S:Bx->Cb->Prop}{d:DefRec}
  (hn:l.most=!n) (L:d.params.defaults=[])
  (call:∀(w:Bx) (m g:AM) (H N:Str->⇑AH) (B:AW) (o:Obj) (O I s:AH) (a:AW) (vs:¬AH) (J:YP),
   Ground q i [] R w m H N g.heap->S w g.heap ->
   g.heap.get? B=!o->o.data=.func (docDef d.name d.params d.body d.scope O I s)->g.heap.CodeRec I d.name->H d.name=!.ref B ->
   g.heap.get? a=some { cls:=.type "list",data:=.seq vs.toArray }->D4 vs J->-J<=n->g.gens = #[] ->
   Jh (AZ l.prog w) WR (.call (.ref B) #[[.ref a],[]]) (λr s'=>r=.ok (.ret (.bool true))/\OldK g.heap s'.heap/\s'.os=g.os/\Lq s'.gens) g) :
  WalkO q i R S l.row.toRowW d [] (λf vs=>g9 f vs):=by
 intro w m g H N G Y B o O I s dV kV ho hd Ϛ T P hg U X as Ϡ Z hrd Q hlo;obtain rfl:dV=.none:=Dflts.none T L;obtain rfl:kV=.none:=Dflts.noKw T;let#[a,vs,J,rfl,rfl,C,A,E]:=ik hn Ϡ Q;refine enter_call (GF (call w m g H N B o O I s a vs J G Y ho (fd_plain hd) Ϛ P C A E hg) λr s' hq=>?_);let#[rfl,h2,h3,h4]:=hq;exact#[.inl #[.bool true,.bool true,[],rfl,λz=>rfl,.bool true,i4 l _,λz=>#[zt,λz hm=>(nomatch hm)]],h2,h3,h4]
end Att
namespace L2
theorem XB:∀{vs:¬AH} {g:YP},D4 vs g->Bs (g.map V.int) vs
 | _,_,.nil=>.nil
 | _,_,.cons n t h=>.cons #[t,rfl] (XB h)
def uf(H:Hp):Prop:=∀b,H b=none∨∃o g,H b=!.frz o (.lst g)
theorem nT{P}{w}{K}{B R}{CX}{k}{S a}{fd}{x}{sp}{s₁}{vs}{C}
  (KX:K.In s₁.heap) (E:s₁.heap.Ns A9 B) (hb:s₁.heap.Ns cC R) (T:∀x:Str,x≠"__name__"->R x=HZ x) (G:s₁.heap.NoLimit) (hg:s₁.gens = #[])
  (U:s₁.heap.get? a=some { cls:=.type "list",data:=.seq vs.toArray }) (hi:D4 vs C) (hl:-C<=sizeLine) (hr:He k WR)
  (F:∀base:Cb,K.In base->base.Ns A9 B->IL P w K B base CX k S fd [x] sp) (A:∀(s:AM) (u:AH),bq s fd #[[u],[]] [(x,u)])
  (X:∀H:Hp,uf H->SqL K H a (C.map V.int)->sp [.ref a] H (λv M=>v=.bl true) λM M M=>False)
  (Y:∀H e s',CX [] H s₁ (λM M M=>False) e s'->False) :
  Jh (AZ P w) WR (.call (.ref S) #[[.ref a],[]]) (λr s'=>r=.ok (.ret (.bool true))/\OldK s₁.heap s'.heap/\s'.os=s₁.os/\Lq s'.gens) s₁:=by
 let rv:=XB hi;let lenV:=-hi
 let i:∀H:Hp,uf H->SqL K H a (C.map V.int)->HOk P w H s₁.heap->(∀b,H b≠none->b=a)->(H a≠none->K.lookup a=none) ->
   Jh (AZ P w) WR (.call (.ref S) #[[.ref a],[]]) (λr s'=>r=.ok (.ret (.bool true))/\OldK s₁.heap s'.heap/\s'.os=s₁.os/\Lq s'.gens) s₁:=by
  intro H hO hS I hA hK
  let ϱ:∀{b:AW} {o:Obj},s₁.heap.get? b=!o->H b=none->(Yx s₁.heap H).get? b=!o:=λe n=>oE e n
  let Z:∀{b:AW} {o:Obj} {O:Array SW} {Q:Nat},s₁.heap.get? b=!o->o.data=.dict O Q->H b=none:=λ{b o O Q} e d=>by
   grind
  let g:∀{b:AW} {m:Str->⇑AH},s₁.heap.Ns b m->(Yx s₁.heap H).Ns b m:=λ{b m} #[o,O,Q,e,d,r]=>#[o,O,Q,ϱ e (Z e d),d,r]
  let J:K.In (Yx s₁.heap H):=λb o e=>ϱ (KX b o e) (by
   grind)
  let hM:Mod K B (Yx s₁.heap H):=#[J,g E,#[R,g hb,T],let #[mc,h1,h2]:=G;#[mc,g h1,h2]];let e0:eX P w K B (Yx s₁.heap H) WR [] s₁ H:=#[rfl,hM,λb o e=>sr e,zo (jO _ _),trivial,λb hb=>zX (show b∈([]:¬AW)from hb) ∅,I,.of_eq hg]
  refine GF ((F _ J (g E)).run WR [] s₁ H #[[.ref a],[]] [.ref a] [.ref a] _ _ hr e0 (A s₁ (.ref a)) (.cons rfl .nil) (X H hO hS)) λr s' h=>?_
  cases r with
  | error e=>exact(Y H e s' h).elim
  | ok fl=>
   cases fl with
   | next=>exact WX h
   | brk=>exact WX h
   | cont=>exact WX h
   | ret u=>
    let#[v,H',os,L,un,N,r',q]:=h;let q':v=.bl true:=q;subst q';obtain rfl:u=NO true:=r';refine#[rfl,OldK.of_keep λb o e=>?_,os,L]
    cases q:H b with
    | none=>exact un.keep b o e q (by intro z;exact zX (show b∈([]:¬AW)from z) ∅) ∅
    | some u=>
     rcases hO b with z | ⟨ob,xs,z⟩
     ·ext
     ·let z2:=un.frzs b ob _ z
      let#[e1,_]:=I b _ z;let#[e2,_]:=N b _ z2
      ext
 cases hk:K.lookup a with
 | some o=>
  let e:=KX a o hk;rw[U]at e;cases e
  refine i (λM=>none) (λM=>.inl rfl) (.inr #[_,vs.toArray,_,hk,rfl,rfl,rfl,by ext,by ext]) (λb u z=>by trivial) (λb z=>zX rfl z) λz=>zX rfl z
 | none=>
  refine i (λb=>if b=a then !.frz { cls:=.type "list",data:=.seq vs.toArray } (.lst (C.map V.int))else none) (λb=>?_) (.inl (.inr #[{ cls:=.type "list",data:=.seq vs.toArray },qX rfl])) (λb u z=>?_) (λb z=>?_) λM=>hk
  ·by_cases hb:b=a
   ·exact .inr #[_,_,qX hb]
   ·exact .inl (qY hb)
  ·by_cases hb:b=a
   ·let z':=(qX hb).symm.trans z
    cases z';subst hb;exact#[U,by rw[AN];exact hl,vs,_,rv,U]
   ·let z':=(qY hb).symm.trans z
    cases z'
  ext
theorem qc{l:PySem.W.OpenLaw}{n k:Nat}{q:BP}{m:¬Str}{S:(Str->⇑AH)->Cb->Prop}{Q:Bx->Cb->Prop}{d:DefRec}{K:Params->AD}{CX:Bx->CXT}{sp:Bx->Sp}{x:Str}
  (U:l.most=!n) (X:n<=sizeLine) (L:d.params.defaults=[]) (Z:He k WR)
  (hY:∀(w:Bx) (h:Cb),Q w h->(K w.params).In h)
  (F:∀(w:Bx) (B:Str->⇑AH) (I:AW) (h:Cb),(K w.params).In h->h.Ns A9 B->B d.name=!.ref I ->
   ∃fd:MW,(∀(s:AM) (u:AH),bq s fd #[[u],[]] [(x,u)]) /\
    ∀base:Cb,(K w.params).In base->base.Ns A9 B->IL l.prog w (K w.params) B base (CX w) k I fd [x] (sp w))
  (N:∀(w:Bx) (H:Hp) (a:AW) (J:YP),J.length<=n->uf H->SqL (K w.params) H a (J.map V.int)->sp w [.ref a] H (λv z=>v=.bl true) λz z z=>False)
  (O:∀(w:Bx) (H:Hp) (s:AM) (e:AH) (s':AM),CX w [] H s (λz z z=>False) e s'->False) :
  PySem.W.WalkO q m S Q l.row.toRowW d [] (λf vs=>g9 f vs):=by
 refine Att.bU U L λw R C B mb I o pm cd doc a vs J G Y ho hd Ϛ P E A i hg=>?_
 let KX:=hY w _ Y;let#[fd,hb,hF]:=F w B I _ KX G.T.g P
 exact nT KX G.T.g G.T.b G.T.builtins G.T.nolimit hg E A (Ab i X) Z hF hb (λH hO hS=>N w H a J i hO hS) λH e s'=>O w H C e s'
noncomputable def FR(s:CY)(j:Nat):CY:=match s with
 | .ClassDef _ _ _ body _ _ _ _ _ _ _=>body.getD j (.Pass #[0,0,0,0])
 | _=>.Pass #[0,0,0,0]
noncomputable def M9(s:CY):Arguments:=match s with
 | .FunctionDef _ a _ _ _ _ _ _ _ _=>a
 | _=>{ posonlyargs:=[],args:=[],vararg:=none,kwonlyargs:=[],kw_defaults:=[],kwarg:=none,defaults:=[] }
def IJ(s:CY):¬CY:=match s with
 | .FunctionDef _ _ b _ _ _ _ _ _ _=>b
 | _=>[]
noncomputable def Cd(s:CY):WS:=match s with
 | .FunctionDef _ _ _ _ _ _ g _ _ _=>g
 | _=>{ kind:=.function,names:=[],isGenerator:=false,isCoroutine:=false }
structure Fun(K:AD)(x qual:Str)(st:CY)(f:AW)(fd:MW):Prop where
 ex:∃(oc:AH) (od:⇑AW) (kV doc pm:AH) (an:⇑AW) (U' ct:AH) (osl:Array (⇑AH)),
  fd=Jw x qual (M9 st) (IJ st) (Cd st) .none kV doc pm an U' ct/\K.lookup f=!#[oc,od,.func fd,osl]/\UM K U' qual=true
 kp:GM K (.ref f)=true
section
variable{K:AD}
theorem Fun.binds{x g}{st}{f}{fd}{m}(F:Fun K x g st f fd)
  (h:∀(kV i o:AH) (s:⇑AW) (A ct:AH) (us:¬AH),us.length=-m->qB (Jw x g (M9 st) (IJ st) (Cd st) .none kV i o s A ct) #[us,[]]=pure (m.zip us)):Binds K fd m []:=by
 let#[C,E,kV,i,o,s,A,ct,B,rfl,G,H]:=F.ex;exact .all (h kV i o s A ct)
theorem oR{x g}{st}{f}{B}{C s}{m}{kV i A o ct}(l:K.lookup f=!#[B,C,.func (Jw x g (M9 st) (IJ st) (Cd st) .none kV i A s o ct),m])
  (c:UM K o g) (k:GM K (.ref f)):Fun K x g st f (Jw x g (M9 st) (IJ st) (Cd st) .none kV i A s o ct):=#[#[B,C,kV,i,A,s,o,ct,m,rfl,l,c],k]
end
section
variable{X:Cx}
theorem pv(i:Nat)(hN:↑(X.N[i]?=!x))(g:autoParam (Vis X.env.scope x) yq9q)(m:↥((x==("__debug__" : Str))=false))
  (o:↥((x==("__classdict__" : Str))=false)):PE X (.Name x pos) (wR i):=xD hN g m o
end
set_option genInjectivity true in
inductive D where
 | non | bl (b:Bool) | int (i:Int) | str (x:Str) | tup (ds:¬D) | fro (ds:¬D) | ref (n:Nat) | exc (C:AW)
def Wx(K:AD)(H:Hp)(a:AW)(vs:¬V):Prop:=
 (∃o,H a=!.frz o (.lst vs)) ∨
  ∃(o:Obj) (g:Array AH) (n:Nat),K.lookup a=!o/\o.cls=.type "list"/\o.dict=none/\o.data=.seq g n/\g.size<=sizeLine/\Bs vs g.toList
theorem Wx.sq{K}{H}{a}{vs}(h:Wx K H a vs):SqL K H a vs:=by
 rcases h with h | h
 ·exact .inl (.inr h)
 ·exact .inr h
def ExcO(o:Obj)(C:AW):Prop:=o.cls=.ref C/\o.dict=none/\∃g,o.data=.fields g
set_option genInjectivity true in
mutual
inductive B2(K:AD)(ρ:¬AW)(H:Hp):D->V->Prop where
 | non:B2 K ρ H .non .non
 | bl (b:Bool):B2 K ρ H (.bl b) (.bl b)
 | int (i:Int):B2 K ρ H (.int i) (.int i)
 | str (x:Str):B2 K ρ H (.str x) (.str x)
 | tup {ds:¬D} {a:AW} {vs:¬V}:H a=!.tup vs->Au K ρ H ds vs->B2 K ρ H (.tup ds) (.ref a)
 | fro {ds:¬D} {a:AW} {vs:¬V}:Wx K H a vs->Au K ρ H ds vs->B2 K ρ H (.fro ds) (.ref a)
 | ref {n:Nat} {a:AW}:ρ[n]?=!a->B2 K ρ H (.ref n) (.ref a)
 | exc {C a:AW} {o:Obj} {u:HO}:H a=!.frz o u->ExcO o C->B2 K ρ H (.exc C) (.ref a)
inductive Au(K:AD)(ρ:¬AW)(H:Hp):¬D->¬V->Prop where
 | nil:Au K ρ H [] []
 | cons {d:D} {v:V} {ds:¬D} {vs:¬V}:B2 K ρ H d v->Au K ρ H ds vs->Au K ρ H (d :: ds) (v :: vs)
end
structure Le(K:AD)(ρ:¬AW)(H:Hp)(ρ':¬AW)(H':Hp):Prop where
 pre:∀(n:Nat) a,ρ[n]?=!a->ρ'[n]?=!a
 tup:∀a xs,H a=!.tup xs->H' a=!.tup xs
 frz:∀a o u,H a=!.frz o u->H' a=!.frz o u
 oth:∀a o,H a=!o->(∀n:Nat,ρ[n]?≠!a)->H' a=!o/\∀n:Nat,ρ'[n]?≠!a
theorem Wx.mono{K}{H g}{a}{xs}(l:∀a o u,H a=!.frz o u->g a=!.frz o u)(h:Wx K H a xs):Wx K g a xs:=by
 rcases h with⟨o,h⟩ | h
 ·exact .inl #[o,l _ _ _ h]
 ·exact .inr h
section
variable{K:AD}{ρ ρ' ρ'':¬AW}{H H' H'':Hp}
theorem Le.fro(l:Le K ρ H ρ' H'):∀a xs,Wx K H a xs->Wx K H' a xs:=λz z h=>h.mono l.frz
theorem Le.refl:Le K ρ H ρ H:=#[λz z h=>h,λz z h=>h,λz z z h=>h,λz z h n=>#[h,n]]
theorem Le.trans(a:Le K ρ H ρ' H')(b:Le K ρ' H' ρ'' H''):Le K ρ H ρ'' H'':=
 #[λn x h=>b.pre n x (a.pre n x h),λx g h=>b.tup x g (a.tup x g h),λx o u h=>b.frz x o u (a.frz x o u h),λx o h n=>b.oth x o (a.oth x o h n).1 (a.oth x o h n).2]
mutual
theorem B2.mono(l:Le K ρ H ρ' H'):∀{d:D} {v:V},B2 K ρ H d v->B2 K ρ' H' d v
 | _,_,h=>by
  cases h with
  | non=>exact .non
  | bl b=>exact .bl b
  | int i=>exact .int i
  | str x=>exact .str x
  | tup h r=>exact .tup (l.tup _ _ h) (Au.mono l r)
  | fro h r=>exact .fro (l.fro _ _ h) (Au.mono l r)
  | ref h=>exact .ref (l.pre _ _ h)
  | exc h e=>exact .exc (l.frz _ _ _ h) e
theorem Au.mono(l:Le K ρ H ρ' H'):∀{ds:¬D} {vs:¬V},Au K ρ H ds vs->Au K ρ' H' ds vs
 | _,_,h=>by
  cases h with
  | nil=>exact .nil
  | cons r t=>exact .cons (B2.mono l r) (Au.mono l t)
end
mutual
theorem B2.more(l:∀(n:Nat) a,ρ[n]?=!a->ρ'[n]?=!a):∀{d:D} {v:V},B2 K ρ H d v->B2 K ρ' H d v
 | _,_,.non=>.non
 | _,_,.bl b=>.bl b
 | _,_,.int i=>.int i
 | _,_,.str x=>.str x
 | _,_,.tup h r=>.tup h (Au.more l r)
 | _,_,.fro h r=>.fro h (Au.more l r)
 | _,_,.ref h=>.ref (l _ _ h)
 | _,_,.exc h e=>.exc h e
theorem Au.more(l:∀(n:Nat) a,ρ[n]?=!a->ρ'[n]?=!a):∀{ds:¬D} {vs:¬V},Au K ρ H ds vs->Au K ρ' H ds vs
 | _,_,.nil=>.nil
 | _,_,.cons r t=>.cons (B2.more l r) (Au.more l t)
end
mutual
theorem B2.keep(m:∀a xs,H a=!.tup xs->H' a=!.tup xs)(g:∀a o u,H a=!.frz o u->H' a=!.frz o u):∀{d:D} {v:V},B2 K ρ H d v->B2 K ρ H' d v
 | _,_,.non=>.non
 | _,_,.bl b=>.bl b
 | _,_,.int i=>.int i
 | _,_,.str x=>.str x
 | _,_,.tup h r=>.tup (m _ _ h) (Au.keep m g r)
 | _,_,.fro h r=>.fro (h.mono g) (Au.keep m g r)
 | _,_,.ref h=>.ref h
 | _,_,.exc h e=>.exc (g _ _ _ h) e
theorem Au.keep(g:∀a xs,H a=!.tup xs->H' a=!.tup xs)(i:∀a o u,H a=!.frz o u->H' a=!.frz o u):∀{ds:¬D} {vs:¬V},Au K ρ H ds vs->Au K ρ H' ds vs
 | _,_,.nil=>.nil
 | _,_,.cons r t=>.cons (B2.keep g i r) (Au.keep g i t)
end
theorem Au.length:∀{ds:¬D} {vs:¬V},Au K ρ H ds vs->-ds=-vs
 | _,_,.nil=>rfl
 | _,_,.cons _ t=>by rw[Az,Az,Au.length t]
theorem Au.get:∀{ds:¬D} {vs:¬V} {i:Nat} {d:D},Au K ρ H ds vs->ds[i]?=!d->∃v,vs[i]?=!v/\B2 K ρ H d v
 | _,_,_,_,.nil,e=>by simp at e
 | _,_,0,_,.cons r _,e=>by ext
 | _,_,i+1,d,.cons _ t,e=>by
  let#[v,g,m]:=Au.get t (by simpa using e);ext
theorem Au.get':∀{ds:¬D} {vs:¬V} {i:Nat} {v:V},Au K ρ H ds vs->vs[i]?=!v->∃d,ds[i]?=!d/\B2 K ρ H d v
 | _,_,_,_,.nil,e=>by simp at e
 | _,_,0,_,.cons r _,e=>by ext
 | _,_,i+1,d,.cons _ t,e=>by
  let#[v,g,m]:=Au.get' t (by simpa using e);ext
theorem Au.append:∀{ds es:¬D} {vs us:¬V},Au K ρ H ds vs->Au K ρ H es us->Au K ρ H (ds++es) (vs++us)
 | _,_,_,_,z,s=>by
  cases z with
  | nil=>exact s
  | cons r t=>exact .cons r (Au.append t s)
theorem Au.take:∀{ds:¬D} {vs:¬V} (n:Nat),Au K ρ H ds vs->Au K ρ H (ds.take n) (vs.take n)
 | _,_,0,_=>.nil
 | _,_,_+1,.nil=>.nil
 | _,_,n+1,.cons r t=>.cons r (Au.take n t)
theorem Au.drop:∀{ds:¬D} {vs:¬V} (n:Nat),Au K ρ H ds vs->Au K ρ H (ds.drop n) (vs.drop n)
 | _,_,0,r=>r
 | _,_,_+1,.nil=>.nil
 | _,_,n+1,.cons _ t=>Au.drop n t
theorem Au.set(r:B2 K ρ H d v):∀{ds:¬D} {vs:¬V} (i:Nat),Au K ρ H ds vs->Au K ρ H (ds.set i d) (vs.set i v)
 | _,_,_,.nil=>.nil
 | _,_,0,.cons _ t=>.cons r t
 | _,_,i+1,.cons q t=>.cons q (Au.set r i t)
theorem Au.of_ints:∀(g:YP),Au K ρ H (g.map D.int) (g.map V.int)
 | []=>.nil
 | n :: g=>.cons (.int n) (Au.of_ints g)
theorem Au.ints:∀{g:YP} {vs:¬V},Au K ρ H (g.map D.int) vs->vs=g.map V.int
 | [],_,.nil=>rfl
 | n :: g,_,.cons r t=>by
  cases r;rw[Au.ints t];rfl
end
set_option genInjectivity true in
inductive Ob where
 | lst (ds:¬D)
 | dK (j':¬(Key×D))
 | dT (j':¬(¬Key×D))
 | ins (C:AW) (fs:¬(Str×D))
 | fK (j':¬(Key×D))
 | fT (j':¬(¬Key×D))
 | mem (L:Key->Int)
abbrev Sto:=¬Ob
noncomputable def ap:¬Key:=(Ca 1000).map λ(i:Nat)=>Eh (i:Int)
abbrev KVR{g:Type}(K:AD)(ρ:¬AW)(H:Hp):¬(g×D)->¬(g×V)->Prop:=HE λ(p:g×D) (q:g×V)=>p.1=q.1/\B2 K ρ H p.2 q.2
def Ed(K:AD)(ρ:¬AW)(H:Hp)(a:AW):Ob->Prop
 | .lst A=>∃s,H a=!.lst s/\Au K ρ H A s
 | .dK i=>∃g,H a=!.dK g/\KVR K ρ H i g
 | .dT i=>∃g,H a=!.dT g/\KVR K ρ H i g
 | .ins C fs=>∃B m,H a=!.ins C B m/\KVR K ρ H fs m
 | .fK i=>∃o g,H a=!.frz o (.dK g)/\KVR K ρ H i g
 | .fT i=>∃o g,H a=!.frz o (.dT g)/\KVR K ρ H i g
 | .mem L=>∃g,H a=!.dK g/\(g.map (·.1)).Nodup/\∀x∈g,x.1∈ap/\x.2=V.int (L x.1)
structure CL(K:AD)(ρ:¬AW)(S:Sto)(H:Hp):Prop where
 len:-ρ=-S
 nd:∀(i j:Nat) a,ρ[i]?=!a->ρ[j]?=!a->i=j
 ob:∀(n:Nat) o a,S[n]?=!o->ρ[n]?=!a->Ed K ρ H a o
section
variable{K:AD}{ρ ρ':¬AW}{H H':Hp}{S:Sto}{a p:AW}{o:Ob}{n:Nat}{ho:HO}
theorem KVR.mono{g:Type}(l:Le K ρ H ρ' H'){x:¬(g×D)}{y:¬(g×V)}(h:KVR K ρ H x y):KVR K ρ' H' x y:=HE.mapP h λG G z=>#[z.1,z.2.mono l]
theorem KVR.keys{g:Type}:∀{x:¬(g×D)} {y:¬(g×V)},KVR K ρ H x y->x.map (·.1)=y.map (·.1)
 | _,_,z=>by
  cases z with
  | nil=>rfl
  | cons r t=>rw[At,At,r.1,KVR.keys t]
theorem Ed.has(h:Ed K ρ H a o):H a≠none:=by
 cases o with
 | lst g=>let#[_,e,_]:=h;ext
 | dK g=>let#[_,e,_]:=h;ext
 | dT g=>let#[_,e,_]:=h;ext
 | ins C fs=>let#[_,_,e,_]:=h;ext
 | fK g=>let#[_,_,e,_]:=h;ext
 | fT g=>let#[_,_,e,_]:=h;ext
 | mem L=>let#[_,e,_]:=h;lia
theorem Ed.mono(l:Le K ρ H ρ' H')(e:H' a=H a)(h:Ed K ρ H a o):Ed K ρ' H' a o:=by
 cases o with
 | lst A=>let#[g,i,m]:=h;exact#[g,e.trans i,m.mono l]
 | dK A=>let#[g,i,m]:=h;exact#[g,e.trans i,m.mono l]
 | dT A=>let#[g,i,m]:=h;exact#[g,e.trans i,m.mono l]
 | ins C fs=>let#[s,g,i,m]:=h;exact#[s,g,e.trans i,m.mono l]
 | fK A=>let#[s,g,i,m]:=h;exact#[s,g,e.trans i,m.mono l]
 | fT A=>let#[s,g,i,m]:=h;exact#[s,g,e.trans i,m.mono l]
 | mem L=>let#[g,i,m]:=h;exact#[g,e.trans i,m]
theorem Ed.keep(s:∀a xs,H a=!.tup xs->H' a=!.tup xs)(A:∀a o u,H a=!.frz o u->H' a=!.frz o u)(e:H' a=H a)(h:Ed K ρ H a o):Ed K ρ H' a o:=by
 cases o with
 | lst E=>let#[g,i,m]:=h;exact#[g,e.trans i,m.keep s A]
 | dK E=>let#[g,i,m]:=h;exact#[g,e.trans i,HE.mapP m λG G z=>#[z.1,z.2.keep s A]]
 | dT E=>let#[g,i,m]:=h;exact#[g,e.trans i,HE.mapP m λG G z=>#[z.1,z.2.keep s A]]
 | ins C fs=>let#[B,g,i,m]:=h;exact#[B,g,e.trans i,HE.mapP m λG G z=>#[z.1,z.2.keep s A]]
 | fK E=>let#[B,g,i,m]:=h;exact#[B,g,e.trans i,HE.mapP m λG G z=>#[z.1,z.2.keep s A]]
 | fT E=>let#[B,g,i,m]:=h;exact#[B,g,e.trans i,HE.mapP m λG G z=>#[z.1,z.2.keep s A]]
 | mem L=>let#[g,i,m]:=h;exact#[g,e.trans i,m]
theorem Ed.mono'(l:∀(n:Nat) a,ρ[n]?=!a->ρ'[n]?=!a)(h:Ed K ρ H a o):Ed K ρ' H a o:=by
 cases o with
 | lst A=>let#[g,i,m]:=h;exact#[g,i,m.more l]
 | dK A=>let#[g,i,m]:=h;exact#[g,i,HE.mapP m λG G z=>#[z.1,z.2.more l]]
 | dT A=>let#[g,i,m]:=h;exact#[g,i,HE.mapP m λG G z=>#[z.1,z.2.more l]]
 | ins C fs=>let#[s,g,i,m]:=h;exact#[s,g,i,HE.mapP m λG G z=>#[z.1,z.2.more l]]
 | fK A=>let#[s,g,i,m]:=h;exact#[s,g,i,HE.mapP m λG G z=>#[z.1,z.2.more l]]
 | fT A=>let#[s,g,i,m]:=h;exact#[s,g,i,HE.mapP m λG G z=>#[z.1,z.2.more l]]
 | mem L=>exact h
theorem Hw(i:H p=none∨Mut (H p)):(∀a xs,H a=!.tup xs->upd H p ho a=!.tup xs)/\∀a o u,H a=!.frz o u->upd H p ho a=!.frz o u:=by
 let g:∀a u,H a=!u->Not (Mut (!u))->a≠p:=λa u e m z=>by
  ext
 refine#[λa xs e=>?_,λa o u e=>?_]
 ·rw[Bd (g a _ e λz=>z)];exact e
 ·rw[Bd (g a _ e λz=>z)];exact e
theorem Le.fresh(g:H p=none):Le K ρ H ρ (upd H p ho):=
 #[λz z h=>h,(Hw (.inl g)).1,(Hw (.inl g)).2,λa o e n=>#[by rw[Bd (DY e g)];exact e,n]]
theorem Le.write(g:ρ[n]?=!p)(hm:Mut (H p)):Le K ρ H ρ (upd H p ho):=
 #[λz z h=>h,(Hw (.inr hm)).1,(Hw (.inr hm)).2,λa o e h=>#[by rw[Bd λz=>h n (by ext)];exact e,h]]
theorem KY{g:Type}{l:¬g}{x:g}{m:Nat}{a:g}(e:(l++[x])[m]?=!a):(l[m]?=!a/\m < -l)∨(m=-l/\a=x):=by
 by_cases hm:m < -l
 ·rw[Ah hm]at e;exact .inl #[e,hm]
 ·rw[BE (by ext)]at e
  let:m - -l=0:=by
   let:=(AE.mp e).1;simp at this;omega
  rw[this]at e;exact .inr #[by grind,by ext]
theorem Le.alloc(g:H p=none):Le K ρ H (ρ++[p]) (upd H p ho):=by
 refine#[λn a h=>by rw[Ah (AE.mp h).1];exact h,(Hw (.inl g)).1,(Hw (.inl g)).2,λa o e h=>#[by rw[Bd (DY e g)];exact e,λn q=>?_]]
 rcases KY q with⟨q,_⟩ | ⟨_,q⟩
 ·exact h n q
 lia
theorem CL.at(h:CL K ρ S H)(e:S[n]?=!o):∃a,ρ[n]?=!a/\Ed K ρ H a o:=by
 let g:n < -ρ:=by rw[h.len];exact(AE.mp e).1
 exact#[ρ[n],by simp[g],h.ob n o _ e (by simp[g])]
theorem CL.there(h:CL K ρ S H){m:Nat}(e:ρ[m]?=!a):∃o,S[m]?=!o/\Ed K ρ H a o:=by
 let g:m < -S:=by rw[<-h.len];exact(AE.mp e).1
 exact#[S[m],by simp[g],h.ob m _ a (by simp[g]) e]
theorem CL.notIn(h:CL K ρ S H)(g:H p=none){m:Nat}(e:ρ[m]?=!p):False:=by
 let#[o,_,r]:=h.there e;exact r.has g
theorem CL.alloc(h:CL K ρ S H)(B:H p=none)(E:Ed K (ρ++[p]) (upd H p ho) p o):CL K (ρ++[p]) (S++[o]) (upd H p ho)/\Le K ρ H (ρ++[p]) (upd H p ho)/\(ρ++[p])[S.length]?=!p:=by
 let le:Le K ρ H (ρ++[p]) (upd H p ho):=Le.alloc B
 let at':∀(m:Nat) a,(ρ++[p])[m]?=!a->(ρ[m]?=!a/\m < -ρ)∨(m=-ρ/\a=p):=λm a e=>KY e
 refine#[#[by simp[h.len],λi j a G I=>?_,λm J a hm L=>?_],le,by rw[<-h.len];simp]
 ·rcases at' i a G with⟨g,_⟩ | ⟨g,N⟩ <;> rcases at' j a I with⟨s,_⟩ | ⟨s,C⟩
  ·exact h.nd i j a g s
  ·rw[C]at g;exact(h.notIn B g).elim
  ·rw[N]at s;exact(h.notIn B s).elim
  ·ext
 ·rcases at' m a L with⟨A,O⟩ | ⟨rfl,rfl⟩
  ·rw[Ah (by rw[<-h.len];exact O)]at hm
   refine(h.ob m J a hm A).mono le (Bd λz=>?_);rw[z]at A;exact h.notIn B A
  ·rw[h.len]at hm
   ext
theorem CL.write(h:CL K ρ S H)(g:ρ[n]?=!a)(i:Ed K ρ (upd H a ho) a o)(le:Le K ρ H ρ (upd H a ho)):CL K ρ (S.set n o) (upd H a ho)/\Le K ρ H ρ (upd H a ho):=by
 refine#[#[by simp[h.len],h.nd,λm s b hm hb=>?_],le]
 by_cases e:m=n
 ·subst e
  rw[g]at hb;cases hb;rw[An (by rw[<-h.len];exact(AE.mp g).1)]at hm
  ext
 ·rw[Ak (Cc e)]at hm
  refine(h.ob m s b hm hb).mono le (Bd λz=>?_);subst z;exact e (h.nd m n b hb g)
theorem Le.back{i:Sto}(l:Le K ρ H ρ' H')(s:CL K ρ S H)(s':CL K ρ' i H')(m:H' p=none):H p=none:=by
 cases q:H p with
 | none=>rfl
 | some o=>
  by_cases g:∃n:Nat,ρ[n]?=!p
  ·let#[n,g]:=g
   exact(s'.notIn m (l.pre n p g)).elim
  ·let:=(l.oth p o q λn h=>g #[n,h]).1
   ext
theorem CL.adopt(h:CL K ρ S H)(L:∀m:Nat,ρ[m]?≠!p)(B:Ed K (ρ++[p]) H p o):CL K (ρ++[p]) (S++[o]) H/\(ρ++[p])[S.length]?=!p:=by
 let le:∀a ob,Ed K ρ H a ob->Ed K (ρ++[p]) H a ob:=λa ob r=>by
  let C:∀(n:Nat) a,ρ[n]?=!a->(ρ++[p])[n]?=!a:=λn a h=>by rw[Ah (AE.mp h).1];exact h
  exact r.mono' C
 refine#[#[by simp[h.len],λi j a E G=>?_,λm ob a hm A=>?_],by rw[<-h.len];simp]
 ·rcases KY E with⟨g,_⟩ | ⟨g,N⟩ <;> rcases KY G with⟨s,_⟩ | ⟨s,I⟩
  ·exact h.nd i j a g s
  ·grind
  ·grind
  ·lia
 ·rcases KY A with⟨A,J⟩ | ⟨rfl,rfl⟩
  ·rw[Ah (by rw[<-h.len];exact J)]at hm
   exact le a ob (h.ob m ob a hm A)
  ·rw[h.len]at hm
   ext
end
set_option genInjectivity true in
inductive Res(α:Type) where
 | ok (a:α) (S:Sto) | err (c:AW) (S:Sto) | bad
noncomputable def Res.bind{g β:Type}(r:Res g)(f:g->Sto->Res β):Res β:=match r with
 | .ok a S=>f a S
 | .err c S=>.err c S
 | .bad=>.bad
@[simp] def Res.ok_bind {g i:Type} {a:g} {S:Sto} {f:g->Sto->Res i}:(Res.ok a S).bind f=f a S:=rfl
noncomputable abbrev Lo:=¬⇑D
abbrev ME:=Lo->Sto->Res D
abbrev MT:=Lo->Sto->Res Bool
abbrev ML:=Lo->Sto->Res (¬D)
set_option genInjectivity true in
inductive Fl where
 | nx (e:Lo) | rt (d:D) | bk (e:Lo) | ct (e:Lo) | ex (c:AW) (e:Lo)
abbrev MS:=Lo->Sto->Res Fl
abbrev MG:=D->Lo->Sto->Res Lo
noncomputable abbrev O4:=Sto->⇑(¬D)
abbrev MI:=Lo->Sto->Res O4
structure Gw(K:AD)(ρ:¬AW)(H:Hp)(e:Lo)(σ:St):Prop where
 len:-e=-σ
 at':∀(i:Nat) d,e[i]?=!(!d)->∃v,σ[i]?=!(!v)/\B2 K ρ H d v
section
variable{K:AD}{ρ ρ':¬AW}{H H':Hp}{e:Lo}{σ:St}
theorem Gw.mono(l:Le K ρ H ρ' H')(h:Gw K ρ H e σ):Gw K ρ' H' e σ:=#[h.len,λi d q=>by
 let#[v,g,m]:=h.at' i d q
 exact#[v,g,m.mono l]]
theorem Gw.set(h:Gw K ρ H e σ)(r:B2 K ρ H d v)(i:Nat):Gw K ρ H (e.set i (!d)) (σ.set i (!v)):=by
 refine#[by simp[h.len],λj o q=>?_]
 by_cases g:i=j
 ·subst g
  let m:i < -e:=by
   let:=(AE.mp q).1;simpa using this
  rw[An m]at q;cases q;exact#[v,by rw[An (by rw[<-h.len];exact m)],r]
 ·rw[Ak g]at q ⊢
  exact h.at' j o q
end
abbrev EW:=AW->St->Hp->Prop
abbrev EH:=AW->Hp->Prop
abbrev noE:EW:=λz z z=>False
abbrev noH:EH:=λz z=>False
def CM{m:Type}(K:AD)(E:EH)(ρ:¬AW)(H:Hp)(r:Res m)(k:m->Sto->Prop):Prop:=match r with
 | .ok a S=>k a S
 | .err c S=>∀g i,Le K ρ H g i->CL K g S i->E c i
 | .bad=>False
section
variable{K:AD}{E:EH}{ρ ρ1:¬AW}{H H1:Hp}
theorem CM.seq(h:CM K E ρ H (r.bind F) k)(f:∀a S,CM K E ρ H (F a S) k->k' a S):CM K E ρ H r k':=by
 cases r with
 | ok a S=>exact f a S h
 | err c S=>exact h
 | bad=>exact h
theorem CM.later(h:CM K E ρ H r k)(l:Le K ρ H ρ1 H1):CM K E ρ1 H1 r k:=by
 cases r with
 | ok a S=>exact h
 | err c S=>exact λg i m=>h g i (l.trans m)
 | bad=>exact h
theorem CM.imp(h:CM K E ρ H r k)(f:∀a S,k a S->k' a S):CM K E ρ H r k':=by
 cases r with
 | ok a S=>exact f a S h
 | err c S=>exact h
 | bad=>exact h
theorem CM.go(h:CM K E ρ H r k)(l:Le K ρ H ρ1 H1)(f:∀a S,k a S->k' a S):CM K E ρ1 H1 r k':=(h.later l).imp f
end
noncomputable def okR{g:Type}:Res g->Res g
 | .ok a S=>.ok a S
 | _=>.bad
@[simp] def okR_ok {g:Type} (a:g) (S:Sto):okR (.ok a S)=.ok a S:=rfl
theorem CM.okR{g:Type}{K:AD}{E:EH}{ρ:¬AW}{H:Hp}{r:Res g}{k:g->Sto->Prop}(h:CM K E ρ H (L2.okR r) k):∃a S,r=.ok a S/\k a S:=by
 cases r with
 | ok a S=>exact#[a,S,rfl,h]
 | err c S=>exact h.elim
 | bad=>exact h.elim
section
variable(K:AD)(E:EW)
def gE(m:ME):TE:=λs H Q=>∃i e S,Gw K i H e s/\CL K i S H/\CM K (λc=>E c s) i H (m e S) λd A=>∀g o x,Le K i H g o->CL K g A o->B2 K g o d x->Q x o
def gT(m:MT):TT:=λs H Q=>∃i e S,Gw K i H e s/\CL K i S H/\CM K (λc=>E c s) i H (m e S) λb A=>∀g o,Le K i H g o->CL K g A o->Q b o
def gA(m:ML):TA:=λs H Q=>∃i e S,Gw K i H e s/\CL K i S H/\CM K (λc=>E c s) i H (m e S) λB C=>∀g o A,Le K i H g o->CL K g C o->Au K g o B A->Q A o
def gL(m:ML):TE:=λs H Q=>∃o e S,Gw K o H e s/\CL K o S H/\CM K (λc=>E c s) o H (m e S) λB C=>∀g i p A,Le K o H g i->CL K g C i->Au K g i B A->i p=!.lst A->(∀n:Nat,g[n]?≠!p)->H p=none->Q (.ref p) i
def gQ(m:ML):TE:=λA H Q=>∃o e S,Gw K o H e A/\CL K o S H/\CM K (λc=>E c A) o H (m e S) λB C=>∀g i p s,Le K o H g i->CL K g C i->Au K g i B s->(SqL K i p s∨SqT K i p s)->Q (.ref p) i
def Vy(K:AD)(E:EW)(ρ:¬AW)(H:Hp)(s:Sto)(D:jt):Fl->Prop
 | .ex c o=>∀g i m,Le K ρ H g i->CL K g s i->Gw K g i o m->E c m i
 | .nx o=>∀g i m,Le K ρ H g i->CL K g s i->Gw K g i o m->D.nx m i
 | .bk o=>∀g i m,Le K ρ H g i->CL K g s i->Gw K g i o m->D.bk m i
 | .ct o=>∀g i m,Le K ρ H g i->CL K g s i->Gw K g i o m->D.ct m i
 | .rt d=>∀g i x,Le K ρ H g i->CL K g s i->B2 K g i d x->D.rt x i
def gS(m:MS):TS:=λD i H=>∃g e S,Gw K g H e i/\CL K g S H/\CM K noH g H (m e S) λo s=>Vy K E g H s D o
def gG(m:MG):TG:=λv A H Q=>∃i e S d,B2 K i H d v/\Gw K i H e A/\CL K i S H/\CM K noH i H (m d e S) λB C=>∀g s o,Le K i H g s->CL K g C s->Gw K g s B o->Q o s
def QA(o:¬AW)(B:Hp)(J:It)(v:O4):Prop:=∀s H S A (i:Nat),Le K o B s H->CL K s S H->v S=!A ->
 (A[i]?=none->J.stop i H)/\∀d,A[i]?=!d->J.go i H/\∀x m,J.yld i H x m->∃g,Le K s H g m/\CL K g S m/\B2 K g m d x
def gI(m:MI):TI:=λs H R=>∃i e S,Gw K i H e s/\CL K i S H/\CM K (λc=>E c s) i H (m e S) λv A=>∀g o J,Le K i H g o->CL K g A o->QA K g o J v->R J o
end
abbrev GE(X:Cx)(E:EW)(e:Expr)(m:ME):Prop:=PE X e (gE X.K E m)
abbrev GT(X:Cx)(E:EW)(e:Expr)(m:MT):Prop:=PT X e (gT X.K E m)
abbrev GA(X:Cx)(E:EW)(es:¬Expr)(m:ML):Prop:=PA X es (gA X.K E m)
abbrev GL(X:Cx)(E:EW)(e:Expr)(m:ML):Prop:=PE X e (gL X.K E m)
abbrev GQ(X:Cx)(E:EW)(e:Expr)(m:ML):Prop:=PE X e (gQ X.K E m)
abbrev GS(X:Cx)(E:EW)(s:CY)(m:MS):Prop:=PS X s (gS X.K E m)
abbrev GSs(X:Cx)(E:EW)(s:¬CY)(m:MS):Prop:=PSs X s (gS X.K E m)
abbrev GG(X:Cx)(t:Expr)(m:MG):Prop:=PG X t (gG X.K m)
abbrev GI(X:Cx)(E:EW)(tg t:Expr)(m:MI):Prop:=PI X tg t (gI X.K E m)
theorem PE.imp(h:PE X e t)(i:∀g H Q,t' g H Q->t g H Q):PE X e t':=λm s g H Q I q=>h m s g H Q I (i g H Q q)
theorem PT.imp(h:PT X e t)(i:∀g H Q,t' g H Q->t g H Q):PT X e t':=λm s g H Q I q=>h m s g H Q I (i g H Q q)
theorem PW.imp(h:PW X e t)(i:∀g H Q,t' g H Q->t g H Q):PW X e t':=λm o s g H Q I q=>h m o s g H Q I (i g H Q q)
theorem PA.imp(h:PA X e t)(i:∀g H Q,t' g H Q->t g H Q):PA X e t':=λm o s g H Q I q=>h m o s g H Q I (i g H Q q)
theorem PS.imp(h:PS X e t)(i:∀D g H,t' D g H->t D g H):PS X e t':=λm s g H D I q=>h m s g H D I (i D g H q)
theorem PSs.imp(h:PSs X e t)(i:∀D g H,t' D g H->t D g H):PSs X e t':=λm s g H D I q=>h m s g H D I (i D g H q)
theorem PG.imp(h:PG X e t)(i:∀v g H Q,t' v g H Q->t v g H Q):PG X e t':=λm s g H v u Q I r q=>h m s g H v u Q I r (i v g H Q q)
theorem PI.imp(h:PI X tg e t)(i:∀g H R,t' g H R->t g H R):PI X tg e t':=λm s g H R I q=>h m s g H R I (i g H R q)
theorem OpR.imp(h:OpR X f r)(i:∀x y H Q,r' x y H Q->r x y H Q):OpR X f r':=λg s m H x y v u Q I o A q=>h g s m H x y v u Q I o A (i x y H Q q)
theorem IxR.imp(h:IxR X r)(i:∀x y H Q,r' x y H Q->r x y H Q):IxR X r':=λg sl m s o H x y v u Q I A B q=>h g sl m s o H x y v u Q I A B (i x y H Q q)
def AB(i:Nat):ME:=λe S=>match e[i]? with
 | some (!d)=>.ok d S
 | _=>.bad
def mC(d:D):ME:=λz S=>.ok d S
section
variable{X:Cx}{E:EW}{e a b:Expr}{pos:Pos}{ma mb:ME}
set_option tactic.hygienic true in
theorem ya(h:PE X e (wR i)):GE X E e (AB i):=h.imp<|by
 rintro C H Q ⟨g,l,S,m,o,hm⟩
 unfold AB at hm;split at hm
 ·rename_i G s
  let#[v,A,B]:=m.at' i _ s;exact#[v,A,hm g H v .refl o B]
 ·exact hm.elim
theorem gv(i:Nat)(hN:↑(X.N[i]?=!x))(g:autoParam (Vis X.env.scope x) yq9q)(m:↥((x==("__debug__" : Str))=false)) (o:↥((x==("__classdict__" : Str))=false)):GE X E (.Name x pos) (AB i):=ya (pv i hN g m o)
theorem jU(h:PE X e (tC v))(g:∀ρ H,B2 X.K ρ H d v):GE X E e (mC d):=h.imp<|by
 rintro m H Q ⟨ρ,l,S,o,i,hm⟩
 exact hm ρ H v .refl i (g _ _)
theorem ge_int{i j pos}:GE X E (.Constant (.int i) j pos) (mC (.int i)):=jU mY λz z=>.int i
theorem Vw{b j pos}:GE X E (.Constant (.bool b) j pos) (mC (.bl b)):=jU AAo λz z=>.bl b
theorem Ix{j pos}:GE X E (.Constant .none j pos) (mC .non):=jU xH λz z=>.non
theorem CV{x j pos}:GE X E (.Constant (.str x) j pos) (mC (.str x)):=jU xF λz z=>.str x
theorem RC(g:Gl X x)(hm:X.mg x=!.int i m)(o:↥((x==("__debug__" : Str))=false)):GE X E (.Name x pos) (mC (.int i)):=
 jU (YZ (v:=.int i) g hm #[m,rfl] o) λz z=>.int i
def m2(f:D->D->Sto->Res D)(ma mb:ME):ME:=λe S=>ma e S*>λx g=>mb e g*>λy i=>okR (f x y i)
def rD(K:AD)(f:D->D->Sto->Res D):R2:=λu v H Q=>∃i S x y d o,CL K i S H/\B2 K i H x u/\B2 K i H y v/\f x y S=.ok d o /\
 ∀g m z,Le K i H g m->CL K g o m->B2 K g m d z->Q z m
theorem Pm{K:AD}{f:D->D->Sto->Res D}{s:St}{H:Hp}{Q:VK}(h:gE K E (m2 f ma mb) s H Q):tOp (rD K f) (gE K E ma) (gE K E mb) s H Q:=by
 let#[C,l,S,A,G,hm]:=h;refine#[C,l,S,A,G,hm.seq λx I hm g H1 u i J L=>#[g,l,I,A.mono i,J,(hm.later i).seq λy N hm m H2 v B O P=>?_]];let#[d,R,e,k]:=hm.okR;exact#[m,N,x,y,d,R,O,L.mono B,P,e,λo T z U Y Z=>k o T z (i.trans (B.trans U)) Y Z]
theorem Aq(ho:OpR X (Cg op) (rD X.K f))(g:GE X E a ma)(hb:GE X E b mb):GE X E (.BinOp a op b pos) (m2 f ma mb):=(AAm ho g hb).imp λz z z h=>Pm h
theorem SK(ho:OpR X (BY op) (rD X.K f))(g:GE X E a ma)(hb:GE X E b mb)(hm:DU op b=false):GE X E (.Compare a [op] [b] pos) (m2 f ma mb):=(sW ho g hb hm).imp λz z z h=>Pm h
theorem vF(ho:IxR X (rD X.K f))(g:GE X E a ma)(hb:GE X E b mb)(i:autoParam (ZR b) yq5q):GE X E (.Subscript a b pos) (m2 f ma mb):=(AAn ho g hb i).imp λz z z h=>Pm h
def mB(m:ME):MT:=λe S=>m e S*>λd g=>match d with
 | .bl b=>.ok b g
 | _=>.bad
noncomputable def Qy(d:D)(S:Sto):⇑Bool:=match d with
 | .non=>!false
 | .bl b=>!b
 | .int i=>!i != 0
 | .tup g=>!not g.isEmpty
 | .fro g=>!not g.isEmpty
 | .ref n=>match S[n]? with
  | some (.lst g)=>!not g.isEmpty
  | some (.dK m)=>!not m.isEmpty
  | _=>none
 | _=>none
def G6(m:ME):MT:=λe S=>m e S*>λd g=>match Qy d g with
 | some b=>.ok b g
 | none=>.bad
theorem Au.empty{K}{ρ}{H}{ds}{vs}(h:Au K ρ H ds vs):ds.isEmpty=vs.isEmpty:=by cases h <;> rfl
theorem KVR.empty{g:Type}{K:AD}{ρ:¬AW}{H:Hp}{x:¬(g×D)}{y:¬(g×V)}(h:KVR K ρ H x y):x.isEmpty=y.isEmpty:=by cases h <;> rfl
theorem rK{K:AD}{ρ:¬AW}{H:Hp}{S:Sto}{d:D}{x:V}{b:Bool}(B:CL K ρ S H)(r:B2 K ρ H d x)(h:Qy d S=!b):zG K x H b:=by
 cases r with
 | non=>cases h;rfl
 | bl c=>cases h;rfl
 | int i=>cases h;rfl
 | str x=>cases h
 | tup g m=>cases h;rw[m.empty];exact .inr (.inl #[_,.inl (.inl g),rfl])
 | fro g m=>cases h;rw[m.empty];exact .inl #[_,g.sq,rfl]
 | exc _ _=>cases h
 | @ref n a G=>
  let#[o,I,A]:=B.there G;unfold Qy at h;simp only[I]at h
  cases o with
  | lst N=>cases h;let#[J,e,s]:=A;rw[s.empty];exact .inl #[_,.inl (.inl e),rfl]
  | dK L=>cases h;let#[J,e,s]:=A;rw[KVR.empty s];exact .inr (.inr #[_,e,rfl])
  | dT L=>cases h
  | ins C fs=>cases h
  | fK _=>cases h
  | fT _=>cases h
  | mem _=>cases h
theorem yP(h:GE X E e ma)(m:autoParam (∀g,bz e X.env g=(do let v <-g;bg e.pos;Pj [v] (vT v))) yq3q):GT X E e (mB ma):=(ww h m).imp<|by
 rintro J H Q ⟨o,l,S,s,A,hm⟩
 refine#[o,l,S,s,A,hm.seq λd L hm i B x C G I=>?_]
 cases d <;> first | exact hm.elim | skip
 cases I;exact#[_,rfl,hm i B C G]
theorem Er(h:GE X E e ma)(o:autoParam (∀g,bz e X.env g=(do let v <-g;bg e.pos;Pj [v] (vT v))) yq3q):GT X E e (G6 ma):=(mM h o).imp<|by
 rintro L H Q ⟨s,l,S,A,B,hm⟩
 refine#[s,l,S,A,B,hm.seq λd C hm i G x I m J=>?_]
 cases hb:Qy d C with
 | none=>rw[hb]at hm;exact hm.elim
 | some c=>
  rw[hb]at hm;exact#[c,rK m J hb,hm i G I m]
theorem CU{op}{f}(ho:OpR X (BY op) (rD X.K f))(i:GE X E a ma)(hb:GE X E b mb)(hm:DU op b=false):GT X E (.Compare a [op] [b] pos) (mB (m2 f ma mb)):=(fU ho i hb hm).imp<|by
 rintro I H Q ⟨m,l,S,o,s,hm⟩
 refine Pm #[m,l,S,o,s,hm.seq λd J hm g A x B C G=>?_]
 cases d <;> first | exact hm.elim | skip
 cases G;exact#[_,rfl,hm g A B C]
def NR(m:MT):MT:=λe S=>m e S*>λb g=>.ok (not b) g
def OC(ma mb:MT):MT:=λe S=>ma e S*>λb g=>if b=true then mb e g else .ok false g
def mOr(ma mb:MT):MT:=λe S=>ma e S*>λb g=>if b=true then .ok true g else mb e g
variable{ta tb:MT}{rest:¬Expr}
theorem Jo(h:GT X E a ta):GT X E (.UnaryOp .Not a pos) (NR ta):=(wx h).imp<|by
 rintro C H Q ⟨i,l,S,m,o,hm⟩
 exact#[i,l,S,m,o,hm.seq λd G hm g s A B=>hm g s A B]
theorem rQ{K}{o}{H}{Q}(h:gT K E (OC ta tb) o H Q):tAnd (gT K E ta) (gT K E tb) o H Q:=by
 let#[B,l,S,s,C,hm]:=h;refine#[B,l,S,s,C,hm.seq λc G hm g I i A=>?_]
 cases c with
 | true=>rw[qX rfl]at hm ⊢;exact#[g,l,G,s.mono i,A,hm.go i λz z k m J L N=>k m J (i.trans L) N]
 | false=>rw[qY AQ]at hm ⊢;exact hm g I i A
theorem wT{K}{o}{H}{Q}(h:gT K E (mOr ta tb) o H Q):tOr (gT K E ta) (gT K E tb) o H Q:=by
 let#[B,l,S,s,C,hm]:=h;refine#[B,l,S,s,C,hm.seq λc G hm g I i A=>?_]
 cases c with
 | false=>rw[qY AQ]at hm ⊢;exact#[g,l,G,s.mono i,A,hm.go i λz z k m J L N=>k m J (i.trans L) N]
 | true=>rw[qX rfl]at hm ⊢;exact hm g I i A
abbrev GW(X:Cx)(E:EW)(e:Expr)(m:MT):Prop:=PW X e (gT X.K E m)
theorem Mv(g:GT X E a ta):GW X E (.BoolOp .And [a] pos) ta:=rn g
theorem Mu(g:GT X E a ta):GW X E (.BoolOp .Or [a] pos) ta:=wm g
theorem Py(g:GT X E a ta)(hb:GW X E (.BoolOp .And (b :: rest) pos) tb):GW X E (.BoolOp .And (a :: b :: rest) pos) (OC ta tb):=(wu g hb).imp λz z z h=>rQ h
theorem MB(g:GT X E a ta)(hb:GW X E (.BoolOp .Or (b :: rest) pos) tb):GW X E (.BoolOp .Or (a :: b :: rest) pos) (mOr ta tb):=(AAi g hb).imp λz z z h=>wT h
theorem O2(h:GW X E e t):GT X E e t:=PW.pt h
def aw(ma mb:ME):ME:=λe S=>ma e S*>λd g=>match d with
 | .bl true=>mb e g
 | .bl false=>.ok (.bl false) g
 | _=>.bad
theorem yc{op}(h:GE X E a ma):GE X E (.BoolOp op [a] pos) ma:=xG h
theorem ye(A:GE X E a ma)(hb:GE X E (.BoolOp .And (b :: rest) pos) mb):GE X E (.BoolOp .And (a :: b :: rest) pos) (aw ma mb):=(xL A hb).imp<|by
 rintro R H Q ⟨B,l,S,o,C,hm⟩
 refine#[B,l,S,o,C,hm.seq λc G hm g I x i s J=>?_]
 cases c with
 | bl c=>
  cases J;refine#[c,rfl,?_]
  cases c with
  | true=>rw[qX rfl];exact#[g,l,G,o.mono i,s,hm.go i λM M k m L z N O P=>k m L z (i.trans N) O P]
  | false=>rw[qY AQ];exact hm g I _ i s (.bl false)
 | _=>exact hm.elim
def Yq(t:MT)(ma mb:ME):ME:=λe S=>t e S*>λb g=>if b=true then ma e g else mb e g
theorem RB(J:GT X E c ta)(L:GE X E a ma)(hb:GE X E b mb):GE X E (.IfExp c a b pos) (Yq ta ma mb):=(mZ J L hb).imp<|by
 rintro P H Q ⟨N,l,S,o,O,hm⟩
 refine#[N,l,S,o,O,hm.seq λc G hm m R i I=>?_]
 cases c with
 | true=>rw[qX rfl]at hm ⊢;exact#[m,l,G,o.mono i,I,hm.go i λM M k g s z A B C=>k g s z (i.trans A) B C]
 | false=>rw[qY AQ]at hm ⊢;exact#[m,l,G,o.mono i,I,hm.go i λM M k g s z A B C=>k g s z (i.trans A) B C]
def m3(f g:D->D->Sto->Res D)(ma mb m:ME):ME:=λe S=>ma e S*>λx o=>mb e o*>λy s=>okR (f x y s)*>λz i=>match z with
 | .bl true=>m e i*>λw A=>okR (g y w A)
 | .bl false=>.ok (.bl false) i
 | _=>.bad
def Ax:ML:=λz S=>.ok [] S
def AK(m:ME)(r:ML):ML:=λe S=>m e S*>λd g=>r e g*>λi o=>.ok (d :: i) o
variable{es:¬Expr}{ml:ML}
theorem Af:GA X E [] Ax:=GX.imp<|by
 rintro m H Q ⟨g,l,S,o,i,hm⟩
 exact hm g H [] .refl i .nil
theorem AG(B:GE X E e ma)(C:GA X E es ml)(g:↑(AR (e :: es) X.env=(false,Bz e X.env) :: AR es X.env)):GA X E (e :: es) (AK ma ml):=(EV B C g).imp<|by
 rintro T H Q ⟨G,l,S,s,g,hm⟩
 exact#[G,l,S,s,g,hm.seq λd I hm i U x m J L=>#[i,l,I,s.mono m,J,(hm.later m).seq λY Z hm o N O A P R=>hm o N (x :: O) (m.trans A) P (.cons (L.mono A) R)]]
def Hd(m:ML):ME:=λe S=>m e S*>λg i=>if -g<=sizeLine then .ok (.tup g) i else .bad
theorem Jz{K}{ρ}{H}{S}{p}{ho}(g:CL K ρ S H)(i:H p=none):CL K ρ S (upd H p ho)/\Le K ρ H ρ (upd H p ho):=by
 let le:Le K ρ H ρ (upd H p ho):=Le.fresh i;refine#[#[g.len,g.nd,λn o a s m=>(g.ob n o a s m).mono le (Bd λz=>?_)],le];subst z;exact g.notIn i m
set_option tactic.hygienic true in
theorem Fm{x1}(h:GA X E es ml):GE X E (.Tuple es x1 pos) (Hd ml):=(xE h).imp<|by
 rintro L H Q ⟨o,l,S,s,A,hm⟩
 refine#[o,l,S,s,A,hm.seq λN O hm g P R B C i=>?_];split at hm
 ·rename_i G
  refine#[by rw[<-i.length];exact G,λp I=>?_];let#[J,m]:=Jz C I;exact hm g _ _ (B.trans m) J (.tup Bv (i.mono m))
 ·exact hm.elim
def Dg(m:ML):ML:=λe S=>m e S*>λg i=>if -g<=sizeLine then .ok g i else .bad
set_option tactic.hygienic true in
theorem FS(h:GA X E es ml):GL X E (.List es pos) (Dg ml):=(xI h).imp<|by
 rintro N H Q ⟨C,l,S,G,o,hm⟩
 refine#[C,l,S,G,o,hm.seq λO P hm g R I s i A=>?_];split at hm
 ·rename_i J
  refine#[by rw[<-A.length];exact J,λp m=>?_];let#[L,B]:=Jz i m;exact hm g _ p I (s.trans B) L (A.mono B) Bv (λn q=>i.notIn m q) (s.back o i m)
 ·exact hm.elim
def ED(m:ML):ME:=λe S=>m e S*>λi g=>.ok (.ref (-g)) (g++[.lst i])
theorem Cz(h:GL X E e ml):GE X E e (ED ml):=PE.imp h<|by
 rintro T H Q ⟨A,l,S,B,C,hm⟩
 refine#[A,l,S,B,C,hm.seq λG U hm g Y p I i J L N O P=>?_]
 let s:∀(n:Nat) a,g[n]?=!a->(g++[p])[n]?=!a:=λn a h=>by rw[Ah (AE.mp h).1];exact h
 let#[R,m]:=J.adopt (o:=.lst G) O #[I,N,L.more s];refine hm _ _ _ #[λn a h=>s n a (i.pre n a h),i.tup,i.frz,λa o e h=>#[(i.oth a o e h).1,λn q=>?_]] R (.ref m)
 rcases KY q with⟨q,_⟩ | ⟨_,q⟩
 ·exact(i.oth a o e h).2 n q
 ext
noncomputable def GB(d:D)(S:Sto):⇑(¬D):=match d with
 | .tup g=>!g
 | .fro g=>!g
 | .ref n=>match S[n]? with
  | some (.lst g)=>!g
  | _=>none
 | _=>none
def Vf(m:ME):ML:=λe S=>m e S*>λd g=>match GB d g with
 | some i=>.ok i g
 | none=>.bad
theorem Ts{K}{ρ}{H}{S}{d}{x}{ds}(m:CL K ρ S H)(r:B2 K ρ H d x)(h:GB d S=!ds):∃p xs,x=.ref p/\Au K ρ H ds xs/\(SqL K H p xs∨SqT K H p xs):=by
 cases r with
 | tup g i=>cases h;exact#[_,_,rfl,i,.inr (.inl (.inl g))]
 | fro g i=>cases h;exact#[_,_,rfl,i,.inl g.sq]
 | @ref n a s=>
  let#[o,A,B]:=m.there s;unfold GB at h;simp only[A]at h
  cases o with
  | lst es=>cases h;let#[G,e,C]:=B;exact#[_,_,rfl,C,.inl (.inl (.inl e))]
  | _=>cases h
 | _=>cases h
theorem oG(h:GE X E e ma):GQ X E e (Vf ma):=PE.imp h<|by
 rintro N H Q ⟨o,l,S,s,A,hm⟩
 refine#[o,l,S,s,A,hm.seq λx B hm g C v G m I=>?_]
 cases i:GB x B with
 | none=>rw[i]at hm;exact hm.elim
 | some O=>
  rw[i]at hm;let#[p,J,rfl,L,sq]:=Ts m I i;exact hm g C p J G m L sq
end
noncomputable def Res.lift{g:Type}(r:Res g)(e:Lo)(f:g->Sto->Res Fl):Res Fl:=match r with
 | .ok a S=>f a S
 | .err c S=>.ok (.ex c e) S
 | .bad=>.bad
@[simp] def Res.ok_lift {g:Type} {a:g} {S:Sto} {e:Lo} {f:g->Sto->Res Fl}:(Res.ok a S).lift e f=f a S:=rfl
theorem CM.lift{m:Type}{K:AD}{E:EW}{ρ g:¬AW}{H i:Hp}{o:St}{e:Lo}{D:jt}{r:Res m}{F:m->Sto->Res Fl}{k':m->Sto->Prop}(h:CM K noH g i (r.lift e F) λs A=>Vy K E ρ H A D s)(G:Gw K g i e o)(l:Le K ρ H g i)
  (f:∀a S,(CM K noH g i (F a S) λs A=>Vy K E ρ H A D s)->k' a S):CM K (λc=>E c o) g i r k':=by
 cases r with
 | ok a S=>exact f a S h
 | err c S=>exact λB I C J=>h B I o (l.trans C) J (G.mono C)
 | bad=>exact h
def sNx:MS:=λe S=>.ok (.nx e) S
def N0:MS:=λz z=>.bad
def As(a b:MS):MS:=λe S=>a e S*>λf g=>match f with
 | .nx i=>b i g
 | f=>.ok f g
def FJ(m:ME):MS:=λe S=>(m e S).lift e λz g=>.ok (.nx e) g
def CO(m:ME):MS:=λe S=>(m e S).lift e λd g=>.ok (.rt d) g
def sIf(t:MT)(a b:MS):MS:=λe S=>(t e S).lift e λc g=>if c=true then a e g else b e g
def im(m:ME)(g:MG):MS:=λe S=>(m e S).lift e λd i=>g d e i*>λo s=>.ok (.nx o) s
def tgN(i:Nat):MG:=λd e S=>.ok (e.set i (!d)) S
def Bb(i:Nat)(m:ME):MS:=im m (tgN i)
section
variable{X:Cx}{E:EW}{st:CY}{rest:¬CY}{e:Expr}{pos:Pos}{a b:MS}{t:MT}
theorem Vy.later{K}{ρ s}{H A}{S}{D}{f}(l:Le K ρ H s A)(h:Vy K E ρ H S D f):Vy K E s A S D f:=by
 cases f with
 | nx e=>exact λg m i o=>h g m i (l.trans o)
 | bk e=>exact λg m i o=>h g m i (l.trans o)
 | ct e=>exact λg m i o=>h g m i (l.trans o)
 | ex c e=>exact λg m i o=>h g m i (l.trans o)
 | rt d=>exact λg m x o=>h g m x (l.trans o)
theorem BV:GSs X E [] sNx:=sC.imp<|by
 rintro D g H ⟨i,l,S,m,o,hm⟩
 exact hm i H g .refl o m
theorem AJ(o:GS X E st a)(s:GSs X E rest b):GSs X E (st :: rest) (As a b):=(mP o s).imp<|by
 rintro D O H ⟨A,l,S,B,C,hm⟩
 refine#[A,l,S,B,C,hm.seq λg G hm=>?_]
 cases g with
 | nx I=>exact λi P J m L N=>#[i,I,G,N,L,hm.go m λz z k=>k.later m]
 | rt d=>exact hm
 | bk d=>exact hm
 | ct d=>exact hm
 | ex c d=>exact hm
theorem AU(g:GS X E st a):GSs X E [st] a:=rq g
theorem FY:GS X E st N0:=(mS).imp (by rintro D g H ⟨i,l,S,m,o,hm⟩;exact hm.elim)
theorem Et(A:GE X E e m)(g:↑(HX e none pos.line X.env=pure false)):GS X E (.Expr e pos) (FJ m):=(sD A g).imp<|by
 rintro D B H ⟨C,l,S,i,g,hm⟩
 exact#[C,l,S,i,g,hm.lift i .refl λd J hm o G x s I L=>hm o G B s I (i.mono s)]
theorem BL(o:GE X E e m):GS X E (.Return (!e) pos) (CO m):=(wz o).imp<|by
 rintro D J H ⟨s,l,S,i,A,hm⟩
 exact#[s,l,S,i,A,hm.lift i .refl λd L hm g B x C G I=>hm g B x C G I]
theorem Cf{c}{o s}(C:GT X E c t)(G:GSs X E o a)(hb:GSs X E s b):GS X E (.If c o s pos) (sIf t a b):=(AAj C G hb).imp<|by
 rintro D L H ⟨I,l,S,m,J,hm⟩
 refine#[I,l,S,m,J,hm.lift m .refl λc A hm i N g B=>?_]
 cases c with
 | true=>rw[qX rfl]at hm ⊢;exact#[i,l,A,m.mono g,B,hm.go g λz z k=>k.later g]
 | false=>rw[qY AQ]at hm ⊢;exact#[i,l,A,m.mono g,B,hm.go g λz z k=>k.later g]
theorem tX(h:PG X tg (gV i)):GG X tg (tgN i):=h.imp<|by
 rintro v A H Q ⟨g,l,S,d,m,o,s,hm⟩
 exact hm g H _ .refl s (o.set m i)
theorem yU{tg:Expr}{g:MG}(G:GE X E e m)(I:GG X tg g)(i:↑(swapsWithSole [tg] e pos.line X.env=pure false))(hw:↑(swappedStores [tg] e X.env=pure none))
  (J:↑((GK [tg] X.env).map (·.2)=[vU tg X.env])):GS X E (.Assign [tg] e pos) (im m g):=(w9 G I i hw J).imp<|by
 rintro D Y H ⟨L,l,S,o,i,hm⟩
 exact#[L,l,S,o,i,hm.lift o .refl λd N hm s Z x A O P=>#[s,l,N,d,P,o.mono A,O,(hm.later A).seq λe1 S2 hm B Q C R T U=>hm B Q C (A.trans R) T U]]
theorem yR{i}{x}{g}(hN:X.N.Nodup)(hi:X.N[i]?=!x)(C:Loc X.env.scope x)(G:GE X E e m)(o:↑(HX e (!.Name x g) pos.line X.env=pure false))
  (hf:autoParam (X.fn x=true∨X.env.scope.names.lookup x=!.local) yq2q):GS X E (.Assign [.Name x g] e pos) (Bb i m):=(wy hN hi C G o hf).imp<|by
 rintro D P H ⟨I,l,S,s,o,hm⟩
 exact#[I,l,S,s,o,hm.lift s .refl λd Q hm A J x B L O=>hm A J _ B L ((s.mono B).set O i)]
def Mz(v:O4)(g:MG)(b:MS):Nat->Nat->Lo->Sto->Res Fl
 | k,i,e,S=>match v S with
  | none=>.bad
  | some s=>match s[i]? with
   | none=>.ok (.nx e) S
   | some d=>match k with
    | 0=>.bad
    | k+1=>g d e S*>λA B=>b A B*>λf o=>match f with
     | .nx m=>Mz v g b k (i+1) m o
     | .ct m=>Mz v g b k (i+1) m o
     | .bk m=>.ok (.nx m) o
     | .rt d=>.ok (.rt d) o
     | .ex c m=>.ok (.ex c m) o
def Dc(v:O4)(S:Sto):Nat:=match v S with
 | none=>0
 | some g=>-g
def FG(m:MI)(g:MG)(b:MS):MS:=λe S=>(m e S).lift e λv i=>Mz v g b (Dc v i) 0 e i
theorem yS{tg iter}{body}{mi}{g}(hp:X7 (AZ X.prog X.w) X.A X.env X.xe)(hc:X.calm)(hi:GI X E tg iter mi)(hg:GG X tg g)(hb:GSs X E body b)
  (hs:autoParam (∀x,EE iter X.env x=pure x) yq3q):GS X E (.For tg iter body [] pos) (FG mi g b):=(w5 hp hc hi hg hb hs).imp<|by
 rintro D σ H ⟨ρ,l,S,hl,hs,hm⟩
 refine#[ρ,l,S,hl,hs,hm.lift hl .refl λv S1 hm N H1 J Z s1 vo=>?_];refine#[λi n O P=>∃o Q G,Le X.K N H1 o P/\Gw X.K o P Q O/\CL X.K o G P/\CM X.K noH o P (Mz v g b n i Q G) λfl S'=>Vy X.K E ρ H S' D fl,#[Dc v S1,N,l,S1,.refl,hl.mono Z,s1,hm.later Z],?_];rintro i n O P ⟨o,Q,G,R,r2,s2,m⟩;unfold Mz at m
 cases hv:v G with
 | none=>rw[hv]at m;exact m.elim
 | some ds=>
  rw[hv]at m;dsimp only at m;let#[v1,v2]:=vo o P G ds i R s2 hv
  cases hd:ds[i]? with
  | none=>
   rw[hd]at m;exact .inl #[v1 hd,m o P O (Z.trans R) s2 r2]
  | some d=>
   rw[hd]at m;let#[go,yl]:=v2 d hd
   cases n with
   | zero=>exact m.elim
   | succ n=>
    refine .inr #[go,λσ' T=>∃o Q G,Le X.K N H1 o T/\Gw X.K o T Q σ'/\CL X.K o G T/\CM X.K noH o T (Mz v g b n (i+1) Q G) λfl S'=>Vy X.K E ρ H S' D fl,λσ' T q=>#[n,DE n,q],λx T y=>?_];let#[ρ3,U,s3,rd]:=yl x T y;refine#[ρ3,Q,G,d,rd,r2.mono U,s3,(m.later U).seq λe3 S3 m ρ4 H4 σ4 l4 s4 r4=>?_];refine#[ρ4,e3,S3,r4,s4,(m.later l4).seq λf4 S4 m=>?_]
    cases f4 with
    | nx e5=>exact λs Y B C I L=>#[s,e5,S4,R.trans (U.trans (l4.trans C)),L,I,m.later C]
    | ct e5=>exact λs Y B C I L=>#[s,e5,S4,R.trans (U.trans (l4.trans C)),L,I,m.later C]
    | bk e5=>exact λs Y B C I L=>m s Y B (Z.trans (R.trans (U.trans (l4.trans C)))) I L
    | ex c e5=>exact λs Y B C I L=>m s Y B (Z.trans (R.trans (U.trans (l4.trans C)))) I L
    | rt d5=>exact λs Y x5 C I L=>m s Y x5 (Z.trans (R.trans (U.trans (l4.trans C)))) I L
def Jl(c:MT)(b:MS):Nat->MS
 | 0=>λz z=>.bad
 | n+1=>λe S=>(c e S).lift e λt m=>if t=true then(b e m).bind λf i=>match f with
   | .nx g=>Jl c b n g i
   | .ct g=>Jl c b n g i
   | .bk g=>.ok (.nx g) i
   | .rt d=>.ok (.rt d) i
   | .ex c g=>.ok (.ex c g) i
  else .ok (.nx e) m
theorem bA{c}{body}(N:Nat)(hp:X7 (AZ X.prog X.w) X.A X.env X.xe)(hc:GT X E c t)(hb:GSs X E body b):GS X E (.While c body [] pos) (Jl t b N):=(mR hp hc hb).imp<|by
 rintro D σ H ⟨Q,l,S,hl,hs,hm⟩
 refine#[λn J R=>∃i I L,Le X.K Q H i R/\Gw X.K i R I J/\CL X.K i L R/\CM X.K noH i R (Jl t b n I L) λfl S'=>Vy X.K E Q H S' D fl,#[N,Q,l,S,.refl,hl,hs,hm],?_];rintro n J R ⟨i,I,L,O,Z,s2,g⟩
 cases n with
 | zero=>exact g.elim
 | succ n=>
  refine#[i,I,L,Z,s2,g.lift Z O λtc S3 g T H3 B s3=>?_]
  cases tc with
  | false=>rw[qY AQ]at g ⊢;exact g T H3 J (O.trans B) s3 (Z.mono B)
  | true=>
   rw[qX rfl]at g ⊢;refine#[λU Y=>∃i I L,Le X.K Q H i Y/\Gw X.K i Y I U/\CL X.K i L Y/\CM X.K noH i Y (Jl t b n I L) λfl S'=>Vy X.K E Q H S' D fl,λU Y q=>#[n,DE n,q],?_];refine#[T,I,S3,Z.mono B,s3,(g.later B).seq λf4 S4 g=>?_]
   cases f4 with
   | nx e5=>exact λm P o s C G=>#[m,e5,S4,O.trans (B.trans s),G,C,g.later s]
   | ct e5=>exact λm P o s C G=>#[m,e5,S4,O.trans (B.trans s),G,C,g.later s]
   | bk e5=>exact λm P o s C G=>g m P o (O.trans (B.trans s)) C G
   | ex c e5=>exact λm P o s C G=>g m P o (O.trans (B.trans s)) C G
   | rt d5=>exact λm P x5 s C G=>g m P x5 (O.trans (B.trans s)) C G
end
section
variable{X:Cx}{E:EW}{tg e:Expr}{m:ME}{K:AD}
noncomputable def Hj(d:D):O4:=λS=>match d with
 | .ref n=>match S[n]? with
  | some (.lst g)=>!g
  | _=>none
 | .fro g=>!g
 | _=>none
noncomputable def HQ(ds:¬D):O4:=λz=>!ds
def iLst(m:ME):MI:=λe S=>m e S*>λd g=>match Hj d g with
 | some _=>.ok (Hj d) g
 | none=>.bad
def vD(m:ME):MI:=λe S=>m e S*>λd g=>match d with
 | .tup i=>.ok (HQ i) g
 | _=>.bad
theorem Ub(s:CL K ρ S H)(r:B2 K ρ H d (.ref a))(g:Hj d S=!ds):∃xs,SqL K H a xs/\Au K ρ H ds xs:=by
 cases r with
 | tup i A=>cases g
 | exc _ _=>cases g
 | fro i A=>cases g;exact#[_,i.sq,A]
 | @ref n _ B=>
  let#[o,C,G]:=s.there B;unfold Hj at g;simp only[C]at g
  cases o with
  | lst L=>
   cases g;let#[I,e,J]:=G;exact#[I,.inl (.inl e),J]
  | _=>cases g
theorem UZ(r:B2 K ρ H d (.ref a)):QA K ρ H (Itl K a) (Hj d):=by
 intro g L S N i l s C;let#[o,sq,A]:=Ub s (r.mono l) C;refine#[λO=>#[o,sq,by rw[<-A.length];ext],λd G=>?_];let#[x,B,I]:=A.get G;refine#[#[o,x,sq,B],λy P #[e,J]=>?_];subst e;let:=J o sq;rw[B]at this;cases this;exact#[g,.refl,s,I]
theorem yY(h:GE X E e m):GI X E tg e (iLst m):=(sL h).imp<|by
 rintro N H R ⟨A,l,S,B,C,hm⟩
 refine#[A,l,S,B,C,hm.seq λd G hm i I x J s o=>?_]
 cases g:Hj d G with
 | none=>rw[g]at hm;exact hm.elim
 | some O=>
  rw[g]at hm
  let:∃a,x=.ref a:=by
   cases o <;> first | exact#[_,rfl] | (cases g;done)
  let#[a,rfl]:=this;let#[L,sq,_]:=Ub s o g;exact#[a,rfl,#[L,sq],hm i I _ J s (UZ o)]
theorem UX(B:H a=!.tup xs)(C:Au K ρ H ds xs):QA K ρ H (Itt K a) (HQ ds):=by
 intro g G S O i l s I;cases I;let o:=C.mono l;let sq:SqT K G a xs:=.inl (.inl (l.tup _ _ B));refine#[λP=>#[xs,sq,by rw[<-o.length];ext],λd J=>?_];let#[x,A,L]:=o.get J;refine#[#[xs,x,sq,A],λy Q #[e,N]=>?_];subst e;let:=N xs sq;rw[A]at this;cases this;exact#[g,.refl,s,L]
theorem yW(h:GE X E e m):GI X E tg e (vD m):=(xA h).imp<|by
 rintro L H R ⟨o,l,S,s,A,hm⟩
 refine#[o,l,S,s,A,hm.seq λd N hm g B x C G I=>?_]
 cases d <;> first | exact hm.elim | skip
 cases I with
 | tup i J=>exact#[_,rfl,#[_,.inl (.inl i)],hm g B _ C G (UX i J)]
noncomputable def Ks(lo:Int)(n:Nat):¬D:=(Ca n).map λi:Nat=>D.int (lo+i)
theorem XR(lo:Int)(n i:Nat):(Ks lo n)[i]?=if i < n then !.int (lo+i)else none:=by
 unfold Ks;rw[Al]
 by_cases h:i < n
 ·rw[DL h,qX h];rfl
 ext
set_option tactic.hygienic true in
theorem UY(lo:Int)(n:Nat):QA K ρ H (Itr lo n) (HQ (Ks lo n)):=by
 intro g G S I i l s B;cases B;rw[XR];refine#[λA=>?_,λd o=>?_]
 ·split at A
  ·cases A
  ·rename_i h;exact UP h
 ·split at o
  ·rename_i h
   cases o;refine#[h,λy J #[e,C]=>?_];subst e;subst C;exact#[g,.refl,s,.int _]
  ·cases o
def iR1(ml:ML):MI:=λe S=>ml e S*>λg i=>match g with
 | [.int j]=>if (unop% Neg.neg (2 ^ 62))<=j/\j < 2 ^ 62 then .ok (HQ (Ks 0 j.toNat)) i else .bad
 | _=>.bad
def iR2(ml:ML):MI:=λe S=>ml e S*>λg o=>match g with
 | [.int i,.int j]=>if (unop% Neg.neg (2 ^ 62))<=i/\i < 2 ^ 62/\(unop% Neg.neg (2 ^ 62))<=j/\j < 2 ^ 62 then .ok (HQ (Ks i (j - i).toNat)) o else .bad
 | _=>.bad
set_option tactic.hygienic true in
theorem FC(s:Gl X "range") (hm:X.mg "range" = none) (A:GA X E [a] ml) (g:↑(AR [a] X.env=[(false,Bz a X.env)])):GI X E tg (.Call (.Name "range" p) [a] [] pos) (iR1 ml):=(i6 s hm A g).imp<|by
 rintro N H R ⟨B,l,S,C,g,hm⟩
 refine#[B,l,S,C,g,hm.seq λO P hm i G Q I J L=>?_];split at hm
 ·rename_i j
  split at hm
  ·rename_i o
   cases L with
   | cons r t=>
    cases t;cases r;exact#[j,rfl,o.1,o.2,hm i G _ I J (UY 0 j.toNat)]
  ·exact hm.elim
 ·exact hm.elim
set_option tactic.hygienic true in
theorem Xm(s:Gl X "range") (hm:X.mg "range" = none) (A:GA X E [a,b] ml) (g:↑(AR [a,b] X.env=[(false,Bz a X.env),(false,Bz b X.env)])) (B:↑(AR [b] X.env=[(false,Bz b X.env)])) :
  GI X E tg (.Call (.Name "range" p) [a,b] [] pos) (iR2 ml):=(i5 s hm A g B).imp<|by
 rintro Q H R ⟨C,l,S,G,g,hm⟩
 refine#[C,l,S,G,g,hm.seq λT U hm o I Y J L N=>?_];split at hm
 ·rename_i i j
  split at hm
  ·rename_i O
   cases N with
   | cons r t=>
    cases t with
    | cons P t=>
     cases t;cases r;cases P;exact#[i,j,rfl,O,hm o I _ J L (UY i _)]
  ·exact hm.elim
 ·exact hm.elim
end
def Ju:¬D->Lo->Sto->Res Lo
 | [],e,S=>.ok e S
 | _,_,_=>.bad
def Cw(g:MG)(r:¬D->Lo->Sto->Res Lo):¬D->Lo->Sto->Res Lo
 | d :: i,e,S=>g d e S*>λm o=>r i m o
 | [],_,_=>.bad
def JT(n:Nat)(r:¬D->Lo->Sto->Res Lo):MG:=λd e S=>match d with
 | .tup g=>if -g=n then r g e S else .bad
 | _=>.bad
section
variable{X:Cx}
def gGs(K:AD)(r:¬D->Lo->Sto->Res Lo):TGs:=λA B H Q=>∃i e S s,Au K i H s A/\Gw K i H e B/\CL K i S H/\CM K noH i H (r s e S) λC E=>∀g o m,Le K i H g o->CL K g E o->Gw K g o C m->Q m o
abbrev GGs(X:Cx)(ts:¬Expr)(r:¬D->Lo->Sto->Res Lo):Prop:=PGs X ts (gGs X.K r)
theorem PGs.imp(h:PGs X ts t)(i:∀vs g H Q,t' vs g H Q->t vs g H Q):PGs X ts t':=λm s g H vs o Q I r q=>h m s g H vs o Q I r (i vs g H Q q)
theorem J4:GGs X [] Ju:=sO.imp<|by
 rintro B i H Q ⟨m,l,S,g,o,s,A,hm⟩
 cases g with
 | nil=>cases o;exact#[rfl,hm m H i .refl A s]
 | cons d g=>exact hm.elim
theorem DP(C:GG X e g)(E:GGs X es r)
  (i:↑((GK (e :: es) X.env).map (·.2)=vU e X.env :: (GK es X.env).map (·.2))):GGs X (e :: es) (Cw g r):=(mW C E i).imp<|by
 rintro vs σ H Q ⟨G,l,S,m,I,J,i,hm⟩
 cases m with
 | nil=>exact hm.elim
 | cons d m=>
  cases I with
  | cons L N=>
   exact#[_,_,rfl,G,l,S,d,L,J,i,hm.seq λO P hm o H1 R s T U=>#[o,O,P,m,N.mono s,U,T,hm.go s λz z k A Y B Z s2 r2=>k A Y B (s.trans Z) s2 r2]]
set_option tactic.hygienic true in
theorem Mw(o:X.calm)(h:GGs X es r)
  (s:↑(-GK es X.env=n)) (i:↑((GK es X.env).findIdx? (·.1)=none)):GG X (.Tuple es k pos) (JT n r):=(xC o h s i).imp<|by
 rintro v J H Q ⟨A,l,S,d,B,C,E,hm⟩
 cases d <;> first | exact hm.elim | skip
 rename_i G
 cases B with
 | tup I m=>
  unfold JT at hm;dsimp only at hm;split at hm
  ·rename_i g
   exact#[_,_,rfl,.inl (.inl I),by rw[<-m.length];exact g,A,l,S,G,m,C,E,hm]
  ·exact hm.elim
end
def spM(K:AD)(n:Nat)(f:¬D->Sto->Res D):Sp:=λs H Q E=>∃m o S,o.length=n/\Au K m H o s/\CL K m S H/\CM K (λc i=>E (.ref c) none i) m H (f o S) λd A=>
 ∀g i x,Le K m H g i->CL K g A i->B2 K g i d x->Q x i
theorem spM.len{K}{n}{f}{vs}{H}{Q}{E}(h:spM K n f vs H Q E):-vs=n:=by
 let#[m,o,S,g,i,_]:=h;rw[<-i.length];exact g
def Bg(n:Nat)(f:¬D->Sto->Res D)(m:ML):ME:=λe S=>m e S*>λg i=>if -g=n then f g i else .bad
def PU(C:AW)(n:Nat)(f:¬D->Sto->Res D)(m:ML):ME:=λe S=>m e S*>λi g=>if -i+1=n then(f (.ref (-g) :: i) (g++[.ins C []])).bind (λd o=>match d with
  | .non=>.ok (.ref (-g)) o
  | _=>.bad)else .bad
def iH(E:EW)(g:St):XK:=λv o H=>o=none/\∃c,v=.ref c/\E c g H
section
variable{X:Cx}{E:EW}{k n:Nat}{x:Str}{e:Expr}{es:¬Expr}
theorem CM.xk{o:Type}{K:AD}{A:St}{ρ g:¬AW}{H B:Hp}{r:Res o}{k k':o->Sto->Prop}(h:CM K (λc=>E c A) ρ H r k)(l:Le K ρ H g B)(f:∀a S,k a S->k' a S):CM K (λc i=>iH E A (.ref c) none i) g B r k':=by
 cases r with
 | ok a S=>exact f a S h
 | err c S=>exact λm i C s=>#[rfl,c,rfl,h m i (l.trans C) s]
 | bad=>exact h
set_option tactic.hygienic true in
theorem Y1(F:IL X.prog X.w X.K X.mg X.base CX k f fd B (spM X.K n g))(C:NC CX X (iH E))(G:He k X.A)(I:Gl X x)(hm:X.mg x=!.ref f)(J:GM X.K (.ref f))(hb:Binds X.K fd B [])
  (L:GA X E (e :: es) ml) (N:↥((x==("__debug__" : Str))=false)) (O:↑(AR (e :: es) X.env=(false,Bz e X.env) :: AR es X.env)) (P:↑((DB pos (AR es X.env)).any (·.1)=false)) :
  GE X E (.Call (.Name x p) (e :: es) [] pos) (Bg n g ml):=(sX F G I hm J hb .nil C L N O P).imp<|by
 rintro σ H Q ⟨R,l,S,T,U,hm⟩
 refine#[R,l,S,T,U,hm.seq λY Z hm m H1 xs s s1 r1=>?_];split at hm
 ·rename_i i
  rw[CQ];exact#[m,Y,Z,i,r1,s1,hm.xk s λM M k o H' z l' s' r'=>k o H' z (s.trans l') s' r']
 ·exact hm.elim
set_option tactic.hygienic true in
theorem Y0(M:Mk X.K C f)(F:IL X.prog X.w X.K X.mg X.base CX k f fd U (spM X.K n g))(Y:NC CX X (iH E))(Z:He (k+1) X.A)(hg:Gl X x)(hm:X.mg x=!.ref C)(hb:Binds X.K fd U [])
  (m:GA X E (e :: es) ml) (Ϟ:↥((x==("__debug__" : Str))=false)) (he:↑(AR (e :: es) X.env=(false,Bz e X.env) :: AR es X.env)) (Ρ:↑((DB pos (AR es X.env)).any (·.1)=false)) :
  GE X E (.Call (.Name x p) (e :: es) [] pos) (PU C n g ml):=(sT M F Z hg hm hb .nil Y m Ϟ he Ρ).imp<|by
 rintro σ H Q ⟨ρ,l,S,hl,hs,hm⟩
 refine#[ρ,l,S,hl,hs,hm.seq λds N hm s H1 xs O s1 r1 a P m B Θ=>?_];split at hm
 ·rename_i R
  rw[CQ];let#[s2,G]:=Jz s1 B
  let I:upd H1 P (.own a) a=none:=by rw[Bd (Cc Θ)];exact m
  let#[s3,J,i]:=s2.alloc (o:=.ins C []) I #[P,[],Bv,.nil];refine#[s++[a],.ref (-N) :: ds,N++[.ins C []],by omega,.cons (.ref i) (r1.mono (G.trans J)),s3,CM.xk (hm.seq λz S2 hm=>hm) (O.trans (G.trans J)) λz S2 hm L H' y T s' r'=>?_]
  cases z <;> first | exact hm.elim | skip
  cases r';exact#[rfl,hm L H' _ (O.trans (G.trans (J.trans T))) s' (.ref (T.pre _ _ i))]
 ·exact hm.elim
end
theorem KVR.lookup{K}{ρ}{H}(f:Str):∀{x:¬(Str×D)} {y:¬(Str×V)} {d:D},KVR K ρ H x y->x.lookup f=!d->∃v,y.lookup f=!v/\B2 K ρ H d v
 | _,_,d,z,h=>by
  cases z with
  | nil=>simp at h
  | @cons p q _ _ r t=>
   let#[g,a]:=p;let#[o,b]:=q;let#[i,s]:=r;subst i;rw[Gz]at h ⊢
   cases m:(f==g)with
   | true=>ext
   | false=>rw[m]at h;exact KVR.lookup f t h
noncomputable def LO(f:Str)(v:D):¬(Str×D)->¬(Str×D)
 | []=>[(f,v)]
 | (g,x) :: r=>if g=f then(g,v) :: r else(g,x) :: LO f v r
theorem KVR.putF{K}{ρ}{H}(f:Str){d}{v}(m:B2 K ρ H d v):∀{x:¬(Str×D)} {y:¬(Str×V)},KVR K ρ H x y->KVR K ρ H (LO f d x) (putF f v y)
 | _,_,z=>by
  cases z with
  | nil=>exact .cons #[rfl,m] .nil
  | @cons p q _ _ r t=>
   let#[g,a]:=p;let#[A,b]:=q;let#[o,s]:=r;subst o;unfold LO L2.putF
   by_cases i:g=f
   ·rw[qX i,qX i];exact .cons #[rfl,m] t
   ·rw[qY i,qY i];exact .cons #[rfl,s] (KVR.putF f m t)
theorem KVR.length{g:Type}{K:AD}{ρ:¬AW}{H:Hp}{x:¬(g×D)}{y:¬(g×V)}(h:KVR K ρ H x y):-x=-y:=Fh h
def CD(C:AW)(f:Str)(m:ME):ME:=λe S=>m e S*>λd g=>match d with
 | .ref n=>match g[n]? with
  | some (.ins i fs)=>if i=C then(match fs.lookup f with | some v=>.ok v g | none=>.bad)else .bad
  | _=>.bad
 | _=>.bad
def JV(C:AW)(f:Str)(mo mv:ME):MS:=λe S=>(mv e S).lift e λv i=>(mo e i).lift e λd g=>match d with
 | .ref n=>match g[n]? with
  | some (.ins m fs)=>if m=C/\-fs < 1000 then .ok (.nx e) (g.set n (.ins C (LO f v fs)))else .bad
  | _=>.bad
 | _=>.bad
section
variable{X:Cx}{E:EW}{o e value:Expr}{m mv:ME}
set_option tactic.hygienic true in
theorem Br(G:Cls X.K C)(I:Ez X.K C f)(J:GE X E e m)(hb:↑(Eg e f X.env (Bz e X.env)=Bz e X.env)):GE X E (.Attribute e f pos) (CD C f m):=(xJ J hb).imp<|by
 rintro σ H Q ⟨L,l,S,N,O,hm⟩
 refine#[L,l,S,N,O,hm.seq λx P hm i R v T B U=>?_]
 cases x <;> first | exact hm.elim | skip
 rename_i n;dsimp only at hm
 cases g:P[n]? with
 | none=>rw[g]at hm;exact hm.elim
 | some Y=>
  rw[g]at hm
  cases Y <;> first | exact hm.elim | skip
  rename_i C' fs;dsimp only at hm;split at hm
  ·rename_i Z
   rw[Z]at g
   cases U with
   | ref ϣ=>
    let#[dx,s,e1,e2]:=B.ob n _ _ g ϣ
    cases A:fs.lookup f with
    | none=>rw[A]at hm;exact hm.elim
    | some w=>
     rw[A]at hm;let#[v,h3,h4]:=KVR.lookup f e2 A;exact#[_,_,dx,s,v,rfl,e1,G,I,h3,hm i R v T B h4]
  ·exact hm.elim
set_option tactic.hygienic true in
theorem Iw(Z:Cls X.K C)(hn:Ez X.K C f)(ha:GE X E o m)(hv:GE X E value mv)(J:↑(HX value (!.Attribute o f s) pos.line X.env=pure false)):GS X E (.Assign [.Attribute o f s] value pos) (JV C f m mv):=(w6 ha hv J).imp<|by
 rintro D σ H ⟨ρ,l,S,A,J,hm⟩
 refine#[ρ,l,S,A,J,hm.lift A .refl λv S1 hm L H1 y i s1 r1=>#[L,l,S1,A.mono i,s1,(hm.later i).lift (A.mono i) i λx S2 hm g Q u N R r2=>?_]]
 cases x <;> first | exact hm.elim | skip
 rename_i n;dsimp only at hm
 cases I:S2[n]? with
 | none=>rw[I]at hm;exact hm.elim
 | some ob=>
  rw[I]at hm
  cases ob <;> first | exact hm.elim | skip
  rename_i C' fs;dsimp only at hm;split at hm
  ·rename_i O
   let#[O,B]:=O;rw[O]at I
   cases r2 with
   | ref ϣ=>
    let#[P,G,T,U]:=R.ob n _ _ I ϣ;let le:Le X.K g Q g (upd Q _ (.ins C P (putF f y G))):=Le.write ϣ (by rw[T];trivial);let#[s3,Y]:=R.write (o:=.ins C (LO f v fs)) ϣ #[P,_,Bv,(KVR.putF f (r1.mono N) U).mono le] le;refine#[_,C,P,G,rfl,T,Z,hn,by rw[<-KVR.length U];exact B,?_];exact hm g _ σ (i.trans (N.trans Y)) s3 (A.mono (i.trans (N.trans Y)))
  ·exact hm.elim
end
def ExAt(o:AW->Prop)(F:⇑AH->Prop)(g C:AW)(H:Hp)(h:Cb):Prop:=
 H g=none/\o g/\∃(i:Obj) (m:Array AH) (B:AH),h.get? g=!i/\i.cls=.ref C/\(i.dict=none/\i.data=.fields m)/\m[0]?=!B /\
  ((F none/\m[1]?=!.none)∨∃(T:AW) (s:Obj) (ts:Array AH) (A:AH),F (!A)/\m[1]?=!.ref T/\T≠g/\H T=none/\o T/\h.get? T=!s/\s.data=.fields ts/\ts[3]?=!A)
def CXG(P:BP)(w:Bx):CXT:=λg H s E e i=>∃o C m,e=.ref o/\i.os=s.os/\Lq i.gens/\Un (frs g) [] H m s.heap i.heap/\HOk P w m i.heap/\ExAt (λb=>s.heap.get? b=none) (· = !.none) o C m i.heap/\E (.ref C) none m
theorem Inv.with(I:Inv X N O H s)(z:AH->AM->Prop):Inv { X with xe:=z } N O H s:=by
 let#[ok,a,b,c,d,e,f,g,i,j,l]:=I;let#[P,Q,R,S,T,U,Y,Z,o9,m,o,A,B,C,E,G,J,L]:=ok;exact#[#[P,Q,R,S,T,U,Y,Z,o9,m,o,A,B,C,E,G,J,L],a,b,c,d,e,f,g,i,j,l]
theorem Inv.without(I:Inv { X with xe:=z } g i H s):Inv X g i H s:=by
 let:=I.with X.xe
 exact this
structure Good(X:Cx)(E:EW):Prop where
 pass:NC (CXG X.prog X.w) X (iH E)
 own:X7 (AZ X.prog X.w) X.A X.env X.xe
 made:∀(ζ:¬(AW×Obj)) (σ:St) (H:Hp) (s:AM) (h':Cb) (ea C:AW) (args:¬AH),Inv X ζ σ H s->E C σ H->Cb.MadeExcOf s.heap h' ea (.ref C) args->X.xe (.ref ea) { s with heap:=h' }
theorem good_none(i:X.xe=λz z=>False):Good X noE:=by
 refine#[λo A H s e B I h=>?_,by rw[i];exact X7.never,λz z z z z z z z z w z=>w.elim];let#[E,C,G,rfl,os,g,un,m,x,_,c,J,w]:=h;exact w.elim
def LK(n:Nat)(ds:¬D):Lo:=ds.map some++BU (n - -ds) none
theorem cq{K}{ρ}{H}{N}{ds}{vs}(r:Au K ρ H ds vs):Gw K ρ H (LK (-N) ds) (start N vs):=by
 refine#[by simp[LK,start,r.length],λi d q=>?_];unfold LK at q;unfold start
 by_cases g:i < -ds
 ·rw[Ah (by simpa using g),Al]at q
  rw[Ah (by rw[AN,<-r.length];exact g),Al]
  cases e:ds[i]? with
  | none=>rw[e]at q;cases q
  | some m=>
   rw[e]at q;cases q;let#[v,o,s]:=r.get e;ext
 ·rw[BE (by simpa using g),D3]at q
  ext
section
variable{X:Cx}
noncomputable def intOp(C:Int->Int->Prop)[∀i j,Decidable (C i j)](g:Int->Int->D):D->D->Sto->Res D
 | .int i,.int j,S=>if C i j then .ok (g i j) S else .bad
 | _,_,_=>.bad
theorem nz[∀i j,Decidable (C i j)](h:intOp C g a b S=.ok d m):∃i j,a=.int i/\b=.int j/\C i j/\d=g i j/\m=S:=by
 unfold intOp at h;split at h
 ·lia
 ·cases h
theorem R6[∀i j,Decidable (C i j)](m:∀ρ H i j,B2 X.K ρ H (g i j) (v i j))(h:OpR X f (rI C v)):OpR X f (rD X.K (intOp C g)):=h.imp<|by
 rintro x y H Q ⟨ρ,S,a,b,d,E,o,s,A,hm,k⟩
 let#[i,j,rfl,rfl,B,rfl,rfl]:=nz hm;cases s;cases A;exact#[i,j,rfl,rfl,B,k ρ H _ .refl o (m _ _ _ _)]
theorem Mp(m:∀ρ H i j,B2 X.K ρ H (g i j) (v i j))(h:OpR X f (rI0 v)):OpR X f (rD X.K (intOp (λz z=>True) g)):=
 R6 m (h.imp (by rintro x y H Q ⟨i,j,o,s,_,q⟩;exact #[i,j,o,s,q]))
instance(i j:Int):Decidable (pV i j):=inferInstanceAs (Decidable (_/\_))
instance(i j:Int):Decidable (uj i j):=inferInstanceAs (Decidable (_/\_/\_))
instance(i j:Int):Decidable (bf i j):=inferInstanceAs (Decidable (_∨_))
abbrev Z4:=intOp (λz z=>True) λi j=>.int (i - j)
abbrev ai:=intOp bf λi j=>.int (i * j)
abbrev JY:=intOp pV λi j=>.int (i / j)
abbrev LQ:=intOp (λz j=>0 < j) λi j=>.int (i % j)
abbrev ltD:=intOp (λz z=>True) λi j=>.bl (decide (i < j))
abbrev leD:=intOp (λz z=>True) λi j=>.bl (decide (i<=j))
abbrev gtD:=intOp (λz z=>True) λi j=>.bl (decide (j < i))
abbrev geD:=intOp (λz z=>True) λi j=>.bl (decide (j<=i))
theorem R5:OpR X (Cg .Sub) (rD X.K Z4):=Mp (λz z z z=>.int _) xR
theorem Yi:OpR X (Cg .Mult) (rD X.K ai):=R6 (λz z z z=>.int _) xU
theorem Go:OpR X (Cg .FloorDiv) (rD X.K JY):=R6 (λz z z z=>.int _) sf
theorem GZ:OpR X (Cg .Mod) (rD X.K LQ):=R6 (λz z z z=>.int _) xV
theorem Qt:OpR X (BY .Lt) (rD X.K ltD):=Mp (λz z z z=>.bl _) AAp
theorem PR:OpR X (BY .LtE) (rD X.K leD):=Mp (λz z z z=>.bl _) AAq
theorem m9:OpR X (BY .Gt) (rD X.K gtD):=Mp (λz z z z=>.bl _) AAr
theorem u7:OpR X (BY .GtE) (rD X.K geD):=Mp (λz z z z=>.bl _) AAs
noncomputable def JB:D->D->Sto->Res D
 | .int i,.int j,S=>.ok (.int (i+j)) S
 | .tup g,.tup m,S=>if -g+-m<=sizeLine then .ok (.tup (g++m)) S else .bad
 | .ref l,.ref b,S=>match S[l]?,S[b]? with
  | some (.lst g),!.lst m=>if -g+-m<=sizeLine then .ok (.ref (-S)) (S++[.lst (g++m)])else .bad
  | _,_=>.bad
 | _,_,_=>.bad
def AAg(K:AD):R2:=λx y H Q=>∃a b g i,x=.ref a/\y=.ref b/\H a=!.tup g/\H b=!.tup i/\-g+-i<=sizeLine /\
 (g=[]->Q (.ref b) H)/\(i=[]->Q (.ref a) H)/\(∀p,H p=none->Q (.ref p) (upd H p (.tup (g++i))))
theorem sh:OpR X (Cg .Add) (AAg X.K):=by
 intro L s N H x y v u Q I O P h;let#[a,b,A,R,rfl,rfl,B,hb,S,T,U,Y]:=h;cases O;cases P;let#[Z,r1,p1,_]:=I.tuple (.inl (.inl B));let#[Κ,r2,p2,_]:=I.tuple (.inl (.inl hb))
 by_cases i:A=[]
 ·let#[#[cls,dd,data,sl],C,E,n,G]:=id p1
  let#[#[J,m,data2,o],g,hc2,n2,hd2]:=id p2;simp only at E G hc2 hd2;subst E G hc2 hd2;let hi:=r1.nil_iff.mpr i
  exact kE #[_,C,rfl] #[_,g,rfl] X1 gx MU Lm (LB _ _)
   (tuple_addW0 a b Z.toArray Κ.toArray n n2 dd m sl o (by simp[hi])) #[C,g,#[.ref b,H,I,rfl,T i]]
 ·exact sg L s N H (.ref a) (.ref b) _ _ Q I rfl rfl #[a,b,A,R,rfl,rfl,.inl (.inl B),.inl (.inl hb),i,S,U,λz p hp=>Y p hp]
theorem Au.nil_of{K}{ρ}{H}{xs}{vs}(r:Au K ρ H xs vs)(e:vs=[]):xs=[]:=by
 subst e;cases r;rfl
set_option tactic.hygienic true in
theorem Ga:OpR X (Cg .Add) (rD X.K JB):=(xa.or (sh.or xY)).imp<|by
 rintro x y H Q ⟨s,S,a,b,d,S',g,Z,I,hm,k⟩
 cases Z with
 | int i=>
  cases I <;> first | (cases hm;done) | skip
  cases hm;exact .inl #[_,_,rfl,rfl,k s H _ .refl g (.int _)]
 | @tup O a1 P B A=>
  cases I with
  | @tup R b1 ws T C=>
   unfold JB at hm;dsimp only at hm;split at hm
   ·rename_i J
    cases hm;refine .inr (.inl #[_,_,_,_,rfl,rfl,B,T,by rw[<-A.length,<-C.length];exact J,λe=>?_,λe=>?_,λp E=>?_])
    ·rw[A.nil_of e,qH]at k
     exact k s H _ .refl g (.tup T C)
    ·rw[C.nil_of e,CQ]at k
     exact k s H _ .refl g (.tup B A)
    ·let#[L,G]:=Jz g E
     exact k s _ _ G L (.tup Bv ((A.append C).mono G))
   ·cases hm
  | _=>cases hm
 | @ref n a1 hn=>
  cases I with
  | @ref m b1 ϣ=>
   unfold JB at hm;dsimp only at hm;split at hm
   ·rename_i O R B A
    split at hm
    ·rename_i J
     cases hm;let#[P,e1,U]:=g.ob _ _ _ B hn;let#[us,e2,Y]:=g.ob _ _ _ A ϣ;refine .inr (.inr #[_,_,_,_,rfl,rfl,e1,e2,by rw[<-U.length,<-Y.length];exact J,λp E=>?_]);let le:Le X.K s H (s++[p]) (upd H p (.lst (P++us))):=Le.alloc E;let#[L,G,N]:=g.alloc (o:=.lst (O++R)) E #[_,Bv,(U.append Y).mono le];exact k _ _ _ G L (.ref N)
    ·cases hm
   ·cases hm
  | _=>cases hm
 | _=>cases hm
def ixD:D->D->Sto->Res D:=λa b S=>match GB a S,b with
 | some g,.int i=>match atI g i with
  | some d=>.ok d S
  | none=>.bad
 | _,_=>.bad
theorem uU{K}{ρ}{H}{ds}{vs}{i}{d}(r:Au K ρ H ds vs)(h:atI ds i=!d):∃v,atI vs i=!v/\B2 K ρ H d v:=by
 unfold atI at h ⊢;rw[<-r.length]
 cases g:ixN (-ds) i with
 | none=>ext
 | some j=>
  rw[g]at h;exact r.get h
set_option tactic.hygienic true in
theorem AAv:IxR X (rD X.K ixD):=(ix_list.or yD).imp<|by
 rintro x y H Q ⟨m,S,a,b,d,J,g,B,C,hm,k⟩
 unfold ixD at hm;split at hm
 ·rename_i L i E
  split at hm
  ·rename_i N G
   cases hm;cases C;let#[p,o,rfl,I,sq]:=Ts g B E;let#[v,s,A]:=uU I G
   rcases sq with sq | sq
   ·exact .inl #[p,o,_,v,rfl,rfl,sq,s,k m H v .refl g A]
   ·exact .inr #[p,o,_,v,rfl,rfl,sq,s,k m H v .refl g A]
  ·cases hm
 ·cases hm
noncomputable def Q6(neg:Bool)(x y:D)(S:Sto):Res D:=match y with
 | .non=>match x with
  | .non=>.ok (.bl (not neg)) S
  | _=>.ok (.bl neg) S
 | _=>.bad
theorem dI:OpR X (BY .Is) (rD X.K (Q6 false)):=xX.imp<|by
 rintro x y H Q ⟨g,S,a,b,d,s,i,m,o,hm,k⟩
 cases o <;> first | (cases hm;done) | skip
 refine#[rfl,?_]
 cases m <;> (cases hm;exact k g H _ .refl i (.bl _))
theorem fZ:OpR X (BY .IsNot) (rD X.K (Q6 true)):=se.imp<|by
 rintro x y H Q ⟨g,S,a,b,d,s,i,m,o,hm,k⟩
 cases o <;> first | (cases hm;done) | skip
 refine#[rfl,?_]
 cases m <;> (cases hm;exact k g H _ .refl i (.bl _))
end
def mQ(f:¬D->Sto->Res D)(m:ML):ME:=λe S=>m e S*>λg i=>okR (f g i)
section
variable{X:Cx}{E:EW}{e:Expr}{es:¬Expr}{x:Str}{p pos:Pos}{ml:ML}{id:String}{r:¬V->Hp->VK->Prop}{f:¬D->Sto->Res D}
def ue(K:AD)(r:¬V->Hp->VK->Prop)(f:¬D->Sto->Res D):Prop:=∀m H S s q o d A (Q:VK),CL K m S H->Au K m H s o->(SqL K H q o∨SqT K H q o)->f s S=.ok d A ->
 (∀g i z,Le K m H g i->CL K g A i->B2 K g i d z->Q z i)->r [.ref q] H Q
def zI(K:AD)(r:¬V->Hp->VK->Prop)(f:¬D->Sto->Res D):Prop:=∀m H S o s d A (Q:VK),CL K m S H->Au K m H o s->f o S=.ok d A ->
 (∀g i z,Le K m H g i->CL K g A i->B2 K g i d z->Q z i)->r s H Q
theorem Yy(o:Jb X (.builtin id) r)(hf:ue X.K r f)(s:Gl X x)(hm:X.mg x=none)(A:HZ x=!.builtin id)(h:GQ X E e ml)(B:↥(x≠"__name__")) (C:↥((x==("__debug__" : Str))=false))
  (m:↑(AR [e] X.env=(false,Bz e X.env) :: AR [] X.env)):GE X E (.Call (.Name x p) [e] [] pos) (mQ f ml):=(KO o s hm A (EV h GX m) B C m rfl).imp<|by
 rintro σ H Q ⟨G,l,S,I,J,hm⟩
 refine#[G,l,S,I,J,hm.seq λL N hm g O q P R T U sq=>?_];let#[d,Y,e,k]:=hm.okR
 exact hf g O N L q P d Y Q T U sq e λi Z z l' s' r'=>k i Z z (R.trans l') s' r'
theorem gR(m:Jb X (.builtin id) r)(hf:zI X.K r f)(o:Gl X x)(hm:X.mg x=none)(s:HZ x=!.builtin id)(h:GA X E (e :: es) ml)(A:↥(x≠"__name__")) (B:↥((x==("__debug__" : Str))=false))
  (C:↑(AR (e :: es) X.env=(false,Bz e X.env) :: AR es X.env)) (G:↑((DB pos (AR es X.env)).any (·.1)=false)):GE X E (.Call (.Name x p) (e :: es) [] pos) (mQ f ml):=(KO m o hm s h A B C G).imp<|by
 rintro σ H Q ⟨I,l,S,J,L,hm⟩
 refine#[I,l,S,J,L,hm.seq λN O hm g P R T U Y=>?_];let#[d,Z,e,k]:=hm.okR
 exact hf g P O N R d Z Q U Y e λi H' z l' s' r'=>k i H' z (T.trans l') s' r'
noncomputable def lenF(ds:¬D)(S:Sto):Res D:=.ok (.int (-ds)) S
theorem we:ue X.K (λxs H Q=>∃p g,xs=[.ref p]/\(SqL X.K H p g∨SqT X.K H p g)/\Q (.int (-g)) H) lenF:=λi H S s q xs d A Q m o sq hm k=>by
 cases hm;exact#[q,xs,rfl,sq,k i H _ .refl m (by rw[o.length];exact .int _)]
noncomputable def Qv:¬D->Sto->Res D
 | [.int i,.int j],S=>.ok (.int (if j < i then j else i)) S
 | _,_=>.bad
noncomputable def Sq:¬D->Sto->Res D
 | [.int i,.int j],S=>.ok (.int (if j > i then j else i)) S
 | _,_=>.bad
theorem uZ:zI X.K (λxs H Q=>∃i j,xs=[.int i,.int j]/\Q (.int (if j < i then j else i)) H) Qv:=λg H S s xs d A Q m o hm k=>by
 unfold Qv at hm;split at hm
 ·cases hm
  cases o with
  | cons a t=>
   cases t with
   | cons b t=>
    cases t;cases a;cases b;exact#[_,_,rfl,k g H _ .refl m (.int _)]
 ·cases hm
theorem uc:zI X.K (λxs H Q=>∃i j,xs=[.int i,.int j]/\Q (.int (if j > i then j else i)) H) Sq:=λg H S s xs d A Q m o hm k=>by
 unfold Sq at hm;split at hm
 ·cases hm
  cases o with
  | cons a t=>
   cases t with
   | cons b t=>
    cases t;cases a;cases b;exact#[_,_,rfl,k g H _ .refl m (.int _)]
 ·cases hm
end
noncomputable def EA(X:Cx)(scope:WS)(N':¬Str)(m:¬(Str×AW))(C:AW)(g:AM)(i:Hp)(ex:¬AW)(pn:¬(AW×Obj)):Cx where
 prog:=X.prog
 w:=X.w
 K:=X.K
 mg:=X.mg
 base:=X.base
 A:=X.A
 N:=N'
 s₀:=g
 H₀:=i
 env:=compEnvC scope m C X.env
 outer:=X.stack
 stack:=X.stack
 ex:=ex
 fn:=λx=>scope.names.lookup x==!.cell
 calm:=X.calm
 pn:=pn
 xe:=λz z=>False
theorem ZC:∀(names:¬(Str×Ra)) (g:¬(Str×AW)),(∀y∈names,y.2=.free->∃c,o.cells.lookup y.1=!c)->(∀n c,g.lookup n=!c->o.cells.lookup n=!c) ->
  ∃s,(forIn names g (λ(x:Str×Ra) (H:¬(Str×AW))=>match x with | (name,kind)=>if (kind==Gy) then do let a <-cellOf o name;pure (JR ((name,a) :: H))else pure (JR H)):Sem (¬(Str×AW)))=pure s /\
   (∀n c,s.lookup n=!c->o.cells.lookup n=!c)/\(∀n c,g.lookup n=!c->∃J,s.lookup n=!J)/\∀y∈names,y.2=.free->∃c,s.lookup y.1=!c
 | [],g,_,A=>#[g,rfl,A,λn c h=>#[c,h],λz h=>nomatch h]
 | (n,k) :: r,g,h,A=>by
  rw[qI]
  by_cases I:k=.free
  ·subst I
   let#[c,L]:=h (n,.free) Aj rfl
   let#[s,e,B,C,E]:=ZC r ((n,c) :: g) (λy i=>h y (AY _ i)) (λm d hm=>by
    grind)
   let N:cellOf o n=pure c:=by unfold cellOf;rw[L]
   refine#[s,?_,B,λm d hm=>C m (if m==n then c else d) ?_,λy i G=>?_]
   ·simp only[beq_self_eq_true,if_true,N,pure_bind]
    exact e
   ·grind
   ·rcases Am.mp i with rfl | i
    ·ext
    ·exact E y i G
  ·let hb:(k==Gy)=false:=by simpa using I
   let#[s,e,B,C,E]:=ZC r g (λy i=>h y (AY _ i)) A;refine#[s,?_,B,C,λy i G=>?_]
   ·simp only[hb,C9,if_false,pure_bind]
    exact e
   ·rcases Am.mp i with rfl | i
    ·trivial
    ·exact E y i G
theorem gg(h:∀y∈scope.names,y.2=.free->∃c,g.cells.lookup y.1=!c):∃i,closureFor scope g=pure i /\
  (∀n c,i.lookup n=!c->g.cells.lookup n=!c)/\∀y∈scope.names,y.2=.free->∃c,i.lookup y.1=!c:=by
 let#[i,e,m,_,o]:=ZC scope.names [] h (λn c z=>by simp at z);refine#[i,?_,m,o];unfold closureFor;exact(congrArg (λz=>z >>= λs=>pure s) e).trans (by rfl)
def eV(X:Cx)(g:¬Expr)(t:TT):Prop:=
 ∀(m:¬(AW×Obj)) (s:AM) (i:St) (H:Hp) (Q:Bool->Hp->Prop),Inv X m i H s->t i H Q ->
  Ac (AZ X.prog X.w) X.A (forIn g true λc r=>if r=true then do let ok <-bz c X.env (Bz c X.env);pure (JR ok)else pure (JR r)) (TP X m i Q) X.xe s
theorem mU:eV X [] (λz H Q=>Q true H):=λg s i H Q I h=>wpAny_tests_nil #[H,I,h]
theorem mT(h:PT X c t):eV X [c] t:=λg s i H Q I q=>wpAny_tests_one (h g s i H Q I q)
structure QB(X:Cx)(scope:WS)(own N':¬Str):Prop where
 kind:scope.kind=.function
 names:∀y∈scope.names,y.2=.local->scope.names.lookup y.1=!.local
 free:∀y∈scope.names,y.2=.free->X.env.kindOf y.1=!.cell∨X.env.kindOf y.1=!.free
 len:-N'=-own+-X.N
 up:∀i x,N'[own.length+i]?=!x->Vis (Lh scope X.env) x->(X.N[i]?=!x/\Vis X.env.scope x/\((Lh scope X.env).names.lookup x=!.cell∨(Lh scope X.env).names.lookup x=!.free)/\X.env.kindOf x≠!.local)/\(x,Da)∉scope.names/\(x,Gy)∈scope.names
 vis:∀x,((Lh scope X.env).names.lookup x=!.cell∨(Lh scope X.env).names.lookup x=!.free)->(x,Gy)∈scope.names∨(x,Da)∈scope.names
set_option tactic.hygienic true in
theorem Gp:∀(names:¬(Str×Ra)) (n:Nat) (g:¬(Str×AW)) (x:Str) (c:AW),(CP n names g).lookup x=!c ->
  ((x,Da)∈names/\n<=c)∨g.lookup x=!c
 | [],_,_,_,_,h=>.inr h
 | (y,k) :: r,n,g,x,c,h=>by
  unfold CP at h;split at h
  ·rename_i m
   let m:k=.cell:=by simpa using m
   subst m
   rcases Gp r (n+1) _ x c h with⟨i,o⟩ | i
   ·exact .inl #[AY _ i,TM o]
   grind
  ·rcases Gp r n g x c h with⟨i,o⟩ | i
   ·ext
   ·exact .inr i
theorem Dh:∀(names:¬(Str×Ra)) (n:Nat) (g:¬(Str×AW)) (x:Str),(∃c,g.lookup x=!c)->∃c,(CP n names g).lookup x=!c
 | [],_,_,_,h=>h
 | (y,k) :: r,n,g,x,h=>by
  unfold CP;split
  ·refine Dh r (n+1) _ x ?_
   grind
  ·exact Dh r n g x h
theorem Eo:∀(names:¬(Str×Ra)) (n:Nat) (g:¬(Str×AW)) (x:Str),(x,Da)∈names->∃c,(CP n names g).lookup x=!c/\n<=c
 | (y,k) :: r,n,g,x,h=>by
  unfold CP
  by_cases m:(x,Da)∈r
  ·split
   ·let#[c,i,s]:=Eo r (n+1) ((y,n) :: g) x m
    exact#[c,i,TM s]
   ·exact Eo r n g x m
  ·rcases Am.mp h with e | e
   ·cases e
    rw[qX (show(Da==Da)=true from rfl)];let#[c,o]:=Dh r (n+1) ((y,n) :: g) y #[n,by rw[Gz,beq_self_eq_true]]
    rcases Gp r (n+1) _ y c o with⟨i,_⟩ | i
    ·exact(m i).elim
    ·rw[Gz,beq_self_eq_true]at i
     cases i;exact#[n,o,AO _]
   trivial
theorem O1(m:(x,Da)∉names)(h:g.lookup x=!c):(CP n names g).lookup x=!c:=by
 let#[o,s]:=Dh names n g x #[c,h]
 rcases Gp names n g x o s with⟨i,_⟩ | i
 ·exact(m i).elim
 ext
theorem LW:∀(names:¬(Str×Ra)) (n:Nat) (g:¬(Str×AW)),(∀x c,g.lookup x=!c->c < n)->(∀x y c,g.lookup x=!c->g.lookup y=!c->x=y) ->
  ∀x y c,(CP n names g).lookup x=!c->(CP n names g).lookup y=!c->x=y
 | [],_,_,_,h=>h
 | (z,k) :: r,n,g,m,h=>by
  unfold CP;split
  ·let i:∀x c,((z,n) :: g).lookup x=!c->(x=z/\c=n)∨g.lookup x=!c:=λx c q=>by
    rw[Gz]at q
    cases hb:x==z with
    | true=>rw[hb]at q;cases q;exact .inl #[beq_iff_eq.mp hb,rfl]
    | false=>rw[hb]at q;exact .inr q
   refine LW r (n+1) _ (λx c q=>?_) λx y c o s=>?_
   ·rcases i x c q with⟨_,rfl⟩ | e
    ·exact DE _
    ·exact Gi (m x c e)
   grind
  ·exact LW r n g m h
set_option tactic.hygienic true in
theorem LV:∀(names:¬(Str×Ra)) (h:Cb) (g:¬(Str×AW)) (x:Str) (c:AW),(CP h.objs.size names g).lookup x=!c->g.lookup x=!c∨((HY h names).IsCell c none/\h.objs.size<=c)
 | [],_,_,_,_,q=>.inl q
 | (y,k) :: r,h,g,x,c,q=>by
  unfold CP at q;unfold HY;split at q
  ·rename_i i
   rw[qX i];let:=LV r (h.push { cls:=.type "cell",data:=.cell none }) ((y,h.objs.size) :: g) x c ∅
   rcases this with e | ⟨e,l⟩
   ·rw[Gz]at e
    cases hb:x==y with
    | true=>
     rw[hb]at e;cases e;exact .inr #[#[_,Zc _ _ _ _ (AT _ rfl),rfl],AO _]
    | false=>ext
   ·exact .inr #[e,by rw[Dq]at l;exact TM l]
  ·rename_i i
   rw[qY i];exact LV r h g x c q
theorem cO
  (h:Q (newEnv scope s.heap.objs.size globals (CP (s.heap.push { cls:=.type "dict",data:=.dict #[] }).objs.size scope.names C) i none .none (!g) cC) { s with heap:=HY (s.heap.push { cls:=.type "dict",data:=.dict #[] }) scope.names }) :
  Ac M A (bx scope globals C [] i none .none (!g)) Q E s:=by
 simp only[bx,eh,if_true];refine AA (wpAny_alloc ?_);refine AA (wpAny_layCells _ (λo B m=>by rfl) _ _ _ _ ?_);rw[W1];exact AA (AC (AC h))
section
theorem dy(P:QB X scope own N')(I:Inv X ζ S Q E)(hf:∀b∈fp,RT X ζ Q b)(J:∀b∈fp,b < E.heap.objs.size)
  (g:∀n c,B.lookup n=!c->X.env.cells.lookup n=!c) (c2:∀y∈scope.names,y.2=.free->∃c,B.lookup y.1=!c)
  (ϣ:E.heap.objs.size<=n) (G:∀x c,(CP n scope.names B).lookup x=!c->B.lookup x=!c∨(s.heap.IsCell c none/\n<=c)) (hHn:∀c,n<=c->H c=none)
  (T:E.heap.objs.size<=C) (hn:s.heap.Ns C m) (U:s.os=E.os) (hg:Lq s.gens)
  (u:Un (frs X.stack) fp Q H E.heap s.heap) (Y:HOk X.prog X.w H s.heap) (Z:H C=none) :
  Inv (EA X scope N' (CP n scope.names B) C E Q fp (X.pn++ζ)) [] (BU (-own) none++S) H s:=by
 let A:∀x c v,B.lookup x=!c->E.heap.IsCell c v->s.heap.IsCell c v:=by
  rintro x c v e ⟨o,ho,hd⟩
  let#[sl,q]:=u.any ho (I.freeC x c (g x c e)) λz=>(hf c z).2.2.2.2.1 x c (g x c e) rfl
  exact#[_,q,hd]
 let clt:∀x c,B.lookup x=!c->c < n:=λx c e=>by
  let#[v,z]:=I.cell x c (g x c e);exact AS z.lt ϣ
 let ok':(EA X scope N' (CP n scope.names B) C E Q fp (X.pn++ζ)).Ok:=by
  refine#[I.ok.mod,P.kind,I.ok.glob,I.ok.blt,T,LW _ _ _ clt λx y c h1 h2=>I.ok.inj x y c (g x c h1) (g y c h2),λx hx=>?_,λx c z q=>?_,I.ok.hd,I.ok.frames,.inl rfl,λb hb=>?_,I.bs,Ab I.ok.bsz I.sz,λb o e hb=>?_,λb hb ϐ=>?_,I.stack,I.stkFree]
  ·rcases P.vis x hx with h | h
   ·exact Dh _ _ _ _ (c2 _ h rfl)
   ·let#[c,hc,_]:=Eo scope.names n B x h
    exact#[c,hc]
  ·let z:=z
   let#[c',Ϩ,hl]:=Eo scope.names n B x (D9 (beq_iff_eq.mp z));let q:(CP n scope.names B).lookup x=!c:=q;rw[Ϩ]at q;cases q;exact Ab ϣ hl
  ·refine#[Ao (AS (J b hb) T),λx c e=>?_]
   rcases G x c e with e | ⟨_,e⟩
   ·exact(hf b hb).2.2.2.2.1 x c (g x c e)
   ·exact Dk (AS (J b hb) (Ab ϣ e))
  ·let#[_,_,_,z,_]:=hf b hb
   rcases z with z | z
   ·exact I.ok.noex b o e z
   ·exact zX (AS (AX (I.ok.bs b o e).1) z) (Dm _)
  ·let#[_,z1,z2,_]:=hf b hb
   rcases Am.mp (I.stkSub b ϐ)with e | e
   ·exact z1 e
   ·exact z2 e
 refine#[ok',U,hg,u,#[m,hn,λi x v e1 R e3=>?_],λx c e=>?_,Z,λx c e=>?_,λp hp=>?_,Y,?_]
 ·let hi:-own<=i:=by
   apply UP
   intro My;rw[Ah (by simpa using My),D3,qX My]at R;cases R
  obtain⟨j,rfl⟩:∃j,i=-own+j:=#[i - -own,by ext]
  rw[BE ∅]at R
  let e2':S[j]?=!(!v):=by simpa using R
  let#[#[n1,n2,n3,n4],n5,n6]:=P.up j x e1 e3;let#[m0,hn0,hl]:=I.loc;let#[w',r,lk]:=hl j x v n1 e2' n2;refine#[w',r,.inr #[n3,?_]]
  rcases lk with⟨k,_⟩ | ⟨_,c,hc,Ο⟩
  ·trivial
  ·let#[c',Ϩ]:=c2 _ n6 rfl
   let e:=g x c' Ϩ;rw[hc]at e;cases e;exact#[c,O1 n5 Ϩ,A x c _ Ϩ Ο]
 ·rcases G x c e with e | ⟨e,_⟩
  ·let#[v,z]:=I.cell x c (g x c e)
   exact#[v,A x c v e z]
  grind
 ·rcases G x c e with e | ⟨_,e⟩
  ·let#[v,o,ho,hd]:=I.cell x c (g x c e)
   exact u.free c o ho (I.freeC x c (g x c e)) λz=>(hf c z).2.2.2.2.1 x c (g x c e) rfl
  ext
 ·let L:p∈X.pn++ζ:=by
   let hp:=hp;rwa [CQ]at hp
  let#[e,n,ne,nf,d]:=I.pin p L
  let N:p.1∉frs X.stack:=λz=>(Am.mp (I.stkSub _ z)).elim ne nf
  let O:p.1∉fp:=λz=>(hf _ z).2.2.2.2.2 p L rfl
  exact#[u.keep p.1 p.2 e n N O,u.free p.1 p.2 e n O,Ao (AS (AX e) T),N,d]
 ·show(BU (-own) none++S).length=-N'
  rw[Aa,OY,I.len,P.len]
def lR(k:Nat)(O:TI)(g:TG)(tc:TT)(te:TE):TE:=λG H Q=>O G H λJ I=>∀p,I p=none->∃W:Nat->Nat->St->Hp->¬V->Prop,(∃m,W 0 m (BU k none++G) (upd I p (.lst [])) []) /\
 ∀i m B A s,W i m B A s->A p=!.lst s/\((J.stop i A/\Q (.ref p) A)∨(J.go i A/\-s < sizeLine/\∀x C,J.yld i A x C->g x B C λo P=>tc o P λb L=>
  if b=true then te o L λy N=>N p=!.lst s/\∃E,E < m/\W (i+1) E o (upd N p (.lst (s++[y]))) (s++[y])else ∃E,E < m/\W (i+1) E o L s))
theorem jf{X':Cx}{elt ϖ iter:Expr}{ifs:¬Expr}{pos:Pos}{J:It}{it p:AW}{tn:Nat->Cb->Prop}{g:TG}{tc:TT}{te:TE}{R:kG->AM->Prop}{Q:Hp->Prop}
  (hc:X'.calm) (hx:X'.xe=λM M=>False) (T:ZO X'.prog X'.w X'.K ϖ J X it tn) (hg:PG X' ϖ g) (hif:eV X' ifs tc) (he:PE X' elt te)
  (W:Nat->Nat->St->Hp->¬V->Prop) (turn:∀i m B C xs,W i m B C xs->C p=!.lst xs/\((J.stop i C/\Q C)∨(J.go i C/\-xs < sizeLine/\∀x H'',J.yld i C x H''->g x B H'' λI H2=>tc I H2 λb H3=>
   if b=true then te I H3 λy H4=>H4 p=!.lst xs/\∃H,H < m/\W (i+1) H I (upd H4 p (.lst (xs++[y]))) (xs++[y])else ∃H,H < m/\W (i+1) H I H3 xs)))
  (fin:∀B C s',Inv X' [] B C s'->Q C->R (.ok .next) s')
  {m0:Nat} {N:St} {H0:Hp} {s0:AM} (I0:Inv X' [] N H0 s0) (st0:tn 0 s0.heap) (f0:∀b∈X,RT X' [] H0 b) (w0:W 0 m0 N H0 []) :
  Jh (AZ X'.prog X'.w) X'.A (.compLoop (.ListComp elt [#[ϖ,iter,ifs,0]] scope pos) 0 (.ref it) (.ref p) X'.env) R s0:=by
 let ϩ:∀{C:Hp},(∀b∈X,C b=none)->∀b∈X,RT X' [] C b:=λhn b hb=>#[hn b hb,(f0 b hb).2]
 refine codeAny_loop rfl (λn s'=>∃i B C xs,Inv X' [] B C s'/\tn i s'.heap/\(∀b∈X,C b=none)/\W i n B C xs) (λn s1 hI=>?_) m0 #[0,N,H0,[],I0,st0,λb hb=>(f0 b hb).1,w0];let#[i,G,H1,xs,I1,Z',fr1,w1]:=hI;refine wpAny_noted ?_;rw[compTurn_list]
 let up:∀{α:Type} {t:Sem α} {P:α->AM->Prop} {E:AH->AM->Prop} {s:AM},Ac (AZ X'.prog X'.w) X'.A t P X'.xe s->Ac (AZ X'.prog X'.w) X'.A t P E s:=λh=>Dv h (λM M z=>z) λM M z=>by ext
 let#[hp,O]:=turn i n G H1 xs w1;refine AA (gp (AA ?_))
 rcases O with⟨stop,q⟩ | ⟨go,hz,step⟩
 ·refine up (thn (T.done X' rfl rfl rfl hc i [] s1 G H1 X'.xe I1 (ϩ fr1) Z' stop) ?_);rintro r s4 ⟨hr,I4⟩
  subst hr;exact AC (fin G H1 s4 I4 q)
 ·refine up (thn (T.item X' rfl rfl rfl hc i [] s1 G H1 X'.xe I1 (ϩ fr1) Z' go) ?_);rintro r s4 ⟨u,hr,h4⟩
  subst hr;refine AA (up (thn h4 ?_));rintro _ s5 ⟨x,H5,I5,r5,y5,S,fr5⟩;let I5':=I5.pinned (ϩ fr5) (T.obj _ _ S);refine AA (up (thn (hg _ s5 G H5 x u _ I5' r5 (step x H5 y5)) ?_));rintro _ s6 ⟨U,H6,I6,q6⟩
  let again:∀{Y:AM} {L:St} {Z:Hp} {ys:¬V},Inv X' ([]++VP X s5.heap) L Z Y->(∃H,H < n/\W (i+1) H L Z ys)->∃m,m < n/\∃i B C xs,Inv X' [] B C Y/\tn i Y.heap/\(∀b∈X,C b=none)/\W i m B C xs:=λ{Y L Z ys} I7 #[H,hm,w7]=>by
   refine#[H,hm,i+1,L,Z,ys,I7.unpinned,T.keep _ _ _ S λb hb o e=>(I7.pin (b,o) (Bt _ (Bt _ (Mq hb e)))).1,λb hb=>?_,w7];let#[o,e,d]:=T.obj _ _ S b hb;exact(I7.pin (b,o) (Bt _ (Bt _ (Mq hb e)))).2.1
  refine AA (up (thn (hif _ s6 U H6 _ I6 q6) ?_));rintro ok Y ⟨Z,I7,q7⟩
  cases ok with
  | false=>
   rw[qY AQ]at q7;exact AC #[rfl,again I7 q7]
  | true=>
   rw[qX rfl]at q7;refine AA (AA (up (thn (he _ Y U Z _ I7 q7) ?_)));rintro yv s8 ⟨y,H8,I8,r8,hp8,q8⟩;refine AA (up (thn (Xb _ s8 U H8 (.ref p) [y] (.ref p) [yv] (λv H9=>v=.non/\H9=upd H8 p (.lst (xs++[y]))) I8 rfl (.cons r8 .nil) #[p,xs,y,rfl,rfl,hp8,hz,rfl,rfl]) ?_));rintro v9 s9 ⟨v,H9,I9,r9,e9,e10⟩;subst e10;exact AC (AC #[rfl,again I9 q8])
end
section
theorem Xr(L:Inv X B N E m)(J:Inv (EA X scope N' Z C m E I (X.pn++B)) [] O s s')(P:m.heap.objs.size<=C)(hf:∀b∈I,RT X B E b)
  (A:EF C s'.heap h'):Inv X B N s { s' with heap:=h' }:=by
 let G:∀b o,m.heap.get? b=!o->b≠C:=λb o e=>Ao (AS (AX e) P)
 let g:=J.base
 let u:Un (frs X.stack) I E s m.heap h':=by
  refine#[λb o e n hb i=>(A.2 b (G b o e)).trans (g.keep b o e n hb i),λb o e n hb i=>?_,g.free,λb o e i=>?_,g.tups,g.frzs,g.tbls]
  ·let#[sl,q]:=g.slot b o e n hb i
   exact#[sl,(A.2 b (G b o e)).trans q]
  ·let#[Q,q]:=g.there b o e i
   exact#[Q,(A.2 b (G b o e)).trans q]
 let R:s C=none:=J.free
 let H:HOk X.prog X.w s h':=λa o e=>(J.hok a o e).stay (λb u hb q=>(A.2 b λz=>by
  ext).trans q) (λz q=>q) λz z q=>q
 exact L.call' (s':={ s' with heap:=h' }) J.os u H J.bare λb hb=>by
  let#[_,S,z2,T,U,Y]:=hf b hb;exact#[T,S,U,Y]
theorem V8{σ:St}{E:AH->AM->Prop}{Qf:AW->Hp->Prop}{RR:AH->AW->kG->AM->Prop}{it:AW}{J:It}{tn:Nat->Cb->Prop}(hc:X.calm)(Sc:QB X scope own N')
  (hg:∀I C B G ex pn,PG (EA X scope N' I C B G ex pn) ϖ g) (hif:∀I C B G ex pn,eV (EA X scope N' I C B G ex pn) ifs tc) (he:∀I C B G ex pn,PE (EA X scope N' I C B G ex pn) elt te)
  (c1:∀n c,I.lookup n=!c->X.env.cells.lookup n=!c) (c2:∀y∈scope.names,y.2=.free->∃c,I.lookup y.1=!c)
  (I2:Inv X ζ σ L s2) (T:ZO X.prog X.w X.K ϖ J fp it tn) (A':tn 0 s2.heap) (f2:∀b∈fp,RT X ζ L b)
  (q2:∀p,L p=none->∃W:Nat->Nat->St->Hp->¬V->Prop,(∃m,W 0 m (BU (-own) none++σ) (upd L p (.lst [])) []) /\
   ∀i m O P xs,W i m O P xs->P p=!.lst xs/\((J.stop i P/\Qf p P)∨(J.go i P/\-xs < sizeLine/\∀x H'',J.yld i P x H''->g x O H'' λQ L=>tc Q L λb H=>
    if b=true then te Q H λy s=>s p=!.lst xs/\∃m',m' < m/\W (i+1) m' Q (upd s p (.lst (xs++[y]))) (xs++[y])else ∃m',m' < m/\W (i+1) m' Q H xs)))
  (hRR:∀D C I O P s',s2.heap.objs.size<=C->Inv (EA X scope N' I C s2 L fp (X.pn++ζ)) [] O P s'->Qf D P->RR (.ref D) C (.ok .next) s') :
  Ac (AZ X.prog X.w) X.A (newList []) (λacc s₃=>Ac (AZ X.prog X.w) X.A (bx scope X.env.globals I [] X.env.qual none .none (!X.env)) (λY s₄=>
   Jh (AZ X.prog X.w) X.A (.compStart (.ListComp elt [#[ϖ,iter,ifs,0]] scope pos) 0 (.ref it) acc { Y with scope:=Lh scope X.env }) (RR acc Y.locals) s₄) E s₃) E s2:=by
 let R:∀b∈fp,b < s2.heap.objs.size:=λb hb=>by
  let#[o,e,_]:=T.obj _ _ A' b hb;exact AX e
 refine Be (cO ?_);generalize hH3:s2.heap.push { cls:=.type "list",dict:=none,data:=.seq ([]:¬AH).toArray }=H;generalize hH4:H.push { cls:=.type "dict",data:=.dict #[] }=s
 let hC:H.objs.size=s2.heap.objs.size+1:=by rw[<-hH3,Dq]
 let hC4:s.objs.size=H.objs.size+1:=by rw[<-hH4,Dq]
 let hDC:s2.heap.objs.size≠H.objs.size:=by rw[hC];exact Ao (DE _)
 let N:s2.heap.objs.size<=H.objs.size:=by rw[hC];exact IM _
 let Z:s2.heap.objs.size<=s.objs.size:=by rw[hC4];exact TK N
 let old3:∀b o,H.get? b=!o->(HY s scope.names).get? b=!o:=λb o e=>Zc _ _ _ _ (hH4▸AI _ e)
 let S:∀b o,s2.heap.get? b=!o->(HY s scope.names).get? b=!o:=λb o e=>old3 b o (hH3▸AI _ e)
 let hacc:=old3 _ _ (hH3▸AT _ rfl)
 let U:(HY s scope.names).Ns H.objs.size λM=>none:=by
  let:=(Cb.Ns.new H (.type "dict")).keeps (Zc scope.names (H.push { cls:=.type "dict",data:=.dict #[] }));rw[hH4]at this;exact this
 let hD:=I2.hok.fresh (AO _);let u:Un (frs X.stack) fp L (upd L s2.heap.objs.size (.lst [])) s2.heap (HY s scope.names):=Un.laid S (AO _) hD;let hok:HOk X.prog X.w (upd L s2.heap.objs.size (.lst [])) (HY s scope.names):=I2.hok.laid S (AO _) #[DV _,[],0,.nil,hacc]
 let hHn:∀c,s2.heap.objs.size < c->upd L s2.heap.objs.size (.lst []) c=none:=λc h=>by rw[Bd (Dk h)];exact I2.hok.fresh (Na h)
 let hHC:upd L s2.heap.objs.size (.lst []) H.objs.size=none:=hHn _ (by ext)
 let Ϫ:∀x c,(CP s.objs.size scope.names I).lookup x=!c->I.lookup x=!c∨((HY s scope.names).IsCell c none/\s.objs.size<=c):=λx c e=>LV scope.names s I x c e
 let#[W,#[m0,w0],turn]:=q2 s2.heap.objs.size hD
 let loop:∀s₃:AM,s₃={ s2 with heap:=HY s scope.names } ->
   Jh (AZ X.prog X.w) X.A (.compLoop (.ListComp elt [#[ϖ,iter,ifs,0]] scope pos) 0 (.ref it) (.ref s2.heap.objs.size) (compEnvC scope (CP s.objs.size scope.names I) H.objs.size X.env))
    (RR (.ref s2.heap.objs.size) H.objs.size) s₃:=by
  rintro s₃ rfl
  let J0:Inv (EA X scope N' (CP s.objs.size scope.names I) H.objs.size s2 L fp (X.pn++ζ)) [] (BU (-own) none++σ) (upd L s2.heap.objs.size (.lst [])) { s2 with heap:=HY s scope.names }:=
   dy Sc I2 f2 R c1 c2 Z Ϫ (λc h=>hHn c ∅) N U rfl I2.bare u hok hHC
  refine jf (X':=EA X scope N' (CP s.objs.size scope.names I) H.objs.size s2 L fp (X.pn++ζ)) hc rfl T (hg _ _ _ _ _ _) (hif _ _ _ _ _ _) (he _ _ _ _ _ _) W turn (λO P s' J q=>hRR _ _ _ O P s' N J q) J0 (T.keep _ _ _ A' λb M o e=>S b o e) (λb hb=>?_) w0;let#[z0,z1,z2,z3,z4,z5]:=f2 b hb;refine#[by rw[Bd (Ao (R b hb))];exact z0,Ao (AS (R b hb) N),λz=>?_,.inl hb,λx c e=>?_,λp hp=>?_]
  ·exact(Am.mp (I2.stkSub _ z)).elim z1 z2
  ·rcases Ϫ x c e with e | ⟨_,e⟩
   ·exact z4 x c (c1 x c e)
   ·exact Dk (AS (R b hb) (Ab Z e))
  ·let hp:=hp
   rw[CQ]at hp;exact z5 p hp
 exact codeAny_compStart_list (loop _ rfl) (T.self X.A 0 _ _ _ (T.keep _ _ _ A' λb M o e=>S b o e) (loop _ rfl))
theorem sV(U:X.calm)(G:QB X scope own N')(hi:PI X P iter Y)
  (Z:∀B C i o ex E,PG (EA X scope N' B C i o ex E) P g) (L:∀B C i o ex E,eV (EA X scope N' B C i o ex E) N tc) (he:∀B C i o ex E,PE (EA X scope N' B C i o ex E) O te)
  (hs:autoParam (∀x,EE iter X.env x=pure x) yq3q):PE X (.ListComp O [#[P,iter,N,0]] scope pos) (lR (-own) Y g tc te):=by
 intro ζ s σ H Q I h;rw[eval_ListComp];let#[B,A,c1,c2]:=gg (λy hy hf=>I.ok.has y.1 (G.free y hy hf));refine gt rfl hs A G.kind G.names (thn (hi ζ s σ H _ I h) λv s1 h1=>thn h1 λitv s2 h2=>?_);let#[it,fp,tn,J,H2,rfl,R,T,A',S,q2]:=h2
 refine V8 U G Z L he c1 c2 R T A' S q2 λD C cl' σ' H' s' hC J q=>?_
 let#[m,hn,_]:=J.loc;exact#[m,hn,λh' sb=>#[.ref D,H',Xr R J hC S sb,rfl,q]]
theorem sG{i:Nat}{y:Str}{py G:Pos}(hc:X.calm)(hsw:HX (.ListComp R [#[ϖ,iter,S,0]] scope pos) (!.Name y py) G.line X.env=pure true)
  (hN:X.N.Nodup) (hy:X.N[i]?=!y) (U:Loc X.env.scope y) (Z:QB X scope own N') (hi:PI X ϖ iter wi)
  (hg:∀P C B E ex Y,PG (EA X scope N' P C B E ex Y) ϖ g) (hif:∀P C B E ex Y,eV (EA X scope N' P C B E ex Y) S tc) (he:∀P C B E ex Y,PE (EA X scope N' P C B E ex Y) R te)
  (hs:autoParam (∀x,EE iter X.env x=pure x) yq3q) (hf:autoParam (X.fn y=true∨X.env.scope.names.lookup y=!.local) yq2q) :
  PS X (.Assign [.Name y py] (.ListComp R [#[ϖ,iter,S,0]] scope pos) G) (wZ (lR (-own) wi g tc te) (gV i)):=by
 intro ζ s σ H D I h;rw[exec_Assign_Name_used _ _ _ _ hsw];refine AA (gp (AA ?_));let#[P,L,c1,c2]:=gg (λy hy hf=>I.ok.has y.1 (Z.free y hy hf))
 refine AA (Dv (gt rfl hs L Z.kind Z.names
  (thn (hi ζ s σ H _ I h) λv s1 h1=>thn h1 λitv s2 h2=>?_)) (λM s' hq=>AC (AC hq)) λM M e=>e)
 let#[it,fp,tn,J,H2,rfl,Q,T,A',f2,q2]:=h2
 refine V8 hc Z hg hif he c1 c2 Q T A' f2 q2 λA C cl' σ' H' s' hC J q=>?_
 let#[m,hn,_]:=J.loc;let I3:=Xr Q J hC f2 (EF.refl ..);let hHC:=J.free
 let Ο:∀x c,X.env.cells.lookup x=!c->c≠C:=λx c e z=>by
  let#[v,q]:=Q.cell x c e;exact zX (AS q.lt (by ext)) (Dm _)
 let O:=Dk (AS Q.lt hC);refine zL (XG (v:=.ref A) I3 hN hy U rfl (λs4 I4 #[a,sb,ha]=>?_) hf)
 let haC:C≠a:=by
  rcases ha with e | e
  ·ext
  ·exact Cc (Ο _ _ e)
 refine#[m,hn.sameBut sb haC,λh' sb'=>#[_,H',?_,q]]
 refine I4.turned (t':=s4.toks) (λb o hb e=>(sb'.2 b hb).trans e) hHC O (.inr (Ab Q.sz hC)) Ο λp hp z=>?_
 exact zX (AS (AX (Q.pin p hp).1) (by ext)) (Dm _)
end
def Gh(v:O4)(g:MG)(c:MT)(m:ME):Nat->Nat->Lo->Sto->¬D->Res (¬D)
 | k,i,e,S,o=>match v S with
  | none=>.bad
  | some B=>match B[i]? with
   | none=>.ok o S
   | some d=>match k with
    | 0=>.bad
    | k+1=>if -o < sizeLine then(okR (g d e S)).bind λs C=>okR (c s C)*>λb A=>if b=true then(okR (m s A)).bind λy E=>Gh v g c m k (i+1) s E (o++[y])else Gh v g c m k (i+1) s A o else .bad
def En(n:Nat)(mi:MI)(g:MG)(c:MT)(m:ME):ML:=λe S=>mi e S*>λv i=>Gh v g c m (Dc v i) 0 (BU n none++e) i []
def HA:MT:=λz S=>.ok true S
section
abbrev pS(X:Cx)(E:EW)(g:¬Expr)(c:MT):Prop:=eV X g (gT X.K E c)
theorem Q7:pS X E [] HA:=by
 rintro g s i H Q I ⟨m,l,S,A,o,hm⟩
 exact mU g s i H Q I (hm m H .refl o)
theorem OF(h:GT X E e c):pS X E [e] c:=mT h
theorem Gw.grow{K}{ρ}{H}{e}{m}(n:Nat)(h:Gw K ρ H e m):Gw K ρ H (BU n none++e) (BU n none++m):=by
 refine#[by simp[h.len],λi d q=>?_]
 by_cases g:i < n
 ·rw[Ah (by simpa using g),D3,qX g]at q
  cases q
 ·rw[BE (by simpa using g)]at q ⊢
  simp only[OY]at q ⊢;exact h.at' _ d q
theorem CM.ok_of{g:Type}{K:AD}{E:EH}{ρ:¬AW}{H:Hp}{r:Res g}{k:g->Sto->Prop}{a:g}{S:Sto}(e:r=.ok a S)(h:k a S):CM K E ρ H r k:=by
 subst e;exact h
theorem VY{g i:Type}{r:Res g}{F:g->Sto->Res i}{b:i}{S:Sto}(h:(okR r).bind F=.ok b S):∃a S1,r=.ok a S1/\F a S1=.ok b S:=by
 cases r with
 | ok a S1=>exact#[a,S1,rfl,h]
 | err c S1=>cases h
 | bad=>cases h
theorem bO:∀(k i:Nat) (e:Lo) (S:Sto) (o:¬D),Gh v g c m k i e S o≠.err er S':=by
 intro k
 induction k with
 | zero=>
  intro i e S o h;unfold Gh at h;split at h
  ·cases h
  ·split at h <;> cases h
 | succ k G=>
  intro i e S o h;unfold Gh at h;split at h
  ·cases h
  ·split at h
   ·cases h
   ·dsimp only at h
    split at h
    ·cases s:g _ e S with
     | ok A B=>
      rw[s]at h;dsimp only[okR,Res.bind]at h
      cases C:c A B with
      | ok b E=>
       rw[C]at h;dsimp only[okR,Res.bind]at h
       cases b with
       | true=>
        rw[qX rfl]at h
        cases H:m A E with
        | ok y I=>ext
        | err _ _=>ext
        | bad=>ext
       | false=>
        ext
      | err _ _=>ext
      | bad=>ext
     | err _ _=>rw[s]at h;cases h
     | bad=>rw[s]at h;cases h
    ·cases h
set_option tactic.hygienic true in
theorem Z3{K:AD}{n:Nat}{σ:St}{H:Hp}{Q:VK}(h:gL K E (En n mi g c m) σ H Q):lR n (gI K E mi) (gG K g) (gT K noE c) (gE K noE m) σ H Q:=by
 let#[ρ,l,S,hl,hs,hm]:=h;refine#[ρ,l,S,hl,hs,hm.seq λv Y hm ρ1 H1 J l1 s1 vo p hp=>?_]
 obtain⟨Z,U,hm,k⟩:∃Z U,Gh v g c m (Dc v Y) 0 (BU n none++l) Y []=.ok Z U/\∀O H' p L,Le K ρ H O H'->CL K O U H'->Au K O H' Z L->H' p=!.lst L->(∀n:Nat,O[n]?≠!p)->H p=none->Q (.ref p) H':=by
  cases hc:Gh v g c m (Dc v Y) 0 (BU n none++l) Y []with
  | ok Z U=>rw[hc]at hm;exact#[Z,U,rfl,hm]
  | err c U=>exact(bO _ _ _ _ _ hc).elim
  | bad=>rw[hc]at hm;exact hm.elim
 let#[s1',l1']:=Jz s1 hp;let hp0:=l1.back hs s1 hp
 refine#[λi j σ2 R L=>∃C e2 S2 I,Le K ρ1 H1 C R/\Gw K C R e2 σ2/\CL K C S2 R/\Au K C R I L/\R p=!.lst L/\(∀q:Nat,C[q]?≠!p)/\Gh v g c m j i e2 S2 I=.ok Z U,
  #[Dc v Y,ρ1,_,Y,[],l1',(hl.mono (l1.trans l1')).grow n,s1',.nil,Bv,λq e=>s1.notIn hp e,hm],?_]
 rintro i j σ2 R L ⟨C,e2,S2,I,l2,r2,s2,ra,X,ϛ,s⟩;refine#[X,?_];unfold Gh at s
 cases hv:v S2 with
 | none=>ext
 | some vs=>
  rw[hv]at s;dsimp only at s;let#[v1,v2]:=vo C R S2 vs i l2 s2 hv
  cases hd:vs[i]? with
  | none=>
   rw[hd]at s;cases s;exact .inl #[v1 hd,k C R p L (l1.trans l2) s2 ra X ϛ hp0]
  | some d=>
   rw[hd]at s;let#[go,yl]:=v2 d hd
   cases j with
   | zero=>cases s
   | succ j=>
    dsimp only at s;split at s
    ·rename_i hz
     let#[e3,S3,h3,s]:=VY s;let#[b,S4,h4,s]:=VY s;refine .inr #[go,by rw[<-ra.length];exact hz,λx H' y=>?_];let#[ρ3,l3,s3,rd]:=yl x H' y;let#[hp3,hn3]:=l3.oth p _ X ϛ;refine#[ρ3,e2,S2,d,rd,r2.mono l3,s3,CM.ok_of h3 λρ4 H4 σ4 l4 s4 r4=>?_];let#[hp4,hn4]:=l4.oth p _ hp3 hn3;refine#[ρ4,e3,S3,r4,s4,CM.ok_of h4 λρ5 H5 T s5=>?_];let#[hp5,hn5]:=T.oth p _ hp4 hn4
     cases b with
     | false=>
      rw[qY AQ]at s ⊢;exact#[j,DE j,ρ5,e3,S4,I,l2.trans (l3.trans (l4.trans T)),r4.mono T,s5,ra.mono (l3.trans (l4.trans T)),hp5,hn5,s]
     | true=>
      rw[qX rfl]at s ⊢;let#[yv,S5,h5,s]:=VY s;refine#[ρ5,e3,S4,r4.mono T,s5,CM.ok_of h5 λA G y6 l6 s6 r6=>?_];let#[P,hn6]:=l6.oth p _ hp5 hn5
      let l7:∀B,Le K A G A (upd G p (.lst B))->True:=λM M=>trivial
      let up7:∀B:¬V,CL K A S5 (upd G p (.lst B))/\(∀a o,Ed K A G a o->a≠p->Ed K A (upd G p (.lst B)) a o)/\∀e' w',B2 K A G e' w'->B2 K A (upd G p (.lst B)) e' w':=λB=>by
       let N:=Hw (H:=G) (ho:=.lst B) (.inr (by rw[P];trivial))
       let mono:∀e' w',B2 K A G e' w'->B2 K A (upd G p (.lst B)) e' w':=λe' w' r=>r.keep N.1 N.2
       let mob:∀a o,Ed K A G a o->a≠p->Ed K A (upd G p (.lst B)) a o:=λa o r ne=>r.keep N.1 N.2 (Bd ne)
       exact#[#[s6.len,s6.nd,λn o a q1 q2=>mob a o (s6.ob n o a q1 q2) λz=>hn6 n (by ext)],mob,mono]
      let#[u1,u2,u3]:=up7 (L++[y6]);refine#[P,j,DE j,A,e3,S5,I++[yv],?_,?_,u1,?_,Bv,hn6,s]
      ·let lx:=l2.trans (l3.trans (l4.trans (T.trans l6)))
       let N:=Hw (H:=G) (ho:=.lst (L++[y6])) (.inr (by rw[P];trivial))
       exact#[lx.pre,λa zs q=>N.1 a zs (lx.tup a zs q),λa o u q=>N.2 a o u (lx.frz a o u q),λa o q z=>by
        let nap:=DY q hp;let#[z1,z2]:=lx.oth a o q z
        exact#[by rw[Bd nap];exact z1,z2]]
      ·let rr:=r4.mono (T.trans l6)
       exact#[rr.len,λq d' hq=>by
        let#[w',z1,z2]:=rr.at' q d' hq
        exact#[w',z1,u3 _ _ z2]]
      ·let ra6:=ra.mono (l3.trans (l4.trans (T.trans l6)))
       let N:=Hw (H:=G) (ho:=.lst (L++[y6])) (.inr (by rw[P];trivial));exact(ra6.keep N.1 N.2).append (.cons (u3 _ _ r6) .nil)
    ·cases s
theorem tV(J:X.calm)(L:QB X scope own N')(hi:GI X E I iter mi)
  (N:∀s C i o ex A,GG (EA X scope N' s C i o ex A) I g) (B:∀s C i o ex A,pS (EA X scope N' s C i o ex A) noE G c) (O:∀s C i o ex A,GE (EA X scope N' s C i o ex A) noE H m)
  (P:autoParam (∀x,EE iter X.env x=pure x) yq3q):GL X E (.ListComp H [#[I,iter,G,0]] scope pos) (En (-own) mi g c m):=
 (sV J L hi N B O P).imp λz z z h=>Z3 h
theorem Oi(hc:X.calm)(R:HX (.ListComp G [#[T,iter,I,0]] scope pos) (!.Name y py) J.line X.env=pure true)
  (hN:X.N.Nodup) (hy:X.N[i]?=!y) (L:Loc X.env.scope y) (Sc:QB X scope own N') (hi:GI X E T iter mi)
  (hg:∀O C s A ex P,GG (EA X scope N' O C s A ex P) T g) (U:∀O C s A ex P,pS (EA X scope N' O C s A ex P) noE I c) (he:∀O C s A ex P,GE (EA X scope N' O C s A ex P) noE G m)
  (Y:autoParam (∀x,EE iter X.env x=pure x) yq3q) (hf:autoParam (X.fn y=true∨X.env.scope.names.lookup y=!.local) yq2q) :
  GS X E (.Assign [.Name y py] (.ListComp G [#[T,iter,I,0]] scope pos) J) (Bb i (ED (En (-own) mi g c m))):=by
 refine(sG (g:=gG X.K g) (tc:=gT X.K noE c) (te:=gE X.K noE m) hc R hN hy L Sc hi hg U he Y hf).imp λD σ H #[ρ,l,S,Z,Y,hm]=>?_
 refine Z3 #[ρ,l,S,Z,Y,CM.seq (CM.lift hm Z .refl λd S2 h=>h) λds S1 hm B H1 p xs Q s1 r1 hp hn hp0=>?_]
 let l0:∀(n:Nat) a,B[n]?=!a->(B++[p])[n]?=!a:=λn a h=>by rw[Ah (AE.mp h).1];exact h
 let#[s2,at2]:=s1.adopt (o:=.lst ds) hn #[xs,hp,r1.more l0]
 let l2:Le X.K ρ H (B++[p]) H1:=#[λn a h=>l0 n a (Q.pre n a h),Q.tup,Q.frz,λa o e h=>#[(Q.oth a o e h).1,λn q=>by
  rcases KY q with⟨q,_⟩ | ⟨_,q⟩
  ·exact(Q.oth a o e h).2 n q
  ext]]
 exact hm _ _ _ l2 s2 ((Z.mono l2).set (.ref at2) i)
end
end L2
namespace L2
open PySem.SeqAt
noncomputable def ON:D->D->⇑Bool
 | .non,.non=>!true
 | .bl a,.bl b=>!a==b
 | .int a,.int b=>!a==b
 | .str a,.str b=>!a==b
 | .non,.int _=>!false
 | .non,.str _=>!false
 | .non,.bl _=>!false
 | .non,.tup _=>!false
 | .int _,.non=>!false
 | .str _,.non=>!false
 | .bl _,.non=>!false
 | .tup _,.non=>!false
 | .int _,.tup _=>!false
 | .tup _,.int _=>!false
 | _,_=>none
noncomputable def eqL(f:D->D->⇑Bool):¬D->¬D->⇑Bool
 | [],[]=>!true
 | [],_ :: _=>!false
 | _ :: _,[]=>!false
 | x :: g,y :: i=>match f x y,eqL f g i with
  | some a,!b=>!(a&&b)
  | _,_=>none
def eqP:Nat->D->D->⇑Bool
 | 0,x,y=>ON x y
 | n+1,x,y=>match x,y with
  | .tup g,.tup i=>eqL (eqP n) g i
  | x,y=>ON x y
theorem OM(h:eqL f (x :: xs) (y :: g)=!b):∃a c,f x y=!a/\eqL f xs g=!c/\b=(a&&c):=by
 unfold eqL at h;split at h
 ·ext
 ·cases h
theorem gc:∀{xs g:¬D} {b:Bool},eqL f xs g=!b->(∀(j:Nat) x y,xs[j]?=!x->g[j]?=!y->∃c,f x y=!c) /\
  b=((Ca (min (-xs) (-g))).all (λj=>match xs[j]?,g[j]? with | some x,!y=>(f x y).getD false | _,_=>false)&&-xs==-g)
 | [],[],b,h=>by cases h;simp
 | [],y :: g,b,h=>by cases h;ext
 | x :: xs,[],b,h=>by cases h;simp
 | x :: xs,y :: g,b,h=>by
  let#[a,c,i,m,rfl]:=OM h;let#[o,s]:=gc m;refine#[λj A B C E=>?_,?_]
  ·cases j with
   | zero=>ext
   | succ j=>exact o j A B (by simpa using C) (by simpa using E)
  ·rw[s,Az,Az,show min (-xs+1) (-g+1)=min (-xs) (-g)+1 by ext,List.range_succ_eq_map,QJ,zZ]
   simp only[List.getElem?_cons_zero,i,jz,Function.comp_def,List.getElem?_cons_succ]
   lia
section
variable{K:AD}{ρ:¬AW}{H:Hp}
theorem ga(n k:Nat)(y:D):eqP n (.ref k) y=none:=by cases n <;> cases y <;> rfl
theorem gb(n:Nat)(ds:¬D)(y:D):eqP n (.fro ds) y=none:=by cases n <;> cases y <;> rfl
theorem uF(n:Nat)(c:AW)(y:D):eqP n (.exc c) y=none:=by cases n <;> cases y <;> rfl
theorem Qm(s:B2 K ρ H x v)(g:B2 K ρ H i v):x=i∨(∃ds m vs,x=.tup ds/\i=.tup m/\Au K ρ H ds vs/\Au K ρ H m vs)∨(∀n y,eqP n x y=none)∨∀n y,eqP n i y=none:=by
 cases s with
 | non=>cases g;exact .inl rfl
 | bl b=>cases g;exact .inl rfl
 | int b=>cases g;exact .inl rfl
 | str b=>cases g;exact .inl rfl
 | fro _ _=>exact .inr (.inr (.inl λn y=>gb n _ y))
 | ref _=>exact .inr (.inr (.inl λn y=>ga n _ y))
 | exc _ _=>exact .inr (.inr (.inl λn y=>uF n _ y))
 | tup A B=>
  cases g with
  | fro _ _=>exact .inr (.inr (.inr λn y=>gb n _ y))
  | ref _=>exact .inr (.inr (.inr λn y=>ga n _ y))
  | exc _ _=>ext
  | tup o C=>
   rw[A]at o;cases o;exact .inr (.inl #[_,_,_,rfl,rfl,B,C])
theorem uE:∀(n:Nat) {x E y:D} {v:V} {b b':Bool},B2 K ρ H x v->B2 K ρ H E v->eqP n x y=!b->eqP n E y=!b'->b=b':=by
 intro n
 induction n with
 | zero=>
  intro x E y v b b' J L h i
  rcases Qm J L with rfl | ⟨G,N,s,rfl,rfl,_,_⟩ | q | q
  ·rw[h]at i;cases i;rfl
  ·let:eqP 0 (.tup G) y=eqP 0 (.tup N) y:=by cases y <;> rfl
   rw[<-this,h]at i;cases i;rfl
  ·rw[q]at h;cases h
  ext
 | succ n R=>
  intro x E y v b b' J L h i
  let lists:∀{I:¬D} {s:¬V} {m o:¬D} {b b':Bool},Au K ρ H I s->Au K ρ H m s->eqL (eqP n) I o=!b->eqL (eqP n) m o=!b'->b=b':=by
   intro I
   induction I with
   | nil=>
    intro s m o b b' A B g C;cases A;cases B;rw[g]at C;cases C;rfl
   | cons d G O=>
    intro s m o b b' A B g C
    cases A with
    | cons S T=>
     cases B with
     | cons U X=>
      cases o with
      | nil=>cases g;cases C;rfl
      | cons y o=>
       let#[p,q,Y,Z,rfl]:=OM g;let#[p',q',P,Q,rfl]:=OM C;rw[R S U Y P,O T X Z Q]
  rcases Qm J L with rfl | ⟨G,N,s,rfl,rfl,A,B⟩ | q | q
  ·rw[h]at i;cases i;rfl
  ·by_cases c:∃o,y=.tup o
   ·let#[o,rfl]:=c
    exact lists A B h i
   ·let:eqP (n+1) (.tup G) y=eqP (n+1) (.tup N) y:=by
     cases y <;> first | rfl | exact(c #[_,rfl]).elim
    rw[<-this,h]at i;cases i;rfl
  ·rw[q]at h;cases h
  ext
theorem FM(h:ON x x=!b):b=true:=by
 cases x <;> first | (cases h;done) | (cases h;simp)
theorem V1:∀(n:Nat) {x:D} {b:Bool},eqP n x x=!b->b=true
 | 0,_,_,h=>FM h
 | n+1,x,b,h=>by
  let lists:∀{i:¬D} {b:Bool},eqL (eqP n) i i=!b->b=true:=by
   intro i
   induction i with
   | nil=>intro b g;cases g;rfl
   | cons d A m=>
    intro b g;let#[p,q,o,s,rfl]:=OM g;rw[V1 n o,m s];rfl
  cases x with
  | tup i=>exact lists h
  | non=>exact FM (x:=.non) h
  | bl c=>exact FM (x:=.bl c) h
  | int c=>exact FM (x:=.int c) h
  | str c=>exact FM (x:=.str c) h
  | ref c=>exact FM (x:=.ref c) h
  | fro c=>exact FM (x:=.fro c) h
  | exc c=>exact FM (x:=.exc c) h
theorem On(g:(∃f,y=.fro f)∨(∃r,y=.ref r)∨∃c,y=.exc c)(n:Nat):eqP n x y=none:=by
 rcases g with⟨f,rfl⟩ | ⟨r,rfl⟩ | ⟨c,rfl⟩ <;> (cases n <;> cases x <;> rfl)
theorem oo(n:Nat)(E:B2 K ρ H x v)(s:B2 K ρ H y v)(h:eqP n x y=!b):b=true:=by
 induction n generalizing x y v b with
 | zero=>
  rcases Qm E s with rfl | ⟨G,I,i,rfl,rfl,_,_⟩ | q | q
  ·exact V1 0 h
  ·cases h
  ·ext
  ·cases s with
   | fro _ _=>rw[On (.inl #[_,rfl])]at h;cases h
   | ref _=>rw[On (.inr (.inl #[_,rfl]))]at h;cases h
   | exc _ _=>rw[On (.inr (.inr #[_,rfl]))]at h;cases h
   | non=>cases(q 0 .non)
   | bl b=>cases(q 0 (.bl b))
   | int b=>cases(q 0 (.int b))
   | str b=>cases(q 0 (.str b))
   | tup _ _=>cases(q 0 .non)
 | succ n J=>
  let lists:∀{A B:¬D} {i:¬V} {b:Bool},Au K ρ H A i->Au K ρ H B i->eqL (eqP n) A B=!b->b=true:=by
   intro A
   induction A with
   | nil=>intro B i b m o g;cases m;cases o;cases g;rfl
   | cons d G C=>
    intro B i b m o g
    cases m with
    | cons L N=>
     cases o with
     | cons O P=>
      let#[p,q,Q,R,rfl]:=OM g;rw[J L O Q,C N P R];rfl
  rcases Qm E s with rfl | ⟨G,I,i,rfl,rfl,m,o⟩ | q | q
  ·exact V1 (n+1) h
  ·exact lists m o h
  ·ext
  ·cases s with
   | fro _ _=>rw[On (.inl #[_,rfl])]at h;cases h
   | ref _=>rw[On (.inr (.inl #[_,rfl]))]at h;cases h
   | exc _ _=>rw[On (.inr (.inr #[_,rfl]))]at h;cases h
   | non=>cases(q 0 .non)
   | bl b=>cases(q 0 (.bl b))
   | int b=>cases(q 0 (.int b))
   | str b=>cases(q 0 (.str b))
   | tup _ _=>cases(q 0 .non)
end
section
variable{X:Cx}{ζ:¬(AW×Obj)}{σ:St}{H:Hp}{s:AM}{ρ:¬AW}
theorem Iv(A:Bq):A.in1.units=A.units+1:=rfl
theorem Bs.at_(r:Bs vs g)(h:j < g.toArray.size):∃v,vs[j]?=!v/\RelV v g.toArray[j]:=by
 let m:j < -g:=by simpa using h
 let o:j < -vs:=by rw[r.length];exact m
 let#[u,A,B]:=r.get (i:=j) (x:=vs[j]) (by simp[o])
 ext
theorem YT(L:∀(x y:D) (b:Bool) (i m:V) (u v:AH),eqP n x y=!b->B2 X.K ρ H x i->B2 X.K ρ H y m->RelV i u->RelV m v->EqAt A s u v b)
  (h:eqL (eqP n) xs o=!b) (B:Au X.K ρ H xs vs) (C:Au X.K ρ H o N) (E:Bs vs us) (G:Bs N g) :
  ∃e:Nat->Bool,(∀j (I:j < us.toArray.size) (J:j < g.toArray.size),EqAt A s us.toArray[j] g.toArray[j] (e j))/\b=((Ca (min us.toArray.size g.toArray.size)).all e&&us.toArray.size==g.toArray.size):=by
 let#[O,P]:=gc h;refine#[λj=>match xs[j]?,o[j]? with | some x,!y=>(eqP n x y).getD false | _,_=>false,λj I J=>?_,?_]
 ·let#[v,Q,R]:=Bs.at_ E I
  let#[w,S,T]:=Bs.at_ G J;let#[x,U,Y]:=B.get' Q;let#[y,Z,ry]:=C.get' S;let#[c,hc]:=O j x y U Z;let:=L x y c v w _ _ hc Y ry R T;ext
 ·rw[P,B.length,C.length,E.length,G.length]
  simp
theorem SL(I:Inv X ζ σ H s)(m:A.units < Ef)(h:ON x y=!b)(L:B2 X.K ρ H x N)(o:B2 X.K ρ H y O)(B:RelV N u)(g:RelV O v) :
  EqAt A s u v b/\RcAt A s u v b/\RcNeAt A s u v (not b):=by
 cases L with
 | non=>
  cases B
  cases o with
  | non=>cases g;cases h;exact#[EqAt.same _,RcAt.none_none,RcNeAt.none_none]
  | bl c=>cases g;cases h;exact#[EqAt.none_bool _,RcAt.none_bool _,RcNeAt.none_bool _]
  | int i=>let#[t,rfl]:=g;cases h;exact#[EqAt.none_int _ _,RcAt.none_int _ _,RcNeAt.none_int _ _]
  | str z=>let#[t,rfl]:=g;cases h;exact#[EqAt.none_str _ _,RcAt.none_str _ _,RcNeAt.none_str _ _]
  | tup C E=>
   cases g;cases h;let#[G,_,p,_]:=I.tuple (.inl (.inl C));exact#[EqAt.none_tuple p m,RcAt.none_tuple p m,RcNeAt.none_tuple p m]
  | _=>cases h
 | bl a=>
  cases B
  cases o with
  | non=>cases g;cases h;exact#[EqAt.bool_none _,RcAt.bool_none _,RcNeAt.bool_none _]
  | bl c=>cases g;cases h;exact#[EqAt.bool_bool _ _,RcAt.bool_bool _ _,RcNeAt.bool_bool _ _]
  | _=>cases h
 | int a=>
  let#[t,rfl]:=B
  cases o with
  | non=>cases g;cases h;exact#[EqAt.int_none _ _,RcAt.int_none _ _,RcNeAt.int_none _ _]
  | int i=>let#[J,rfl]:=g;cases h;exact#[EqAt.int_int _ _ _ _,RcAt.int_int _ _ _ _,RcNeAt.int_int _ _ _ _]
  | tup C E=>
   cases g;cases h;let#[G,_,p,_]:=I.tuple (.inl (.inl C));exact#[EqAt.int_tuple _ _ p m,RcAt.int_tuple _ _ p m,RcNeAt.int_tuple _ _ p m]
  | _=>cases h
 | str a=>
  let#[t,rfl]:=B
  cases o with
  | non=>cases g;cases h;exact#[EqAt.str_none _ _,RcAt.str_none _ _,RcNeAt.str_none _ _]
  | str i=>let#[J,rfl]:=g;cases h;exact#[EqAt.str_str _ _ _ _,RcAt.str_str _ _ _ _,RcNeAt.str_str _ _ _ _]
  | _=>cases h
 | tup C E=>
  cases B;let#[G,_,p,_]:=I.tuple (.inl (.inl C))
  cases o with
  | non=>cases g;cases h;exact#[EqAt.tuple_none p m,RcAt.tuple_none p m,RcNeAt.tuple_none p m]
  | int i=>let#[J,rfl]:=g;cases h;exact#[EqAt.tuple_int _ _ p m,RcAt.tuple_int _ _ p m,RcNeAt.tuple_int _ _ p m]
  | _=>cases h
 | _=>cases h
theorem dm(I:Inv X ζ σ H s):∀(n:Nat) (A:Bq) (x y:D) (b:Bool) (g i:V) (u v:AH),A.units+n < Ef->eqP n x y=!b->B2 X.K ρ H x g->B2 X.K ρ H y i->RelV g u->RelV i v->EqAt A s u v b:=by
 intro n
 induction n with
 | zero=>exact λA x y b g i u v Q h o B C E=>(SL I (by omega) h o B C E).1
 | succ n R=>
  intro A x y b g i u v Q h o B C E
  by_cases S:∃G J,x=.tup G/\y=.tup J
  ·let#[G,J,rfl,rfl]:=S
   cases o with
   | @tup _ a vs L N=>
    cases B with
    | @tup _ c ws O P=>
     cases C;cases E
     by_cases m:a=c
     ·subst m
      rw[oo (n+1) (.tup L N) (.tup O P) h];exact EqAt.same _
     ·let#[tx,T,p,_]:=I.tuple (.inl (.inl L))
      let#[Κ,U,Y,_]:=I.tuple (.inl (.inl O));let#[e,Z,rfl]:=YT (λx y b g i u v g1 g2 g3 g4 g5=>R A.in1 x y b g i u v (by rw[Iv];lia) g1 g2 g3 g4 g5) h N P T U;exact EqAt.of_refs m (zk p Y ∅ Z)
  ·let hf:ON x y=!b:=by
    cases x <;> cases y <;> first | exact h | ext
   exact(SL I ∅ hf o B C E).1
noncomputable def O0(d:D)(S:Sto):⇑(¬D):=match d with
 | .fro g=>!g
 | .ref n=>match S[n]? with
  | some (.lst g)=>!g
  | _=>none
 | _=>none
def eqB(x y:D)(S:Sto):⇑Bool:=match O0 x S,O0 y S with
 | some g,!i=>if -g=-i then eqL (eqP 8) g i else !false
 | none,none=>eqP 8 x y
 | some _,none=>match y with
  | .tup _=>!false
  | .non=>!false
  | _=>none
 | none,!_=>match x with
  | .tup _=>!false
  | .non=>!false
  | _=>none
def eqD(neg:Bool)(x y:D)(S:Sto):Res D:=match eqB x y S with
 | some b=>.ok (.bl (if neg then not b else b)) S
 | none=>.bad
theorem Oh{K}{S}{d}{x}{ds}(g:CL K ρ S H)(r:B2 K ρ H d x)(h:O0 d S=!ds):∃p xs,x=.ref p/\Au K ρ H ds xs/\SqL K H p xs:=by
 cases r with
 | fro i m=>cases h;exact#[_,_,rfl,m,i.sq]
 | @ref n a A=>
  let#[o,B,C]:=g.there A;unfold O0 at h;simp only[B]at h
  cases o with
  | lst G=>cases h;let#[I,e,E]:=C;exact#[_,_,rfl,E,.inl (.inl e)]
  | _=>cases h
 | _=>cases h
set_option tactic.hygienic true in
theorem ot{S}{x y}{b}{N O}{u v}(I:Inv X ζ σ H s)(hu:X.A.units+64 < Ef)(hs:CL X.K ρ S H)(P:B2 X.K ρ H x N)(Q:B2 X.K ρ H y O)(R:RelV N u)(T:RelV O v)(h:eqB x y S=!b) :
  RcAt X.A s u v b/\RcNeAt X.A s u v (not b):=by
 unfold eqB at h;split at h
 ·rename_i U ys h1 h2
  let#[p,vs,rfl,Y,sq]:=Oh hs P h1;let#[p',vs',rfl,E,sq']:=Oh hs Q h2;cases R;cases T;let#[B,G,g,_]:=I.list sq;let#[J,L,o,_]:=I.list sq';split at h
  ·rename_i m
   let#[e,Z,rfl]:=YT (λx y b N O u v g1 g2 g3 g4 g5=>dm I 8 X.A.in1 x y b N O u v (by rw[Iv];lia) g1 g2 g3 g4 g5) h Y E G L
   let i:B.toArray.size=J.toArray.size:=by
    simp only[Bp];rw[<-G.length,<-L.length,<-Y.length,<-E.length];exact m
   let e1:((Ca (min B.toArray.size J.toArray.size)).all e&&B.toArray.size==J.toArray.size)=(Ca B.toArray.size).all e:=by
    rw[<-i,Nat.min_self,beq_self_eq_true,Bool.and_true]
   rw[e1];exact#[RcAt.lists g.isList o.isList i ∅ Z,RcNeAt.lists g.isList o.isList i ∅ Z]
  ·rename_i m
   cases h
   let i:(B.toArray.size != J.toArray.size):=by
    simp only[Bp];rw[<-G.length,<-L.length,<-Y.length,<-E.length];simpa using m
   exact#[RcAt.lists_lengths g.isList o.isList i ∅,RcNeAt.lists_lengths g.isList o.isList i ∅]
 ·by_cases ht:∃U ys,x=.tup U/\y=.tup ys
  ·let#[U,ys,rfl,rfl]:=ht
   cases P with
   | tup a1 a2=>
    cases Q with
    | tup b1 b2=>
     cases R;cases T;let#[B,G,p,_]:=I.tuple (.inl (.inl a1));let#[J,ϑ,C,_]:=I.tuple (.inl (.inl b1));let#[e,Z,rfl]:=YT (λx y b N O u v g1 g2 g3 g4 g5=>dm I 7 X.A.in1 x y b N O u v (by rw[Iv];lia) g1 g2 g3 g4 g5) h a2 b2 G ϑ;exact#[zk p C ∅ Z,RcNeAt.tuples p C ∅ Z]
  ·let hf:ON x y=!b:=by
    cases x <;> cases y <;> first | exact h | lia
   exact(SL I ∅ hf P Q R T).2
 ·rename_i U h1 h2
  let#[p,vs,rfl,Y,sq]:=Oh hs P h1;cases R;let#[B,G,g,_]:=I.list sq;split at h
  ·cases h
   cases Q with
   | tup b1 b2=>
    cases T;let#[J,ϑ,C,_]:=I.tuple (.inl (.inl b1));exact#[RcAt.list_tuple g.isList C ∅,RcNeAt.list_tuple g.isList C ∅]
  ·cases h
   cases Q;cases T;exact#[RcAt.list_none g.isList ∅,RcNeAt.list_none g.isList ∅]
  ·cases h
 ·rename_i U h1 h2
  let#[p,vs,rfl,Y,sq]:=Oh hs Q h2;cases T;let#[B,G,g,_]:=I.list sq;split at h
  ·cases h
   cases P with
   | tup b1 b2=>
    cases R;let#[J,ϑ,C,_]:=I.tuple (.inl (.inl b1));exact#[RcAt.tuple_list C g.isList ∅,RcNeAt.tuple_list C g.isList ∅]
  ·cases h
   cases P;cases R;exact#[RcAt.none_list g.isList ∅,RcNeAt.none_list g.isList ∅]
  ·cases h
set_option tactic.hygienic true in
theorem Jv(i:X.A.units+64 < Ef):OpR X (BY .Eq) (rD X.K (eqD false)):=by
 intro ζ s σ H x y v u Q I m o h;let#[ρ,S,a,b,d,G,g,B,C,hm,k]:=h;unfold eqD at hm;split at hm
 ·rename_i c E
  cases hm;exact(ot I i g B C m o E).1 _ _ _ _ #[.bl c,H,I,rfl,k ρ H _ .refl g (.bl _)]
 ·cases hm
set_option tactic.hygienic true in
theorem Sm(i:X.A.units+64 < Ef):OpR X (BY .NotEq) (rD X.K (eqD true)):=by
 intro ζ s σ H x y v u Q I m o h;let#[ρ,S,a,b,d,G,g,B,C,hm,k]:=h;unfold eqD at hm;split at hm
 ·rename_i c E
  cases hm;exact(ot I i g B C m o E).2 _ _ _ _ #[.bl (not c),H,I,rfl,k ρ H _ .refl g (.bl _)]
 ·cases hm
def Pe(x:D):¬D->⇑Bool
 | []=>!false
 | d :: g=>match eqP 8 d x,Pe x g with
  | some a,!b=>!(a||b)
  | _,_=>none
def inD(neg:Bool)(x y:D)(S:Sto):Res D:=match GB y S with
 | some g=>match Pe x g with
  | some b=>.ok (.bl (if neg then not b else b)) S
  | none=>.bad
 | none=>.bad
theorem eM(h:Pe x (d :: ds)=!b):∃a c,eqP 8 d x=!a/\Pe x ds=!c/\b=(a||c):=by
 unfold Pe at h;split at h
 ·ext
 ·cases h
open Classical in
theorem RP(I:Inv X ζ σ H s)(P:A.units+8 < Ef)(Q:B2 X.K ρ H x R)(S:RelV R v):∀{ds:¬D} {vs:¬V} {us:¬AH} {b:Bool},Au X.K ρ H ds vs->Bs vs us->Pe x ds=!b ->
  ∃e:AH->Bool,(∀y∈us,EqAt A s y v (e y))/\b=us.any e:=by
 intro ds vs us b r q h
 letI e:AH->Bool:=λy=>decide (∃d w,d∈ds/\B2 X.K ρ H d w/\RelV w y/\eqP 8 d x=!true)
 let all:∀{m:¬D} {i:¬V} {g:¬AH} {o:Bool},(∀d∈m,d∈ds)->Au X.K ρ H m i->Bs i g->Pe x m=!o->(∀y∈g,EqAt A s y v (e y))/\o=g.any e:=by
  intro m
  induction m with
  | nil=>intro i g o _ r q h;cases r;cases q;cases h;ext
  | cons d m T=>
   intro i g o L r q h
   cases r with
   | cons E U=>
    cases q with
    | @cons w y _ _ G Y=>
     let#[a,c,J,Z,rfl]:=eM h;let#[i1,i2]:=T (λz B=>L z (AY _ B)) U Y Z
     let N:e y=a:=by
      by_cases C:∃d w,d∈ds/\B2 X.K ρ H d w/\RelV w y/\eqP 8 d x=!true
      ·let#[d',w',_,O,g2,g3]:=id C
       rw[RelV.inj g2 G]at O;let:=uE 8 O E g3 J;rw[<-this];exact wX C
      ·let:a=false:=by
        cases a with
        | false=>rfl
        | true=>exact(C #[d,_,L d Aj,E,G,J]).elim
       rw[this];exact wY C
     refine#[λz B=>?_,by rw[HN,N,<-i2]]
     rcases Am.mp B with rfl | B
     ·rw[N]
      exact dm I 8 A d x a _ _ _ _ P J E Q G S
     ext
 let#[e1,e2]:=all (λM h=>h) r q h;exact#[e,e1,e2]
set_option tactic.hygienic true in
theorem AAw(R:X.A.units+64 < Ef):OpR X (BY .In) (rD X.K (inD false)):=by
 intro ζ s σ H x y v u Q I C L h;let#[ρ,S,a,b,d,T,g,E,N,hm,k]:=h;unfold inD at hm;split at hm
 ·rename_i U O
  split at hm
  ·rename_i c G
   cases hm;let#[p,Y,rfl,J,sq]:=Ts g N O;cases L
   rcases sq with sq | sq
   ·let#[i,m,o,_]:=I.list sq
    let#[e,B,rfl]:=RP I (A:=X.A.in1) (by rw[Iv];lia) E C J m G;exact in_listAt e o.isList (λz P=>B z (by ext)) #[.bl (i.toArray.any e),H,I,rfl,by rw[NE];exact k ρ H _ .refl g (.bl _)]
   ·let#[i,m,o,_]:=I.tuple sq
    let#[e,B,rfl]:=RP I (A:=X.A.in1) (by rw[Iv];lia) E C J m G;exact in_tupleAt e o (λz P=>B z (by grind)) #[.bl (i.toArray.any e),H,I,rfl,by rw[NE];exact k ρ H _ .refl g (.bl _)]
  ·cases hm
 ·cases hm
set_option tactic.hygienic true in
theorem mz(R:X.A.units+64 < Ef):OpR X (BY .NotIn) (rD X.K (inD true)):=by
 intro ζ s σ H x y v u Q I C L h;let#[ρ,S,a,b,d,T,g,E,N,hm,k]:=h;unfold inD at hm;split at hm
 ·rename_i U O
  split at hm
  ·rename_i c G
   cases hm;let#[p,Y,rfl,J,sq]:=Ts g N O;cases L
   rcases sq with sq | sq
   ·let#[i,m,o,_]:=I.list sq
    let#[e,B,rfl]:=RP I (A:=X.A.in1) (by rw[Iv];lia) E C J m G;exact notIn_listAt e o.isList (λz P=>B z (by ext)) #[.bl (not (i.toArray.any e)),H,I,rfl,by rw[NE];exact k ρ H _ .refl g (.bl _)]
   ·let#[i,m,o,_]:=I.tuple sq
    let#[e,B,rfl]:=RP I (A:=X.A.in1) (by rw[Iv];lia) E C J m G;exact notIn_tupleAt e o (λz P=>B z (by grind)) #[.bl (not (i.toArray.any e)),H,I,rfl,by rw[NE];exact k ρ H _ .refl g (.bl _)]
  ·cases hm
 ·cases hm
end
def LR(mo ma:ME):ME:=λe S=>mo e S*>λd g=>match d with
 | .ref n=>match g[n]? with
  | some (.lst _)=>ma e g*>λy i=>match i[n]? with
   | some (.lst m)=>if -m < sizeLine then .ok .non (i.set n (.lst (m++[y])))else .bad
   | _=>.bad
  | _=>.bad
 | _=>.bad
section
variable{X:Cx}{E:EW}{o e:Expr}{mo ma:ME}
theorem fQ{K}{ρ}{S}{H}{n}{x}{xs}(s:CL K ρ S H)(r:B2 K ρ H (.ref n) x)(h:S[n]?=!.lst xs):∃a vs,x=.ref a/\ρ[n]?=!a/\H a=!.lst vs/\Au K ρ H xs vs:=by
 cases r with
 | ref g=>
  let#[vs,e,i]:=s.ob n _ _ h g;exact#[_,vs,rfl,g,e,i]
set_option tactic.hygienic true in
theorem Dr(ho:GE X E o mo)(T:GE X E e ma)(U:↑(Eg o "append" X.env (Bz o X.env)=Bz o X.env))
  (Y:↑(((DB m (AR [e] X.env)).all (λx=>not x.1)&&(HD m (D8 [] X.env)).all (λx=>x.1.isSome)
    &&decide (-[e]+-([]:¬NW)+(if ([]:¬NW).isEmpty then 0 else 1) < 30))))
  (Z:↑((i.endLine==m.line))) (s:↑(AR [e] X.env=(false,Bz e X.env) :: AR [] X.env)) (Y':↑((DB m (AR [] X.env)).any (·.1)=false)) :
  GE X E (.Call (.Attribute o "append" i) [e] [] m) (LR mo ma):=(fV W0 PySem.F.slot_list_append PySem.F.type_list_append Xb ho (EV T GX s) U Y Z s Y').imp<|by
 rintro σ H Q ⟨ρ,l,S,G,s,hm⟩
 refine#[ρ,l,S,G,s,hm.seq λx S1 hm A H1 v B I r1=>?_]
 cases x <;> first | exact hm.elim | skip
 rename_i n;dsimp only at hm;split at hm
 ·rename_i xs0 h0
  let#[a,vs,rfl,hn,e0,_]:=fQ I r1 h0;refine#[.inl #[rfl,vs,.inl (.inl e0)],A,l,S1,G.mono B,I,(hm.later B).seq λy S2 hm g J u L N r2=>?_];split at hm
  ·rename_i xs h3
   split at hm
   ·rename_i hz
    let C:=L.pre n a hn;let#[O,P,R]:=N.ob n _ _ h3 C;let le:Le X.K g J g (upd J a (.lst (O++[u]))):=Le.write C (by rw[P];trivial);let#[s3,l3]:=N.write (o:=.lst (xs++[y])) C #[_,Bv,(R.append (.cons r2 .nil)).mono le] le;exact#[a,O,u,rfl,rfl,P,by rw[<-R.length];exact hz,hm g _ _ (B.trans (L.trans l3)) s3 .non]
   ·exact hm.elim
  ·exact hm.elim
 ·exact hm.elim
end
noncomputable def BI{g β:Type}[DecidableEq g](i:¬(g×β))(k:g):⇑β:=(i.find? λm=>decide (m.1=k)).map (·.2)
noncomputable def Cy{i m:Type}[DecidableEq i](o:¬(i×m))(k:i)(v:m):¬(i×m):=
 if (o.any λg=>decide (g.1=k)) then o.map (λg=>if g.1=k then(g.1,v)else g)else o++[(k,v)]
section
variable{κ:Type}[DecidableEq κ]{K:AD}{ρ:¬AW}{H:Hp}
theorem KVR.val(k:κ):∀{x:¬(κ×D)} {y:¬(κ×V)},KVR K ρ H x y->(BI x k=none->Ma y k=none)/\∀d,BI x k=!d->∃v,Ma y k=!v/\B2 K ρ H d v
 | _,_,h=>by
  cases h with
  | nil=>exact#[λz=>rfl,λd h=>by cases h]
  | @cons p q _ _ r t=>
   let#[g,a]:=p;let#[m,b]:=q;let#[i,o]:=r;subst i;unfold BI Ma;rw[D7,D7]
   by_cases e:g=k
   ·grind
   ·simp only[e,decide_false]
    exact KVR.val k t
theorem KVR.any(k:κ):∀{x:¬(κ×D)} {y:¬(κ×V)},KVR K ρ H x y->(x.any λi=>decide (i.1=k))=y.any λi=>decide (i.1=k)
 | _,_,.nil=>rfl
 | (g,a) :: x,(m,b) :: y,.cons r t=>by
  rw[HN,HN,KVR.any k t,show g=m from r.1]
theorem KVR.repl(k:κ)(m:B2 K ρ H d v):∀{x:¬(κ×D)} {y:¬(κ×V)},KVR K ρ H x y->KVR K ρ H (x.map λi=>if i.1=k then(i.1,d)else i) (y.map λi=>if i.1=k then(i.1,v)else i)
 | _,_,z=>by
  cases z with
  | nil=>exact .nil
  | @cons p q _ _ r t=>
   let#[g,a]:=p;let#[s,b]:=q;let#[o,A]:=r;subst o;rw[At,At];refine .cons ?_ (KVR.repl k m t)
   lia
theorem KVR.put(k:κ)(g:B2 K ρ H d v)(h:KVR K ρ H x y):KVR K ρ H (Cy x k d) (Ox y k v):=by
 unfold Cy Ox;rw[KVR.any k h];split
 ·exact KVR.repl k g h
 ·exact bj h #[rfl,g]
end
noncomputable def nZ:D->⇑Key
 | .int i=>!.inl i
 | .str x=>!.inr x
 | _=>none
def PX:¬D->⇑(¬Key)
 | []=>![]
 | d :: g=>match nZ d,PX g with
  | some k,!i=>!k :: i
  | _,_=>none
theorem T9{K}{ρ}{H}{d}{v}{k}(r:B2 K ρ H d v)(h:nZ d=!k):v=kV k:=by
 cases r <;> first | (cases h;done) | (cases h;rfl)
set_option tactic.hygienic true in
theorem Q4{K}{ρ}{H}:∀{ds:¬D} {vs:¬V} {g:¬Key},Au K ρ H ds vs->PX ds=!g->vs=g.map kV
 | _,_,_,z,h=>by
  cases z with
  | nil=>cases h;rfl
  | cons r t=>
   unfold PX at h;split at h
   ·rename_i k g i m
    cases h;rw[T9 r i,Q4 t m];rfl
   ·cases h
def Kl(x y:D)(S:Sto):⇑(⇑D):=match x with
 | .ref n=>match S[n]? with
  | some (.dK g)=>match nZ y with
   | some k=>!BI g k
   | none=>none
  | some (.dT g)=>match y with
   | .tup i=>match PX i with
    | some m=>!BI g m
    | none=>none
   | _=>none
  | some (.fK g)=>match nZ y with
   | some k=>!BI g k
   | none=>none
  | some (.fT g)=>match y with
   | .tup i=>match PX i with
    | some m=>!BI g m
    | none=>none
   | _=>none
  | _=>none
 | _=>none
set_option tactic.hygienic true in
theorem Y8{K}{ρ}{S}{H}{x y}{O P}{o}(s:CL K ρ S H)(Q:B2 K ρ H x O)(G:B2 K ρ H y P)(h:Kl x y S=!o) :
  ∃a o',O=.ref a/\RU H a P o'/\(o=none->o'=none)/\∀d,o=!d->∃v,o'=!v/\B2 K ρ H d v:=by
 unfold Kl at h;split at h
 ·rename_i n
  cases Q with
  | @ref _ a I=>
   split at h
   ·rename_i J g
    split at h
    ·rename_i k i
     cases h;let#[m,e,r]:=s.ob n _ _ g I;rw[T9 G i];let#[A,B]:=KVR.val k r;exact#[a,Ma m k,rfl,RU.k e,A,B]
    ·cases h
   ·rename_i J g
    split at h
    ·rename_i R
     split at h
     ·rename_i C i
      cases h;let#[m,e,r]:=s.ob n _ _ g I
      cases G with
      | tup E L=>
       let#[A,B]:=KVR.val C r;rw[Q4 L i]at E;exact#[a,Ma m C,rfl,RU.t e E,A,B]
     ·cases h
    ·cases h
   ·rename_i J g
    split at h
    ·rename_i k i
     cases h;let#[N,m,e,r]:=s.ob n _ _ g I;rw[T9 G i];let#[A,B]:=KVR.val k r;exact#[a,Ma m k,rfl,(.inl #[_,_,.inr #[N,e],rfl,rfl]),A,B]
    ·cases h
   ·rename_i J g
    split at h
    ·rename_i R
     split at h
     ·rename_i C i
      cases h;let#[N,m,e,r]:=s.ob n _ _ g I
      cases G with
      | tup E L=>
       let#[A,B]:=KVR.val C r;rw[Q4 L i]at E;exact#[a,Ma m C,rfl,(.inr #[_,_,_,.inr #[N,e],rfl,E,rfl]),A,B]
     ·cases h
    ·cases h
   ·cases h
 ·cases h
def V5(x y:D)(S:Sto):Res D:=match Kl x y S with
 | some (!d)=>.ok d S
 | _=>.bad
def P2(neg:Bool)(y x:D)(S:Sto):Res D:=match Kl x y S with
 | some o=>.ok (.bl (if neg then not o.isSome else o.isSome)) S
 | none=>.bad
section
variable{X:Cx}{E:EW}{mo mi mv:ME}
set_option tactic.hygienic true in
theorem tq(P:X.A.units+1 < Ef)(ho:GE X E o mo)(hi:GE X E i mi)(m:autoParam (zH i) yq5q):GE X E (.Subscript o i pos) (m2 V5 mo mi):=(sU P ho hi m).imp λR H Q h=>by
 refine(Pm h:tOp (rD X.K V5) (gE X.K E mo) (gE X.K E mi) R H Q) |> λt=>?_
 let#[T,l,S,U,m,k]:=t;refine#[T,l,S,U,m,k.imp λx S1 k s Y u Z s1 r1=>?_];let#[B,l2,S2,C,ψ,G]:=k s Y u Z s1 r1;refine#[B,l2,S2,C,ψ,G.imp λy S3 G I L v l3 s3 r3=>?_];let#[J,S4,x4,y4,d,S5,N,r4,r5,hm,k4]:=G I L v l3 s3 r3;unfold V5 at hm;split at hm
 ·rename_i d' hd
  cases hm;let#[a,o',rfl,g,_,g2]:=Y8 N r4 r5 hd;let#[O,rfl,ϑ]:=g2 _ rfl;exact#[a,O,rfl,g,k4 J L O .refl N ϑ]
 ·cases hm
set_option tactic.hygienic true in
theorem rP{i}{H}{Q}(h:gE X.K E (m2 (P2 false) mi mo) i H Q):tDIn (gE X.K E mi) (gE X.K E mo) i H Q:=by
 let#[N,l,S,O,P,k]:=(Pm h:tOp (rD X.K (P2 false)) (gE X.K E mi) (gE X.K E mo) i H Q);refine#[N,l,S,O,P,k.imp λx S1 k m R u T U Y=>?_];let#[o,Z,S2,s,ψ,A]:=k m R u T U Y;refine#[o,Z,S2,s,ψ,A.imp λy S3 A B G v l3 s3 r3=>?_];let#[C,S4,x4,y4,d,S5,I,r4,r5,hm,k4]:=A B G v l3 s3 r3;unfold P2 at hm;split at hm
 ·rename_i J hd
  cases hm;let#[a,L,rfl,g,g1,g2]:=Y8 I r5 r4 hd;refine#[a,L,rfl,g,?_]
  let:L.isSome=J.isSome:=by
   cases J with
   | none=>ext
   | some d=>grind
  rw[this];exact k4 C G _ .refl I (.bl _)
 ·cases hm
set_option tactic.hygienic true in
theorem cn{i}{H}{Q}(h:gE X.K E (m2 (P2 true) mi mo) i H Q):fL (gE X.K E mi) (gE X.K E mo) i H Q:=by
 let#[N,l,S,O,P,k]:=(Pm h:tOp (rD X.K (P2 true)) (gE X.K E mi) (gE X.K E mo) i H Q);refine#[N,l,S,O,P,k.imp λx S1 k m R u T U Y=>?_];let#[o,Z,S2,s,ψ,A]:=k m R u T U Y;refine#[o,Z,S2,s,ψ,A.imp λy S3 A B G v l3 s3 r3=>?_];let#[C,S4,x4,y4,d,S5,I,r4,r5,hm,k4]:=A B G v l3 s3 r3;unfold P2 at hm;split at hm
 ·rename_i J hd
  cases hm;let#[a,L,rfl,g,g1,g2]:=Y8 I r5 r4 hd;refine#[a,L,rfl,g,?_]
  let:L.isSome=J.isSome:=by
   cases J with
   | none=>ext
   | some d=>grind
  rw[this];exact k4 C G _ .refl I (.bl _)
 ·cases hm
theorem nM{K}{m}{i}{H}{Q}(h:gT K E (mB m) i H Q):gE K E m i H λx H1=>∃c,x=.bl c/\Q c H1:=by
 let#[o,l,S,s,A,hm]:=h;refine#[o,l,S,s,A,hm.seq λd I hm g H1 x B C G=>?_]
 cases d <;> first | exact hm.elim | skip
 cases G;exact#[_,rfl,hm g H1 B C]
theorem yQ(g:X.A.units+1 < Ef)(hi:GE X E i mi)(ho:GE X E o mo)(m:↑(DU .In o=false)):GT X E (.Compare i [.In] [o] pos) (mB (m2 (P2 false) mi mo)):=(mN (xM g hi ho) m).imp λz z z h=>rP (nM h)
theorem jR(g:X.A.units+1 < Ef)(hi:GE X E i mi)(ho:GE X E o mo)(m:↑(DU .NotIn o=false)):GT X E (.Compare i [.NotIn] [o] pos) (mB (m2 (P2 true) mi mo)):=(mN (i7 g hi ho) m).imp λz z z h=>cn (nM h)
def Iu:ME:=λz S=>.ok (.ref (-S)) (S++[.dK []])
def SE:ME:=λz S=>.ok (.ref (-S)) (S++[.dT []])
theorem MC:GE X E (.Dict [] [] pos) Iu:=(me).imp<|by
 rintro B H Q ⟨C,l,S,G,i,k⟩ p m
 let#[s,A,g]:=i.alloc (o:=.dK []) m #[[],Bv,.nil];exact k _ _ _ A s (.ref g)
theorem Vv:GE X E (.Dict [] [] pos) SE:=(md).imp<|by
 rintro B H Q ⟨C,l,S,G,i,k⟩ p m
 let#[s,A,g]:=i.alloc (o:=.dT []) m #[[],Bv,.nil];exact k _ _ _ A s (.ref g)
def O3(x y v:D)(S:Sto):⇑Sto:=match x with
 | .ref n=>match S[n]? with
  | some (.dK g)=>match nZ y with
   | some k=>if -g < sizeLine then !S.set n (.dK (Cy g k v))else none
   | none=>none
  | some (.dT g)=>match y with
   | .tup i=>match PX i with
    | some m=>if -g < sizeLine then !S.set n (.dT (Cy g m v))else none
    | none=>none
   | _=>none
  | _=>none
 | _=>none
def Cr(mo mi mv:ME):MS:=λe S=>(mv e S).lift e λv g=>(mo e g).lift e λx i=>(mi e i).lift e λy m=>match O3 x y v m with
 | some o=>.ok (.nx e) o
 | none=>.bad
set_option tactic.hygienic true in
theorem Hz(hu:X.A.units+1 < Ef)(ho:GE X E o mo)(hi:GE X E i mi)(hv:GE X E value mv)(R:↑(HX value (!.Subscript o i I) pos.line X.env=pure false)):GS X E (.Assign [.Subscript o i I] value pos) (Cr mo mi mv):=(sE hu ho hi hv R).imp<|by
 rintro D σ H ⟨ρ,l,S,C,R,hm⟩
 refine#[ρ,l,S,C,R,hm.lift C .refl λv S1 hm T H1 vv s s1 r1=>#[T,l,S1,C.mono s,s1,(hm.later s).lift (C.mono s) s λx S2 hm U H2 xv B s2 r2=>#[U,l,S2,C.mono (s.trans B),s2,(hm.later B).lift (C.mono (s.trans B)) (s.trans B) λy S3 hm m P yv J Q r3=>?_]]];let L:=r1.mono (B.trans J);let Y:=r2.mono J;let N:=C.mono (s.trans (B.trans J));split at hm
 ·rename_i S4 g
  unfold O3 at g;split at g
  ·rename_i n
   cases Y with
   | @ref _ a G=>
    split at g
    ·rename_i Z h4
     split at g
     ·rename_i ky hk
      split at g
      ·rename_i hz
       cases g;let#[Cs,e,r]:=Q.ob n _ _ h4 G;rw[T9 r3 hk];let le:Le X.K m P m (upd P a (.dK (Ox Cs ky vv))):=Le.write G (by rw[e];trivial);let#[s5,O]:=Q.write (o:=.dK (Cy Z ky v)) G #[_,Bv,(KVR.put ky L r).mono le] le;exact#[a,_,rfl,be.k e (by rw[<-KVR.length r];exact hz),hm m _ σ (s.trans (B.trans (J.trans O))) s5 (N.mono O)]
      ·cases g
     ·cases g
    ·rename_i Z h4
     split at g
     ·rename_i ds
      split at g
      ·rename_i ks hk
       split at g
       ·rename_i hz
        cases g;let#[Cs,e,r]:=Q.ob n _ _ h4 G
        cases r3 with
        | tup b1 b2=>
         rw[Q4 b2 hk]at b1;let le:Le X.K m P m (upd P a (.dT (Ox Cs ks vv))):=Le.write G (by rw[e];trivial);let#[s5,O]:=Q.write (o:=.dT (Cy Z ks v)) G #[_,Bv,(KVR.put ks L r).mono le] le;exact#[a,_,rfl,be.t e b1 (by rw[<-KVR.length r];exact hz),hm m _ σ (s.trans (B.trans (J.trans O))) s5 (N.mono O)]
       ·cases g
      ·cases g
     ·cases g
    ·cases g
  ·cases g
 ·exact hm.elim
end
section
variable{X:Cx}{E:EW}{a b c:Expr}{pos:Pos}
theorem iT{K}{f g}{L}{H}{Q}(h:gE K E (m3 f g ma U Y) L H Q):lS (rD K f) (rD K g) (gE K E ma) (gE K E U) (gE K E Y) L H Q:=by
 let#[Z,l,S,B,hs,hm]:=h;refine#[Z,l,S,B,hs,hm.seq λx S1 hm C H1 u i s1 r1=>#[C,l,S1,B.mono i,s1,(hm.later i).seq λy N hm G H2 v m s2 O=>?_]]
 cases A:f x y N with
 | bad=>rw[A]at hm;exact hm.elim
 | err _ _=>rw[A]at hm;exact hm.elim
 | ok z P=>
  rw[A]at hm;dsimp only[okR,Res.bind]at hm;refine#[G,N,x,y,z,P,s2,r1.mono m,O,A,λo H3 w s R r3=>?_]
  cases z with
  | bl k=>
   cases r3;refine#[k,rfl,?_]
   cases k with
   | true=>
    rw[qX rfl];refine#[o,l,P,B.mono (i.trans (m.trans s)),R,CM.seq (hm.later (m.trans s)) λw S4 hm I H4 wv T s4 r4=>?_];let#[d,S',e,k]:=hm.okR;exact#[I,S4,y,w,d,S',s4,O.mono (s.trans T),r4,e,λJ H' z l' s' r'=>k J H' z (i.trans (m.trans (s.trans (T.trans l')))) s' r']
   | false=>rw[qY AQ];exact hm o H3 _ (i.trans (m.trans s)) R (.bl false)
  | _=>exact hm.elim
theorem KW(ho:OpR X (BY op) (rD X.K f))(m:OpR X (BY i) (rD X.K g))(o:GE X E a ma)(hb:GE X E b s)(A:GE X E c B)
  (hm:autoParam (lastMarks [op,i] [b,c]=false) yq4q):GT X E (.Compare a [op,i] [b,c] pos) (mB (m3 f g ma s B)):=(mO ho m o hb A hm).imp λz z z h=>iT (nM h)
def Wn(m:ME):ME:=λe S=>m e S*>λd g=>match d with
 | .int i=>.ok (.int ((unop% Neg.neg i))) g
 | _=>.bad
theorem SJ(h:GE X E a ma):GE X E (.UnaryOp .USub a pos) (Wn ma):=(AAl wL h).imp<|by
 rintro G H Q ⟨i,l,S,m,o,hm⟩
 refine#[i,l,S,m,o,hm.seq λd I hm g s x A B C=>?_]
 cases d <;> first | exact hm.elim | skip
 cases C;exact#[_,rfl,hm g s _ A B (.int _)]
end
abbrev MO:=Lo->Sto->Res (⇑Int)
def gO(K:AD)(E:EW)(m:MO):TO:=λA H Q=>∃i e S,Gw K i H e A/\CL K i S H/\CM K (λc=>E c A) i H (m e S) λo B=>∀g s,Le K i H g s->CL K g B s->Q o s
abbrev GO(X:Cx)(E:EW)(e:⇑Expr)(m:MO):Prop:=PO X e (gO X.K E m)
def Ia:MO:=λz S=>.ok none S
def Gb(m:ME):MO:=λe S=>m e S*>λd g=>match d with
 | .int i=>.ok (!i) g
 | _=>.bad
def HK{α:Type}(xs:¬α)(lo hi:⇑Int):¬α:=(xs.drop (HT.sIx (-xs) 0 lo)).take (HT.sIx (-xs) (-xs) hi - HT.sIx (-xs) 0 lo)
def kZ(n:Nat)(lo hi:⇑Int):Bool:=decide (HT.sIx n 0 lo=0/\HT.sIx n n hi=n)
def Mc(d:D)(lo hi:⇑Int)(S:Sto):Res D:=match d with
 | .tup g=>if kZ (-g) lo hi then .bad else .ok (.tup (HK g lo hi)) S
 | _=>match O0 d S with
  | some g=>.ok (.ref (-S)) (S++[.lst (HK g lo hi)])
  | none=>.bad
def FA(m:ME)(ml g:MO):ME:=λe S=>m e S*>λd i=>ml e i*>λlo o=>g e o*>λs A=>okR (Mc d lo s A)
section
variable{X:Cx}{E:EW}{e:Expr}{lo hi:⇑Expr}{pos p2:Pos}{m:ME}{ml mh:MO}
theorem PO.imp(h:PO X o t)(i:∀g H Q,t' g H Q->t g H Q):PO X o t':=λA s g H Q I q=>h A s g H Q I (i g H Q q)
theorem JK:GO X E none Ia:=PO.imp sK (by rintro o H Q ⟨g,l,S,s,i,hm⟩;exact hm g H .refl i)
theorem HC(h:GE X E e m):GO X E (!e) (Gb m):=PO.imp (sJ h)<|by
 rintro I H Q ⟨i,l,S,o,s,hm⟩
 refine#[i,l,S,o,s,hm.seq λd J hm g A x B C G=>?_]
 cases d <;> first | exact hm.elim | skip
 cases G;exact#[_,rfl,hm g A B C]
theorem V7{K}{ρ}{H}{ds}{vs}(r:Au K ρ H ds vs)(lo hi:⇑Int):Au K ρ H (HK ds lo hi) (ZA vs lo hi):=by
 unfold HK ZA;rw[r.length];exact(r.drop _).take _
set_option tactic.hygienic true in
theorem G8(he:GE X E e m)(s:GO X E lo ml)(hu:GO X E hi mh):GE X E (.Subscript e (.Slice lo hi none p2) pos) (FA m ml mh):=(aS (rX.or lg) he s hu).imp<|by
 rintro σ H Q ⟨ρ,l,S,s,hs,hm⟩
 refine#[ρ,l,S,s,hs,hm.seq λd S1 hm I H1 x A s1 r1=>#[I,l,S1,s.mono A,s1,(hm.later A).seq λlo S2 hm J H2 B s2=>#[J,l,S2,s.mono (A.trans B),s2,(hm.later B).seq λhi L hm C N O P=>?_]]];let#[d',S',e,k]:=hm.okR;let U:=r1.mono (B.trans O)
 let lst:∀g,O0 d L=!g->Res.ok (.ref (-L)) (L++[.lst (HK g lo hi)])=Res.ok d' S'->rSlL X.K x lo hi N Q:=λg i e=>by
  cases e;let#[p,Y,rfl,rr,sq]:=Oh P U i;refine#[p,Y,rfl,sq,λq i=>?_];let le:Le X.K C N (C++[q]) (upd N q (.lst (ZA Y lo hi))):=Le.alloc i;let#[R,G,T]:=P.alloc (o:=.lst (HK g lo hi)) i #[_,Bv,(V7 rr lo hi).mono le];exact k _ _ _ (A.trans (B.trans (O.trans G))) R (.ref T)
 cases d with
 | tup g=>
  unfold Mc at e;dsimp only at e;split at e
  ·cases e
  ·rename_i hw
   cases e
   cases U with
   | @tup _ a vs h1 Z=>
    refine .inr #[a,vs,rfl,.inl (.inl h1),λz=>hw ?_,λq i=>?_]
    ·unfold kZ
     rw[Z.length]
     ext
    ·let#[R,G]:=Jz P i
     exact k _ _ _ (A.trans (B.trans (O.trans G))) R (.tup Bv ((V7 Z lo hi).mono G))
 | non=>cases e
 | bl _=>cases e
 | int _=>cases e
 | str _=>cases e
 | exc _=>cases e
 | fro g=>exact .inl (lst g rfl e)
 | ref n=>
  unfold Mc at e;dsimp only at e;split at e
  ·rename_i g i
   exact .inl (lst g i e)
  ·cases e
end
section
variable{X:Cx}{E:EW}{e:Expr}{p pos:Pos}{m:ME}
def HJ(m:ME):ME:=λe S=>m e S*>λd g=>match GB d g with
 | some i=>.ok (.tup i) g
 | none=>.bad
theorem Gc(R:Gl X "tuple") (hm:X.mg "tuple" = none) (h:GE X E e m) (N:↑(AR [e] X.env=(false,Bz e X.env) :: AR [] X.env)):GE X E (.Call (.Name "tuple" p) [e] [] pos) (HJ m):=
 (Rz Ws R hm PyProof.Rows.boot_tuple (EV h GX N) ∅ (by rfl) N rfl).imp<|by
 rintro σ H Q ⟨T,l,S,U,Y,hm⟩
 refine#[T,l,S,U,Y,hm.seq λd Z hm B s x O G r1=>?_]
 cases g:GB d Z with
 | none=>rw[g]at hm;exact hm.elim
 | some ds=>
  rw[g]at hm
  let A:∀a i,x=.ref a->SqL X.K s a i->Au X.K B s ds i->∃p I,[x]=[.ref p]/\((SqL X.K s p I/\∀l,s l=none->Q (.ref l) (upd s l (.tup I)))∨(SqT X.K s p I/\Q (.ref p) s)):=λa i e sq J=>by
   subst e;refine#[a,i,rfl,.inl #[sq,λq g=>?_]];let#[s2,P]:=Jz G g;exact hm _ _ _ (O.trans P) s2 (.tup Bv (J.mono P))
  cases r1 with
  | @tup _ a i C L=>cases g;exact#[a,i,rfl,.inr #[.inl (.inl C),hm B s _ O G (.tup C L)]]
  | @fro _ a i C L=>cases g;exact A a i rfl C.sq L
  | @ref n a hn=>
   let#[o,ho,ro]:=G.there hn;unfold GB at g;simp only[ho]at g
   cases o with
   | lst es=>cases g;let#[i,e,J]:=ro;exact A a i rfl (.inl (.inl e)) J
   | _=>cases g
  | _=>cases g
noncomputable def atL(d:D)(S:Sto):⇑(Nat×¬D):=match d with
 | .ref n=>match S[n]? with
  | some (.lst g)=>!(n,g)
  | _=>none
 | _=>none
set_option tactic.hygienic true in
theorem SS{K}{ρ}{S}{H}{d}{x}{n}{xs}(s:CL K ρ S H)(r:B2 K ρ H d x)(h:atL d S=!(n,xs)):d=.ref n/\S[n]?=!.lst xs/\∃a vs,x=.ref a/\ρ[n]?=!a/\H a=!.lst vs/\Au K ρ H xs vs:=by
 unfold atL at h;split at h
 ·split at h
  ·rename_i i g
   cases h;exact#[rfl,g,fQ s r g]
  ·cases h
 ·cases h
theorem rp{K}{ρ}{S}{H}{n}{a}{vs g}{i}(s:CL K ρ S H)(o:ρ[n]?=!a)(e:H a=!.lst vs)(r:Au K ρ H i g) :
  CL K ρ (S.set n (.lst i)) (upd H a (.lst g))/\Le K ρ H ρ (upd H a (.lst g)):=by
 let le:Le K ρ H ρ (upd H a (.lst g)):=Le.write o (by rw[e];trivial);exact s.write o #[_,Bv,r.mono le] le
end
section
variable{X:Cx}
theorem range_getD{g:Type}(d:g)(bs:¬g):(Ca (-bs)).map (λi=>bs.getD i d)=bs:=by
 apply IV
 intro i;rw[Al]
 by_cases h:i < -bs
 ·rw[DL h]
  simp[List.getD,h]
 ext
theorem rG{bs:¬Bool}{g:¬AH}(r:Bs (bs.map V.bl) g){i:Nat}{v:AH}(h:g.toArray[i]?=!v):v=.bool (bs.getD i false):=by
 let m:g[i]?=!v:=by simpa using h
 let#[A,e]:=AE.mp m
 let hb:i < -bs:=by let:=-r;simp at this;ext
 let#[u,o,s]:=r.get (show(bs.map V.bl)[i]?=!V.bl bs[i] by simp[hb]);rw[m]at o;cases o;rw[show v=NO bs[i]from s];ext
def mK(K:AD)(f:¬Bool->Bool):¬V->Hp->VK->Prop:=λg H Q=>∃p bs,g=[.ref p]/\(SqL K H p (bs.map V.bl)∨SqT K H p (bs.map V.bl))/\Q (.bl (f bs)) H
theorem eG{N:¬(AW×Obj)}{s:AM}{O:St}{H:Hp}{p:AW}{bs:¬Bool}{R:AH->AM->Prop}{E:AH->AM->Prop}(Y:X.calm)(I:Inv X N O H s)(hq:SqL X.K H p (bs.map V.bl)∨SqT X.K H p (bs.map V.bl))
  (h:∀B J,(∃I Z wr n P St S,B=BJ I/\Walks X.prog X.w X.A.in1 I Z wr n P St/\St 0 J.heap/\TruthOf X.prog X.w X.A.in1 P S/\(Ca n).map S=bs /\
   ∀(h':Cb) (L:Nat),(∀b o,Not (b∈wr)->J.heap.get? b=!o->h'.get? b=!o)->Inv X N O H { J with heap:=h',toks:=L })->R B J) :
  Ac (AZ X.prog X.w) X.A.in1 (NX (.ref p)) R E s:=by
 let T:X.A.in1.handled=none:=I.ok.hd Y
 let fin:∀(g:¬AH),Bs (bs.map V.bl) g->(Ca g.toArray.size).map (λi=>bs.getD i false)=bs:=λg r=>by
  let:g.toArray.size=-bs:=by let:=-r;simp at this;simpa using this.symm
  rw[this,range_getD]
 let C:∀(g:¬AH),Bs (bs.map V.bl) g->TruthOf X.prog X.w X.A.in1 (λi v=>g.toArray[i]?=!v) (λi=>bs.getD i false):=λg r i v s Q E hv q=>by
  rw[rG r hv];exact DW q
 let kp:∀(U:Obj) (h':Cb) (L:Nat),(∀b o,Not (b∈[s.heap.objs.size])->(s.heap.push U).get? b=!o->h'.get? b=!o)->Inv X N O H { s with heap:=h',toks:=L }:=λU h' L k=>
  I.kept λb o e=>k b o (by simpa using Ao (AX e)) (AI _ e)
 rcases hq with hq | hq
 ·let#[g,G,m,hz]:=I.list hq
  refine Jf m.isList (h _ _ #[s.heap.objs.size,_,_,_,_,_,_,rfl,g7 T _ p (Ao (AX m.isList.choose_spec.1)) g.toArray,#[#[_,AT _ rfl,rfl,rfl],?_],C g G,fin g G,kp _])
  exact m.isList.at λo e=>AI _ e
 ·let#[g,G,m,hz]:=I.tuple hq
  let pt:=m;refine MQ pt (h _ _ #[s.heap.objs.size,_,_,_,_,_,_,rfl,zS T _ p (Ao m.lt) g.toArray,#[#[_,AT _ rfl,rfl,rfl],?_],C g G,fin g G,kp _]);let#[o,e,c]:=pt;exact#[o,AI _ e,c]
theorem jp(i:X.calm):Jb X (.builtin "all") (mK X.K λbs=>bs.all id):=by
 intro N s O H R S Q I r h;let#[p,bs,rfl,m,q]:=h;let#[u,rfl,o]:=vals1 r;cases o;refine call_all_walk (eG i I m λA T #[J,B,wr,n,P,St,C,e,W,st,g,E,kp]=>#[J,B,wr,n,P,St,C,e,W,st,g,λG L k=>#[.bl _,H,kp G L k,rfl,?_]]);rw[<-E]at q;dsimp only at q;rw[zZ]at q;exact q
noncomputable def ZH:¬D->⇑(¬Bool)
 | []=>![]
 | .bl b :: g=>(ZH g).map (b :: ·)
 | _ :: _=>none
theorem gk{K}{ρ}{H}:∀{ds:¬D} {vs:¬V} {bs:¬Bool},Au K ρ H ds vs->ZH ds=!bs->vs=bs.map V.bl
 | ds,_,bs,z,h=>by
  cases z with
  | nil=>cases h;rfl
  | @cons d v ds vs r t=>cases d with
   | bl b=>
    unfold ZH at h
    cases g:ZH ds with
    | none=>grind
    | some i=>rw[g]at h;cases h;cases r;rw[gk t g];rfl
   | _=>cases h
def uP(f:¬Bool->Bool)(ds:¬D)(S:Sto):Res D:=match ZH ds with
 | some bs=>.ok (.bl (f bs)) S
 | none=>.bad
set_option tactic.hygienic true in
theorem ll:ue X.K (mK X.K f) (uP f):=λg H S o q s d A Q i m sq hm k=>by
 unfold uP at hm;split at hm
 ·rename_i bs hb
  cases hm;rw[gk m hb]at sq;exact#[q,bs,rfl,sq,k g H _ .refl i (.bl _)]
 ·cases hm
abbrev uY:=uP λbs=>bs.all id
noncomputable def YL:YP->Int:=λg=>UJ (λi=>g.getD i 0) (-g)
theorem Mi:∀(n:Nat),(∀i,i < n->f i=g i)->UJ f n=UJ g n
 | 0,_=>rfl
 | n+1,h=>by
  show UJ f n+f n=UJ g n+g n;rw[Mi n λi m=>h i ∅,h n (by ext)]
theorem Sj(x:Int)(f:Nat->Int):∀n:Nat,UJ (λi=>match i with | 0=>x | j+1=>f j) (n+1)=x+UJ f n
 | 0=>by show(0:Int)+x=x+0;ext
 | n+1=>by
  show UJ _ (n+1)+f n=x+(UJ f n+f n);rw[Sj x f n]
  lia
theorem YK:∀g:YP,YL g=g.sum
 | []=>rfl
 | n :: g=>by
  let:=YK g;unfold YL at this ⊢;rw[List.sum_cons,<-this,Az,<-Sj]
  refine Mi _ λi m=>?_
  cases i <;> simp
theorem Wp{g:YP}{m:¬AH}(r:Bs (g.map V.int) m):∃xs:Array (Int×Tok),m.toArray=intItems xs/\xs.size=-g/\∀i,i < -g->numAt xs i=g.getD i 0:=by
 induction g generalizing m with
 | nil=>
  cases r;exact#[#[],by simp[intItems],rfl,λi o=>zX o ∅]
 | cons n g A=>
  cases r with
  | cons B C=>
   let#[xs,s,E,G]:=A C;let#[t,rfl]:=B;refine#[[(n,t)].toArray++xs,?_,by simp[E];lia,λi o=>?_]
   ·unfold intItems at s ⊢
    rw[Array.map_append,<-s];simp
   ·cases i with
    | zero=>
     unfold numAt;rw[Array.getElem?_append_left ∅];simp
    | succ i=>
     let:=G i (by simpa using o);unfold numAt at this ⊢;rw[Array.getElem?_append_right ∅];simpa using this
def AAc(K:AD)(f:YP->Int):¬V->Hp->VK->Prop:=λi H Q=>∃p g,i=[.ref p]/\SqL K H p (g.map V.int)/\Q (.int (f g)) H
theorem jg(g:X.calm):Jb X (.builtin "sum") (AAc X.K YL):=by
 intro L s N H i O Q I r h;let#[p,P,rfl,m,q]:=h;let#[u,rfl,o]:=vals1 r;cases o;let#[R,A,B,S]:=I.list m;let#[i,C,E,G]:=Wp A
 refine sum_intListG (I.ok.hd g) (by rw[<-C];exact B.isList) λT U J kp=>#[.int _,H,I.kept kp,#[J,rfl],?_]
 rw[E,Mi _ G];exact q
noncomputable def G7:¬D->⇑YP
 | []=>![]
 | .int b :: g=>(G7 g).map (b :: ·)
 | _ :: _=>none
theorem MA:∀{ds:¬D} {g:YP},G7 ds=!g->ds=g.map D.int
 | [],_,h=>by cases h;rfl
 | .int b :: ds,g,h=>by
  unfold G7 at h
  cases i:G7 ds with
  | none=>ext
  | some m=>rw[i]at h;cases h;rw[MA i];rfl
 | .non :: _,_,h=>by cases h
 | .bl _ :: _,_,h=>by cases h
 | .str _ :: _,_,h=>by cases h
 | .tup _ :: _,_,h=>by cases h
 | .fro _ :: _,_,h=>by cases h
 | .ref _ :: _,_,h=>by cases h
 | .exc _ :: _,_,h=>by cases h
@[simp] def jM:∀g:YP,G7 (g.map D.int)=!g
 | []=>rfl
 | n :: g=>by rw[At,G7,jM g];rfl
@[simp] def pI:∀g:¬Bool,ZH (g.map D.bl)=!g
 | []=>rfl
 | n :: g=>by rw[At,ZH,pI g];rfl
def tF(m:ME):ME:=λe S=>m e S*>λd g=>match O0 d g with
 | some i=>match G7 i with
  | some o=>.ok (.int (YL o)) g
  | none=>.bad
 | none=>.bad
theorem yb(C:X.calm)(G:Gl X "sum") (hm:X.mg "sum" = none) (h:GE X E e m) (s:↑(AR [e] X.env=(false,Bz e X.env) :: AR [] X.env)):GE X E (.Call (.Name "sum" p) [e] [] pos) (tF m):=
 (KO (jg C) G hm PyProof.Rows.boot_sum (EV h GX s) ∅ (by rfl) s rfl).imp<|by
 rintro Y H Q ⟨I,l,S,J,L,hm⟩
 refine#[I,l,S,J,L,hm.seq λd N hm g O x P A R=>?_]
 cases i:O0 d N with
 | none=>rw[i]at hm;exact hm.elim
 | some T=>
  rw[i]at hm;dsimp only at hm
  cases o:G7 T with
  | none=>rw[o]at hm;exact hm.elim
  | some U=>
   rw[o]at hm;let#[p,Z,rfl,B,sq]:=Oh A R i;rw[MA o]at B;rw[B.ints]at sq;exact#[p,U,rfl,sq,hm g O _ P A (.int _)]
noncomputable def tyD(d:D)(S:Sto):⇑String:=match d with
 | .non=>!"NoneType"
 | .bl _=>!"bool"
 | .int _=>!"int"
 | .str _=>!"str"
 | .tup _=>!"tuple"
 | .ref n=>match S[n]? with
  | some (.lst _)=>!"list"
  | some (.dK _)=>!"dict"
  | some (.dT _)=>!"dict"
  | _=>none
 | .fro _=>none
 | .exc _=>none
theorem wM{K}{ρ}{S}{H}{d}{x}{T}(s:CL K ρ S H)(r:B2 K ρ H d x)(h:tyD d S=!T):RQ K H x (.type T):=by
 cases r with
 | non=>cases h;exact .non
 | bl b=>cases h;exact .bl b
 | int i=>cases h;exact .int i
 | str i=>cases h;exact .str i
 | tup C _=>cases h;exact .tup C
 | fro _ _=>cases h
 | exc _ _=>cases h
 | @ref n a E=>
  let#[o,G,g]:=s.there E;unfold tyD at h;simp only[G]at h
  cases o with
  | lst m=>cases h;let#[A,e,B]:=g;exact .lst e
  | dK m=>cases h;let#[A,e,B]:=g;exact .dK e
  | dT m=>cases h;let#[A,e,B]:=g;exact .dT e
  | ins _ _=>cases h
  | fK _=>cases h
  | fT _=>cases h
  | mem _=>cases h
noncomputable def vC(c T:String):⇑Bool:=if T==c then !true else if T=="bool"&&c=="int" then !true else if ["NoneType", "bool", "int", "str", "tuple", "list", "dict"].contains T&&["bool", "int", "str", "tuple", "list", "dict"].contains c then !false else none
end
noncomputable def KS{α:Type}(r g:Res α):Res α:=match r with
 | .bad=>g
 | r=>r
theorem i9{g:Type}(r r':Res g):KS r r'=r∨KS r r'=r':=by cases r <;> simp[KS]
def op2(f g:D->D->Sto->Res D):D->D->Sto->Res D:=λx y S=>KS (f x y S) (g x y S)
theorem nN(f g:D->D->Sto->Res D)(ma i:ME)(l:Lo)(S:Sto):m2 (op2 f g) ma i l S=m2 f ma i l S∨m2 (op2 f g) ma i l S=m2 g ma i l S:=by
 unfold m2
 cases ma l S with
 | ok x o=>
  dsimp only[Res.bind]
  cases i l o with
  | ok y m=>
   dsimp only[Res.bind];unfold op2
   rcases i9 (f x y m) (g x y m)with e | e <;> rw[e] <;> simp
  | err c m=>ext
  | bad=>ext
 | err c o=>exact .inl rfl
 | bad=>exact .inl rfl
section
theorem yf{m g m2}(G:GE X E e g)(J:GE X E e m2)(h:∀l S,m l S=g l S∨m l S=m2 l S):GE X E e m:=by
 rintro i s o H Q I ⟨A,l,S,B,C,a⟩
 rcases h l S with q | q
 ·rw[q]at a;exact G i s o H Q I #[A,l,S,B,C,a]
 ·rw[q]at a;exact J i s o H Q I #[A,l,S,B,C,a]
theorem oF(B:GT X E e C)(G:GT X E e J)(h:∀l S,t l S=C l S∨t l S=J l S):GT X E e t:=by
 rintro g s i H Q I ⟨m,l,S,o,A,a⟩
 rcases h l S with q | q
 ·rw[q]at a;exact B g s i H Q I #[m,l,S,o,A,a]
 ·rw[q]at a;exact G g s i H Q I #[m,l,S,o,A,a]
theorem yZ(B:GI X E tg e C)(G:GI X E tg e J)(h:∀l S,t l S=C l S∨t l S=J l S):GI X E tg e t:=by
 rintro g s i H R I ⟨m,l,S,o,A,a⟩
 rcases h l S with q | q
 ·rw[q]at a;exact B g s i H R I #[m,l,S,o,A,a]
 ·rw[q]at a;exact G g s i H R I #[m,l,S,o,A,a]
theorem u9{m g m2}(h:∀l S,m l S=g l S∨m l S=m2 l S)(l:Lo)(S:Sto):mB m l S=mB g l S∨mB m l S=mB m2 l S:=by
 unfold mB
 grind
abbrev inA(neg:Bool):=op2 (inD neg) (P2 neg)
theorem Xk(m:X.A.units+64 < Ef)(hi:GE X E i mi)(ho:GE X E o mo)(g:autoParam (DU .In o=false) yq4q):GT X E (.Compare i [.In] [o] pos) (mB (m2 (inA false) mi mo)):=
 oF (CU (AAw m) hi ho g) (yQ ∅ hi ho g) (u9 λz z=>nN _ _ _ _ _ _)
theorem FX(m:X.A.units+64 < Ef)(hi:GE X E i mi)(ho:GE X E o mo)(g:autoParam (DU .NotIn o=false) yq4q):GT X E (.Compare i [.NotIn] [o] pos) (mB (m2 (inA true) mi mo)):=
 oF (CU (mz m) hi ho g) (jR ∅ hi ho g) (u9 λz z=>nN _ _ _ _ _ _)
abbrev ixA:=op2 ixD V5
theorem Bj(m:X.A.units+64 < Ef)(ho:GE X E o mo)(hi:GE X E i mi)(g:autoParam (ZR i) yq5q):GE X E (.Subscript o i pos) (m2 ixA mo mi):=
 yf (vF AAv ho hi g) (tq ∅ ho hi g) λz z=>nN _ _ _ _ _ _
def Hi(d:D):O4:=match d with
 | .tup g=>HQ g
 | d=>Hj d
def EO(m:ME):MI:=λe S=>m e S*>λd g=>match Hi d g with
 | some _=>.ok (Hi d) g
 | none=>.bad
theorem DZ(h:GE X E e m):GI X E tg e (EO m):=yZ (yY h) (yW h) λl S=>by
 unfold EO iLst vD
 cases m l S with
 | ok d g=>
  dsimp only[Res.bind]
  cases d <;> first | exact .inl rfl | exact .inr rfl
 | err c g=>exact .inl rfl
 | bad=>exact .inl rfl
def JW(m:ME):ME:=λe S=>m e S*>λd g=>match GB d g with
 | some i=>.ok (.int (-i)) g
 | none=>.bad
theorem KZ(i:Gl X "len") (hm:X.mg "len" = none) (h:GE X E e m) (o:↑(AR [e] X.env=(false,Bz e X.env) :: AR [] X.env)):GE X E (.Call (.Name "len" p) [e] [] pos) (JW m):=
 (Yy ZG we i hm qD (oG h) ∅ (by rfl) o).imp (by rintro C H Q ⟨s,l,S,A,B,a⟩;exact #[s,l,S,A,B,by
  let q:mQ lenF (Vf m) l S=JW m l S:=by
   unfold mQ Vf JW
   cases m l S with
   | ok d g=>
    dsimp only[Res.bind]
    cases GB d g <;> rfl
   | err c g=>rfl
   | bad=>rfl
  rw[q];exact a])
theorem Yz(g:X.calm)(i:Gl X "min") (hm:X.mg "min" = none) (h:GA X E [a,b] ml) (m:↑(AR [a,b] X.env=(false,Bz a X.env) :: AR [b] X.env)) (o:↑((DB pos (AR [b] X.env)).any (·.1)=false)):GE X E (.Call (.Name "min" p) [a,b] [] pos) (mQ Qv ml):=
 gR (jl g) uZ i hm UN h ∅ (by rfl) m o
theorem gN(g:X.calm)(i:Gl X "max") (hm:X.mg "max" = none) (h:GA X E [a,b] ml) (m:↑(AR [a,b] X.env=(false,Bz a X.env) :: AR [b] X.env)) (o:↑((DB pos (AR [b] X.env)).any (·.1)=false)):GE X E (.Call (.Name "max" p) [a,b] [] pos) (mQ Sq ml):=
 gR (jm g) uc i hm PyProof.Rows.boot_max h ∅ (by rfl) m o
theorem yg(g:X.calm)(i:Gl X "all") (hm:X.mg "all" = none) (h:GE X E e m) (o:↑(AR [e] X.env=(false,Bz e X.env) :: AR [] X.env)):GE X E (.Call (.Name "all" p) [e] [] pos) (mQ uY (Vf m)):=
 Yy (jp g) ll i hm PyProof.Rows.boot_all (oG h) ∅ (by rfl) o
end
abbrev MJ:=Str->Lo->Sto->Res Str
def dY:MJ:=λg z S=>if -g<=sizeLine then .ok g S else .bad
def L8(m:ME)(r:MJ):MJ:=λg e S=>m e S*>λd i=>match d with
 | .str y=>if -(g++y)<=sizeLine then r (g++y) e i else .bad
 | _=>.bad
def gJ(K:AD)(E:EW)(m:MJ)(o:Str):TE:=λA H Q=>∃i e S,Gw K i H e A/\CL K i S H/\CM K (λc=>E c A) i H (m o e S) λy B=>∀g s,Le K i H g s->CL K g B s->Q (.str y) s
def GJ(X:Cx)(E:EW)(es:¬Expr)(m:MJ):Prop:=∀(g:Str) (o:¬(AW×Obj)) (s:AM) (i:St) (H:Hp) (Q:VK),Inv X o i H s->gJ X.K E m g i H Q->Ac (AZ X.prog X.w) X.A (joinParts g (evalEach es X.env)) (EP X o i Q) X.xe s
def fo(m:MJ):ME:=λe S=>m NP e S*>λy g=>.ok (.str y) g
def av(m:ME):ME:=λe S=>m e S*>λd g=>match d with
 | .int i=>if i.natAbs.log2 < 1920 then .ok (.str (toString i)) g else .bad
 | _=>.bad
section
set_option tactic.hygienic true in
theorem yV:GJ X E [] dY:=by
 rintro g A s B H Q I ⟨i,l,S,C,m,hm⟩
 unfold dY at hm;split at hm
 ·rename_i o
  exact joinParts_nil #[.str g,H,I.tok _,#[_,rfl],hm i H .refl m] o
 ·exact hm.elim
set_option tactic.hygienic true in
theorem UF(h:GE X E e m)(O:GJ X E es mj):GJ X E (e :: es) (L8 m mj):=by
 rintro g L s o H Q I ⟨P,l,S,N,R,hm⟩
 refine joinParts_cons (thn (h L s o H (λx i=>∃y,x=.str y/\-(g++y)<=sizeLine/\gJ X.K E mj (g++y) o i Q) I #[P,l,S,N,R,CM.seq hm λd T hm A i x B C U=>?_]) λu C #[x,i,Y,Z,y,ex,G,q]=>?_)
 ·cases d <;> first | exact hm.elim | skip
  dsimp only at hm;split at hm
  ·rename_i y G
   cases U;exact#[y,rfl,G,A,l,T,N.mono B,C,hm.go B λz z k J H2 l2 s2=>k J H2 (B.trans l2) s2]
  ·exact hm.elim
 ·subst ex
  let#[t,rfl]:=Z;exact#[G,O _ L C o i Q Y q]
theorem tf(h:GJ X E (a :: b :: es) mj):GE X E (.JoinedStr (a :: b :: es) pos) (fo mj):=by
 rintro i s m H Q I ⟨o,l,S,A,B,hm⟩
 refine JoinedStr_many (h NP i s m H Q I #[o,l,S,A,B,CM.seq hm λy L hm g C G J=>hm g C _ G J (.str y)])
set_option tactic.hygienic true in
theorem oO(h:GE X E e m):GE X E (.FormattedValue e (-1) none pos) (av m):=by
 rintro C s G H Q I ⟨J,l,S,L,N,hm⟩
 refine FormattedValue_plain (thn (h C s G H (λx g=>∃i:Int,x=.int i/\i.natAbs.log2 < 1920/\Q (.str (toString i)) g) I #[J,l,S,L,N,CM.seq hm λd U hm o g x O B P=>?_]) λu B #[x,g,R,T,i,ex,A,q]=>?_)
 ·cases d <;> first | exact hm.elim | skip
  dsimp only at hm;split at hm
  ·rename_i A
   cases P;exact#[_,rfl,A,hm o g _ O B (.str _)]
  ·exact hm.elim
 ·subst ex
  let#[t,rfl]:=T;exact wpAny_formatField_int A #[.str (toString i),g,R.tok _,#[_,rfl],q]
end
def isB(t A:String):⇑Bool:=if ["NoneType", "bool", "int", "str", "tuple", "list", "dict"].contains A then vC t A else none
noncomputable def qo(g:WS)(x:Str):Bool:=decide (g.names.lookup x=!.local)||decide (g.names.lookup x=!.cell)||decide (g.names.lookup x=!.free)
def dz(X:Cx)(scope:WS)(own N':¬Str):Bool:=
 decide (scope.kind=.function)&&scope.names.all (λy=>not (decide (y.2=.local))||decide (scope.names.lookup y.1=!.local)) &&
 scope.names.all (λy=>not (decide (y.2=.free))||decide (X.env.kindOf y.1=!.cell)||decide (X.env.kindOf y.1=!.free))&&decide (-N'=-own+-X.N) &&
 ((N'.drop (-own)).zip X.N).all (λp=>not (qo (Lh scope X.env) p.1)||(decide (p.1=p.2)&&qo X.env.scope p.1&&(decide ((Lh scope X.env).names.lookup p.1=!.cell)||decide ((Lh scope X.env).names.lookup p.1=!.free))&&not (decide (X.env.kindOf p.1=!.local))&&not (scope.names.any (λz=>decide (z=(p.1,Da))))&&scope.names.any (λz=>decide (z=(p.1,Gy))))) &&
 (Lh scope X.env).names.all (λy=>(not (decide (y.2=.cell))&&not (decide (y.2=.free)))||scope.names.any (λz=>decide (z=(y.1,Gy)))||scope.names.any (λz=>decide (z=(y.1,Da))))
theorem Zp:qo g x=true↔Vis g x:=by
 unfold qo Vis
 lia
theorem NA(h:dz X scope own N'=true):QB X scope own N':=by
 unfold dz at h;simp only[Bo]at h;let#[#[#[#[#[G,H],m],o],s],A]:=h;rw[FI]at H m s A;refine#[of_decide_eq_true G,λy B e=>?_,λy B e=>?_,of_decide_eq_true o,λi x e v=>?_,λx g=>?_]
 ·grind
 ·let:=m y B
  ext
 ·let C:=of_decide_eq_true o
  let R:=(AE.mp e).1
  let g:i < -X.N:=by ext
  let hm:(x,X.N[i])∈(N'.drop (-own)).zip X.N:=by
   rw[List.mem_iff_getElem?];refine#[i,?_];rw[List.getElem?_zip_eq_some];exact#[by rw[Hg];exact e,by simp[g]]
  let:=s _ hm;rw[Zp.mpr v]at this;simp only[QO,ve,Bo,WN,decide_eq_true_eq,GP,decide_eq_false_iff_not]at this;let#[#[#[#[#[I,J],L],O],E],S]:=this;refine#[#[by rw[I];simp[g],Zp.mp J,L,O],λq=>?_,?_]
  ·rw[kO]at E
   exact E _ q (wX rfl)
  ext
 ·let P:∀k,(Lh scope X.env).names.lookup x=!k->(k=.cell∨k=.free)->(x,Gy)∈scope.names∨(x,Da)∈scope.names:=λk e Q=>by
   let:=A _ (D9 e)
   rcases Q with rfl | rfl
   ·simpa using this
   ·simpa using this
  grind
structure Dfn(K:AD)(mg:Str->⇑AH)(x qual:Str)(st:CY)(ps:¬Str) where
 f:AW
 fd:MW
 F:Fun K x qual st f fd
 b:Binds K fd ps []
 m:mg x=!.ref f
theorem Dfn.kp{K}{i}{x g}{st}{m}(d:Dfn K i x g st m):GM K (.ref d.f):=d.F.kp
structure Mtd(K:AD)(x qual:Str)(st:CY)(ps:¬Str) where
 f:AW
 fd:MW
 F:Fun K x qual st f fd
 b:Binds K fd ps []
structure Own(K:AD)(mg:Str->⇑AH)(x:Str)(C f:AW):Prop where
 cl:Cls K C
 mk':Mk K C f
 m:mg x=!.ref C
abbrev wN:Nat:=1000000
end L2
namespace Srt
structure Ord(U:BK->Prop)(lt:BK->BK->Bool):Prop where
 asym:∀x y,U x->U y->lt x y->lt y x=false
 ntr:∀x y z,U x->U y->U z->lt y x=false->lt z y=false->lt z x=false
theorem Ord.irr(o:Ord U lt)(h:U x):lt x x=false:=by
 cases e:lt x x with
 | false=>rfl
 | true=>exact(o.asym x x h h e).symm.trans e |>.symm▸rfl
noncomputable def ix(xs:Array BK)(i:Nat):BK:=xs.getD i (.none,.none)
theorem L9(h:xs[i]?=g[j]?):ix xs i=ix g j:=by
 unfold ix;ext
theorem Ep(h:i < xs.size):xs[i]?=!ix xs i:=by
 unfold ix;ext
set_option tactic.hygienic true in
theorem jJ(m:g < xs.size)(o:d<=g)(k:Nat) :
  ix (bubble xs g d) k=if k=g - d then ix xs g else if g - d < k/\k<=g then ix xs (k - 1)else ix xs k:=by
 let e:=getElem?_bubble m d o k;split
 ·rename_i h;rw[qX h]at e;exact L9 e
 ·rename_i h
  rw[qY h]at e;split
  ·rename_i i;rw[qX i]at e;exact L9 e
  ·rename_i i;rw[qY i]at e;exact L9 e
set_option tactic.hygienic true in
theorem FB(g:j<=xs.size)(k:Nat) :
  ix (UK xs i j ((j - i) / 2)) k=if i<=k/\k < j then ix xs (i+j - 1 - k)else ix xs k:=by
 let e:=getElem?_mirror_all (i:=i) g k;split
 ·rename_i h;rw[qX h]at e;exact L9 e
 ·rename_i h;rw[qY h]at e;exact L9 e
section
def NK(prog:BP)(w:Bx)(A:Bq)(s:AM)(g:Array BK)(i:RZ)(lt:BK->BK->Bool):Prop:=
 ∀x y,x∈g->y∈g->∀(Q:Bool->AM->Prop) (E:AH->AM->Prop),Q (lt x y) s->Ac (AZ prog w) A (keyLt' i x.1 y.1) Q E s
structure Good(a₀:Array BK)(κ:RZ)(st:BG):Prop where
 perm:(Ad st).Perm a₀
 kind:kindOf st=κ
 failed:Kj st=none
theorem Good.size{st:BG}(g:Good i m st):(Ad st).size=i.size:=g.perm.size_eq
theorem Good.mem{st:BG}(g:Good a₀ o st){i:Nat}(h:i < a₀.size):ix (Ad st) i∈a₀:=by
 let m:i < (Ad st).size:=by rw[g.size];exact h
 let e:=Ep m;let:=Eb e;exact Bk.mp ((Gk.mp g.perm).mem_iff.mp (Bk.mpr this))
theorem Good.setArr{st:BG}(g:Good i m st){xs:Array BK}(o:xs.Perm (Ad st)):Good i m (setArr st xs):=#[o.trans g.perm,g.kind,g.failed]
theorem UU{st:BG}{x y:BK}{Q:⇑Bool->BG->Prop}(C:NK prog w A s i m lt)(g:Good i m st)(o:x∈i)(B:y∈i)(h:Q (!lt x y) st):wpS (AZ prog w) A E s (lt' x y) Q st:=by
 rw[lt'_eq];refine Ag (Je ?_);rw[g.kind];refine Ag (wpS_lift (Kh ?_));refine C x y o B _ _ #[rfl,?_];exact Ai h
theorem Re{st:BG}{i j:Nat}{Q:⇑Bool->BG->Prop}(C:NK prog w A s m B lt)(g:Good m B st)(hi:i < m.size)(o:j < m.size)(h:Q (!lt (ix (Ad st) i) (ix (Ad st) j)) st) :
  wpS (AZ prog w) A E s (zQ i j) Q st:=by
 rw[ltAt'_eq];refine Ag (Je ?_);show wpS _ _ _ _ (do let x <-elem' (Ad st) i;let y <-elem' (Ad st) j;lt' x y) Q st;rw[p9,p9,Ep (by rw[g.size];exact hi),Ep (by rw[g.size];exact o)];exact Ag (Ai (Ag (Ai (UU C g (g.mem hi) (g.mem o) h))))
def Up(lt:BK->BK->Bool)(xs:Array BK)(lo hi:Nat):Prop:=∀i j,lo<=i->i<=j->j < hi->lt (ix xs j) (ix xs i)=false
def Dn(lt:BK->BK->Bool)(xs:Array BK)(lo hi:Nat):Prop:=∀i j,lo<=i->i<=j->j < hi->lt (ix xs i) (ix xs j)=false
def Out(xs g:Array BK)(lo hi:Nat):Prop:=∀i,(i < lo∨hi<=i)->ix g i=ix xs i
theorem Out.refl{xs:Array BK}{lo hi:Nat}:Out xs xs lo hi:=λz z=>rfl
theorem Out.trans{xs g m:Array BK}{lo hi:Nat}(a:Out xs g lo hi)(b:Out g m lo hi):Out xs m lo hi:=λi h=>(b i h).trans (a i h)
theorem Up.out{xs g:Array BK}{lo hi l h:Nat}(u:Up lt xs l h)(o:Out xs g lo hi)(d:h<=lo∨hi<=l):Up lt g l h:=λi j m s A=>by
 rw[o i ∅,o j ∅];exact u i j m s A
theorem Up.grow{st:BG}(O:Ord (·∈m) lt)(g:Good m E st){lo hi:Nat}(s:hi < m.size)(u:Up lt (Ad st) lo hi)(G:lo < hi)(h:lt (ix (Ad st) hi) (ix (Ad st) (hi - 1))=false):Up lt (Ad st) lo (hi+1):=λi j A B H=>by
 by_cases C:j < hi
 ·exact u i j A B C
 ·let:j=hi:=by lia
  subst this
  by_cases o:i=j
  ·subst o;exact O.irr (g.mem s)
  ·exact O.ntr _ _ _ (g.mem ∅) (g.mem ∅) (g.mem s) (u i (j - 1) A ∅ ∅) h
theorem wpS_binarySort{st:BG}{lo n ok:Nat}{Q:Bool->BG->Prop}(C:NK prog w A s o T lt)(O:Ord (·∈o) lt)(hn:lo+n<=o.size)(hok:ok<=n)(g:Good o T st)(u:Up lt (Ad st) lo (lo+ok))
  (h:∀m,Good o T m->Up lt (Ad m) lo (lo+n)->Out (Ad st) (Ad m) lo (lo+n)->Ae m=Ae st->Q true m):wpS (AZ prog w) A E s (binarySort' lo n ok) Q st:=by
 rw[binarySort'_eq]
 refine Ag (IN (D0 (I:=λk c m=>c=(none,())/\Good o T m/\Up lt (Ad m) lo (lo+min k n)/\Out (Ad st) (Ad m) lo (lo+n)/\Ae m=Ae st)
  (Q:=λc m=>c=(none,())/\Good o T m/\Up lt (Ad m) lo (lo+n)/\Out (Ad st) (Ad m) lo (lo+n)/\Ae m=Ae st) ?step ?fin ?init) ?post)
 case post=>
  rintro c m ⟨rfl,Y,Z,o',p'⟩;exact Ai (h m Y Z o' p')
 case init=>
  refine#[rfl,g,λi j S U h3=>?_,.refl,rfl]
  by_cases h0:ok=0
  ·let:i=j:=by lia
   subst this;exact O.irr (g.mem ∅)
  ·exact u i j S U ∅
 case fin=>
  rintro c m ⟨hc,Y,Z,o',p'⟩;refine#[hc,Y,?_,o',p'];rwa [show min (max (max ok 1) n) n=n by lia]at Z
 case step=>
  rintro k c L hak hkn ⟨rfl,J,X,o1,p1⟩;rw[show min k n=k by lia]at X
  let R:lo+k < o.size:=by lia
  refine Ag (IN (D0 (I:=λx c B=>B=L/\∃l r,c=(none,l,r)/\l<=r/\r<=k/\r - l<=k - x /\
    (∀i,i < l->lt (ix (Ad L) (lo+k)) (ix (Ad L) (lo+i))=false)/\(∀i,r<=i->i < k->lt (ix (Ad L) (lo+k)) (ix (Ad L) (lo+i))=true))
   (Q:=λc B=>B=L/\∃l r,c=(none,l,r)/\l<=k /\
    (∀i,i < l->lt (ix (Ad L) (lo+k)) (ix (Ad L) (lo+i))=false)/\(∀i,l<=i->i < k->lt (ix (Ad L) (lo+k)) (ix (Ad L) (lo+i))=true)) ?istep ?ifin ?iinit) ?ipost)
  case iinit=>exact#[rfl,0,k,rfl,by ext,by ext,by ext,λi hi=>by ext,λi S U=>by lia]
  case ifin=>
   rintro c B ⟨rfl,l,r,rfl,hlr,N,hm,G,H⟩
   let:l=r:=by grind
   subst this;exact#[rfl,l,l,rfl,N,G,H]
  case istep=>
   rintro x c B _ hxk ⟨rfl,l,r,rfl,hlr,N,hm,G,H⟩
   by_cases Φ:l ≥ r
   ·rw[qX Φ]
    let:l=r:=by lia
    subst this;exact Ai #[rfl,l,l,rfl,N,G,H]
   ·rw[qY Φ]
    refine Ag (Re C J R ∅ ?_)
    cases P:lt (ix (Ad B) (lo+k)) (ix (Ad B) (lo+(l+r) / 2))with
    | true=>
     refine Ai #[rfl,l,(l+r) / 2,rfl,by lia,by lia,by grind,G,λi S U=>?_]
     cases e:lt (ix (Ad B) (lo+k)) (ix (Ad B) (lo+i))with
     | true=>rfl
     | false=>
      let:=O.ntr _ _ _ (J.mem ∅) (J.mem ∅) (J.mem R) (X (lo+(l+r) / 2) (lo+i) (by ext) (by ext) (by ext)) e
      ext
    | false=>
     refine Ai #[rfl,(l+r) / 2+1,r,rfl,by lia,by omega,by grind,λi S=>?_,H];exact O.ntr _ _ _ (J.mem ∅) (J.mem ∅) (J.mem R) (X (lo+i) (lo+(l+r) / 2) (by ext) ∅ ∅) P
  case ipost=>
   rintro c B ⟨rfl,l,r,rfl,hlk,G,H⟩;show wpS _ _ _ _ (do moveDown' (lo+k) (lo+l);pure (JR (none,()))) _ _;rw[moveDown'_eq]
   let hks:lo+k < (Ad B).size:=by rw[J.size];exact R
   let e:∀i,ix (bubble (Ad B) (lo+k) (lo+k - (lo+l))) i=if i=lo+l then ix (Ad B) (lo+k)else if lo+l < i/\i<=lo+k then ix (Ad B) (i - 1)else ix (Ad B) i:=λi=>by
    rw[jJ hks (by ext),show lo+k - (lo+k - (lo+l))=lo+l by lia]
   refine Ag (EG (Ai #[rfl,J.setArr (bubble_perm _ _ _),?_,o1.trans λi hi=>?_,p1]))
   ·rw[show min (k+1) n=k+1 by lia]
    intro i j S U h3;rw[e,e]
    repeat' split
    all_goals first
     | (exfalso;grind)
     | exact O.irr (J.mem R)
     | (let q:=G (i - lo) ∅;rw[show lo+(i - lo)=i by ext]at q;exact q)
     | (let q:=H (j - 1 - lo) (by grind) (by grind);rw[show lo+(j - 1 - lo)=j - 1 by lia]at q;exact O.asym _ _ (J.mem R) (J.mem (by grind)) q)
     | exact X _ _ ∅ (by grind) ∅
   ·rw[e,qY ∅,qY ∅]
end
section
theorem Lr{g:Type}{M:cK}{r:String}{Q:PUnit->g->Prop}{st:g}(h:Q ⟨⟩ st):wpS M A E s (liftM (rule r):StateT g Sem PUnit) Q st:=wpS_lift (Ph #[rfl,h])
theorem Dn.flip{xs:Array BK}{lo hi:Nat}(g:hi<=xs.size)(d:Dn lt xs lo hi):Up lt (UK xs lo hi ((hi - lo) / 2)) lo hi:=λi j m o s=>by
 rw[FB g,FB g,qX ∅,qX ∅];exact d _ _ ∅ (by omega) ∅
theorem Dn.part{xs:Array BK}{lo hi m:Nat}(g:hi<=xs.size)(hm:lo<=m)(o:m<=hi)(d:Dn lt xs lo hi)(e:Up lt xs m hi):Dn lt (UK xs m hi ((hi - m) / 2)) lo hi:=λi j A B C=>by
 rw[FB g,FB g]
 by_cases s:m<=i
 ·rw[qX ∅,qX ∅]
  exact e _ _ ∅ ∅ ∅
 ·rw[qY ∅]
  split
  ·exact d _ _ ∅ ∅ ∅
  ·exact d _ _ ∅ ∅ (by ext)
theorem Mm{xs:Array BK}{i j lo hi:Nat}(g:j<=xs.size)(m:lo<=i)(o:j<=hi):Out xs (UK xs i j ((j - i) / 2)) lo hi:=λk s=>by
 rw[FB g,qY ∅]
theorem Dn.grow{st:BG}(O:Ord (·∈m) lt)(g:Good m E st){lo hi:Nat}(s:hi < m.size)(u:Dn lt (Ad st) lo hi)(G:lo < hi)(h:lt (ix (Ad st) (hi - 1)) (ix (Ad st) hi)=false):Dn lt (Ad st) lo (hi+1):=λi j A B H=>by
 by_cases C:j < hi
 ·exact u i j A B C
 ·let:j=hi:=by lia
  subst this
  by_cases o:i=j
  ·subst o;exact O.irr (g.mem s)
  ·exact O.ntr _ _ _ (g.mem s) (g.mem ∅) (g.mem ∅) h (u i (j - 1) A ∅ ∅)
theorem ca(O:Ord (·∈m) lt){st:BG}(g:Good m A st){lo:Nat}(h:lo < m.size):Up lt (Ad st) lo (lo+1):=λi j B C E=>by
 let o:i=lo:=by lia
 let s:j=lo:=by lia
 rw[o,s];exact O.irr (g.mem h)
theorem qV{st:BG}{lo G' n:Nat}{Q:⇑Nat->BG->Prop}(C:NK prog w A s m B lt)(O:Ord (·∈m) lt)(P:1<=n)(R:n<=G')(S:lo+G'<=m.size)(g:Good m B st)(u:Up lt (Ad st) lo (lo+n))
  (h:∀n,1<=n->n<=G'->Up lt (Ad st) lo (lo+n)->Q (!n) st):wpS (AZ prog w) A E s (do
   let mut n:=n
   for _ in [n:G'] do
    let some G <-zQ (lo+n) (lo+n - 1) | return none
    if G then break
    n:=n+1
   return !n) Q st:=by
 refine Ag (IN (D0 (I:=λx c i=>i=st/\c=(none,x)/\Up lt (Ad st) lo (lo+x))
  (Q:=λc i=>i=st/\∃n,c=(none,n)/\1<=n/\n<=G'/\Up lt (Ad st) lo (lo+n)) ?step ?fin #[rfl,rfl,u]) ?post)
 case fin=>
  rintro c i ⟨rfl,rfl,u⟩
  let e:max n G'=G':=by ext
  rw[e]at u ⊢;exact#[rfl,G',rfl,by lia,AO _,u]
 case step=>
  rintro x c i H J ⟨rfl,rfl,u⟩;refine Ag (Re C g ∅ ∅ ?_)
  cases L:lt (ix (Ad i) (lo+x)) (ix (Ad i) (lo+x - 1))with
  | true=>exact Ai #[rfl,x,rfl,by lia,by lia,u]
  | false=>exact Ai #[rfl,rfl,Up.grow O g ∅ u ∅ L]
 case post=>
  rintro c i ⟨rfl,n,rfl,o,N,u⟩;exact Ai (h n o N u)
theorem wpS_countRun{st}{lo G'}{Q}(C:NK prog w A s B N lt)(O:Ord (·∈B) lt)(h1:1<=G')(hn:lo+G'<=B.size)(g:Good B N st)
  (h:∀o n,Good B N o->1<=n->n<=G'->Up lt (Ad o) lo (lo+n)->Out (Ad st) (Ad o) lo (lo+G')->Ae o=Ae st->Q (!n) o):wpS (AZ prog w) A E s (countRun' lo G') Q st:=by
 rw[countRun'_eq]
 refine Ag (IN (D0 (I:=λx c o=>o=st/\c=(none,x)/\Up lt (Ad st) lo (lo+x))
  (Q:=λc o=>o=st/\∃n,c=(none,n)/\1<=n/\n<=G'/\Up lt (Ad st) lo (lo+n)/\(n=G'∨lt (ix (Ad st) (lo+n)) (ix (Ad st) (lo+n - 1))=true)) ?step ?fin ?init) ?post)
 case init=>
  refine#[rfl,rfl,λi j a1 a2 a3=>?_]
  let:i=j:=by lia
  subst this;exact O.irr (g.mem ∅)
 case fin=>
  ext
 case step=>
  rintro x c o hx1 hx2 ⟨rfl,rfl,u⟩;refine Ag (Re C g ∅ ∅ ?_)
  cases U:lt (ix (Ad o) (lo+x)) (ix (Ad o) (lo+x - 1))with
  | true=>exact Ai #[rfl,x,rfl,hx1,by lia,u,.inr U]
  | false=>exact Ai #[rfl,rfl,Up.grow O g ∅ u ∅ U]
 case post=>
  rintro c o ⟨rfl,n,rfl,hn1,ϛ,u,hd⟩;symm
  by_cases hnn:n=G'
  ·rw[qX (by ext)]
   exact Ai (h o n g hn1 ϛ u .refl rfl)
  ·rw[qY (by simpa using hnn)]
   let hd':=hd.resolve_left hnn
   let X:∀(Z':BG),Good B N Z'->Dn lt (Ad Z') lo (lo+(n+1))->Out (Ad o) (Ad Z') lo (lo+G')->Ae Z'=Ae o ->
     wpS (AZ prog w) A E s (do
      liftM (rule "list.sort.descending-run")
      let mut n:=n+1
      let mut neq:=0
      for _ in [n:G'] do
       let some Ε <-zQ (lo+n) (lo+n - 1) | return none
       if Ε then
        if neq > 0 then Te (lo+n - (neq+1)) (lo+n)
        neq:=0
       else
        let some P <-zQ (lo+n - 1) (lo+n) | return none
        if P then break
        neq:=neq+1
       n:=n+1
      if neq > 0 then Te (lo+n - (neq+1)) (lo+n)
      Te lo (lo+n)
      for _ in [n:G'] do
       let some Ε <-zQ (lo+n) (lo+n - 1) | return none
       if Ε then break
       n:=n+1
      return !n) Q Z':=by
    intro Z' g1 d1 o1 p1;refine Ag (Lr ?_)
    refine Ag (IN (D0 (I:=λx c H=>Good B N H/\∃q,c=(none,x,q)/\q+1<=x/\Dn lt (Ad H) lo (lo+x)/\Up lt (Ad H) (lo+x - (q+1)) (lo+x)/\Out (Ad o) (Ad H) lo (lo+G')/\Ae H=Ae o)
     (Q:=λc H=>Good B N H/\∃n q,c=(none,n,q)/\n<=G'/\q+1<=n/\Dn lt (Ad H) lo (lo+n)/\Up lt (Ad H) (lo+n - (q+1)) (lo+n)/\Out (Ad o) (Ad H) lo (lo+G')/\Ae H=Ae o) ?dstep ?dfin ?dinit) ?dpost)
    case dinit=>
     refine#[g1,0,rfl,by ext,d1,?_,o1,p1];let:=ca O g1 (lo:=lo+n) ∅
     assumption
    case dfin=>
     rintro c H ⟨J,q,rfl,U,d2,Y,S,T⟩
     let e:max (n+1) G'=G':=by lia
     rw[e]at d2 Y U ⊢;exact#[J,G',q,rfl,AO _,U,d2,Y,S,T]
    case dstep=>
     rintro x c H hx1 hx2 ⟨J,q,rfl,U,d2,Y,S,T⟩;refine Ag (Re C J ∅ ∅ ?_)
     cases hs:lt (ix (Ad H) (lo+x)) (ix (Ad H) (lo+x - 1))with
     | true=>
      symm;rw[qX rfl];let My:=O.asym _ _ (J.mem ∅) (J.mem ∅) hs
      by_cases L:q > 0
      ·rw[qX L,Os]
       let G:lo+x<=(Ad H).size:=by rw[J.size];lia
       let g3:Good B N (setArr H (UK (Ad H) (lo+x - (q+1)) (lo+x) ((lo+x - (lo+x - (q+1))) / 2))):=J.setArr (ZT _ _ _ _);let d3:=Dn.part G ∅ (by ext) d2 Y;refine Ag (EG (Ai #[g3,0,rfl,by lia,?_,?_,S.trans (Mm G ∅ ∅),T]))
       ·refine Dn.grow O g3 ∅ d3 ∅ ?_
        show lt (ix (UK (Ad H) (lo+x - (q+1)) (lo+x) ((lo+x - (lo+x - (q+1))) / 2)) (lo+x - 1)) (ix (UK (Ad H) (lo+x - (q+1)) (lo+x) ((lo+x - (lo+x - (q+1))) / 2)) (lo+x))=false;rw[FB G,FB G,qX ∅,qY (by ext)];exact O.ntr _ _ _ (J.mem ∅) (J.mem ∅) (J.mem ∅) My (d2 _ _ ∅ (by omega) ∅)
       ·let:=ca O g3 (lo:=lo+x) ∅
        assumption
      ·rw[qY L]
       refine Ai #[J,0,rfl,by lia,Dn.grow O J ∅ d2 ∅ My,?_,S,T];let:=ca O J (lo:=lo+x) ∅
       assumption
     | false=>
      symm;rw[qY AQ];refine Ag (Re C J ∅ ∅ ?_)
      cases hl:lt (ix (Ad H) (lo+x - 1)) (ix (Ad H) (lo+x))with
      | true=>exact Ai #[J,x,q,rfl,by lia,U,d2,Y,S,T]
      | false=>
       refine Ai #[J,q+1,rfl,by ext,Dn.grow O J ∅ d2 ∅ hl,?_,S,T];rw[show lo+(x+1) - (q+1+1)=lo+x - (q+1) by lia];exact Up.grow (hi:=lo+x) O J ∅ Y (by omega) hs
    case dpost=>
     rintro c H ⟨J,m,q,rfl,hm,U,d2,Y,S,T⟩;symm
     let G:lo+m<=(Ad H).size:=by rw[J.size];lia
     let last:∀Ϥ,Good B N Ϥ->Dn lt (Ad Ϥ) lo (lo+m)->Out (Ad o) (Ad Ϥ) lo (lo+G')->Ae Ϥ=Ae o->∀(R:StateT BG Sem (⇑Nat)),R=(do
        let mut n:=m
        for _ in [n:G'] do
         let some Ε <-zQ (lo+n) (lo+n - 1) | return none
         if Ε then break
         n:=n+1
        return !n)->wpS (AZ prog w) A E s (do Te lo (lo+m);R) Q Ϥ:=by
      rintro Ϥ g3 d3 o3 p3 R rfl
      let Z:lo+m<=(Ad Ϥ).size:=by rw[g3.size];lia
      rw[Os];refine Ag (EG ?_);let g4:Good B N (setArr Ϥ (UK (Ad Ϥ) lo (lo+m) ((lo+m - lo) / 2))):=g3.setArr (ZT _ _ _ _)
      exact qV C O ∅ hm hn g4 (Dn.flip Z d3) λk k1 k2 k3=>h _ k g4 k1 k2 k3 (o3.trans (Mm Z (by ext) (by ext))) p3
     by_cases L:q > 0
     ·rw[qX L,Os]
      refine Ag (EG ?_);exact last _ (J.setArr (ZT _ _ _ _)) (Dn.part G ∅ (by ext) d2 Y) (S.trans (Mm G ∅ ∅)) T _ rfl
     ·rw[qY L]
      exact last _ J d2 S T _ rfl
   let My:=O.asym _ _ (g.mem ∅) (g.mem ∅) hd'
   by_cases hn0:n > 1
   ·rw[qX hn0]
    refine Ag (Re C g ∅ ∅ ?_)
    cases hr:lt (ix (Ad o) lo) (ix (Ad o) (lo+n - 1))with
    | true=>exact Ai (h o n g hn1 ϛ u .refl rfl)
    | false=>
     symm;rw[qY AQ,Os]
     let G:lo+n<=(Ad o).size:=by rw[g.size];lia
     let g1:Good B N (setArr o (UK (Ad o) lo (lo+n) ((lo+n - lo) / 2))):=g.setArr (ZT _ _ _ _)
     let al:∀i j,lo<=i->i < lo+n->lo<=j->j < lo+n->lt (ix (Ad o) i) (ix (Ad o) j)=false:=λi j i1 i2 j1 j2=>by
      let q1:=u j (lo+n - 1) (by ext) (by grind) ∅;let q2:=u lo i ∅ ∅ (by ext);exact O.ntr _ _ _ (g.mem ∅) (g.mem ∅) (g.mem ∅) (O.ntr _ _ _ (g.mem ∅) (g.mem ∅) (g.mem ∅) q1 hr) q2
     refine Ag (EG ?_);refine X _ g1 ?_ (Mm G ∅ (by grind)) rfl;refine Dn.grow (hi:=lo+n) O g1 ∅ (λi j a1 a2 a3=>?_) ∅ ?_
     ·rw[FB G,FB G,qX ∅,qX ∅]
      exact al _ _ ∅ ∅ ∅ ∅
     ·rw[FB G,FB G,qX ∅,qY (by ext),show lo+(lo+n) - 1 - (lo+n - 1)=lo by grind]
      exact O.ntr _ _ _ (g.mem ∅) (g.mem ∅) (g.mem ∅) My hr
   ·rw[qY hn0]
    let e:n=1:=by lia
    subst e;refine X _ g (Dn.grow O g ∅ (λi j a1 a2 a3=>?_) (by ext) My) .refl rfl
    let e1:i=lo:=by lia
    let e2:j=lo:=by lia
    rw[e1,e2];exact O.irr (g.mem ∅)
end
noncomputable def gall:Bool->BK->Array BK->Nat->Nat->Nat->StateT BG Sem (⇑Nat):=sortPriv% PySem.Builtin.gallop
section
abbrev BS:=⇑(⇑Nat)×Nat×Nat
theorem uR{st:BG}{p:Nat->Bool}{n lo hi:Nat}{F:Nat->BS->StateT BG Sem (ForInStep BS)}{T:BS->StateT BG Sem (⇑Nat)}{Q:⇑Nat->BG->Prop}(G:lo<=hi)(H:hi<=n)
  (J:∀i,i < lo->p i=true) (L:∀i,hi<=i->i < n->p i=false) (mono:∀i j,i<=j->j < n->p j->p i=true)
  (S:∀x l h (R:ForInStep BS->BG->Prop),l<=h->h<=n->(l ≥ h->R (.done (none,l,h)) st)->(l < h->p (l+(h - l) / 2)->R (.yield (none,l+(h - l) / 2+1,h)) st)->(l < h->p (l+(h - l) / 2)=false->R (.yield (none,l,l+(h - l) / 2)) st) ->
   wpS (AZ prog w) A E s (F x (none,l,h)) R st)
  (Y:∀l h,h<=n->(∀i,i < h->p i=true)->(∀i,h<=i->i < n->p i=false)->wpS (AZ prog w) A E s (T (none,l,h)) Q st):wpS (AZ prog w) A E s (forIn [0:n] (none,lo,hi) F >>= T) Q st:=by
 refine Ag (IN (D0 (I:=λx c g=>g=st/\∃l h,c=(none,l,h)/\l<=h/\h<=n/\h - l<=n - x/\(∀i,i < l->p i=true)/\(∀i,h<=i->i < n->p i=false))
  (Q:=λc g=>g=st/\∃l h,c=(none,l,h)/\h<=n/\(∀i,i < h->p i=true)/\(∀i,h<=i->i < n->p i=false)) ?step ?fin #[rfl,lo,hi,rfl,G,H,by grind,J,L]) ?post)
 case fin=>
  rintro c g ⟨rfl,l,h,rfl,P,m,U,o,B⟩
  let:l=h:=by grind
  subst this;exact#[rfl,l,l,rfl,m,o,B]
 case step=>
  rintro x c g _ Z ⟨rfl,l,h,rfl,P,m,U,o,B⟩
  refine S x l h _ P m (λΦ=>?_) (λX C=>?_) λX C=>?_
  ·let:l=h:=by lia
   subst this;exact#[rfl,l,l,rfl,m,o,B]
  ·exact#[rfl,_,_,rfl,by grind,m,by grind,λi hi=>mono i (l+(h - l) / 2) ∅ ∅ C,B]
  ·refine#[rfl,_,_,rfl,by ext,by grind,by grind,o,λi N O=>?_]
   cases e:p i with
   | false=>rfl
   | true=>rw[mono _ i N O e]at C;cases C
 ext
theorem gU{st:BG}{q:Nat->Bool}{n mx:Nat}{F:Nat->BS->StateT BG Sem (ForInStep BS)}{T:BS->StateT BG Sem (⇑Nat)}{Q:⇑Nat->BG->Prop}(hm:mx<=n)(G:q 0)
  (H:∀x a b (R:ForInStep BS->BG->Prop),a < b->(b ≥ mx->R (.done (none,a,b)) st)->(b < mx->q b=false->R (.done (none,a,b)) st)->(b < mx->q b->R (.yield (none,b,2 * b+1)) st)->wpS (AZ prog w) A E s (F x (none,a,b)) R st)
  (L:∀a b,a < b->q a->(a=0∨a < mx)->(b < mx->q b=false)->wpS (AZ prog w) A E s (T (none,a,b)) Q st):wpS (AZ prog w) A E s (forIn [0:n] (none,0,1) F >>= T) Q st:=by
 refine Ag (IN (D0 (I:=λx c g=>g=st/\∃a b,c=(none,a,b)/\a < b/\x+1<=b/\q a/\(a=0∨a < mx))
  (Q:=λc g=>g=st/\∃a b,c=(none,a,b)/\a < b/\q a/\(a=0∨a < mx)/\(b < mx->q b=false)) ?step ?fin #[rfl,0,1,rfl,by ext,by decide,G,.inl rfl]) ?post)
 case fin=>
  rintro c g ⟨rfl,a,b,rfl,i,J,m,o⟩;exact#[rfl,a,b,rfl,i,m,o,λh=>by lia]
 case step=>
  rintro x c g _ N ⟨rfl,a,b,rfl,i,J,m,o⟩
  refine H x a b _ i (λO=>?_) (λC B=>?_) λC B=>?_
  ·exact#[rfl,a,b,rfl,i,m,o,λh=>by lia]
  ·exact#[rfl,a,b,rfl,i,m,o,λz=>B]
  ·exact#[rfl,b,2 * b+1,rfl,by lia,by lia,B,.inr C]
 ext
theorem Ih{st:BG}{left:Bool}{key:BK}{arr:Array BK}{base n hint:Nat}{Q:⇑Nat->BG->Prop}(C:NK prog w A s B κ lt)(g:Good B κ st)(p:Nat->Bool)
  (J:key∈B) (X:∀i,i < n->base+i < arr.size/\ix arr (base+i)∈B) (hp:∀i,i < n->p i=if left=true then lt (ix arr (base+i)) key else not (lt key (ix arr (base+i))))
  (mono:∀i j,i<=j->j < n->p j->p i=true) (hh:hint < n)
  (h:∀k,k<=n->(∀i,i < k->p i=true)->(∀i,k<=i->i < n->p i=false)->Q (!k) st):wpS (AZ prog w) A E s (gall left key arr base n hint) Q st:=by
 let G:∀i,i < n->∀R:⇑Bool->BG->Prop,R (!p i) st->wpS (AZ prog w) A E s (do let x <-elem' arr (base+i);if left=true then lt' x key else do let y <-lt' key x;pure (y.map (not ·))) R st:=by
  intro i H R hR;let#[Y,U]:=X i H;rw[p9,Ep Y];refine Ag (Ai ?_);rw[hp i H]at hR
  cases left with
  | true=>exact UU C g U J hR
  | false=>exact Ag (UU C g J U (Ai hR))
 refine(Ag ?_:wpS _ _ _ _ (gall left key arr base n hint) Q st);refine G hint hh _ ?_
 let fin:∀(lo H:Nat) {F:Nat->BS->StateT BG Sem (ForInStep BS)} {T:BS->StateT BG Sem (⇑Nat)},lo<=H->H<=n->(∀i,i < lo->p i=true)->(∀i,H<=i->i < n->p i=false) ->
   (∀x l m (R:ForInStep BS->BG->Prop),l<=m->m<=n->(l ≥ m->R (.done (none,l,m)) st)->(l < m->p (l+(m - l) / 2)->R (.yield (none,l+(m - l) / 2+1,m)) st)->(l < m->p (l+(m - l) / 2)=false->R (.yield (none,l,l+(m - l) / 2)) st) ->
    wpS (AZ prog w) A E s (F x (none,l,m)) R st)->(∀l m,T (none,l,m)=pure (!m))->wpS (AZ prog w) A E s (forIn [0:n] (none,lo,H) F >>= T) Q st:=λlo H F T Y U h3 h4 hF hT=>
  uR Y U h3 h4 mono hF λl m q1 q2 q3=>by rw[hT];exact Ai (h m q1 q2 q3)
 cases hq:p hint with
 | true=>
  symm;rw[qX rfl]
  refine gU (q:=λi=>decide (hint+i < n)&&p (hint+i)) (mx:=n - hint) (by ext) (by simp[hq,hh]) (λx a b R L N O P=>?_) λa b L I ha hb=>?_
  ·by_cases o:b ≥ n - hint
   ·rw[qX o];exact Ai (N o)
   ·rw[qY o]
    refine Ag (G (hint+b) (by grind) _ ?_);let S:decide (hint+b < n):=wX ∅
    cases e:p (hint+b)with
    | true=>exact Ai (P ∅ (by simp[S,e]))
    | false=>exact Ai (O ∅ (by simp[S,e]))
  ·let pa:p (hint+a):=by simp at I;exact I.2
   let Z:hint+a < n:=by simp at I;exact I.1
   refine fin (hint+a+1) (hint+min b (n - hint)) (by omega) (by omega) (λi H=>mono i (hint+a) ∅ Z pa) (λi Y U=>?_) (λx l m R l1 l2 N O P=>?_) λl m=>rfl
   ·by_cases hbm:b < n - hint
    ·grind
    ·grind
   ·by_cases o:l ≥ m
    ·rw[qX o];exact Ai (N o)
    ·rw[qY o]
     refine Ag (G (l+(m - l) / 2) (by grind) _ ?_)
     cases e:p (l+(m - l) / 2)with
     | true=>exact Ai (O (by ext) e)
     | false=>exact Ai (P ∅ e)
 | false=>
  symm;rw[qY AQ]
  refine gU (q:=λi=>decide (i<=hint)&&not (p (hint - i))) (mx:=hint+1) (by trivial) (by simp[hq]) (λx a b R L N O P=>?_) λa b L I ha hb=>?_
  ·by_cases o:b ≥ hint+1
   ·rw[qX o];exact Ai (N o)
   ·rw[qY o]
    refine Ag (G (hint - b) (by grind) _ ?_);let S:decide (b<=hint):=wX ∅
    cases e:p (hint - b)with
    | true=>exact Ai (O (by ext) (by simp[S,e]))
    | false=>exact Ai (P ∅ (by simp[S,e]))
  ·let pa:p (hint - a)=false:=by simp at I;exact I.2
   let Z:a<=hint:=by simp at I;exact I.1
   refine fin (hint+1 - min b (hint+1)) (hint - a) (by omega) (by grind) (λi H=>?_) (λi Y U=>?_) (λx l m R l1 l2 N O P=>?_) λl m=>rfl
   ·by_cases hbm:b < hint+1
    ·let:=hb hbm
     let S:decide (b<=hint):=wX ∅;rw[S,Bool.true_and]at this;exact mono i (hint - b) (by grind) (by grind) (by simpa using this)
    ·ext
   ·grind
   ·by_cases o:l ≥ m
    ·rw[qX o];exact Ai (N o)
    ·rw[qY o]
     refine Ag (G (l+(m - l) / 2) ∅ _ ?_)
     cases e:p (l+(m - l) / 2)with
     | true=>exact Ai (O ∅ e)
     | false=>exact Ai (P ∅ e)
end
structure MI(R:BK->BK->Prop)(T o ra rb:¬BK):Prop where
 perm:(o++(ra++rb)).Perm T
 srt:o.Pairwise R
 low:∀x∈o,∀y∈ra++rb,R x y
 sa:ra.Pairwise R
 sb:rb.Pairwise R
structure NU(R:BK->BK->Prop)(T r:¬BK):Prop where
 perm:r.Perm T
 srt:r.Pairwise R
section
theorem MI.takeA(m:MI R T o (xs++A) rb)(h:∀x∈xs,∀y∈rb,R x y):MI R T (o++xs) A rb:=by
 let s:=Ba.mp m.sa;refine#[by simpa[BM]using m.perm,Ba.mpr #[m.srt,s.1,λx g y i=>m.low x g y (by simp[i])],λx g y i=>?_,s.2.1,m.sb]
 rcases BO.mp g with g | g
 ·exact m.low x g y (by rcases BO.mp i with h | h <;> simp[h])
 grind
theorem MI.takeB(m:MI R T o s (xs++rb))(h:∀x∈xs,∀y∈s,R x y):MI R T (o++xs) s rb:=by
 let A:=Ba.mp m.sb;refine#[?_,Ba.mpr #[m.srt,A.1,λx g y i=>m.low x g y (by simp[i])],λx g y i=>?_,m.sa,A.2.1]
 ·refine List.Perm.trans ?_ m.perm
  rw[BM];refine MV o ?_;rw[<-BM,<-BM];exact WW rb cL
 ·rcases BO.mp g with g | g
  ·exact m.low x g y (by rcases BO.mp i with h | h <;> simp[h])
  grind
theorem MI.endA(m:MI R T o g []):NU R T (o++g):=by
 refine#[by simpa using m.perm,Ba.mpr #[m.srt,m.sa,λx i y s=>m.low x i y (by simp[s])]]
theorem MI.endB(m:MI R T o [] g):NU R T (o++g):=by
 refine#[by simpa using m.perm,Ba.mpr #[m.srt,m.sb,λx i y s=>m.low x i y (by simp[s])]]
theorem MI.last(m:MI R T o g i)(h:∀y∈i,∀x∈g,R y x):NU R T (o++(i++g)):=by
 refine#[(MV o cL).trans m.perm,Ba.mpr #[m.srt,Ba.mpr #[m.sb,m.sa,h],λx s y A=>m.low x s y (by grind)]]
end
theorem UH(h:i < a.size):a.toList.drop i=ix a i :: a.toList.drop (i+1):=by
 rw[Lc (by simpa using h)]
 congr 1
 let:=Ep h;ext
theorem Kb{a:Array BK}{i k:Nat}(h:i+k<=a.size):a.toList.drop i=(a.extract i (i+k)).toList++a.toList.drop (i+k):=by
 let e:(a.extract i (i+k)).toList=(a.toList.drop i).take k:=by simp[bm]
 rw[e,<-PF,JO]
theorem Tv(h:i+k<=a.size)(g:x∈(a.extract i (i+k)).toList):∃j,j < k/\x=ix a (i+j):=by
 rw[Bk,Tj]at g;let#[j,m,rfl]:=g;refine#[j,by ext,?_];let:=Ep (xs:=a) (i:=i+j) ∅;rw[getElem?_pos a _ ∅]at this;ext
theorem Ol(a:Array BK)(i:Nat):(a.extract i a.size).toList=a.toList.drop i:=by
 simp[bm];exact CI ∅
theorem HU(g:x∈a.toList.drop i):∃j,i<=j/\j < a.size/\x=ix a j:=by
 let#[k,m,rfl]:=ej.mp g;simp at m;refine#[i+k,by lia,by grind,?_];let:=Ep (xs:=a) (i:=i+k) (by omega);rw[getElem?_pos a _ ∅]at this;ext
theorem Tn{g:Type}{M:cK}{A:Bq}{E:AH->AM->Prop}{s:AM}{c:Prop}[Decidable c]{a b:StateT BG Sem g}{Q:g->BG->Prop}{st:BG}(i:c->wpS M A E s a Q st)(hb:Not c->wpS M A E s b Q st):wpS M A E s (if c then a else b) Q st:=by
 lia
theorem EU{g:Type}{M:cK}{A:Bq}{E:AH->AM->Prop}{s:AM}{x y:Nat}{a b:StateT BG Sem g}{Q:g->BG->Prop}{st:BG}(i:x=y->wpS M A E s a Q st)(hb:Not (x=y)->wpS M A E s b Q st):wpS M A E s (if (x==y) then a else b) Q st:=Tn (λh=>i (by simpa using h)) λh=>hb (by simpa using h)
theorem Ls{M:cK}{A:Bq}{E:AH->AM->Prop}{s:AM}{m o C:Type}{a b:Nat}{f:Nat->o->StateT m Sem (ForInStep o)}{k:o->StateT m Sem C}{R:C->m->Prop}(I:Nat->o->m->Prop){Q:o->m->Prop}
  (step:∀F,f=F->∀(i:Nat) (c:o) (st:m),a<=i->i < b->I i c st->wpS M A E s (F i c) (λr g=>match r with | .done B=>Q B g | .yield B=>I (i+1) B g) st)
  (fin:∀c st,I (max a b) c st->Q c st) {c:o} {st:m} (init:I a c st) (post:∀K,k=K->∀c g,Q c g->wpS M A E s (K c) R g):wpS M A E s (forIn [a:b] c f >>= k) R st:=Ag (IN (D0 I (step f rfl) fin init) (post k rfl))
theorem kY{m g:Type}{M:cK}{A:Bq}{E:AH->AM->Prop}{s:AM}{c:g->Prop}{d:∀i,Decidable (c i)}{F t:g->StateT BG Sem m}{Q:m->BG->Prop}{st:BG}(h:∀i,wpS M A E s (F i) Q st)(o:(∀i,wpS M A E s (F i) Q st)->∀i,wpS M A E s (t i) Q st)(i:g):wpS M A E s (if c i then t i else F i) Q st:=Tn (λz=>o h i) λz=>h i
theorem Tl{o g m:Type}{M:cK}{A:Bq}{E:AH->AM->Prop}{s:AM}{c:g->m->Prop}{d:∀i j,Decidable (c i j)}{F t:g->m->StateT BG Sem o}{x:g}{y:m}{Q:o->BG->Prop}{st:BG}(I:g->m->Prop)(h:∀i j,I i j->wpS M A E s (F i j) Q st)(B:(∀i j,I i j->wpS M A E s (F i j) Q st)->c x y->wpS M A E s (t x y) Q st)(C:Not (c x y)->I x y):∀i,x=i->∀j,y=j->wpS M A E s (if c i j then t i j else F i j) Q st:=λz e z f=>e▸f▸Tn (B h) λn=>h x y (C n)
theorem Rc{g:Type}{M:cK}{A:Bq}{E:AH->AM->Prop}{s:AM}{c:Prop}{d:Decidable c}{x:g}{Q:ForInStep g->BG->Prop}{st:BG}(h:Q (.done x) st/\Q (.yield x) st):wpS M A E s (if c then pure (.done x)else pure (.yield x)) Q st:=Tn (λz=>Ai h.1) λz=>Ai h.2
section
variable{prog:BP}{w:Bx}{A:Bq}{E:AH->AM->Prop}{s:AM}{a₀:Array BK}{κ:RZ}{lt:BK->BK->Bool}
theorem UV{st:BG}{a:Array BK}{i:Nat}{Q:BK->BG->Prop}(h:i < a.size)(hq:Q (ix a i) st):wpS (AZ prog w) A E s (elem' a i) Q st:=by
 rw[p9,Ep h];exact Ai hq
theorem Cm{g:Type}{st:BG}{a:Array BK}{i:Nat}{f:BK->StateT BG Sem g}{Q:g->BG->Prop}(h:i < a.size)(hq:wpS (AZ prog w) A E s (f (ix a i)) Q st):wpS (AZ prog w) A E s (elem' a i >>= f) Q st:=Ag (UV h hq)
noncomputable def mLo:Array BK->Array BK->StateT BG Sem (Array BK):=sortPriv% PySem.Builtin.mergeLo
def mHi:Array BK->Array BK->StateT BG Sem (Array BK):=sortPriv% PySem.Builtin.mergeHi
structure RS(a₀:Array BK)(κ:RZ)(st st':BG):Prop where
 good:Good a₀ κ st'
 arr:Ad st'=Ad st
 pend:Ae st'=Ae st
theorem RS.gal{st g:BG}(h:RS a₀ κ st g)(n:Nat):RS a₀ κ st (Ki (kindOf g) (Ad g) (Ae g) n (Kj g)):=#[#[h.good.perm,h.good.kind,h.good.failed],h.arr,h.pend]
abbrev Rl(lt:BK->BK->Bool)(x y:BK):Prop:=lt y x=false
theorem Z0(O:Ord (·∈a₀) lt){a:Array BK}(ma:∀i,i < a.size->ix a i∈a₀)(m:a.toList.Pairwise (Rl lt)):∀i j,i<=j->j < a.size->Rl lt (ix a i) (ix a j):=λi j o g=>by
 by_cases e:i=j
 ·subst e;exact O.irr (ma i g)
 ·let B:=UH (a:=a) (i:=i) ∅
  let:=m.sublist (kM i a.toList);rw[B]at this;refine(Hf.mp this).1 _ ?_;rw[show a.toList.drop (i+1)=(a.extract (i+1) (i+1+(j - (i+1)))).toList++a.toList.drop (i+1+(j - (i+1)))from Kb ∅,show i+1+(j - (i+1))=j by grind,UH g];simp
theorem Yu(ma:∀x∈a.toList,x∈a₀):∀i,i < a.size->ix a i∈a₀:=λi g=>ma _ (Bk.mpr (Eb (Ep g)))
theorem To{st:BG}{n:Nat}{Q:Unit->BG->Prop}(h:Q () (Ki (kindOf st) (Ad st) (Ae st) n (Kj st))):wpS (AZ prog w) A E s ((sortPriv% PySem.Builtin.setMinGallop) n) Q st:=EG h
abbrev GL(M:Array BK->Nat->Nat->Prop)(p q n t:Nat)(o:Array BK)(i j:Nat):Prop:=M o i j/\i+1 < p/\j < q/\t+n<=i+j
theorem qT{st:BG}{a b:Array BK}{Q:Array BK->BG->Prop}(C:NK prog w A s a₀ κ lt)(O:Ord (·∈a₀) lt)(g:Good a₀ κ st)
  (ma:∀x∈a.toList,x∈a₀) (mb:∀x∈b.toList,x∈a₀) (sa:a.toList.Pairwise (Rl lt)) (sb:b.toList.Pairwise (Rl lt)) (na:0 < a.size) (nb:0 < b.size)
  (h0:∀x∈a.toList,Rl lt (ix b 0) x) (h1:∀y∈b.toList,Rl lt y (ix a (a.size - 1)))
  (h:∀r H,RS a₀ κ st H->NU (Rl lt) (a.toList++b.toList) r.toList->Q r H):wpS (AZ prog w) A E s (mLo a b) Q st:=by
 let T:=Yu ma;let U:=Yu mb;let ua:=Z0 O T sa;let ub:=Z0 O U sb
 let tr:∀x y z:BK,x∈a₀->y∈a₀->z∈a₀->Rl lt x y->Rl lt y z->Rl lt x z:=λx y z hx hy hz h1 h2=>O.ntr x y z hx hy hz h1 h2
 letI M (out:Array BK) (B ib:Nat):Prop:=MI (Rl lt) (a.toList++b.toList) out.toList (a.toList.drop B) (b.toList.drop ib)
 let tA:∀out B ib,M out B ib->B < a.size->(∀j,ib<=j->j < b.size->Rl lt (ix a B) (ix b j))->M (out.push (ix a B)) (B+1) ib:=λout B ib m hia hr=>by
  let R:MI (Rl lt) (a.toList++b.toList) out.toList ([ix a B]++a.toList.drop (B+1)) (b.toList.drop ib):=by rw[JP,<-UH hia];exact m
  let:=R.takeA λx hx y hy=>by
   let#[j,S,L,rfl]:=HU hy;rw[AV.mp hx];exact hr j S L
  simpa[M]using this
 let tB:∀out B ib,M out B ib->ib < b.size->(∀j,B<=j->j < a.size->Rl lt (ix b ib) (ix a j))->M (out.push (ix b ib)) B (ib+1):=λout B ib m hib hr=>by
  let R:MI (Rl lt) (a.toList++b.toList) out.toList (a.toList.drop B) ([ix b ib]++b.toList.drop (ib+1)):=by rw[JP,<-UH hib];exact m
  let:=R.takeB λx hx y hy=>by
   let#[j,S,L,rfl]:=HU hy;rw[AV.mp hx];exact hr j S L
  simpa[M]using this
 let sA:∀out B ib k,M out B ib->B+k<=a.size->(∀i j,i < k->ib<=j->j < b.size->Rl lt (ix a (B+i)) (ix b j))->M (out++a.extract B (B+k)) (B+k) ib:=λout B ib k m hk hr=>by
  let R:MI (Rl lt) (a.toList++b.toList) out.toList ((a.extract B (B+k)).toList++a.toList.drop (B+k)) (b.toList.drop ib):=by rw[<-Kb hk];exact m
  let:=R.takeA λx hx y hy=>by
   let#[j,S,L,rfl]:=HU hy;let#[i,i1,rfl]:=Tv hk hx;exact hr i j i1 S L
  grind
 let sB:∀out B ib k,M out B ib->ib+k<=b.size->(∀i j,i < k->B<=j->j < a.size->Rl lt (ix b (ib+i)) (ix a j))->M (out++b.extract ib (ib+k)) B (ib+k):=λout B ib k m hk hr=>by
  let R:MI (Rl lt) (a.toList++b.toList) out.toList (a.toList.drop B) ((b.extract ib (ib+k)).toList++b.toList.drop (ib+k)):=by rw[<-Kb hk];exact m
  let:=R.takeB λx hx y hy=>by
   let#[j,S,L,rfl]:=HU hy;let#[i,i1,rfl]:=Tv hk hx;exact hr i j i1 S L
  grind
 let eB:∀out B ib,M out B ib->ib=b.size->NU (Rl lt) (a.toList++b.toList) (out++a.extract B a.size++b.extract ib b.size).toList:=λout B ib m e=>by
  subst e
  let R:MI (Rl lt) (a.toList++b.toList) out.toList (a.toList.drop B) []:=by
   let:b.toList.drop b.size=[]:=by simp
   rw[<-this];exact m
  rw[DK,DK,Ol,Ol,show b.toList.drop b.size=[] by simp,CQ];exact R.endA
 let eA:∀out B ib,M out B ib->B=a.size->NU (Rl lt) (a.toList++b.toList) (out++a.extract B a.size++b.extract ib b.size).toList:=λout B ib m e=>by
  subst e
  let R:MI (Rl lt) (a.toList++b.toList) out.toList [] (b.toList.drop ib):=by
   let:a.toList.drop a.size=[]:=by simp
   rw[<-this];exact m
  rw[DK,DK,Ol,Ol,show a.toList.drop a.size=[] by simp,CQ];exact R.endB
 let eL:∀out B ib,M out B ib->B+1=a.size->NU (Rl lt) (a.toList++b.toList) (out++b.extract ib b.size++a.extract B a.size).toList:=λout B ib m e=>by
  let:=m.last λy hy x hx=>by
   let#[j,S,L,rfl]:=HU hx;let#[i,i1,i2,rfl]:=HU hy
   let:j=a.size - 1:=by lia
   grind
  rw[DK,DK,Ol,Ol,BM];exact this
 let m0:M #[] 0 0:=#[by simp,by simp,by simp,by simpa using sa,by simpa using sb]
 let m1:M [ix b 0].toArray 0 1:=by
  let:=tB #[] 0 0 m0 nb λj _ hj=>h0 _ (Bk.mpr (Eb (Ep hj)))
  simpa using this
 letI F (r:Array BK):Prop:=NU (Rl lt) (a.toList++b.toList) r.toList
 refine(Ag (Lr ?_):wpS _ _ _ _ (mLo a b) Q st);refine Cm nb ?_;refine(?_)
 refine EU (λc1=>Ai (h _ st #[g,rfl,rfl] (eB _ _ _ m1 c1))) λc1=>?_
 refine EU (λc2=>Ai (h _ st #[g,rfl,rfl] (eL _ _ _ m1 c2))) λc2=>?_
 refine Ag (Je ?_)
 refine Ls (I:=λx c H=>RS a₀ κ st H/\∃out B ib mg,c=(none,out,B,ib,mg)/\GL M a.size b.size x 1 out B ib)
  (Q:=λc H=>RS a₀ κ st H/\∃r z,c=(!r,z)/\F r) ?step ?fin ?init ?post
 case init=>exact#[#[g,rfl,rfl],_,_,_,_,rfl,m1,by lia,by lia,by decide]
 case fin=>
  rintro c H ⟨_,out,B,ib,mg,_,_,k1,k2,k3⟩
  lia
 case post=>
  rintro F hF c H ⟨s1,r,z,rfl,f⟩;subst hF;exact Ai (h r H s1 f)
 case step=>
  rintro G hG x c Z' _ _ ⟨s1,out,B,ib,mg,rfl,m,k1,k2,k3⟩;subst hG
  refine Ls (I:=λy c H=>H=Z'/\∃X N ς Y Z,c=(none,X,N,ς,Y,Z)/\GL M a.size b.size y (B+ib) X N ς)
   (Q:=λc H=>H=Z'/\((∃r z,c=(!r,z)/\F r)∨∃X N ς Y Z,c=(none,X,N,ς,Y,Z)/\GL M a.size b.size 1 (B+ib) X N ς)) ?step1 ?fin1 ?init1 ?post1
  case init1=>exact#[rfl,out,B,ib,0,0,rfl,m,k1,k2,by ext]
  case fin1=>
   rintro c H ⟨rfl,X,N,ς,Y,Z,rfl,R,q1,q2,q3⟩;exact#[rfl,.inr #[X,N,ς,Y,Z,rfl,R,q1,q2,by lia]]
  case step1=>
   rintro G hG y c H _ _ ⟨rfl,X,N,ς,Y,Z,rfl,R,q1,q2,q3⟩;subst hG
   let q4:N < a.size:=by lia
   refine Cm q2 (Cm q4 (Ag (UU C s1.good (U _ q2) (T _ q4) ?_)))
   cases e:lt (ix b ς) (ix a N)with
   | true=>
    let m2:=tB X N ς R q2 λj S L=>tr _ _ _ (U _ q2) (T _ q4) (T _ L) (O.asym _ _ (U _ q2) (T _ q4) e) (ua N j S L)
    refine Cm q2 (EU (λd=>Ai #[rfl,.inl #[_,_,rfl,eB _ _ _ m2 d]]) λd=>Rc ?_)
    let z:ς+1 < b.size/\B+ib+(y+1)<=N+(ς+1):=by lia
    exact#[#[rfl,.inr #[_,N,ς+1,_,_,rfl,m2,q1,z.1,by lia]],rfl,_,N,ς+1,_,_,rfl,m2,q1,z]
   | false=>
    let m2:=tA X N ς R q4 λj S L=>tr _ _ _ (T _ q4) (U _ q2) (U _ L) e (ub ς j S L)
    refine Cm q4 (EU (λd=>Ai #[rfl,.inl #[_,_,rfl,eL _ _ _ m2 d]]) λd=>Rc ?_)
    let z:N+1+1 < a.size/\B+ib+(y+1)<=N+1+ς:=by lia
    exact#[#[rfl,.inr #[_,N+1,ς,_,_,rfl,m2,z.1,q2,by lia]],rfl,_,N+1,ς,_,_,rfl,m2,z.1,q2,z.2]
  case post1=>
   rintro G hG c H ⟨rfl,⟨r,z,rfl,f⟩ | ⟨X,N,ς,Y,Z,rfl,R⟩⟩ <;> subst hG
   ·exact Ai #[s1,_,_,rfl,f]
   refine Ag (Lr ?_)
   refine Ls (I:=λy c A'=>RS a₀ κ st A'/\∃V' P ϗ ϫ Y Z,c=(none,V',P,ϗ,ϫ,Y,Z)/\GL M a.size b.size 1 (B+ib) V' P ϗ)
    (Q:=λc A'=>RS a₀ κ st A'/\((∃r z,c=(!r,z)/\F r)∨∃V' P ϗ ϫ Y Z,c=(none,V',P,ϗ,ϫ,Y,Z)/\GL M a.size b.size 1 (B+ib) V' P ϗ)) ?step2 ?fin2 ?init2 ?post2
   case init2=>exact#[s1,X,N,ς,mg+1,Y,Z,rfl,R]
   case fin2=>exact λc A' h=>#[h.1,.inr h.2]
   case post2=>
    rintro G hG c A' ⟨s2,⟨r,z,rfl,f⟩ | ⟨V',P,ϗ,ϫ,ac2,bc2,rfl,m2,p1,p2,p3⟩⟩ <;> subst hG
    ·exact Ai #[s2,_,_,rfl,f]
    ·exact Ag (To (Ai #[s2.gal _,V',P,ϗ,ϫ+1,rfl,m2,p1,p2,by lia]))
   case step2=>
    rintro G hG y c A' _ _ ⟨s2,V',P,ϗ,ϫ,ac2,bc2,rfl,m2,p1,p2,p3⟩;subst hG;symm
    revert ϫ
    refine kY (λmg3=>?_) λt i=>t _
    refine Ag (To (Cm p2 ?_));let s3:=s2.gal mg3;refine Ag (Ih C s3.good (λi=>not (lt (ix b ϗ) (ix a (P+i)))) (U _ p2) (λi hi=>#[by lia,T _ ∅]) (λi hi=>rfl) (λi j hij hj e=>?_) (by grind) λk hk k1 k2=>?_)
    ·let e':lt (ix b ϗ) (ix a (P+j))=false:=by simpa using e
     let:=tr _ _ _ (T _ ∅) (T _ ∅) (U _ p2) (ua (P+i) (P+j) (by ext) ∅) e'
     ext
    let far:∀j,P+k<=j->j < a.size->Rl lt (ix b ϗ) (ix a j):=λj S L=>by
     let:=k2 (j - P) ∅ ∅;rw[show P+(j - P)=j by lia]at this;exact O.asym _ _ (U _ p2) (T _ L) (by ext)
    let m5:=sA V' P ϗ k m2 ∅ λi j hi S L=>tr _ _ _ (T _ ∅) (U _ p2) (U _ L) (by simpa using k1 i hi) (ub ϗ j S L)
    generalize ho:V'=o;generalize hi:P=i
    revert o i
    refine Tl (λo i=>M o i ϗ/\i+1 < a.size/\i=P+k) ?_ (λt hk0=>?_) λhk0=>#[m2,p1,by ext]
    case refine_2=>
     refine EU (λd=>Ai #[s3,.inl #[_,_,rfl,eL _ _ _ m5 d]]) λd1=>?_
     exact EU (λd=>Ai #[s3,.inl #[_,_,rfl,eA _ _ _ m5 d]]) λd2=>t _ _ #[m5,by grind,rfl]
    rintro out3 J ⟨m3,c1,hi3⟩
    let c3:B+ib+1<=J+ϗ:=by lia
    let c4:J < a.size:=by lia
    let m4:=tB _ _ _ m3 p2 λj h=>far j (hi3▸h)
    refine Cm p2 (EU (λd=>Ai #[s3,.inl #[_,_,rfl,eB _ _ _ m4 d]]) λd=>Cm c4 ?_)
    let c5:ϗ+1 < b.size:=by lia
    let c6:B+ib+1+1<=J+(ϗ+1):=by grind
    generalize out3.push (ix b ϗ)=out4 at m4 ⊢;generalize ϗ+1=ib4 at m4 c5 c6 ⊢;refine Ag (Ih C s3.good (λi=>lt (ix b (ib4+i)) (ix a J)) (T _ c4) (λi hi=>#[by lia,U _ ∅]) (λi hi=>rfl) (λi j hij hj e=>?_) (by grind) λk3 hk3 k4 k5=>?_)
    ·cases e2:lt (ix b (ib4+i)) (ix a J)with
     | true=>rfl
     | false=>
      let:=tr _ _ _ (T _ c4) (U _ ∅) (U _ ∅) e2 (ub (ib4+i) (ib4+j) ∅ ∅)
      ext
    let far2:∀j,ib4+k3<=j->j < b.size->Rl lt (ix a J) (ix b j):=λj S L=>by
     let:=k5 (j - ib4) ∅ ∅;rwa [show ib4+(j - ib4)=j by lia]at this
    let m6:=sB _ J ib4 k3 m4 ∅ λi j hi S L=>tr _ _ _ (U _ ∅) (T _ c4) (T _ L) (O.asym _ _ (U _ ∅) (T _ c4) (k4 i hi)) (ua J j S L)
    generalize ho:out4=o;generalize hi:ib4=i
    revert o i
    refine Tl (λo j=>M o J j/\j < b.size/\j=ib4+k3) ?_ (λt hk3=>EU (λd=>Ai #[s3,.inl #[_,_,rfl,eB _ _ _ m6 d]]) λd=>t _ _ #[m6,by grind,rfl]) λhk3=>#[m4,c5,by lia]
    rintro out5 ib5 ⟨m5,c7,hi5⟩
    let m7:=tA _ _ _ m5 c4 λj h=>far2 j (hi5▸h)
    refine Cm c4 (EU (λd=>Ai #[s3,.inl #[_,_,rfl,eL _ _ _ m7 d]]) λd=>Rc ?_)
    let z:J+1+1 < a.size/\ib5 < b.size/\B+ib+1<=J+1+ib5:=by lia
    exact#[#[s3,.inr #[_,J+1,ib5,_,_,_,rfl,m7,z]],s3,_,J+1,ib5,_,_,_,rfl,m7,z]
end
theorem MI.last2(m:MI R T o g i)(h:∀x∈g,∀y∈i,R x y):NU R T (o++(g++i)):=by
 refine#[m.perm,Ba.mpr #[m.srt,Ba.mpr #[m.sa,m.sb,h],λx s y A=>m.low x s y A]]
theorem NU.rev(f:NU (λx y=>Rl lt y x) T r):NU (Rl lt) T r.reverse:=#[r.reverse_perm.trans f.perm,List.pairwise_reverse.mpr f.srt]
theorem fJ(h:i < a.size):(a.toList.take (i+1)).reverse=ix a i :: (a.toList.take i).reverse:=by
 let:=Ep h;rw[getElem?_pos a i h]at this;rw[DJ,show a.toList[i]?=!ix a i by ext];simp
theorem Z2{a:Array BK}{i n:Nat}(h:i<=n)(g:n<=a.size):(a.toList.take n).reverse=(a.extract i n).toList.reverse++(a.toList.take i).reverse:=by
 let e:(a.extract i n).toList=(a.toList.take n).drop i:=by simp[bm,List.drop_take]
 rw[e,<-List.reverse_append]
 congr 1
 let:=JO i (a.toList.take n)
 grind
theorem HS(g:x∈(a.toList.take n).reverse):∃j,j < n/\j < a.size/\x=ix a j:=by
 rw[pd]at g;let#[k,m,rfl]:=ej.mp g;simp at m;refine#[k,by grind,by grind,?_];let:=Ep (xs:=a) (i:=k) ∅;rw[getElem?_pos a _ ∅]at this;ext
theorem ao(g:x∈(a.extract i n).toList.reverse):∃j,i<=j/\j < n/\j < a.size/\x=ix a j:=by
 rw[pd,Bk,Tj]at g;let#[j,m,rfl]:=g;refine#[i+j,by ext,by lia,by lia,?_];let:=Ep (xs:=a) (i:=i+j) (by omega);rw[getElem?_pos a _ ∅]at this;ext
theorem zd(a:Array BK)(n:Nat):(a.extract 0 n).toList=a.toList.take n:=by ext
section
abbrev GH(M:Array BK->Nat->Nat->Prop)(p q n t:Nat)(o:Array BK)(i j:Nat):Prop:=M o i j/\0 < i/\1 < j/\i<=p/\j<=q/\i+j+n<=t
theorem qU{st:BG}{a b:Array BK}{Q:Array BK->BG->Prop}(C:NK prog w A s H κ lt)(O:Ord (·∈H) lt)(g:Good H κ st)
  (ma:∀x∈a.toList,x∈H) (mb:∀x∈b.toList,x∈H) (sa:a.toList.Pairwise (Rl lt)) (sb:b.toList.Pairwise (Rl lt)) (pa:0 < a.size) (pb:0 < b.size)
  (h0:∀x∈a.toList,Rl lt (ix b 0) x) (h1:∀y∈b.toList,Rl lt y (ix a (a.size - 1)))
  (h:∀r J,RS H κ st J->NU (Rl lt) (a.toList++b.toList) r.toList->Q r J):wpS (AZ prog w) A E s (mHi a b) Q st:=by
 let U:=Yu ma;let X:=Yu mb;let ua:=Z0 O U sa;let ub:=Z0 O X sb
 let tr:∀x y z:BK,x∈H->y∈H->z∈H->Rl lt x y->Rl lt y z->Rl lt x z:=λx y z hx hy hz h1 h2=>O.ntr x y z hx hy hz h1 h2
 letI M (out:Array BK) (B nb:Nat):Prop:=MI (λx y=>Rl lt y x) (a.toList++b.toList) out.toList (a.toList.take B).reverse (b.toList.take nb).reverse
 let tA0:∀out B nb,M out (B+1) nb->B < a.size->nb<=b.size->(∀j,j < nb->Rl lt (ix b j) (ix a B))->M (out.push (ix a B)) B nb:=λout B nb m S T hr=>by
  let R:MI (λx y=>Rl lt y x) (a.toList++b.toList) out.toList ([ix a B]++(a.toList.take B).reverse) (b.toList.take nb).reverse:=by rw[JP,<-fJ S];exact m
  let:=R.takeA λx hx y hy=>by
   let#[j,Y,j2,rfl]:=HS hy;rw[AV.mp hx];exact hr j Y
  simpa[M]using this
 let tB0:∀out B nb,M out B (nb+1)->nb < b.size->B<=a.size->(∀j,j < B->Rl lt (ix a j) (ix b nb))->M (out.push (ix b nb)) B nb:=λout B nb m T S hr=>by
  let R:MI (λx y=>Rl lt y x) (a.toList++b.toList) out.toList (a.toList.take B).reverse ([ix b nb]++(b.toList.take nb).reverse):=by rw[JP,<-fJ T];exact m
  let:=R.takeB λx hx y hy=>by
   let#[j,Y,j2,rfl]:=HS hy;rw[AV.mp hx];exact hr j Y
  simpa[M]using this
 let tA:∀out B nb,M out B nb->0 < B->B<=a.size->nb<=b.size->(∀j,j < nb->Rl lt (ix b j) (ix a (B - 1)))->M (out.push (ix a (B - 1))) (B - 1) nb:=λout B nb m h0 S T hr=>
  tA0 out (B - 1) nb (by rw[show B - 1+1=B by lia];exact m) (by grind) T hr
 let tB:∀out B nb,M out B nb->0 < nb->nb<=b.size->B<=a.size->(∀j,j < B->Rl lt (ix a j) (ix b (nb - 1)))->M (out.push (ix b (nb - 1))) B (nb - 1):=λout B nb m h0 T S hr=>
  tB0 out B (nb - 1) (by rw[show nb - 1+1=nb by lia];exact m) ∅ S hr
 let sA:∀out B nb k,M out B nb->k<=B->B<=a.size->nb<=b.size->(∀i j,k<=i->i < B->j < nb->Rl lt (ix b j) (ix a i))->M (out++(a.extract k B).reverse) k nb:=λout B nb k m hk S T hr=>by
  let R:MI (λx y=>Rl lt y x) (a.toList++b.toList) out.toList ((a.extract k B).toList.reverse++(a.toList.take k).reverse) (b.toList.take nb).reverse:=by rw[<-Z2 hk S];exact m
  let:=R.takeA λx hx y hy=>by
   let#[j,Y,j2,rfl]:=HS hy;let#[i,i1,i2,i3,rfl]:=ao hx;exact hr i j i1 i2 Y
  show MI _ _ (out++(a.extract k B).reverse).toList _ _;ext
 let sB:∀out B nb k,M out B nb->k<=nb->nb<=b.size->B<=a.size->(∀i j,k<=i->i < nb->j < B->Rl lt (ix a j) (ix b i))->M (out++(b.extract k nb).reverse) B k:=λout B nb k m hk T S hr=>by
  let R:MI (λx y=>Rl lt y x) (a.toList++b.toList) out.toList (a.toList.take B).reverse ((b.extract k nb).toList.reverse++(b.toList.take k).reverse):=by rw[<-Z2 hk T];exact m
  let:=R.takeB λx hx y hy=>by
   let#[j,Y,j2,rfl]:=HS hy;let#[i,i1,i2,i3,rfl]:=ao hx;exact hr i j i1 i2 Y
  show MI _ _ (out++(b.extract k nb).reverse).toList _ _;ext
 let eA:∀out B nb,M out B nb->B=0->NU (Rl lt) (a.toList++b.toList) (a.extract 0 B++b.extract 0 nb++out.reverse).toList:=λout B nb m e=>by
  subst e
  let R:MI (λx y=>Rl lt y x) (a.toList++b.toList) out.toList [] (b.toList.take nb).reverse:=by simpa[M]using m
  let:=R.endB.rev;ext
 let eB:∀out B nb,M out B nb->nb=0->NU (Rl lt) (a.toList++b.toList) (a.extract 0 B++b.extract 0 nb++out.reverse).toList:=λout B nb m e=>by
  subst e
  let R:MI (λx y=>Rl lt y x) (a.toList++b.toList) out.toList (a.toList.take B).reverse []:=by simpa[M]using m
  let:=R.endA.rev;ext
 let eF:∀out B nb,M out B nb->nb=1->NU (Rl lt) (a.toList++b.toList) (b.extract 0 nb++a.extract 0 B++out.reverse).toList:=λout B nb m e=>by
  let:=m.last2 λx hx y hy=>by
   let#[j,Y,j2,rfl]:=HS hx;let#[i,i1,i2,rfl]:=HS hy
   let:i=0:=by ext
   subst this;exact h0 _ (Bk.mpr (Eb (Ep j2)))
  let:=this.rev;ext
 let m0:M #[] a.size b.size:=by
  refine#[?_,by simp,by simp,?_,?_]
  ·rw[CI ∅,CI ∅]
   simpa using List.Perm.append a.toList.reverse_perm b.toList.reverse_perm
  ·grind
  ·grind
 let m1:M [ix a (a.size - 1)].toArray (a.size - 1) b.size:=by
  let:=tA #[] a.size b.size m0 pa (AO _) (AO _) λj hj=>h1 _ (Bk.mpr (Eb (Ep hj)))
  simpa using this
 letI F (r:Array BK):Prop:=NU (Rl lt) (a.toList++b.toList) r.toList
 refine(Ag (Lr ?_):wpS _ _ _ _ (mHi a b) Q st);refine Cm (i:=a.size - 1) (by omega) ?_;refine(show wpS (AZ prog w) A E s (if (a.size - 1==0) then _ else _) Q st from ?_)
 refine EU (λc1=>Ai (h _ st #[g,rfl,rfl] (eA _ _ _ m1 c1))) λc1=>?_
 refine EU (λc2=>Ai (h _ st #[g,rfl,rfl] (eF _ _ _ m1 c2))) λc2=>?_
 refine Ag (Je ?_)
 refine Ls (I:=λx c J=>RS H κ st J/\∃out B nb mg,c=(none,B,nb,out,mg)/\GH M a.size b.size (1+x) (a.size+b.size) out B nb)
  (Q:=λc J=>RS H κ st J/\∃r z,c=(!r,z)/\F r) ?step ?fin ?init ?post
 case init=>exact#[#[g,rfl,rfl],_,a.size - 1,b.size,_,rfl,m1,by lia,by lia,by ext,by ext,by lia]
 case fin=>
  rintro c J ⟨_,out,B,nb,mg,_,_,k1,k2,k3,k4,k5⟩
  lia
 case post=>
  rintro G hG c J ⟨s1,r,z,rfl,f⟩;subst hG;exact Ai (h r J s1 f)
 case step=>
  rintro G hG x c Z' _ _ ⟨s1,out,B,nb,mg,rfl,m,k1,k2,k3,k4,k5⟩;subst hG
  refine Ls (I:=λy c J=>J=Z'/\∃Z L N ac bc,c=(none,L,N,Z,ac,bc)/\GH M a.size b.size y (B+nb) Z L N)
   (Q:=λc J=>J=Z'/\((∃r z,c=(!r,z)/\F r)∨∃Z L N ac bc,c=(none,L,N,Z,ac,bc)/\GH M a.size b.size 1 (B+nb) Z L N)) ?step1 ?fin1 ?init1 ?post1
  case init1=>exact#[rfl,out,B,nb,0,0,rfl,m,k1,k2,k3,k4,by ext]
  case fin1=>
   rintro c J ⟨rfl,Z,L,N,ac,bc,rfl,R,q1,q2,q3,q4,q5⟩;exact#[rfl,.inr #[Z,L,N,ac,bc,rfl,R,q1,q2,q3,q4,by grind]]
  case step1=>
   rintro G hG y c J _ _ ⟨rfl,Z,L,N,ac,bc,rfl,R,q1,q2,q3,q4,q5⟩;subst hG
   let q6:L - 1 < a.size:=by lia
   let q7:N - 1 < b.size:=by grind
   refine Cm q7 (Cm q6 (Ag (UU C s1.good (X _ q7) (U _ q6) ?_)))
   cases e:lt (ix b (N - 1)) (ix a (L - 1))with
   | true=>
    let m2:=tA Z L N R q1 q3 q4 λj Y=>tr _ _ _ (X _ ∅) (X _ q7) (U _ q6) (ub j (N - 1) (by grind) q7) (O.asym _ _ (X _ q7) (U _ q6) e)
    refine Cm q6 (EU (λd=>Ai #[rfl,.inl #[_,_,rfl,eA _ _ _ m2 d]]) λd=>Rc ?_)
    let z:0 < L - 1/\L - 1<=a.size/\L - 1+N+(y+1)<=B+nb:=by lia
    exact#[#[rfl,.inr #[_,L - 1,N,_,_,rfl,m2,z.1,q2,z.2.1,q4,by lia]],rfl,_,L - 1,N,_,_,rfl,m2,z.1,q2,z.2.1,q4,z.2.2]
   | false=>
    let m2:=tB Z L N R ∅ q4 q3 λj Y=>tr _ _ _ (U _ ∅) (U _ q6) (X _ q7) (ua j (L - 1) (by grind) q6) e
    refine Cm q7 (EU (λd=>Ai #[rfl,.inl #[_,_,rfl,eF _ _ _ m2 d]]) λd=>Rc ?_)
    let z:1 < N - 1/\N - 1<=b.size/\L+(N - 1)+(y+1)<=B+nb:=by lia
    exact#[#[rfl,.inr #[_,L,N - 1,_,_,rfl,m2,q1,z.1,q3,z.2.1,by lia]],rfl,_,L,N - 1,_,_,rfl,m2,q1,z.1,q3,z.2.1,z.2.2]
  case post1=>
   rintro G hG c J ⟨rfl,⟨r,z,rfl,f⟩ | ⟨Z,L,N,ac,bc,rfl,R⟩⟩ <;> subst hG
   ·exact Ai #[s1,_,_,rfl,f]
   refine Ag (Lr ?_)
   refine Ls (I:=λy c A'=>RS H κ st A'/\∃V' Ϭ P ϫ ac bc,c=(none,Ϭ,P,V',ϫ,ac,bc)/\GH M a.size b.size 1 (B+nb) V' Ϭ P)
    (Q:=λc A'=>RS H κ st A'/\((∃r z,c=(!r,z)/\F r)∨∃V' Ϭ P ϫ ac bc,c=(none,Ϭ,P,V',ϫ,ac,bc)/\GH M a.size b.size 1 (B+nb) V' Ϭ P)) ?step2 ?fin2 ?init2 ?post2
   case init2=>exact#[s1,Z,L,N,mg+1,ac,bc,rfl,R]
   case fin2=>exact λc A' h=>#[h.1,.inr h.2]
   case post2=>
    rintro G hG c A' ⟨s2,⟨r,z,rfl,f⟩ | ⟨V',Ϭ,P,ϫ,ac2,bc2,rfl,m2,p1,p2,p3,p4,p5⟩⟩ <;> subst hG
    ·exact Ai #[s2,_,_,rfl,f]
    ·exact Ag (To (Ai #[s2.gal _,V',Ϭ,P,ϫ+1,rfl,m2,p1,p2,p3,p4,by lia]))
   case step2=>
    rintro G hG y c A' _ _ ⟨s2,V',Ϭ,P,ϫ,ac2,bc2,rfl,m2,p1,p2,p3,p4,p5⟩;subst hG;symm
    revert ϫ
    refine kY (λmg3=>?_) λt i=>t _
    let s3:=s2.gal mg3
    let p6:P - 1 < b.size:=by lia
    refine Ag (To (Cm p6 ?_));refine Ag (Ih (base:=0) (n:=Ϭ) (hint:=Ϭ - 1) (arr:=a) (key:=ix b (P - 1)) (left:=false) C s3.good (λi=>not (lt (ix b (P - 1)) (ix a (0+i)))) (X _ p6) (λi hi=>#[by lia,U _ ∅]) (λi hi=>rfl) (λi j hij hj e=>?_) ∅ λk hk k1 k2=>?_)
    ·let e':lt (ix b (P - 1)) (ix a (0+j))=false:=by simpa using e
     let:=tr _ _ _ (U _ ∅) (U _ ∅) (X _ p6) (ua (0+i) (0+j) (by ext) ∅) e'
     ext
    let near:∀j,j < k->Rl lt (ix a j) (ix b (P - 1)):=λj Y=>by
     grind
    let m5:=sA V' Ϭ P k m2 hk p3 p4 λi j i1 i2 Y=>by
     let:=k2 i i1 i2;rw[TJ]at this;exact tr _ _ _ (X _ ∅) (X _ p6) (U _ ∅) (ub j (P - 1) ∅ p6) (O.asym _ _ (X _ p6) (U _ ∅) ∅)
    symm;generalize hk6:Ϭ - k=k6;generalize ho:V'=o;generalize hi:Ϭ=i
    revert o i
    refine Tl (λo i=>M o i P/\0 < i/\i=k) ?_ (λt hk0=>EU (λd=>Ai #[s3,.inl #[_,_,rfl,eA _ _ _ m5 d]]) λd=>t (V'++(a.extract k Ϭ).reverse) k #[m5,by lia,rfl]) λhk0=>#[m2,p1,by grind]
    rintro out3 ϭ ⟨m3,c1,hi3⟩
    let c4:ϭ - 1 < a.size:=by grind
    let c5:ϭ<=Ϭ:=by ext
    let m4:=tB _ _ _ m3 ∅ p4 ∅ λj h=>near j (hi3▸h)
    refine Cm p6 (EU (λd=>Ai #[s3,.inl #[_,_,rfl,eF _ _ _ m4 d]]) λd=>Cm c4 ?_)
    let c6:1 < P - 1/\P - 1 < b.size/\ϭ+(P - 1)+2<=B+nb:=by lia
    generalize out3.push (ix b (P - 1))=out4 at m4 ⊢;generalize P - 1=nb4 at m4 c6 ⊢;let#[c6,c7,c8]:=c6;refine Ag (Ih (base:=0) (n:=nb4) (hint:=nb4 - 1) (arr:=b) (key:=ix a (ϭ - 1)) (left:=true) C s3.good (λi=>lt (ix b (0+i)) (ix a (ϭ - 1))) (U _ c4) (λi hi=>#[by lia,X _ ∅]) (λi hi=>rfl) (λi j hij hj e=>?_) ∅ λk3 hk3 k4 k5=>?_)
    ·cases e2:lt (ix b (0+i)) (ix a (ϭ - 1))with
     | true=>rfl
     | false=>
      let:=tr _ _ _ (U _ c4) (X _ ∅) (X _ ∅) e2 (ub (0+i) (0+j) ∅ ∅)
      ext
    let near2:∀j,j < k3->Rl lt (ix b j) (ix a (ϭ - 1)):=λj Y=>by
     let:=k4 j Y;rw[TJ]at this;exact O.asym _ _ (X _ ∅) (U _ c4) this
    let m6:=sB _ ϭ nb4 k3 m4 hk3 ∅ ∅ λi j i1 i2 Y=>by
     let:=k5 i i1 i2;rw[TJ]at this;exact tr _ _ _ (U _ ∅) (U _ c4) (X _ ∅) (ua j (ϭ - 1) (by grind) c4) this
    symm;generalize hk7:nb4 - k3=k7;generalize ho:out4=o;generalize hi:nb4=i
    revert o i
    refine Tl (λo j=>M o ϭ j/\1 < j/\j<=nb4/\j=k3) ?_ (λt hk4=>?_) λhk4=>#[m4,c6,AO _,by lia]
    case refine_2=>
     refine EU (λd=>Ai #[s3,.inl #[_,_,rfl,eF _ _ _ m6 d]]) λd2=>?_
     exact EU (λd=>Ai #[s3,.inl #[_,_,rfl,eB _ _ _ m6 d]]) λd4=>t (out4++(b.extract k3 nb4).reverse) k3 #[m6,by lia,by ext,rfl]
    rintro out5 nb5 ⟨m5,c9,c10,hi5⟩
    let m7:=tA _ _ _ m5 c1 ∅ (by grind) λj h=>near2 j (hi5▸h)
    refine Cm c4 (EU (λd=>Ai #[s3,.inl #[_,_,rfl,eA _ _ _ m7 d]]) λd=>Rc ?_)
    let z:0 < ϭ - 1/\1 < nb5/\ϭ - 1<=a.size/\nb5<=b.size/\ϭ - 1+nb5+1<=B+nb:=by grind
    exact#[#[s3,.inr #[_,ϭ - 1,nb5,_,_,_,rfl,m7,z]],s3,_,ϭ - 1,nb5,_,_,_,rfl,m7,z]
end
noncomputable def wr(arr:Array BK)(g:Nat)(l:¬(BK×Nat)):Array BK:=l.foldl (λa (x:BK×Nat)=>match x with | (p,j)=>a.setIfInBounds (g+j) p) arr
theorem YB(g:Nat):∀(l:¬BK) (k:Nat) (arr:Array BK),g+k+-l<=arr.size->(wr arr g (l.zipIdx k)).toList=arr.toList.take (g+k)++l++arr.toList.drop (g+k+-l)
 | [],k,arr,h=>by simp[wr]
 | x :: l,k,arr,h=>by
  rw[Az]at h;let e:wr arr g ((x :: l).zipIdx k)=wr (arr.setIfInBounds (g+k) x) g (l.zipIdx (k+1)):=rfl;rw[e,YB g l (k+1) _ (by simp;lia)]
  let i:g+k < -arr.toList:=by simp;lia
  rw[Wa,Az,show g+(k+1)=g+k+1 by rfl];rw[DJ,List.take_set_of_le (AO _),An i,List.drop_set_of_lt ∅];simp[show g+k+1+-l=g+k+(-l+1) by lia]
theorem ix_list(a:Array BK)(i:Nat):ix a i=(a.toList[i]?).getD (.none,.none):=by
 unfold ix;ext
set_option tactic.hygienic true in
theorem nj(h:sa+m.size<=arr.size)(i:Nat):ix (wr arr sa m.toList.zipIdx) i=if i < sa then ix arr i else if i < sa+m.size then ix m (i - sa)else ix arr i:=by
 let e:=YB sa m.toList 0 arr (by simpa using h);rw[ix_list,show m.toList.zipIdx=m.toList.zipIdx 0 from rfl,e,zq]
 let o:-arr.toList.take sa=sa:=by simp;lia
 split
 ·rename_i g
  rw[BM,Ah (by ext),ZY g,ix_list]
 ·rename_i g
  split
  ·rename_i s
   rw[BM,BE (by ext),o,Ah (by simp;grind),ix_list]
  ·rename_i s
   rw[BE (by simp;ext),Hg,ix_list];ext
theorem sQ{arr m:Array BK}{g:Nat}(h:g+m.size<=arr.size)(i:m.toList.Perm (arr.extract g (g+m.size)).toList):(wr arr g m.toList.zipIdx).Perm arr:=by
 rw[Gk];let e:=YB g m.toList 0 arr (by simpa using h);rw[show m.toList.zipIdx=m.toList.zipIdx 0 from rfl,e,zq]
 let o:arr.toList=arr.toList.take g++(arr.extract g (g+m.size)).toList++arr.toList.drop (g+-m.toList):=by
  rw[BM,CW,<-Kb h,JO]
 conv=>rhs;rw[o]
 exact WW _ (MV _ i)
theorem dZ{a:Array BK}{lo hi i:Nat}(h:hi<=a.size)(g:i < hi - lo):ix (a.extract lo hi) i=ix a (lo+i):=by
 apply L9
 ext
section
variable{prog:BP}{w:Bx}{A:Bq}{E:AH->AM->Prop}{s:AM}{a₀:Array BK}{κ:RZ}{lt:BK->BK->Bool}
theorem lI{a:Array BK}{lo hi:Nat}(h:hi<=a.size)(u:Up lt a lo hi):(a.extract lo hi).toList.Pairwise (Rl lt):=by
 rw[La];intro i j g B C;simp at g B
 let e:∀k (m:k < -(a.extract lo hi).toList),(a.extract lo hi).toList[k]=ix a (lo+k):=λk m=>by
  let o:k < (a.extract lo hi).size:=by rw[CW]at m;exact m
  let:=Ep o;rw[getElem?_pos (a.extract lo hi) k o]at this
  let G:(a.extract lo hi).size=hi - lo:=by simp;ext
  rw[<-dZ h ∅]
  ext
 rw[e,e];exact u _ _ (by ext) ∅ (by grind)
theorem qS{st g:BG}{Q:PUnit->BG->Prop}(h:Q ⟨⟩ g):wpS (AZ prog w) A E s (set g:StateT BG Sem PUnit) Q st:=Ai h
theorem Zl{st}{i m o pw sb J pw2}{Q}(C:NK prog w A s a₀ κ lt)(O:Ord (·∈a₀) lt)(g:Good a₀ κ st)
  (e1:(Ae st)[i]?=!(m,o,pw)) (e2:(Ae st)[i+1]?=!(sb,J,pw2)) (hab:sb=m+o) (hna:1<=o) (hnb:1<=J) (hs:sb+J<=a₀.size)
  (ua:Up lt (Ad st) m (m+o)) (ub:Up lt (Ad st) sb (sb+J))
  (h:∀B,Good a₀ κ B->Ae B=((Ae st).setIfInBounds i (m,o+J,pw)).eraseIdxIfInBounds (i+1)->Up lt (Ad B) m (m+(o+J))->Out (Ad st) (Ad B) m (m+(o+J))->Q true B) :
  wpS (AZ prog w) A E s (mergeAt' i) Q st:=by
 subst hab;let hsz:=g.size
 let mem:∀j,j < a₀.size->ix (Ad st) j∈a₀:=λj hj=>g.mem hj
 let tr:∀x y z:BK,x∈a₀->y∈a₀->z∈a₀->Rl lt x y->Rl lt y z->Rl lt x z:=λx y z hx hy G L I=>O.ntr x y z hx hy G L I
 refine(Ag (Je ?_):wpS _ _ _ _ (mergeAt' i) Q st);rw[show(sortPriv% PySem.Builtin.SortState.pending) st=Ae st from rfl,e1,e2];refine Ag (qS ?_);generalize N:((sortPriv% PySem.Builtin.SortState.mk) (kindOf st) (Ad st) (((Ae st).setIfInBounds i (m,o+J,pw)).eraseIdxIfInBounds (i+1)) (gallopOf st) (Kj st))=Z'
 let g1:Good a₀ κ Z':=by subst N;exact#[g.perm,g.kind,g.failed]
 let a1:Ad Z'=Ad st:=by subst N;rfl
 let p1:Ae Z'=((Ae st).setIfInBounds i (m,o+J,pw)).eraseIdxIfInBounds (i+1):=by subst N;rfl
 refine Ag (UV ∅ ?_);refine Ag (Ih C g1 (λj=>not (lt (ix (Ad st) (m+o)) (ix (Ad st) (m+j)))) (mem _ ∅) (λj hj=>#[by lia,mem _ ∅]) (λj hj=>rfl) (λx y hxy hy e=>?_) (by trivial) λk hk k1 k2=>?_)
 ·let e':lt (ix (Ad st) (m+o)) (ix (Ad st) (m+y))=false:=by simpa using e
  let:=tr _ _ _ (mem _ ∅) (mem _ ∅) (mem _ ∅) (ua (m+x) (m+y) ∅ (by ext) (by ext)) e'
  ext
 let low:∀j,m<=j->j < m+k->Rl lt (ix (Ad st) j) (ix (Ad st) (m+o)):=λj H U=>by
  let:=k1 (j - m) (by grind);rw[show m+(j - m)=j by ext]at this
  lia
 let Z:∀i j,m<=i->i < m+k->m+o<=j->j < m+o+J->Rl lt (ix (Ad st) i) (ix (Ad st) j):=λi j Y i2 H U=>tr _ _ _ (mem _ ∅) (mem _ ∅) (mem _ ∅) (low i Y i2) (ub _ _ (by ext) (by ext) (by ext))
 let R:(∀j,m<=j->j < m+o->Rl lt (ix (Ad st) j) (ix (Ad st) (m+o)))->Up lt (Ad st) m (m+(o+J)):=λhh x y L I h3=>by
  by_cases c1:y < m+o
  ·exact ua x y L I c1
  by_cases c2:x < m+o
  ·exact tr _ _ _ (mem _ ∅) (mem _ ∅) (mem _ ∅) (hh x L c2) (ub _ _ ∅ (by ext) ∅)
  ·exact ub x y ∅ I ∅
 refine(show wpS (AZ prog w) A E s (if (o - k==0) then _ else _) Q Z' from ?_)
 by_cases c1:o - k=0
 ·rw[qX (by simpa using c1)]
  refine Ai (h Z' g1 p1 ?_ (by rw[a1];exact .refl));rw[a1]
  exact R λj H U=>low j H (by grind)
 rw[qY (by simpa using c1)];refine Ag (UV (a:=Ad st) (by grind) ?_);rw[show m+k+(o - k) - 1=m+o - 1 by lia];refine Ag (Ih C g1 (λj=>lt (ix (Ad st) (m+o+j)) (ix (Ad st) (m+o - 1))) (mem _ ∅) (λj hj=>#[by lia,mem _ ∅]) (λj hj=>rfl) (λx y hxy hy e=>?_) ∅ λk3 hk3 k4 k5=>?_)
 ·cases e2:lt (ix (Ad st) (m+o+x)) (ix (Ad st) (m+o - 1))with
  | true=>rfl
  | false=>
   let:=tr _ _ _ (mem _ ∅) (mem _ ∅) (mem _ ∅) e2 (ub (m+o+x) (m+o+y) (by ext) (by ext) (by ext))
   ext
 let high:∀j,m+o+k3<=j->j < m+o+J->Rl lt (ix (Ad st) (m+o - 1)) (ix (Ad st) j):=λj H U=>by
  let:=k5 (j - (m+o)) ∅ ∅;rwa [show m+o+(j - (m+o))=j by lia]at this
 refine(show wpS (AZ prog w) A E s (if (k3==0) then _ else _) Q Z' from ?_)
 by_cases c2:k3=0
 ·rw[qX (by simpa using c2)]
  refine Ai (h Z' g1 p1 ?_ (by rw[a1];exact .refl));rw[a1]
  exact R λj H U=>tr _ _ _ (mem _ ∅) (mem _ ∅) (mem _ ∅) (ua j (m+o - 1) (by ext) ∅ ∅) (high _ (by ext) ∅)
 rw[qY (by simpa using c2)]
 letI x:=(Ad st).extract (m+k) (m+o)
 letI y:=(Ad st).extract (m+o) (m+o+k3)
 let xs:x.size=o - k:=by simp[x];lia
 let ys:y.size=k3:=by simp[y];lia
 let ixx:∀j,j < o - k->ix x j=ix (Ad st) (m+k+j):=λj hj=>dZ ∅ ∅
 let ixy:∀j,j < k3->ix y j=ix (Ad st) (m+o+j):=λj hj=>dZ ∅ (by ext)
 let S:∀z∈x.toList,∃j,j < o - k/\z=ix (Ad st) (m+k+j):=λz G=>by
  let G:z∈((Ad st).extract (m+k) (m+k+(o - k))).toList:=by rw[show m+k+(o - k)=m+o by grind];exact G
  exact Tv (by grind) G
 let T:∀z∈y.toList,∃j,j < k3/\z=ix (Ad st) (m+o+j):=λz G=>Tv ∅ G
 let fin:∀(r:Array BK) (B:BG),RS a₀ κ Z' B->NU (Rl lt) (x.toList++y.toList) r.toList->∀A':BG,Ad A'=wr (Ad B) (m+k) r.toList.zipIdx->kindOf A'=kindOf B->Kj A'=Kj B->Ae A'=Ae B->Q true A':=by
  intro r B X f A' q1 q2 q3 q4
  let hr:r.size=o - k+k3:=by
   let:=f.perm.length_eq;simp only[Aa,CW]at this
   ext
  let ha:=X.arr.trans a1;rw[ha]at q1
  let hb:m+k+r.size<=(Ad st).size:=by grind
  let mm:∀t,t < r.size->∃t',ix r t=ix (Ad st) t'/\m+k<=t'/\t' < m+o+k3:=λt ht=>by
   let:ix r t∈r.toList:=Bk.mpr (Eb (Ep ht))
   rcases BO.mp (f.perm.mem_iff.mp this)with h | h
   ·let#[j,H,e]:=S _ h
    exact#[_,e,by lia,by grind]
   ·let#[j,H,e]:=T _ h
    exact#[_,e,by lia,by lia]
  let rs:=Z0 O (λt ht=>by
   let#[t',e,_,_]:=mm t ht;rw[e]
   exact mem _ ∅) f.srt
  refine h A' #[?_,?_,?_] (q4.trans (X.pend.trans p1)) ?_ ?_
  ·rw[q1]
   refine(sQ hb (f.perm.trans ?_)).trans g.perm
   let:(Ad st).toList.drop (m+k)=x.toList++(Ad st).toList.drop (m+o):=by
    let:=Kb (a:=Ad st) (i:=m+k) (k:=o - k) ∅;rw[show m+k+(o - k)=m+o by grind]at this;exact this
   let I:(Ad st).toList.drop (m+o)=y.toList++(Ad st).toList.drop (m+o+k3):=Kb ∅;let h3:=Kb hb;rw[this,I,<-BM,show m+k+r.size=m+o+k3 by grind]at h3;rw[show m+k+r.size=m+o+k3 by lia];exact List.Perm.of_eq (List.append_cancel_right h3)
  ·rw[q2];exact X.good.kind
  ·rw[q3];exact X.good.failed
  ·rw[q1]
   intro i j L I h3;rw[nj hb,nj hb]
   by_cases Y:i < m+k
   ·rw[qX Y]
    by_cases H:j < m+k
    ·rw[qX H];exact ua i j L I ∅
    rw[qY H]
    by_cases U:j < m+k+r.size
    ·rw[qX U]
     let#[t,e,t1,t2]:=mm (j - (m+k)) ∅;rw[e]
     by_cases t3:t < m+o
     ·exact ua i t L ∅ t3
     ·exact Z i t L Y ∅ ∅
    ·rw[qY U];exact Z i j L Y (by grind) ∅
   rw[qY Y,qY ∅]
   by_cases i2:i < m+k+r.size
   ·rw[qX i2]
    by_cases U:j < m+k+r.size
    ·rw[qX U];exact rs _ _ (by grind) ∅
    ·rw[qY U]
     let#[t,e,t1,t2]:=mm (i - (m+k)) ∅;rw[e]
     by_cases t3:t < m+o
     ·exact tr _ _ _ (mem _ ∅) (mem _ ∅) (mem _ ∅) (ua t (m+o - 1) ∅ ∅ ∅) (high j (by grind) ∅)
     ·exact ub t j ∅ (by grind) ∅
   ·rw[qY i2,qY (by grind)]
    exact ub i j ∅ I ∅
  ·rw[q1]
   intro i hi;rw[nj hb]
   by_cases Y:i < m+k
   ·rw[qX Y]
   ·rw[qY Y,qY (by grind)]
 let args:∀{P:Prop},((∀z∈x.toList,z∈a₀)->(∀z∈y.toList,z∈a₀)->x.toList.Pairwise (Rl lt)->y.toList.Pairwise (Rl lt)->0 < x.size->0 < y.size->(∀z∈x.toList,Rl lt (ix y 0) z)->(∀z∈y.toList,Rl lt z (ix x (x.size - 1)))->P)->P:=by
  intro P hP
  refine hP (λz G=>?_) (λz G=>?_) (lI ∅ λi j L I h3=>ua i j ∅ I h3) (lI ∅ λi j L I h3=>ub i j L I ∅) ∅ ∅ (λz G=>?_) λz G=>?_
  ·let#[j,H,rfl]:=S z G
   exact mem _ (by grind)
  ·let#[j,H,rfl]:=T z G
   exact mem _ ∅
  ·let#[j,H,rfl]:=S z G
   rw[ixy 0 ∅];let:=k2 (k+j) ∅ (by grind);rw[show m+(k+j)=m+k+j by lia]at this;exact O.asym _ _ (mem _ ∅) (mem _ ∅) (by ext)
  ·let#[j,H,rfl]:=T z G
   rw[xs,ixx _ ∅,show m+k+(o - k - 1)=m+o - 1 by lia];exact O.asym _ _ (mem _ ∅) (mem _ ∅) (k4 j H)
 refine(?_);split
 ·refine Ag (args λb1 b2 b3 b4 b5 b6 b7 b8=>qT C O g1 b1 b2 b3 b4 b5 b6 b7 b8 λr B X f=>?_)
  refine Ag (EG (Ag (Je (Ai ?_))));let q:=fin r B X f (setArr B (wr (Ad B) (m+k) r.toList.zipIdx)) rfl rfl rfl rfl;rw[<-show(Kj B).isNone=true by rw[X.good.failed];rfl]at q;exact q
 ·refine Ag (args λb1 b2 b3 b4 b5 b6 b7 b8=>qU C O g1 b1 b2 b3 b4 b5 b6 b7 b8 λr B X f=>?_)
  refine Ag (EG (Ag (Je (Ai ?_))));let q:=fin r B X f (setArr B (wr (Ad B) (m+k) r.toList.zipIdx)) rfl rfl rfl rfl;rw[<-show(Kj B).isNone=true by rw[X.good.failed];rfl]at q;exact q
end
theorem tO[Decidable c](h:1 < z):(if c then z - 2 - 1 else z - 2)+1 < z:=by split <;> omega
def Stk(lt:BK->BK->Bool)(arr:Array BK):¬(Nat×Nat×Nat)->Nat->Nat->Prop
 | [],lo,g=>lo=g
 | (s,n,_) :: r,lo,g=>s=lo/\1<=n/\Up lt arr s (s+n)/\Stk lt arr r (s+n) g
section
theorem Stk.le:∀{l:¬(Nat×Nat×Nat)} {lo hi:Nat},Stk lt arr l lo hi->lo+-l<=hi
 | [],lo,hi,h=>by cases h;simp
 | (s,n,_) :: r,lo,hi,#[i,m,_,g]=>by
  let:=Stk.le g;rw[Az]
  lia
theorem Stk.app:∀{l r:¬(Nat×Nat×Nat)} {lo hi:Nat},Stk lt arr (l++r) lo hi↔∃g,Stk lt arr l lo g/\Stk lt arr r g hi
 | [],r,lo,hi=>#[λh=>#[lo,rfl,h],by rintro ⟨_,e,h⟩;cases e;exact h]
 | (s,n,_) :: l,r,lo,hi=>by
  constructor
  ·rintro⟨i,m,o,A⟩
   let#[g,a,b]:=Stk.app.mp A;exact#[g,#[i,m,o,a],b]
  ·rintro⟨g,⟨i,m,o,A⟩,b⟩
   exact#[i,m,o,Stk.app.mpr #[g,A,b]]
theorem Stk.pw(hf:∀x,(f x).1=x.1/\(f x).2.1=x.2.1):∀{l:¬(Nat×Nat×Nat)} {lo hi:Nat} (i:Nat),Stk lt arr l lo hi->Stk lt arr (l.modify i f) lo hi
 | [],lo,hi,i,h=>by ext
 | (s,n,p) :: r,lo,hi,0,h=>by
  let#[g,m]:=hf (s,n,p);show Stk lt arr (f (s,n,p) :: r) lo hi;generalize f (s,n,p)=q at g m;let#[E,G,H]:=q;subst g m;exact h
 | (s,n,p) :: r,lo,hi,i+1,#[o,A,B,C]=>#[o,A,B,Stk.pw hf i C]
theorem Stk.out:∀{l:¬(Nat×Nat×Nat)} {lo hi x y:Nat},Stk lt arr l lo hi->Out arr arr' x y->(hi<=x∨y<=lo)->Stk lt arr' l lo hi
 | [],lo,hi,x,y,h,o,d=>h
 | (s,n,_) :: r,lo,hi,x,y,#[i,m,A,g],o,d=>by
  let:=g.le;exact#[i,m,A.out o ∅,Stk.out g o ∅]
end
section
theorem Out.wide(o:Out xs g l h)(s:m<=l)(A:h<=h'):Out xs g m h':=λi B=>o i ∅
theorem MY{st:BG}{i hi:Nat}{Q:Bool->BG->Prop}(C:NK prog w A s o T lt)(O:Ord (·∈o) lt)(g:Good o T st)(k:Stk lt (Ad st) (Ae st).toList 0 hi)(hs:hi<=o.size)(J:i+1 < (Ae st).size)
  (h:∀m,Good o T m->Stk lt (Ad m) (Ae m).toList 0 hi->(Ae m).size+1=(Ae st).size->Out (Ad st) (Ad m) 0 hi->Q true m):wpS (AZ prog w) A E s (mergeAt' i) Q st:=by
 obtain⟨B,G,pw,U⟩:∃B G pw,(Ae st)[i]?=!(B,G,pw):=#[_,_,_,getElem?_pos (Ae st) i ∅]
 obtain⟨L,H,I,X⟩:∃B G pw,(Ae st)[i+1]?=!(B,G,pw):=#[_,_,_,getElem?_pos (Ae st) (i+1) J]
 obtain⟨l,r,N,hl⟩:∃l r,(Ae st).toList=l++(B,G,pw) :: (L,H,I) :: r/\-l=i:=by
  let a1:(Ae st).toList[i]?=!(B,G,pw):=by simpa using U
  let a2:(Ae st).toList[i+1]?=!(L,H,I):=by simpa using X
  let#[b1,c1]:=AE.mp a1;let#[b2,c2]:=AE.mp a2;refine#[(Ae st).toList.take i,(Ae st).toList.drop (i+2),?_,by rw[ET];lia]
  conv=>lhs;rw[<-JO i (Ae st).toList,Lc b1,Lc b2,c1,c2]
 rw[N]at k;let#[P,Y,#[q1,q2,q3,#[q4,q5,q6,R]]]:=Stk.app.mp k;let hle:=R.le;let Z:=Y.le
 refine Zl C O g U X q4 q2 q5 ∅ q3 q6 λm g' p' u' S=>?_
 let pl:(Ae m).toList=l++(B,G+H,pw) :: r:=by
  rw[p',Array.toList_eraseIdxIfInBounds,Wa,N];rw[List.set_append_right _ _ (by ext),hl,zn,List.set_cons_zero,List.eraseIdx_append_of_length_le (by ext),show i+1 - -l=1 by ext];rfl
 refine h m g' ?_ ?_ (S.wide (by simp) ∅)
 ·rw[pl]
  refine Stk.app.mpr #[P,Y.out S (.inl (by ext)),q1,by lia,u',?_]
  let e:L+H=B+(G+H):=by lia
  rw[e]at R;exact R.out S (.inr (by simp))
 ·let z1:=congrArg Lp pl
  let z2:=congrArg Lp N;simp at z1 z2
  grind
theorem wpS_sortRuns{st:BG}{Q:Unit->BG->Prop}(C:NK prog w A s m N lt)(O:Ord (·∈m) lt)(g:Good m N st)(hp:Ae st = #[])
  (h:∀B,Good m N B->Up lt (Ad B) 0 m.size->Q () B):wpS (AZ prog w) A E s sortRuns' Q st:=by
 rw[sortRuns'_eq];refine Ag (Je ?_);symm;rw[g.size];generalize minRun' m.size m.size 0=U
 refine Ag (IN (D0 (I:=λx c B=>∃lo,c=(none,lo)/\Good m N B/\Stk lt (Ad B) (Ae B).toList 0 lo/\lo<=m.size/\min x m.size<=lo)
  (Q:=λc B=>c=(none,m.size)/\Good m N B/\Stk lt (Ad B) (Ae B).toList 0 m.size) ?step ?fin ?init) ?post)
 case init=>exact#[0,rfl,g,by rw[hp];rfl,by ext,by ext]
 case fin=>
  rintro c B ⟨lo,rfl,g',k',h1,h2⟩
  let:lo=m.size:=by lia
  ext
 case step=>
  rintro x c Z' _ hx ⟨lo,rfl,g1,X,h1,h2⟩
  by_cases Φ:lo ≥ m.size
  ·rw[qX Φ]
   let:lo=m.size:=by lia
   subst this;exact Ai #[rfl,g1,X]
  rw[qY Φ];refine Ag (wpS_countRun C O (by grind) (by ext) g1 λA' n Y P T u2 o2 p2=>?_);symm
  let k2:Stk lt (Ad A') (Ae A').toList 0 lo:=by
   rw[p2];exact X.out o2 (.inl (AO _))
  by_cases hm:n < U
  ·rw[qX hm]
   refine Ag (Lr ?_);refine Ag (wpS_binarySort C O (by grind) (by grind) Y u2 λϤ g3 u3 o3 p3=>?_)
   let k3:Stk lt (Ad Ϥ) (Ae Ϥ).toList 0 lo:=by
    rw[p3];exact k2.out o3 (.inl (AO _))
   rw[qY (by decide)];refine Ag (Je ?_)
   cases hb:(Ae Ϥ).back? with
   | none=>
    refine Ag (EG (Ai #[lo+min (m.size - lo) U,rfl,#[g3.perm,g3.kind,g3.failed],?_,by lia,by grind]));rw[Ld];exact Stk.app.mpr #[lo,k3,rfl,by grind,u3,rfl]
   | some t=>
    let#[Z,P,z]:=t;symm;generalize power' m.size (2 * Z+P) (2 * Z+P+P+min (m.size - lo) U) m.size=pw
    refine Ag (IN (D0 (I:=λM c o=>c=(none,())/\Good m N o/\Stk lt (Ad o) (Ae o).toList 0 lo/\Up lt (Ad o) lo (lo+min (m.size - lo) U))
     ?_ (λc o h=>h) #[rfl,g3,k3,u3]) ?_)
    ·rintro x' c' o _ _ ⟨rfl,G,H,J⟩
     refine Ag (Je ?_)
     by_cases L:(Ae o).size > 1
     ·rw[qX L]
      obtain⟨s2,T,R,S⟩:∃s2 T R,(Ae o)[(Ae o).size - 2]?=!(s2,T,R):=#[_,_,_,getElem?_pos (Ae o) ((Ae o).size - 2) (by grind)]
      rw[S];symm
      by_cases ho:R<=pw
      ·rw[qX ho]
       exact Ai #[rfl,G,H,J]
      ·rw[qY ho]
       refine Ag (MY C O G H (by ext) ∅ λst5 g5 k5 M o5=>?_);exact Ai #[rfl,g5,k5,J.out o5 (.inr (by ext))]
     ·rw[qY L]
      exact Ai #[rfl,G,H,J]
    ·rintro c' o ⟨rfl,G,H,J⟩
     refine Ag (EG (Ag (EG (Ai #[lo+min (m.size - lo) U,rfl,#[G.perm,G.kind,G.failed],?_,by lia,by lia]))));rw[Ld,ez];exact Stk.app.mpr #[lo,Stk.pw (f:=λx=>(x.fst,x.2.fst,pw)) (λx=>#[rfl,rfl]) _ H,rfl,by omega,J,rfl]
  ·rw[qY hm]
   refine Ag (Je ?_)
   cases hb:(Ae A').back? with
   | none=>
    refine Ag (EG (Ai #[lo+n,rfl,#[Y.perm,Y.kind,Y.failed],?_,by grind,by grind]));rw[Ld];exact Stk.app.mpr #[lo,k2,rfl,by omega,u2,rfl]
   | some t=>
    let#[Z,P,z]:=t;symm;generalize power' m.size (2 * Z+P) (2 * Z+P+P+n) m.size=pw
    refine Ag (IN (D0 (I:=λM c o=>c=(none,())/\Good m N o/\Stk lt (Ad o) (Ae o).toList 0 lo/\Up lt (Ad o) lo (lo+n))
     ?_ (λc o h=>h) #[rfl,Y,k2,u2]) ?_)
    ·rintro x' c' o _ _ ⟨rfl,G,H,J⟩
     refine Ag (Je ?_)
     by_cases L:(Ae o).size > 1
     ·rw[qX L]
      obtain⟨s2,T,R,S⟩:∃s2 T R,(Ae o)[(Ae o).size - 2]?=!(s2,T,R):=#[_,_,_,getElem?_pos (Ae o) ((Ae o).size - 2) ∅]
      rw[S];symm
      by_cases ho:R<=pw
      ·rw[qX ho]
       exact Ai #[rfl,G,H,J]
      ·rw[qY ho]
       refine Ag (MY C O G H ∅ ∅ λst5 g5 k5 M o5=>?_);exact Ai #[rfl,g5,k5,J.out o5 (.inr ∅)]
     ·rw[qY L]
      exact Ai #[rfl,G,H,J]
    ·rintro c' o ⟨rfl,G,H,J⟩
     refine Ag (EG (Ag (EG (Ai #[lo+n,rfl,#[G.perm,G.kind,G.failed],?_,by lia,by lia]))));rw[Ld,ez];exact Stk.app.mpr #[lo,Stk.pw (f:=λx=>(x.fst,x.2.fst,pw)) (λx=>#[rfl,rfl]) _ H,rfl,by omega,J,rfl]
 case post=>
  rintro c Z' ⟨rfl,g1,X⟩
  refine Ag (IN (D0 (I:=λx c o=>c=(none,())/\Good m N o/\Stk lt (Ad o) (Ae o).toList 0 m.size/\((Ae o).size<=1∨(Ae o).size+x<=m.size))
   (Q:=λc o=>c=(none,())/\Good m N o/\Stk lt (Ad o) (Ae o).toList 0 m.size/\(Ae o).size<=1) ?_ ?_ ?_) ?_)
  ·rintro x c o _ _ ⟨rfl,G,H,d⟩
   refine Ag (Je ?_)
   by_cases L:(Ae o).size<=1
   ·rw[qX L]
    exact Ai #[rfl,G,H,L]
   ·rw[qY L]
    refine Ag (MY C O G H (AO _) (tO (by ext)) λst5 g5 k5 z5 o5=>?_);exact Ai #[rfl,g5,k5,.inr (by grind)]
  ·rintro c o ⟨rfl,G,H,d⟩
   exact#[rfl,G,H,by lia]
  ·refine#[rfl,g1,X,.inr ?_]
   let:=X.le;ext
  ·rintro c o ⟨rfl,G,H,d⟩
   refine Ai (h o G ?_);generalize hl:(Ae o).toList=l at H
   let hd:-l<=1:=by rw[<-hl];simpa using d
   match l,H,hd with
   | [],H,_=>exact λi j h1 h2 h3=>by let:(0:Nat)=m.size:=H;lia
   | [(s,n,_)],#[e1,_,u,S],_=>
    let S:=S;rw[S,e1]at u;exact u
end
noncomputable def ltL:YP->YP->Bool
 | [],[]=>false
 | [],_ :: _=>true
 | _ :: _,[]=>false
 | x :: g,y :: i=>if x=y then ltL g i else decide (x < y)
theorem Vg:∀x y,ltL x y->ltL y x=false
 | [],[],h=>by cases h
 | [],_ :: _,_=>rfl
 | _ :: _,[],h=>by cases h
 | x :: g,y :: i,h=>by
  unfold ltL at h ⊢
  by_cases e:x=y
  ·rw[qX e]at h;rw[qX e.symm];exact Vg g i h
  ·rw[qY e]at h;rw[qY (Cc e)];simp at h ⊢;lia
theorem Ys:∀x y z,ltL y x=false->ltL z y=false->ltL z x=false
 | [],y,[],_,_=>rfl
 | [],[],_ :: _,_,_=>rfl
 | [],_ :: _,_ :: _,_,_=>rfl
 | x :: s,[],z,h,_=>by cases h
 | _,y :: A,[],_,h=>by cases h
 | x :: s,y :: A,z :: C,g,i=>by
  unfold ltL at g i ⊢
  by_cases m:y=x
  ·rw[qX m]at g
   subst m
   by_cases o:z=y
   ·rw[qX o]at i ⊢
    exact Ys s A C g i
   ext
  ·rw[qY m]at g
   by_cases o:z=y
   ·ext
   ·rw[qY o]at i
    by_cases B:z=x
    ·subst B;simp at g i;lia
    ·rw[qY B];simp at g i ⊢;grind
theorem Yr:∀x y,ltL x y=false->ltL y x=false->x=y
 | [],[],_,_=>rfl
 | [],_ :: _,h,_=>by cases h
 | _ :: _,[],_,h=>by cases h
 | x :: m,y :: o,g,i=>by
  unfold ltL at g i
  by_cases e:x=y
  ·rw[qX e]at g;rw[qX e.symm]at i;rw[e,Yr m o g i]
  ·rw[qY e]at g;rw[qY (Cc e)]at i;simp at g i;lia
def ltK(f:AH->YP)(x y:BK):Bool:=ltL (f x.1) (f y.1)
theorem sd(f:AH->YP)(U:BK->Prop):Ord U (ltK f):=#[λx y G G h=>Vg _ _ h,λx y z G G G g i=>Ys _ _ _ g i]
section
theorem dE(o:Bool)(h:Q (decide (a < b)) s):Ac (AZ prog w) A (oneLt' o (.int a t) (.int b u)) Q E s:=by
 cases o with
 | true=>exact oneLt_int h
 | false=>
  rw[oneLt'_eq];exact AA (wpAny_lt_int (DW h))
def eS(s:AM)(v:AH)(i:YP):Prop:=∃a g,v=.ref a/\s.heap.IsTuple a g/\D4 g.toList i
noncomputable def cmpF(o:Bool):(AH×AH)×Nat->⇑Bool×Unit->Sem (ForInStep (⇑Bool×Unit)):=λe z=>match e with
 | ((p,q),i)=>eqBool p q >>= λc=>if (not c) then oneLt' (o&&i==0) p q >>= λb=>pure (.done (!b,()))else pure (.yield (none,()))
theorem nY(o:Bool)(x y:AH):keyLt' (zM o) x y=(Km x >>= λr=>Km y >>= λq=>forIn (r.toList.zip q.toList).zipIdx ((none,()):⇑Bool×Unit) (cmpF o) >>= λz=>match z.1 with
  | some b=>pure b
  | none=>pure (decide (r.size < q.size))):=by kernel_rfl
theorem pF(o:Bool):∀{is i:¬AH} {G H:YP} (k:Nat) {Q:Bool->AM->Prop},D4 is G->D4 i H->Q (ltL G H) s ->
  Ac (AZ prog w) A (forIn ((is.zip i).zipIdx k) ((none,()):⇑Bool×Unit) (cmpF o) >>= λz=>match z.1 with
   | some b=>pure b
   | none=>pure (decide (n0+-is < n0+-i))) Q E s:=by
 intro is
 induction is with
 | nil=>
  intro i G H k Q B C g;cases B;rw[kI,qG,W1];refine AA (AC (AC ?_))
  cases C with
  | nil=>simpa[ltL]using g
  | cons m t h=>simpa[ltL]using g
 | cons v is I=>
  intro i G H k Q B C g
  cases B with
  | cons n t B=>
   cases C with
   | nil=>
    rw[j5,qG,W1];refine AA (AC (AC ?_));rw[wY ∅];exact g
   | cons m u C=>
    rw[j6,List.zipIdx_cons,qI];rw[bind_assoc];unfold ltL at g;refine AA ?_;refine AA (zf ?_)
    by_cases e:n=m
    ·rw[qX e]at g
     rw[qY (by simp[e])];refine AC ?_;let:=I (k+1) B C g;ext
    ·rw[qY e]at g
     rw[qX (by simp[e])];refine AA (dE _ (AC ?_));exact AA (AC (AC g))
end
section
theorem Rp(h:eS s v m):∃g:Array AH,D4 g.toList m/\s.TypeIs v "tuple"/\∀(E:AH->AM->Prop) (Q:Array AH->AM->Prop),Q g s->Ac (AZ prog w) A (Km v) Q E s:=by
 let#[a,g,rfl,#[o,i,B,n,C],G]:=h;exact#[g,G,#[o,i,B],λE Q q=>listItems_at i C q]
theorem uM(o:Bool)(g:eS s x i)(m:eS s y B)(h:Q (ltL i B) s):Ac (AZ prog w) A (keyLt' (zM o) x y) Q E s:=by
 let#[r,C,_,wr]:=Rp g;let#[q,G,_,H]:=Rp m;rw[nY];refine AA (wr E _ (AA (H E _ ?_)));let:=pF (prog:=prog) (w:=w) (A:=A) (E:=E) (n0:=0) o 0 C G h;ext
theorem jX(h:eS s v (n :: m))(hq:∀t,Q (!.int n t) s):Ac (AZ prog w) A (gz v) Q E s:=by
 let#[r,g,ty,wr]:=Rp h;refine(AA (Lg ty ?_):Ac _ _ (gz v) Q E s);refine(?_);rw[qY (by decide)];refine AA (wr E _ (AC ?_));generalize i:r.toList=l at g
 cases g with
 | cons _ t o=>
  let:r[0]?=!.int n t:=by
   rw[<-Nf,i];rfl
  ext
theorem Vz:∀{vs:¬AH},(∀v∈vs,∃n g,eS s v (n :: g))->∀{Q:¬⇑AH->AM->Prop},(∀is g,D4 is g->-is=-vs->Q (is.map some) s)->Ac (AZ prog w) A (vs.mapM gz) Q E s
 | [],_,Q,h=>by
  rw[List.mapM_nil];exact AC (h [] [] .nil rfl)
 | v :: vs,m,Q,h=>by
  let#[n,g,o]:=m v Aj;rw[List.mapM_cons];refine AA (jX o λt=>AA (Vz (λv i=>m v (AY _ i)) λis B C G=>AC ?_));exact h (.int n t :: is) (n :: B) (.cons n t C) ∅
theorem Yc(h:D4 is g)(i:is≠[]):oneTypeOnly' is.toArray=pure (!.type "int"):=by
 rw[oneTypeOnly'_eq,kK,mapM_typeOf_ints h];simp only[map_pure,pure_bind]
 cases is with
 | nil=>trivial
 | cons v is=>
  ext
theorem nX(m:∀v∈vs,∃n i,eS s v (n :: i))(C:vs≠[])(h:Q (zM true) s):Ac (AZ prog w) A (keyKind' vs.toArray) Q E s:=by
 rw[keyKind'_eq,kK];refine AA ?_;rw[map_eq_pure_bind];refine AA (Vz m λis i o G=>AC ?_)
 let g:((is.map some).toArray.all λx=>x.isSome):=by simp
 rw[qX g];refine AA (Ph ?_)
 let B:(is.map some).toArray.filterMap id=is.toArray:=by simp
 rw[B,Yc o (by grind)];refine AA (AC (AC ?_));exact h
end
section
theorem Ip(h:x∈Pi vs):x.1∈vs/\x.1=x.2:=by
 let:x∈(Pi vs).toList:=Bk.mpr h;rw[pairsOf_toList]at this;exact#[(mem_zip_self this).2,(mem_zip_self this).1]
theorem i8(vs:¬AH):(Pi vs).map (·.2)=vs.toArray:=by
 apply Array.ext'
 rw[MX,pairsOf_toList];simp[List.map_snd_zip]
def ZP(prog:BP)(w:Bx)(A:Bq)(s:AM)(vs:¬AH)(f:AH->YP):Prop:=
 ∃g:RZ,(∀(Q:RZ->AM->Prop) (E:AH->AM->Prop),Q g s->Ac (AZ prog w) A (keyKind' vs.toArray) Q E s)/\NK prog w A s (Pi vs) g (ltK f)
theorem PV(ho:s.heap.get? a=!KB "list" vs.toArray n) (hz:-vs<=sizeLine)
  (T:2<=-vs->∀s':AM,(∀b o,b≠a->s.heap.get? b=!o->s'.heap.get? b=!o)->ZP prog w A s' vs f)
  (h:∀out:Array AH,out.toList.Perm vs->out.toList.Pairwise (λx y=>ltL (f y) (f x)=false)->P (.done (.ret .none)) { s with heap:=bu s.heap a vs out }) :
  Ac (AZ prog w) A (Builtin.«list.sort» #[[.ref a],[]]) P E s:=by
 let ha:=AX ho
 let U:vs.toArray.size=-vs:=by simp
 obtain⟨N,H⟩:∃N,(s.heap.update a (E5 λz=>#[])).get? a=!KB "list" #[] N:=#[_,get?_update_seq ho (λz=>#[])]
 let m:(((s.heap.update a (E5 λz=>#[])).push (KB "tuple" vs.toArray 0)).push (KB "list" #[] 0)).get? a=!KB "list" #[] N:=
  AI _ (AI _ H)
 let O:∀b o,b≠a->s.heap.get? b=!o->(((s.heap.update a (E5 λz=>#[])).push (KB "tuple" vs.toArray 0)).push (KB "list" #[] 0)).get? b=!o:=λb o hb X=>
  AI _ (AI _ (by rw[iF _ _ _ _ hb];exact X))
 let fin:∀i:BG,(Ad i).Perm (Pi vs)->(Ad i).toList.Pairwise (Rl (ltK f))->P (.done (.ret .none)) { s with heap:=bu s.heap a vs ((Ad i).map (·.2)) }:=by
  intro i G J
  let B:∀x∈(Ad i).toList,x.1=x.2:=λx R=>by
   let:x∈(Pi vs).toList:=(Gk.mp G).mem_iff.mp R;exact(Ip (Bk.mp this)).2
  refine h _ ?_ ?_
  ·let:=(Gk.mp G).map (·.2)
   rw[<-MX,<-MX,i8]at this
   omega
  ·rw[MX,D2]
   refine J.imp_of_mem λ{x y} R Y r=>?_
   rw[<-B x R,<-B y Y];exact r
 let last:∀i:BG,(Ad i).Perm (Pi vs)->Kj i=none->(Ad i).toList.Pairwise (Rl (ltK f))->(((Ad i).map (·.2)).size<=sizeLine+1):=λi G z z=>by
  rw[Array.size_map,G.size_eq,pairsOf_size]
  lia
 rw[list_sort_plain];refine AA (listItems_at ho rfl (AA (gy ho rfl (AA (p7 H rfl (AA (wpAny_newTuple (AA (gq (DT ?_)))))) ) (by assumption) (DV _))));symm
 by_cases L:vs.toArray.size < 2
 ·rw[qX L,qX L]
  refine AA (AC ?_);rw[StateT.run_pure]
  let I:(Ad (Ki cA (vs.toArray.zip vs.toArray) #[] 7 none)).toList.Pairwise (Rl (ltK f)):=by
   let:-(Ad (Ki cA (vs.toArray.zip vs.toArray) #[] 7 none)).toList < 2:=by
    rw[CW];show(Pi vs).size < 2;rw[pairsOf_size];omega
   generalize (Ad (Ki cA (vs.toArray.zip vs.toArray) #[] 7 none)).toList=l at this
   match l,this with
   | [],_=>exact .nil
   | [x],_=>grind
   | _ :: _ :: _,h=>simp at h;lia
  refine AA (AC (AA (p7 m rfl (AA (gy m rfl ?_ (DV _) (last (Ki cA (vs.toArray.zip vs.toArray) #[] 7 none) (RV _) rfl I))))));simp only[bne_self_eq_false,C9,if_false];exact AC (fin (Ki cA (vs.toArray.zip vs.toArray) #[] 7 none) (RV _) I)
 ·rw[qY L,qY L]
  let#[κ,Z,C]:=T (by ext) { s with heap:=((s.heap.update a (E5 λz=>#[])).push (KB "tuple" vs.toArray 0)).push (KB "list" #[] 0) } O;refine AA (Z _ _ ?_)
  refine AA (Dv (Srt.wpS_sortRuns
   (Q:=λz i=>(Ad i).Perm (Pi vs)/\Kj i=none/\(Ad i).toList.Pairwise (Rl (ltK f))) C (sd f _) #[RV _,rfl,rfl] rfl λi g u=>#[g.perm,g.failed,?_]) ?_ λz z e=>e)
  ·let:=lI (AO _) (by rw[g.size];exact u)
   ext
  rintro⟨⟨⟩,i⟩ s' ⟨rfl,G,S,J⟩;refine AA (p7 m rfl (AA (gy m rfl ?_ (DV _) (last i G S J))));rw[S];simp only[bne_self_eq_false,C9,if_false];exact AC (fin i G J)
theorem iZ(h:∀v∈vs,eS s v (f v)/\f v≠[])(g:vs≠[]):ZP prog w A s vs f:=
 #[zM true,λQ E q=>nX (λv i=>by
  let#[B,C]:=h v i
  cases e:f v with
  | nil=>trivial
  | cons n G=>grind) g q,λx y m o Q E q=>uM true (h _ (Ip m).1).1 (h _ (Ip o).1).1 q]
noncomputable def my(v:AH):YP:=[numOf v]
set_option tactic.hygienic true in
theorem ic(h:D4 vs G)(o:2<=-vs):ZP prog w A s vs my:=by
 refine#[oneType',λQ E q=>?_,λx y B C Q E q=>?_]
 ·match vs,o,h with
  | v :: u :: r,_,h=>rw[keyKind_ints h];exact AC q
 ·let#[n,t,g]:=h.all _ (Ip B).1
  let#[m,u,i]:=h.all _ (Ip C).1;rw[keyLt'_oneType,g,i];refine oneLt_int ?_
  let:ltK my x y=decide (n < m):=by
   unfold ltK my;rw[g,i];show(if n=m then false else decide (n < m))=_;split
   ·rename_i e;simp[e]
   ·rfl
  ext
end
def Wv(h:Cb)(d:AW)(es:Array SW)(ep:Nat):Prop:=∃o,h.get? d=!o/\o.ExactDict/\o.data=.dict es ep
theorem Wv.at'(x:Wv h d es ep)(e:∀o,h.get? d=!o->h'.get? d=!o):Wv h' d es ep:=let #[o,g,r]:=x;#[o,e _ g,r]
theorem Wv.ty{s:AM}{d:AW}{es:Array SW}{ep:Nat}(x:Wv s.heap d es ep):s.TypeIs (.ref d) "dict":=let #[o,g,i,_]:=x;#[o,g,i.1]
section
theorem aN{Q:AH->AM->Prop}(B:(d==EI)=false)(hm:Wv s.heap d es ep)
  (C:Q (.ref s.heap.objs.size) { s with heap:=s.heap.push { cls:=.type "dict_keyiterator",data:=.fields [.ref d,.int 0 0,.int es.size 0,.int ep 0].toArray } }):Ac (AZ prog w) A (NX (.ref d)) Q E s:=by
 let i:=hm.ty;let#[o,m,G,g]:=hm;refine WO i X5 (By X5 i PySem.F.entry_dict_iter ?_ (PySem.F.args_dict_iter_1 _));unfold Builtin.«dict.__iter__»;refine AA ?_;unfold Builtin.Dict.dictSlotNone;refine AA (wpAny_notOrdered_dict i (AC ?_));refine(show Ac _ _ (UT d >>= _) _ _ s from ?_);unfold UT;rw[qY (by simp[B])];refine AA (AC (AA (WP m g (AA (Zb m g (AA (Be (AC #[_,rfl, "dict_keyiterator",_,#[_,AT _ rfl,rfl],Cv.lookup,?_]))))))))
 assumption
theorem aM(g:s.heap.IsKeyIter it d i es.size ep)(hm:Wv s.heap d es ep)(hi:i < es.size)
  (I:∀h',h'.IsKeyIter it d (i+1) es.size ep->EF it s.heap h'->Q (!es[i].key) { s with heap:=h' }):Ac (AZ prog w) A (LA (.ref it)) Q E s:=by
 let#[o,H,J,m]:=id g;let#[L,B,N,C]:=hm;unfold LA;refine AA (Kh (CG g.typeIs Cv (By Cv g.typeIs PB (AA (AC (AA (AA ?_)))) (Ov _))))
 first | refine AA (GD g.typeIs (AC (AA (Jg H m ?_)))) | refine AA (IP g.typeIs (AC (AA (Jg H m ?_))))
 refine(show Ac _ _ (if (BJ d==D1) then _ else _) _ _ s from ?_);rw[qY (λz:(BJ d==D1)=true=>AQ z)];refine AA (AC (AA (WP B C ?_)));rw[qY (by ext)];refine AA (AC (AA (Zb B C ?_)));rw[qY (by ext)];refine AC ?_;simp only[show Not ((i:Int) < 0) by ext,if_false,Ap,LI hi];refine AA ?_
 first | refine AA (GD g.typeIs (AC (AA (QF g.typeIs ?_)))) | refine AA (IP g.typeIs (AC (AA (QF g.typeIs ?_))))
 refine(show Ac _ _ (setField (.ref it) 1 (bw ((i:Int)+1)) >>= _) _ _ s from ?_);let G:(s.heap.update it (Obj.mapFields (·.setIfInBounds 1 (bw ((i:Int)+1))))).IsKeyIter it d (i+1) es.size ep:=#[_,Db _ H (ei (LD m _)),(pY ..).trans J,by rw[LD m];simp[bw]];refine AA (MP H m ∅ (AA (DT (AA (QF G.typeIs ?_)))));exact(AC (AC #[_,rfl,AC (I _ G (Ej ..))]))
theorem fS(H:A.handled=none)(g:s.heap.IsKeyIter it d i es.size ep)(hm:Wv s.heap d es ep)(hi:es.size<=i)
  (I:∀h',PH it s.heap h'->Q none { s with heap:=h' }):Ac (AZ prog w) A (LA (.ref it)) Q E s:=by
 let#[o,C,J,G]:=id g;let#[L,m,N,B]:=hm;unfold LA;refine AA (Kh (CG g.typeIs Cv (By Cv g.typeIs PB (AA (AC (AA (AA ?_)))) (Ov _))))
 first | refine AA (GD g.typeIs (AC (AA (Jg C G ?_)))) | refine AA (IP g.typeIs (AC (AA (Jg C G ?_))))
 refine(show Ac _ _ (if (BJ d==D1) then _ else _) _ _ s from ?_);rw[qY (λz:(BJ d==D1)=true=>AQ z)];refine AA (AC (AA (WP m B ?_)));rw[qY (by ext)];refine AA (AC (AA (Zb m B ?_)));rw[qY (by ext)];refine AC ?_;simp only[show Not ((i:Int) < 0) by ext,if_false,Ap,Zk hi];refine AA ?_
 first | refine AA (GD g.typeIs (AC (show Ac _ _ (setField (.ref it) 0 .none >>= _) _ _ s from ?_))) | refine AA (IP g.typeIs (AC (?_)))
 refine AA (MP C G ∅ (AA ?_));refine AA (Be (AA (NV (by first | rfl | (simp only[cB];rfl)) (Be ?_ (by size_fits)))) (by size_fits));refine AA (gr ?_);rw[show A.in1.handled=none from H];refine AA (AC (pp ?_));refine AA (Oq #[_,AT _ rfl,rfl] b9 (AC ?_));exact I _ (((Ej ..).extBut.push _).push _)
theorem iy(J:A.handled=none)(I:AW)(L:d≠I):Walks prog w A I [I,d] [I] es.size (λi v=>∃h:i < es.size,v=es[i].key) (λi h=>h.IsKeyIter I d i es.size ep/\Wv h d es ep) where
 sub:=λx N=>by ext
 frame:=λz z z st keep=>#[st.1.at λo e=>keep I ∅ o e,st.2.at' λo e=>keep d ∅ o e]
 item:=λi s Q E H st g=>aM st.1 st.2 H λB C m=>g _ B s.toks #[H,rfl] #[C,st.2.at' λo e=>m.extBut d o L e] λb o hb e=>m.extBut b o (λh=>hb (by simp[h])) e
 done:=λs Q E st g=>fS J st.1 st.2 (AO _) λB G=>g B s.toks λb o hb e=>G b o (λh=>hb (by simp[h])) e
 self:=λz z z z st g=>pr st.1 g
theorem fR(lo:(d==EI)=false):PySem.W.KdlSrc prog w "dict" d d es.size (λi v=>∃h:i < es.size,v=es[i].key) (λh=>Wv h d es ep) where
 type:=λz hm=>hm.ty
 there:=λz hm=>#[let #[_,g,_]:=hm;AX g,let #[_,g,_]:=hm;AX g]
 keep:=λz z hm s=>hm.at' λo e=>s d (.inl rfl) o e
 notList:=by decide
 notTuple:=by decide
 hint:=λz z z z hm m=>PySem.W.kdl_hint_dict hm.ty m
 iter:=λz z A hm=>#[_,_,(λz z m=>aN lo hm m),iy A _ (Ao (let #[_,g,_]:=hm;AX g)),#[#[_,AT _ rfl,rfl,rfl],hm.at' λo e=>AI _ e]]
end
end Srt
namespace PySem
open PySem.Sem (wp)
open SetTable
section
theorem Wr(a:AH) 
  (h:Q₁ (.ref s.heap.objs.size) { s with heap:=s.heap.push { cls:=.type "set",dict:=none,data:=.set #[] 0 (.fresh 0 0 (not (w.params.followText "set-order"))) } }) :
  Jh (AZ prog w) A (.call (.builtin "set.__new__") #[[.type "set",a],[]]) (wants Q₁ E) s:=by
 refine Zd ?_;refine AA (NV (F.newCall_set_1 a) (AC #[IQ zc _,EJ F.entry_set_new ?_]));rw[Dj zc _];unfold Builtin.«set.__new__» qQ;let i:=sub_set_self;let#[m,g,d,o,os]:=s
 wp_walk
 refine HW (AC ?_);refine AA (wpAny_alloc (AC ?_));exact AC h
end
theorem XU:Manifest.owners.lookup (String.ofList ['r','o','t','a','r','e','t','i','_','t','e','s'].reverse)=!Manifest.sig_set_iterator:=by kernel_rfl
theorem Fe:Slot "set_iterator" "__next__" "set_iterator.__next__" :=
 .of (owner:="set_iterator") (n:="__next__") (by rfl) (by rfl) (by rfl) (by rfl)
  (by first | exact .inl (by rfl) | exact .inr ∅) (by rfl)
theorem PK:Slot "set_iterator" "__iter__" "set_iterator.__iter__" :=
 .of (owner:="set_iterator") (n:="__iter__") (by rfl) (by rfl) (by rfl) (by rfl)
  (by first | exact .inl (by rfl) | exact .inr ∅) (by rfl)
theorem OO:p8 table "set_iterator.__next__" = !Builtin.«set_iterator.__next__»:=entryFor_of_tree (by kernel_rfl)
theorem V3:p8 table "set_iterator.__iter__" = !Builtin.«dict_keyiterator.__iter__»:=entryFor_alias (id':="dict_keyiterator.__iter__") (by kernel_rfl) rfl ∅ (by kernel_rfl)
theorem V4:p8 table "set.__iter__" = !Builtin.«frozenset.__iter__»:=entryFor_alias (id':="frozenset.__iter__") (by kernel_rfl) rfl ∅ (by kernel_rfl)
theorem Pd(a:AH):kF "set_iterator.__next__" #[[a],[]]:=by
 unfold kF;rw[gw (n:=['_','_','t','x','e','n','_','_']) (by kernel_rfl) XU];kernel_rfl
theorem Wt(a:AH):kF "set_iterator.__iter__" #[[a],[]]:=by
 unfold kF;rw[gw (n:=['_','_','r','e','t','i','_','_']) (by kernel_rfl) XU];kernel_rfl
def ZQ(h:Cb)(a:AW)(es:Array (Int×AH))(ep:Nat)(t:qC):Prop:=∃o,h.get? a=!o/\o.ExactSet/\o.data=.set es ep t/\t.fits es.size=true
def SIt(h:Cb)(it:AW)(f:AH)(i:Nat)(a:AW)(n ep:Nat):Prop:=h.get? it=some { cls:=.type "set_iterator",dict:=none,data:=.fields [f,.int i 0,.ref a,.int n 0,.int ep 0].toArray,slots:=#[] }
theorem ZQ.at'(x:ZQ h a es ep t)(e:∀o,h.get? a=!o->h'.get? a=!o):ZQ h' a es ep t:=let #[o,g,r]:=x;#[o,e _ g,r]
section
variable{prog:BP}{w:Bx}{A:Bq}{E:AH->AM->Prop}{s:AM}{a it:AW}{es:Array (Int×AH)}{ep i:Nat}{t:qC}
theorem SIt.ty(x:SIt s.heap it f i a n ep):s.TypeIs (.ref it) "set_iterator":=#[_,x,rfl]
def Nxt(prog:BP)(w:Bx)(a:AW)(es:Array (Int×AH))(ep:Nat)(t:qC)(sl i:Nat)(r:⇑(AH×Nat)):Prop:=
 ∀(A:Bq) (E:AH->AM->Prop) (s:AM) (Q:⇑(AH×Nat)->AM->Prop),ZQ s.heap a es ep t->Q r s->Ac (AZ prog w) A (setNext a sl i ep) Q E s
theorem nA(hb:w.params.followText "set-order" = true):Nxt prog w a es ep t 0 i (((zj (w.params.setOrder a ep) es)[i]?).map λe=>(e.2,0)):=by
 intro A E s Q C G;let#[o,g,hex,m,B]:=C;unfold setNext;refine AA (Gx g m B ?_);unfold bv;refine AA (AA (HW (AC ?_)));rw[show(AZ prog w).w.params.followText "set-order" = true from hb];simp only[if_true,bne_self_eq_false,C9,if_false];unfold setWalk bv;refine AA ?_;refine AA (Gx g m B ?_);refine AA (AA (HW (AC ?_)));rw[show(AZ prog w).w.params.followText "set-order" = true from hb];refine AA (HW (AC ?_));exact AC G
theorem nB(hb:w.params.followText "set-order" = false) (B:t.led) (g:t.plain=true∨es.size<=1) (sl:Nat) :
  Nxt prog w a es ep t sl i (match es[zR t.place sl]?,t.place[zR t.place sl]? with | some (_,x),!j=>!(x,j+1) | _,_=>none):=by
 intro A E s Q C G;let#[o,H,hex,I,J]:=C;unfold setNext;refine AA (Gx H I J ?_);unfold bv;refine AA (AA (HW (AC ?_)));rw[show(AZ prog w).w.params.followText "set-order" = false from hb]
 let m:(not t.plain&&decide (es.size > 1))=false:=by
  rcases g with g | g
  ·rw[g];rfl
  ·ext
 refine(show Ac _ _ (if (not t.plain&&decide (es.size > 1)) then _ else _) _ _ s from ?_);rw[m];refine AA (show Ac _ _ (if (not t.led&&not es.isEmpty) then _ else _) _ _ s from ?_);rw[B];exact AC (AC G)
theorem lj{sl g:Nat}{x:AH}{Q:⇑AH->AM->Prop}(m:SIt s.heap it (.int sl 0) i a es.size ep)(G:ZQ s.heap a es ep t)(hN:Nxt prog w a es ep t sl i (!(x,g)))
  (H:∀h',SIt h' it (.int g 0) (i+1) a es.size ep->EF it s.heap h'->Q (!x) { s with heap:=h' }):Ac (AZ prog w) A (LA (.ref it)) Q E s:=by
 let#[o,I,hex,J,L]:=id G;unfold LA;refine AA (Kh (CG m.ty Fe (By Fe m.ty OO ?_ (Pd _))));unfold Builtin.«set_iterator.__next__» slotArgs;refine AA (AC ?_);refine AA (Jg m rfl ?_);refine AA (TC I J L ?_);rw[qY (by ext)];refine AA (hN _ _ _ _ G ?_);refine AA (vP m ∅ λO N B=>?_);refine AA (vP N ∅ λP R C=>?_);refine AC #[_,rfl,AC (H _ ?_ (B.trans C))]
 assumption
theorem rY{sl:Nat}{Q:⇑AH->AM->Prop}(B:A.handled=none)(g:SIt s.heap it (.int sl 0) i a es.size ep)(m:ZQ s.heap a es ep t)(hN:Nxt prog w a es ep t sl i none)
  (C:∀h',PH it s.heap h'->Q none { s with heap:=h' }):Ac (AZ prog w) A (LA (.ref it)) Q E s:=by
 let#[o,G,hex,H,I]:=id m;unfold LA;refine AA (Kh (CG g.ty Fe (By Fe g.ty OO ?_ (Pd _))));unfold Builtin.«set_iterator.__next__» slotArgs;refine AA (AC ?_);refine AA (Jg g rfl ?_);refine AA (TC G H I ?_);rw[qY (by ext)];refine AA (hN _ _ _ _ m ?_);refine AA (MP g rfl ∅ (AA ?_));refine AA (Be (AA (NV (by first | rfl | (simp only[cB];rfl)) (Be ?_ (by size_fits)))) (by size_fits));refine AA (gr ?_);rw[show A.in1.handled=none from B];refine AA (AC (pp ?_));refine AA (Oq #[_,AT _ rfl,rfl] b9 (AC ?_));exact C _ (((Ej ..).extBut.push _).push _)
end
section
theorem lh(g:SIt s.heap it f i a n ep)(h:Q (.ref it) s):Ac (AZ prog w) A (NX (.ref it)) Q E s:=by
 refine WO g.ty PK (By PK g.ty V3 ?_ (Wt _));exact AC #[_,rfl, "set_iterator",_,g.ty,Fe.lookup,h]
theorem kb(J:A.handled=none)(L:a≠it)(sl:Nat->Nat)(ord:¬AH)(I:-ord=es.size)
  (hN:∀i x,ord[i]?=!x->Nxt prog w a es ep t (sl i) i (!(x,sl (i+1)))) (N:Nxt prog w a es ep t (sl es.size) es.size none) :
  Walks prog w A it [it,a] [it] es.size (λi v=>ord[i]?=!v) (λi h=>SIt h it (.int (sl i) 0) i a es.size ep/\ZQ h a es ep t) where
 sub:=λx B=>by grind
 frame:=λz z z st keep=>#[keep it ∅ _ st.1,st.2.at' λo e=>keep a ∅ o e]
 item:=λi s Q E O st g=>by
  let B:ord[i]?=!ord[i]:=BX (by omega)
  exact lj st.1 st.2 (hN i _ B) λC G m=>g _ C s.toks B #[G,st.2.at' λo e=>m.extBut a o L e] λb o hb e=>m.extBut b o (λh=>hb (by simp[h])) e
 done:=λs Q E st g=>rY J st.1 st.2 N λC H=>g C s.toks λb o hb e=>H b o (λh=>hb (by simp[h])) e
 self:=λz z z z st g=>lh st.1 g
theorem UW(g:ZQ s.heap a es ep t)(hq:Q (not (w.params.followText "set-order")&&(not t.plain&&decide (es.size > 1))) s):Ac (AZ prog w) A (setDrawn a) Q E s:=by
 let#[o,i,hex,m,B]:=g;unfold setDrawn bv;refine AA (Gx i m B ?_);refine AA (AA (HW (AC ?_)));exact AC hq
end
section
theorem oC(m:s.TypeIs (.ref a) "set") (h:Q false s):Ac (AZ prog w) A (QN (.ref a)) Q E s:=by
 unfold QN;refine AA (wpAny_specialOf m PySem.F.slot_set_len.lookup ?_);generalize i:("set.__len__" : String)=id0
 wp_delta
 rw[show splitId id0=!("set", "__len__")from by subst i;rfl];subst i;refine AA (Oq (b:=true) m (by rfl) ?_);refine Za (λg=>zX g ∅) (λz=>?_);refine Za (λz=>?_) (λg=>zX (by rfl) g);refine AA (Lg m ?_);exact AC h
end
end PySem
namespace L2
open Srt (ltL)
theorem aT{B C:Type}{R:B->C->Prop}{E g:¬C}(p:E.Perm g):∀{l1:¬B},HE R l1 E->∃i,HE R i g/\i.Perm l1:=by
 induction p with
 | nil=>intro l1 h;cases h;exact#[[],.nil,.refl _]
 | cons x _ G=>
  intro l1 h
  cases h with
  | cons r t=>
   let#[H,m,o]:=G t;exact#[_ :: H,.cons r m,o.cons _]
 | swap x y l=>
  intro l1 h
  cases h with
  | cons r t=>
   cases t with
   | cons I t=>exact#[_ :: _ :: _,.cons I (.cons r t),List.Perm.swap _ _ _]
 | trans _ _ s A=>
  intro l1 h;let#[a,m,o]:=s h;let#[b,J,L]:=A m;exact#[b,J,L.trans o]
theorem Qn{i m s:Type}{R:i->m->Prop}{f:i->s}{g:m->s}:∀{o:¬i} {A:¬m},HE R o A->(∀a∈o,∀b,R a b->g b=f a)->A.map g=o.map f
 | _,_,z,h=>by
  cases z with
  | nil=>rfl
  | cons r t=>rw[At,At,h _ Aj _ r,Qn t λa B=>h a (AY _ B)]
theorem VQ{i g:Type}{R:i->g->Prop}:∀{m:¬i} {o:¬g} {b:g},HE R m o->b∈o->∃a∈m,R a b
 | _,_,b,z,h=>by
  cases z with
  | nil=>cases h
  | cons r t=>
   rcases Am.mp h with h | h
   ·ext
   ·let#[a,s,e]:=VQ t h
    exact#[a,AY _ s,e]
noncomputable def Vb:V->Int
 | .int n=>n
 | _=>0
def rowH(H:Hp):AH->YP
 | .int n _=>[n]
 | .ref b=>match H b with
  | some (.tup g)=>g.map Vb
  | _=>[]
 | _=>[]
theorem R7(r:YP):(r.map V.int).map Vb=r:=by
 rw[BC];exact(Ck λa z=>rfl).trans (zY r)
def SrcV(K:AD)(H:Hp)(p:AW)(G:¬V->Prop):Prop:=
 (∃i,(SqL K H p i∨SqT K H p i)/\G i)∨(∃g,H p=!.dK g/\G (g.map λx=>kV x.1)) ∨
  ∃g,H p=!.dT g/\∀bs:¬AW,HE (λ(k:¬Key×V) b=>H b=!.tup (k.1.map kV)) g bs->G (bs.map V.ref)
def WI(H:Hp)(f:V->YP)(vs:¬V):Prop:=(∀v∈vs,∃n,v=.int n/\f v=[n])∨∀v∈vs,∃b,v=.ref b/\H b=!.tup ((f v).map V.int)/\f v≠[]
def AAZ(K:AD):¬V->Hp->VK->Prop:=λi H Q=>∃p,i=[.ref p]/\SrcV K H p λg=>∃f:V->YP,WI H f g /\
 ∀out,out.Perm g->out.Pairwise (λx y=>ltL (f y) (f x)=false)->∀l,H l=none->Q (.ref l) (upd H l (.lst out))
theorem WI.rel(h:WI H f vs):∀v∈vs,∀u,RelV v u->rowH H u=f v:=λv g u r=>by
 rcases h with h | h
 ·let#[n,rfl,e]:=h v g
  let#[t,rfl]:=r;exact e.symm
 ·let#[b,rfl,e,_]:=h v g
  cases r;show(match H b with | some (.tup i)=>i.map Vb | _=>[])=_;rw[e];exact R7 _
theorem Z6(hc:X.calm)(I:Inv X ζ σ H s)(h:SrcV X.K H p G) :
  ∃vs L,G vs/\Bs vs L/\-L<=sizeLine/\∀(R:¬AH->AM->Prop) (E:AH->AM->Prop),(∀(g:Cb) (Y:Nat),(∀b o,s.heap.get? b=!o->g.get? b=!o)->R L { s with heap:=g,toks:=Y })->Ac (AZ X.prog X.w) X.A.in1 (collect (.ref p)) R E s:=by
 let hh:=I.ok.hd hc
 rcases h with⟨vs,sq,g⟩ | ⟨C,e,g⟩ | ⟨C,e,g⟩
 ·rcases sq with sq | sq
  ·let#[L,T,pl,P]:=I.list sq
   refine#[vs,L,g,T,by rw[<-T.length];exact P,λR E k=>collect_list pl.isList (k _ s.toks λb o e=>?_) (by rw[<-T.length];exact P)];rw[iF _ _ _ _ (Ao (AX e))];exact AI _ e
  ·let#[L,T,#[o,ho,Ϫ,n,hd],P]:=I.tuple sq
   let Z:-L<=sizeLine:=by rw[<-T.length];exact P
   exact#[vs,L,g,T,Z,λR E k=>wpAny_collect_seq p (.inr rfl) ho Ϫ hd (λh' kp=>by simpa using k h' s.toks kp) (by simpa using Z)]
 ·let#[P,sm,us,kv,o,J,ep,g1,g2,g3,g5,g6,_]:=(I.hok p _ e)
  let hlen:J.size=-C:=by
   let a1:=-g6;let a2:=Fh kv;rw[CW]at a1
   ext
  let hv:Bs (C.map λx=>kV x.1) (J.toList.map (·.key)):=by
   let Q:∀{l:¬SW} {us:¬(Key×AH)} {C:¬(Key×V)},Pairs (E3 X.prog X.w) l us->KV C us->Bs (C.map λx=>kV x.1) (l.map (·.key)):=by
    intro l us C hp
    induction hp generalizing C with
    | nil=>intro h;cases h;exact .nil
    | cons q1 q2 _ ih=>
     intro h
     cases h with
     | cons r t=>
      refine .cons ?_ (ih t);symm;rw[r.1]
      rcases Di q1 with⟨i,t,e1,U⟩ | ⟨x,t,e1,U⟩
      ·rw[e1,U];exact#[t,rfl]
      ·rw[e1,U];exact#[t,rfl]
   exact Q g6 kv
  refine#[_,J.toList.map (·.key),g,hv,by ext,λR E k=>?_]
  refine bi (Srt.fR sm) hh #[o,g1,g2,g3] (by ext) λg' Y m kp S=>?_
  let:m.toList=J.toList.map (·.key):=by
   apply IV
   intro j
   by_cases N:j < J.size
   ·let B:j < m.size:=by rw[S.1];exact N
    let#[_,U]:=S.2 j m[j] (by simp[B]);ext
   ·let B:Not (j < m.size):=by rw[S.1];exact N
    simp[N,B]
  rw[this];exact k g' Y kp
 ·let#[P,sm,O,rr,o,J,ep,g1,g2,g3,g4,_]:=(I.hok p _ e)
  let hlen:J.size=-C:=by
   let a1:=congrArg Lp g4;let a2:=Fh rr;rw[CW,AN]at a1
   ext
  let hb:HE (λ(k:¬Key×V) b=>H b=!.tup (k.1.map kV)) C (O.map (·.2.1)):=by
   let Q:∀{C:¬(¬Key×V)} {O:¬(¬Key×AW×AH)},HE (λ(p:¬Key×V) (q:¬Key×AW×AH)=>p.1=q.1/\H q.2.1=!.tup (p.1.map kV)/\RelV p.2 q.2.2) C O->HE (λ(k:¬Key×V) b=>H b=!.tup (k.1.map kV)) C (O.map (·.2.1)):=by
    intro C O h
    induction h with
    | nil=>exact .nil
    | cons r _ ih=>exact .cons r.2.1 ih
   exact Q rr
  let hk:J.toList.map (·.key)=(O.map (·.2.1)).map BJ:=by
   rw[g4,BC,BC];rfl
  let hv:∀l:¬AW,Bs (l.map V.ref) (l.map BJ):=λl=>by
   induction l with
   | nil=>exact .nil
   | cons a l ih=>exact .cons rfl ih
  refine#[_,(O.map (·.2.1)).map BJ,g _ hb,hv _,by rw[AN,AN,<-Fh rr];exact P,λR E k=>?_]
  refine bi (Srt.fR sm) hh #[o,g1,g2,g3] (by ext) λg' Y m kp S=>?_
  let:m.toList=(O.map (·.2.1)).map BJ:=by
   rw[<-hk]
   apply IV
   intro j
   by_cases N:j < J.size
   ·let B:j < m.size:=by rw[S.1];exact N
    let#[_,U]:=S.2 j m[j] (by simp[B]);simp[N,B,U]
   ·let B:Not (j < m.size):=by rw[S.1];exact N
    simp[N,B]
  rw[this];exact k g' Y kp
theorem Si{X:Cx}{s:AM}{H:Hp}{f:V->YP}{vs:¬V}{i:¬AH}(I:∀b xs,H b=!.tup xs->∃is:¬AH,Bs xs is/\cN s.heap b is.toArray)(h:WI H f vs)(J:Bs vs i)(O:2<=-i){A:Bq}:Srt.ZP X.prog X.w A s i (rowH H):=by
 rcases id h with P | R
 ·let:∃ns,D4 i ns:=by
   let C:∀{vs:¬V} {i:¬AH},Bs vs i->(∀v∈vs,∃n,v=.int n/\f v=[n])->∃ns,D4 i ns:=by
    intro vs i r
    induction r with
    | nil=>exact λz=>#[[],.nil]
    | cons r _ S=>
     intro B
     let#[ns,g]:=S λv G=>B v (AY _ G)
     let#[n,rfl,_]:=B _ Aj;let#[t,rfl]:=r;exact#[n :: ns,.cons n t g]
   exact C J P
  let#[ns,g]:=this;let#[T,U,Y]:=Srt.ic g O;refine#[T,U,λx y L N Q E q=>Y x y L N Q E ?_];let#[n,t,Z]:=g.all _ (Srt.Ip L).1;let#[m,u,e2]:=g.all _ (Srt.Ip N).1
  let e:Srt.ltK Srt.my x y=Srt.ltK (rowH H) x y:=by
   unfold Srt.ltK Srt.my;rw[Z,e2];rfl
  ext
 ·refine Srt.iZ (λu hu=>?_) (by intro e;ext)
  let#[v,B,r]:=VQ J hu;rw[h.rel v B u r];let#[b,rfl,e,ne]:=R v B;cases r;refine#[#[b,?_],ne];let#[is,r,o,ho,Ϫ,n,hd]:=I b _ e;exact#[is.toArray,rfl,#[o,ho,Ϫ,n,hd],by simpa using intsAre_of r]
theorem ji{X}(T:X.calm):Jb X (.builtin "sorted") (AAZ X.K):=by
 intro U s Y H Z us Q I r h;let#[p,rfl,C]:=h;let#[u,rfl,rx]:=vals1 r;cases rx;let#[vs,A,#[f,i,q],E,G,col]:=Z6 T I C;refine W4 kind_sorted plain_sorted entry_sorted (args_sorted1 _) ?_;unfold Builtin.«sorted»;refine AA (AC (AA (col _ _ λg O kp=>?_)));refine AA (gq ?_ G);let J:Inv X U Y H { s with heap:=g,toks:=O }:=I.kept kp;let L:(g.push (KB "list" A.toArray 0)).get? g.objs.size=!KB "list" A.toArray 0:=AT _ rfl;refine AA (DT (By slot_list_sort #[_,L,rfl] entry_list_sort (Srt.PV (f:=rowH H) L G (λh2 s' keep=>?_) λout po so=>#[_,rfl,AC #[_,rfl,?_]]) (args_list_sort _)))
 ·refine Si (λb Z e=>?_) i E h2
  let#[_,is,r,o,P,Ϫ,n,hd]:=(J.hok b _ e);exact#[is,r,o,keep b o (Ao (AX P)) (AI _ P),Ϫ,n,hd]
 ·let#[B,S,pv]:=aT po.symm E
  let N:B.Pairwise (λx y=>ltL (f y) (f x)=false):=by
   let e:=Qn S λa ha b rb=>i.rel a (pv.mem_iff.mp ha) b rb
   let:=(D2 (R:=λx y=>ltL y x=false)).mpr so;rw[e]at this;exact D2.mp this
  let#[k,hk]:=sortedHeap_at L
  let m:-B<=sizeLine:=by rw[pv.length_eq,E.length];exact G
  let I2:=J.laid (o:=.lst B) (t':=O) (h':=bu (g.push (KB "list" A.toArray 0)) g.objs.size A out)
   (λb u z=>by
    let lt:=AX z;rw[sortedHeap_old (Ao lt) (by rw[size_push'];exact Gi lt)]
    exact AI _ z) (AO _) #[m,out.toList,k,S,hk]
  exact#[.ref g.objs.size,_,I2,rfl,q B pv N _ (J.hok.fresh (AO _))]
noncomputable def Hk(g:YP):YP:=g.mergeSort (λa b=>decide (a<=b))
@[simp] def ie:Hk []=[]:=by unfold Hk;simp
theorem HH(ns:YP):(Hk ns).Perm ns:=iC ns _
theorem Z9(g:YP):(Hk g).Pairwise (·<=·):=by
 let:=Zg (le:=λa b:Int=>decide (a<=b)) (by intro a b c i m;simp at i m ⊢;lia) (by intro a b;simp;lia) g
 exact this.imp λh=>by simpa using h
def Nn(g:¬YP):¬YP:=g.mergeSort (λa b=>not (ltL b a))
theorem Il(rs:¬YP):(Nn rs).Perm rs:=iC rs _
theorem Qa(g:¬YP):(Nn g).Pairwise (λa b=>ltL b a=false):=by
 let:=Zg (le:=λa b:YP=>not (ltL b a)) (by intro a b c i m;simp at i m ⊢;exact Srt.Ys _ _ _ i m) (by
  intro a b
  cases e:ltL b a with
  | false=>simp
  | true=>simp[Srt.Vg _ _ e]) g
 exact this.imp λh=>by simpa using h
theorem XI{l l':¬YP}(p:l.Perm l')(h:l.Pairwise (λa b=>ltL b a=false))(h':l'.Pairwise (λa b=>ltL b a=false)):l=l':=
 p.eq_of_pairwise (λa b z z g i=>Srt.Yr a b i g) h h'
noncomputable def dX:Key->D
 | .inl i=>.int i
 | .inr x=>.str x
def OE(d:D)(S:Sto):⇑(¬D):=match d with
 | .fro g=>!g
 | .tup g=>!g
 | .ref n=>match S[n]? with
  | some (.lst g)=>!g
  | some (.dK i)=>!(i.map λx=>dX x.1)
  | some (.dT i)=>!(i.map λx=>.tup (x.1.map dX))
  | _=>none
 | _=>none
noncomputable def Ow(r:YP):D:=.tup (r.map D.int)
def PQ:¬D->⇑(¬YP)
 | []=>![]
 | .tup g :: r=>match G7 g,PQ r with
  | some (n :: i),!m=>!(n :: i) :: m
  | _,_=>none
 | _ :: _=>none
def No(ds:¬D):⇑(¬D):=match G7 ds with
 | some g=>!(Hk g).map D.int
 | none=>match PQ ds with
  | some i=>!(Nn i).map Ow
  | none=>none
def Hv(m:ME):ME:=λe S=>m e S*>λd g=>match OE d g with
 | some i=>match No i with
  | some o=>.ok (.ref (-g)) (g++[.lst o])
  | none=>.bad
 | none=>.bad
section
theorem tI(x y:Int):ltL [y] [x]=decide (y < x):=by
 show(if y=x then false else decide (y < x))=_;split
 ·ext
 ·rfl
def Wf(H:Hp):V->YP
 | .int n=>[n]
 | .ref b=>match H b with
  | some (.tup g)=>g.map Vb
  | _=>[]
 | _=>[]
set_option tactic.hygienic true in
theorem aH{K}{ρ}{H}:∀{ds:¬D} {g:¬YP} {vs:¬V},PQ ds=!g->Au K ρ H ds vs->vs.map (Wf H)=g/\∀v∈vs,∃b,v=.ref b/\H b=!.tup ((Wf H v).map V.int)/\Wf H v≠[]
 | ds,g,_,h,z=>by
  cases z with
  | nil=>cases h;grind
  | @cons d v ds vs r t=>cases d with
   | tup ts=>
    unfold PQ at h;split at h
    ·rename_i n ns i m o
     cases h;let#[B,C]:=aH o t
     cases r with
     | @tup _ b E hb s=>
      let:=MA m;subst this;let:=s.ints;subst this
      let e:Wf H (.ref b)=n :: ns:=by
       show(match H b with | some (.tup A)=>A.map Vb | _=>[])=_;rw[hb];exact R7 _
      grind
    ·cases h
   | _=>cases h
theorem aL{K}{ρ}{H}:∀{vs:¬V},(∀v∈vs,∃b,v=.ref b/\H b=!.tup ((Wf H v).map V.int)/\Wf H v≠[])->Au K ρ H ((vs.map (Wf H)).map Ow) vs
 | [],_=>.nil
 | v :: vs,h=>by
  let#[b,e,hb,_]:=h v Aj;refine .cons ?_ (aL λu g=>h u (AY _ g));subst e;exact .tup hb (Au.of_ints _)
set_option tactic.hygienic true in
theorem lZ{K:AD}{ρ:¬AW}{H:Hp}{ds es:¬D}{vs:¬V}(h:No ds=!es)(r:Au K ρ H ds vs) :
  ∃f:V->YP,WI H f vs/\∀out,out.Perm vs->out.Pairwise (λx y=>ltL (f y) (f x)=false)->Au K ρ H es out:=by
 unfold No at h;split at h
 ·rename_i ns B
  cases h;let:=MA B;subst this;let:=r.ints;subst this;refine#[λv=>[Vb v],.inl λv i=>?_,λout m o=>?_]
  ·let#[n,_,rfl]:=BN.mp i
   exact#[n,rfl,rfl]
  ·let C:out=(out.map Vb).map V.int:=by
    rw[BC]
    conv=>lhs;rw[<-UQ out]
    refine Ck λv i=>?_
    let#[n,_,rfl]:=BN.mp (m.mem_iff.mp i);rfl
   let s:out.map Vb=Hk ns:=by
    let E:(out.map Vb).Perm (Hk ns):=by
     let:=m.map Vb;rw[R7]at this;exact this.trans (HH ns).symm
    refine E.eq_of_pairwise (λa b z z G I=>Int.le_antisymm G I) ?_ (Z9 ns);rw[D2]
    refine o.imp λ{x y} g=>?_
    rw[tI]at g;simp at g;exact g
   rw[C,s];exact Au.of_ints _
 ·split at h
  ·rename_i rs J
   cases h;let#[L,A]:=aH J r;refine#[Wf H,.inr A,λout m o=>?_]
   let s:out.map (Wf H)=Nn rs:=by
    refine XI ?_ (D2.mpr o) (Qa rs);let:=m.map (Wf H);rw[L]at this;exact this.trans (Il rs).symm
   rw[<-s]
   exact aL λv i=>A v (m.mem_iff.mp i)
  ·cases h
theorem Vl{K}{ρ}{H}:∀g:¬Key,Au K ρ H (g.map dX) (g.map kV)
 | []=>.nil
 | .inl i :: g=>.cons (.int i) (Vl g)
 | .inr x :: g=>.cons (.str x) (Vl g)
theorem Q1{K}{ρ}{H}:∀{g:¬(Key×D)} {m:¬(Key×V)},KVR K ρ H g m->Au K ρ H (g.map λx=>dX x.1) (m.map λx=>kV x.1)
 | _,_,z=>by
  cases z with
  | nil=>exact .nil
  | @cons p q _ _ r t=>
   let#[k,a]:=p;let#[o,b]:=q
   let e:=r.1;dsimp only at e;subst e
   cases k with
   | inl i=>exact .cons (.int i) (Q1 t)
   | inr x=>exact .cons (.str x) (Q1 t)
theorem Vk{K}{ρ}{H}:∀{g:¬(¬Key×D)} {i:¬(¬Key×V)} {bs:¬AW},KVR K ρ H g i->HE (λ(k:¬Key×V) b=>H b=!.tup (k.1.map kV)) i bs->Au K ρ H (g.map λx=>.tup (x.1.map dX)) (bs.map V.ref)
 | _,_,_,h,g=>by
  cases h with
  | nil=>cases g;exact .nil
  | @cons a b _ _ r t=>cases g with
   | cons m o=>
    let e:=r.1;rw[<-e]at m;exact .cons (.tup m (Vl a.1)) (Vk t o)
theorem J8(U:X.calm)(Y:Gl X "sorted") (hm:X.mg "sorted" = none) (h:GE X E e m) (O:↑(AR [e] X.env=(false,Bz e X.env) :: AR [] X.env)):GE X E (.Call (.Name "sorted" p) [e] [] pos) (Hv m):=
 (KO (ji U) Y hm PyProof.Rows.boot_sorted (EV h GX O) ∅ (by rfl) O rfl).imp<|by
 rintro σ H Q ⟨Z,l,S,hl,hs,hm⟩
 refine#[Z,l,S,hl,hs,hm.seq λd S1 hm s A x l1 P r1=>?_]
 cases g:OE d S1 with
 | none=>rw[g]at hm;exact hm.elim
 | some R=>
  rw[g]at hm;dsimp only at hm
  cases G:No R with
  | none=>rw[G]at hm;exact hm.elim
  | some T=>
   rw[G]at hm
   let fin:∀i:¬V,Au X.K s A T i->∀q,A q=none->Q (.ref q) (upd A q (.lst i)):=λi B q g=>by
    let le:Le X.K s A (s++[q]) (upd A q (.lst i)):=Le.alloc g;let#[s4,l4,I]:=P.alloc (o:=.lst T) g #[_,Bv,B.mono le];exact hm _ _ _ (l1.trans l4) s4 (.ref I)
   let out:∀i,Au X.K s A R i->∃f:V->YP,WI A f i/\∀out,out.Perm i->out.Pairwise (λx y=>ltL (f y) (f x)=false)->∀l,A l=none->Q (.ref l) (upd A l (.lst out)):=λi B=>by
    let#[f,k1,k2]:=lZ G B;exact#[f,k1,λout po so=>fin out (k2 out po so)]
   cases r1 with
   | fro J L=>cases g;exact#[_,rfl,.inl #[_,.inl J.sq,out _ L]]
   | tup J L=>cases g;exact#[_,rfl,.inl #[_,.inr (.inl (.inl J)),out _ L]]
   | @ref n a hn=>
    let#[o,ho,N]:=P.there hn;unfold OE at g;simp only[ho]at g
    cases o with
    | lst ys=>cases g;let#[i,e,B]:=N;exact#[_,rfl,.inl #[i,.inl (.inl (.inl e)),out _ B]]
    | dK j'=>cases g;let#[i,e,B]:=N;exact#[_,rfl,.inr (.inl #[i,e,out _ (Q1 B)])]
    | dT j'=>cases g;let#[i,e,B]:=N;exact#[_,rfl,.inr (.inr #[i,e,λbs hb=>out _ (Vk B hb)])]
    | ins C fs=>cases g
    | fK _=>cases g
    | fT _=>cases g
    | mem _=>cases g
   | _=>cases g
end
theorem yF{K}{t}(h:∀A∈["NoneType", "bool", "int", "str", "tuple", "list", "dict"],Hh K (.type A) (.type t)=vC t A):∀A b,isB t A=!b->Hh K (.type A) (.type t)=!b:=λA b e=>by
 unfold isB at e
 grind
theorem nv{K}:∀A b,isB "list" A=!b->Hh K (.type A) (.type "list")=!b:=yF λA h=>by
 simp only[Am,CB,or_false]at h
 rcases h with rfl | rfl | rfl | rfl | rfl | rfl | rfl <;> kernel_rfl
def lY(K:AD):Sp:=λi H Q z=>∃(a:AW) (g:YP),i=[.ref a]/\Wx K H a (g.map V.int)/\-g<=63/\∀m,Q (.bl true) m
theorem nS{P}{w}{K}{m}{base}{k}{s}{fd}{f}(F:IL P w K m base (CXG P w) k s fd ["script"] (spM K 1 f))
  (h:∀g:YP,g.length<=63->∃A,f [.fro (g.map D.int)] []=.ok (.bl true) A):IL P w K m base (CXG P w) k s fd ["script"] (lY K):=F.imp<|by
 rintro N H Q E ⟨a,g,e,B,C,q⟩
 subst e;let#[A,e]:=h g C;refine#[[],[.fro (g.map D.int)],[],rfl,.cons (.fro B (Au.of_ints g)) .nil,#[rfl,λi j a G=>by simp at G,λn o a I=>by simp at I],?_];rw[e]
 exact λJ L x z z r=>by cases r;exact q L
theorem yi{K:AD}{H:Hp}{a:AW}{g:YP}(i:uf H)(m:SqL K H a (g.map V.int)):Wx K H a (g.map V.int):=by
 rcases m with(h | h) | h
 ·rcases i a with z | ⟨o,s,z⟩ <;> rw[z]at h <;> cases h
 ·exact .inl h
 ·exact .inr h
theorem y8(h:CXG P w [] H s (λG G G=>False) e s'):False:=by
 let#[_,_,_,_,_,_,_,_,_,z]:=h;exact z
def vN(I:Lo->Sto->Prop)(R:Fl->Sto->Prop)(f:Fl)(S:Sto):Prop:=match f with
 | .nx e=>I e S
 | .ct e=>I e S
 | .bk e=>R (.nx e) S
 | .rt d=>R (.rt d) S
 | .ex c e=>R (.ex c e) S
theorem t5(I:Nat->Lo->Sto->Prop)(R:Fl->Sto->Prop)(s:∀i e S,I i e S->v S=!xs)
  (step:∀i d e S,xs[i]?=!d->I i e S->∃e1 S1,g d e S=.ok e1 S1/\∃f m,b e1 S1=.ok f m/\vN (I (i+1)) R f m)
  (fin:∀e S,I (-xs) e S->R (.nx e) S):∀(k i:Nat) (e:Lo) (S:Sto),I i e S->i<=-xs->-xs<=i+k->∃f S',Mz v g b k i e S=.ok f S'/\R f S':=by
 intro k
 induction k with
 | zero=>
  intro i e S h C E
  let:i=-xs:=by lia
  subst this;refine#[.nx e,S,?_,fin e S h];unfold Mz;rw[s _ e S h];simp
 | succ k A=>
  intro i e S h C E;unfold Mz;rw[s _ e S h];symm
  by_cases G:i < -xs
  ·let B:xs[i]?=!xs[i]:=by simp[G]
   rw[B];symm;let#[e1,S1,H,f,m,J,t]:=step i _ e S B h;rw[H];dsimp only[Res.bind];rw[J];dsimp only[Res.bind]
   cases f with
   | nx o=>exact A (i+1) o m t (by trivial) ∅
   | ct o=>exact A (i+1) o m t ∅ ∅
   | bk o=>exact#[_,_,rfl,t]
   | rt d=>exact#[_,_,rfl,t]
   | ex c o=>exact#[_,_,rfl,t]
  ·let:i=-xs:=by lia
   subst this
   grind
theorem Y2(I:Nat->Lo->Sto->Prop)(R:Fl->Sto->Prop)(m:I 0 e S)(o:∀i e S,I i e S->v S=!xs)
  (step:∀i d e S,xs[i]?=!d->I i e S->∃e1 S1,g d e S=.ok e1 S1/\∃f s,b e1 S1=.ok f s/\vN (I (i+1)) R f s)
  (fin:∀e S,I (-xs) e S->R (.nx e) S):∃f S',Mz v g b (Dc v S) 0 e S=.ok f S'/\R f S':=by
 let A:Dc v S=-xs:=by unfold Dc;rw[o 0 e S m]
 rw[A];exact t5 I R o step fin _ _ _ _ m (DV _) (by ext)
theorem pD(I:Nat->Lo->Sto->¬D->Prop)(B:∀i e S o,I i e S o->v S=!xs)
  (step:∀i d e S o,xs[i]?=!d->I i e S o->-o < sizeLine/\∃e1 S1,g d e S=.ok e1 S1/\∃b s,c e1 S1=.ok b s/\((b=true/\∃y A,m e1 s=.ok y A/\I (i+1) e1 A (o++[y]))∨(b=false/\I (i+1) e1 s o))) :
  ∀(k i:Nat) (e:Lo) (S:Sto) (o:¬D),I i e S o->i<=-xs->-xs<=i+k->∃r C,Gh v g c m k i e S o=.ok r C/\∃H,I (-xs) H C r:=by
 intro k
 induction k with
 | zero=>
  intro i e S o h J L
  let:i=-xs:=by lia
  subst this;refine#[o,S,?_,e,h];unfold Gh;rw[B _ e S o h];simp
 | succ k E=>
  intro i e S o h J L;unfold Gh;rw[B _ e S o h];symm
  by_cases N:i < -xs
  ·let G:xs[i]?=!xs[i]:=by simp[N]
   rw[G];symm;let#[O,e1,S1,P,b,s,Q,t]:=step i _ e S o G h;rw[qX O,P];dsimp only[okR,Res.bind];rw[Q];dsimp only[okR,Res.bind]
   rcases t with⟨rfl,y,A,R,t⟩ | ⟨rfl,t⟩
   ·rw[qX rfl,R]
    exact E (i+1) e1 A _ t (by trivial) ∅
   ·rw[qY AQ]
    exact E (i+1) e1 s o t ∅ ∅
  ·let:i=-xs:=by lia
   subst this;rw[show xs[xs.length]?=none by simp];exact#[o,S,rfl,e,h]
theorem ZB(I:Nat->Lo->Sto->¬D->Prop)(A:I 0 e S [])(B:∀i e S o,I i e S o->v S=!xs)
  (step:∀i d e S o,xs[i]?=!d->I i e S o->-o < sizeLine/\∃e1 S1,g d e S=.ok e1 S1/\∃b s,c e1 S1=.ok b s/\((b=true/\∃y C,m e1 s=.ok y C/\I (i+1) e1 C (o++[y]))∨(b=false/\I (i+1) e1 s o))) :
  ∃r E,Gh v g c m (Dc v S) 0 e S []=.ok r E/\∃G,I (-xs) G E r:=by
 let H:Dc v S=-xs:=by unfold Dc;rw[B 0 e S [] A]
 rw[H];exact pD I B step _ _ _ _ _ A (DV _) (by ext)
theorem xu(h:-1000000<=j):(unop% Neg.neg (2 ^ 62))<=j:=Int.le_trans (by ext) h
theorem yM{j:Int}(h:j<=1000000):j < 2 ^ 62:=kW h (by ext)
theorem n8{ml:ML}{e:Lo}{S S1:Sto}{j:Int}(h:ml e S=.ok [.int j] S1)(g:-1000000<=j)(i:j<=1000000):iR1 ml e S=.ok (HQ (Ks 0 j.toNat)) S1:=by
 unfold iR1;rw[h];dsimp only[Res.bind];rw[qX #[xu g,yM i]]
theorem yL{ml:ML}{e:Lo}{S S1:Sto}{i j:Int}(h:ml e S=.ok [.int i,.int j] S1)(g:-1000000<=i)(m:i<=1000000)(o:-1000000<=j)(s:j<=1000000):iR2 ml e S=.ok (HQ (Ks i (j - i).toNat)) S1:=by
 unfold iR2;rw[h];dsimp only[Res.bind];rw[qX #[xu g,yM m,xu o,yM s]]
theorem iu(lo:Int)(n:Nat):-Ks lo n=n:=by simp[Ks]
theorem mG{lo:Int}{n i:Nat}{d:D}(h:(Ks lo n)[i]?=!d):i < n/\d=.int (lo+i):=by
 rw[XR]at h
 ext
theorem u8(h:-1000000<=j)(g:j<=1000000):bf i j:=.inr #[kU (by ext) h,kW g (by ext)]
theorem sv(h:-1000000<=j)(g:j<=1000000):ai (.int i) (.int j) S=.ok (.int (i * j)) S:=by
 show(if bf i j then _ else _)=_;rw[qX (u8 h g)]
theorem og(h:0 < j)(g:j<=1000000):JY (.int i) (.int j) S=.ok (.int (i / j)) S:=by
 show(if pV i j then _ else _)=_;rw[qX #[h,by lia]]
theorem fj(h:0 < j):LQ (.int i) (.int j) S=.ok (.int (i % j)) S:=by
 show(if 0 < j then _ else _)=_;rw[qX h]
theorem Bi(m:ma e S=.ok x S1)(hb:g e S1=.ok y i)(hf:f x y i=.ok d S3):m2 f ma g e S=.ok d S3:=by
 unfold m2;ext
theorem EL(h:m e S=.ok d S1):Bb i m e S=.ok (.nx (e.set i (!d))) S1:=by
 unfold Bb im;rw[h];rfl
theorem Ex(h:m e S=.ok d S1):CO m e S=.ok (.rt d) S1:=by
 unfold CO;rw[h];rfl
theorem Om(h:m e S=.ok d S1):FJ m e S=.ok (.nx e) S1:=by
 unfold FJ;rw[h];rfl
theorem EN(h:t e S=.ok c S1):sIf t a b e S=if c=true then a e S1 else b e S1:=by
 unfold sIf;rw[h];rfl
theorem nq(h:t e S=.ok c S1):Yq t a b e S=if c=true then a e S1 else b e S1:=by
 unfold Yq;rw[h];rfl
theorem Mx(h:m e S=.ok v S1):FG m g b e S=Mz v g b (Dc v S1) 0 e S1:=by
 unfold FG;rw[h];rfl
theorem Fv(h:m e S=.ok ds S1)(g:-ds=n):Bg n f m e S=f ds S1:=by
 unfold Bg;ext
theorem BD(h:a e S=.ok (.nx e1) S1):As a b e S=b e1 S1:=by unfold As;rw[h];rfl
theorem Np(h:a e S=.ok (.rt d) S1):As a b e S=.ok (.rt d) S1:=by unfold As;rw[h];rfl
def Keeps(S g:Sto):Prop:=-S<=-g/\∀j,j < -S->g[j]?=S[j]?
theorem Keeps.refl(S:Sto):Keeps S S:=#[AO _,λz z=>rfl]
theorem Keeps.trans(a:Keeps S S1)(b:Keeps S1 S2):Keeps S S2:=#[Ab a.1 b.1,λj h=>(b.2 j (AS h a.1)).trans (a.2 j h)]
theorem Keeps.app(S:Sto)(G:Sto):Keeps S (S++G):=#[by simp,λj h=>Ah h]
theorem Keeps.set(a:Keeps S S1)(h:-S<=m)(o:Ob):Keeps S (S1.set m o):=#[by simpa using a.1,λj g=>by rw[Ak ∅];exact a.2 j g]
theorem Keeps.at{S S1:Sto}(a:Keeps S S1){j:Nat}{o:Ob}(h:S[j]?=!o):S1[j]?=!o:=by
 rw[a.2 j (AE.mp h).1];exact h
theorem ZJ(i:mo e S=.ok (.ref n) S1)(m:S1[n]?=!.lst xs)(o:ma e S1=.ok y g)(s:g[n]?=!.lst xs2)(A:-xs2 < sizeLine) :
  LR mo ma e S=.ok .non (g.set n (.lst (xs2++[y]))):=by
 unfold LR;ext
theorem rJ(h:-xs+-g<=sizeLine):JB (.tup xs) (.tup g) S=.ok (.tup (xs++g)) S:=by
 unfold JB
 ext
theorem C0(h:S[n]?=!.lst xs):Hi (.ref n) S=!xs:=by
 unfold Hi Hj;ext
theorem JX(h:m e S=.ok (.ref n) S1)(g:S1[n]?=!.lst xs):EO m e S=.ok (Hi (.ref n)) S1:=by
 unfold EO;rw[h];dsimp only[Res.bind];rw[C0 g]
theorem Vq(h:m e S=.ok (.tup xs) S1):EO m e S=.ok (HQ xs) S1:=by
 unfold EO;rw[h];rfl
theorem R9(h:ml e S=.ok ds S1):ED ml e S=.ok (.ref (-S1)) (S1++[.lst ds]):=by
 unfold ED;rw[h];rfl
theorem DM(S:Sto)(o:Ob):(S++[o])[S.length]?=!o:=by simp
theorem DO(h:S[n]?=!.lst ds):GB (.ref n) S=!ds:=by
 unfold GB;ext
theorem Vn(h:S[n]?=!.lst ds):OE (.ref n) S=!ds:=by
 unfold OE;ext
theorem Oe(h:m e S=.ok d S1)(hi:OE d S1=!ds)(g:No ds=!es):Hv m e S=.ok (.ref (-S1)) (S1++[.lst es]):=by
 unfold Hv;ext
theorem Nk(h:m e S=.ok d S1)(hq:GB d S1=!ds):HJ m e S=.ok (.tup ds) S1:=by
 unfold HJ;ext
theorem Vj(h:m e S=.ok d S1)(hq:GB d S1=!ds):JW m e S=.ok (.int (-ds)) S1:=by
 unfold JW;ext
theorem Me(i:mv e S=.ok v S1)(ho:mo e S1=.ok (.ref n) g)(m:g[n]?=!.ins C fs)(o:-fs < 1000) :
  JV C f mo mv e S=.ok (.nx e) (g.set n (.ins C (LO f v fs))):=by
 unfold JV;ext
theorem FT(h:m e S=.ok (.ref n) S1)(g:S1[n]?=!.ins C fs)(i:fs.lookup f=!v):CD C f m e S=.ok v S1:=by
 unfold CD;ext
theorem Yo(h:ml e S=.ok ds S1)(g:-ds+1=n)(hf:f (.ref (-S1) :: ds) (S1++[.ins C []])=.ok .non S2):PU C n f ml e S=.ok (.ref (-S1)) S2:=by
 unfold PU;ext
theorem BF(h:m e S=.ok d S1)(g:r e S1=.ok ds S2):AK m r e S=.ok (d :: ds) S2:=by
 unfold AK;ext
theorem RI(h:mi e S=.ok v S1):En n mi g c m e S=Gh v g c m (Dc v S1) 0 (BU n none++e) S1 []:=by
 unfold En;rw[h];rfl
theorem Jc(h:m e S=.ok (.bl b) S1):mB m e S=.ok b S1:=by
 unfold mB;rw[h];rfl
theorem vA(B:ma e S=.ok x S1)(hb:i e S1=.ok y m)(hf:f x y m=.ok (.bl true) o)(C:s e o=.ok w A)(E:g y w A=.ok d S5):m3 f g ma i s e S=.ok d S5:=by
 unfold m3;ext
theorem AAz(o:ma e S=.ok x S1)(hb:i e S1=.ok y m)(hf:f x y m=.ok (.bl false) S3):m3 f g ma i s e S=.ok (.bl false) S3:=by
 unfold m3;ext
theorem nR(h:decide (i<=j)=b):leD (.int i) (.int j) S=.ok (.bl b) S:=by subst h;rfl
theorem nO(h:decide (i < j)=b):ltD (.int i) (.int j) S=.ok (.bl b) S:=by subst h;rfl
theorem oQ(h:decide (j<=i)=b):geD (.int i) (.int j) S=.ok (.bl b) S:=by subst h;rfl
theorem yt(h:decide (i=j)=b):eqD false (.int i) (.int j) S=.ok (.bl b) S:=by
 subst h;rfl
theorem OB(h:m e S=.ok b S1):NR m e S=.ok (not b) S1:=by
 unfold NR;rw[h];rfl
theorem Uk(h:ml e S=.ok ds S1)(g:-ds<=1000):Hd ml e S=.ok (.tup ds) S1:=by
 unfold Hd;rw[h];dsimp only[Res.bind];rw[qX (Ab g ∅)]
theorem xP(h:g e S=.ok true S1):mOr g i e S=.ok true S1:=by
 unfold mOr;rw[h];rfl
theorem Pt(h:g e S=.ok false S1):mOr g i e S=i e S1:=by
 unfold mOr;rw[h];rfl
theorem ZN(h:g e S=.ok true S1):OC g i e S=i e S1:=by
 unfold OC;rw[h];rfl
theorem ZM(h:g e S=.ok false S1):OC g i e S=.ok false S1:=by
 unfold OC;rw[h];rfl
theorem uz(h:m e S=.ok d S1)(hq:GB d S1=!ds):Vf m e S=.ok ds S1:=by
 unfold Vf;ext
theorem iz(h:ml e S=.ok ds S1)(hf:f ds S1=.ok d S2):mQ f ml e S=.ok d S2:=by
 unfold mQ;ext
theorem Qz(h:S[n]?=!.lst ds):O0 (.ref n) S=!ds:=by
 unfold O0;ext
section
variable{X:Cx}{E:EW}{e:Expr}
def xq:ME:=λz z=>.bad
theorem oP:GE X E e xq:=by rintro _ _ _ _ _ _ ⟨_,_,_,_,_,hm⟩;exact hm.elim
end
end L2
namespace PySem
open PySem.Sem (wp)
section
variable{w:Bx}{A:Bq}{E:AH->AM->Prop}{s:AM}
theorem Qu{it t}{i}{items}{x}{Q}(g:s.heap.IsTupleIter it t i)
  (H:s.heap.IsTuple t items) (I:items[i]?=!x)
  (J:∀h',h'.IsTupleIter it t (i+1)->EF it s.heap h'->Q x { s with heap:=h' }) :
  Ac (AZ prog w) A (Dz (.ref it)) Q E s:=by
 let#[o,B,L,m]:=id g;let#[N,C,_,O,G]:=H;unfold Dz
 refine AA (CG g.typeIs G2
  (By G2 g.typeIs ZZ ?_ (YA _)))
 show Ac _ _ (field (.ref it) 0 >>= _) _ _ s;refine AA (JC B m rfl ?_);show Ac _ _ (if (BJ t==D1) then _ else _) _ _ s;rw[qY (show Not ((BJ t==D1)=true)from AQ)];refine AA (JC B m rfl ?_);refine AA (RW C G ?_);simp only[Ap,I];refine AA (MP B m ∅ (AC #[x,rfl,AC (J _ ?_ (Ej ..))]))
 exact#[_,Db _ B (ei (LD m _)),(pY ..).trans L,by
  rw[LD m];simp[bw]]
theorem R8{it t}{i}{items}{Q}(H:A.handled=none)
  (g:s.heap.IsTupleIter it t i) (I:s.heap.IsTuple t items) (J:items[i]?=none)
  (L:∀h' e,PH it s.heap h'->(∃o,h'.get? e=!o/\o.cls=.type "StopIteration")->E (.ref e) { s with heap:=h' }) :
  Ac (AZ prog w) A (Dz (.ref it)) Q E s:=by
 let#[o,m,N,B]:=id g;let#[O,C,_,P,G]:=I;unfold Dz
 refine AA (CG g.typeIs G2
  (By G2 g.typeIs ZZ ?_ (YA _)))
 show Ac _ _ (field (.ref it) 0 >>= _) _ _ s;refine AA (JC m B rfl ?_);show Ac _ _ (if (BJ t==D1) then _ else _) _ _ s;rw[qY (show Not ((BJ t==D1)=true)from AQ)];refine AA (JC m B rfl ?_);refine AA (RW C G ?_);simp only[Ap,J];refine AA (Ph (AA (MP m B ∅ ?_)));refine AA ?_;refine AA (Be ?_ (by size_fits));refine AA (NV (by first | rfl | (simp only[cB];rfl)) ?_);refine Be ?_ (by size_fits);refine AA (gr ?_)
 first | rw[show A.in1.handled=none from H] | rw[H]
 refine AA (AC (pp ?_));exact L _ _ (((Ej ..).extBut.push _).push _) #[_,AT _ rfl,rfl]
end
end PySem
namespace L2
theorem Inv.turned2(I:Inv X C G H s)(k:∀b u,b≠e->b≠it->s.heap.get? b=!u->h'.get? b=!u)
  (i:RT X C H e) (A:RT X C H it) (E:s.heap.objs.size<=a) (new:EB X.prog X.w (upd H a o) h' a o):Inv X C G (upd H a o) { s with heap:=h',toks:=t' }:=by
 let B:=I.hok.fresh E
 let J:∀b u,H b=!u->b≠e/\b≠it:=λb u q=>#[λz=>(by rw[z,i.1]at q;cases q),λz=>(by rw[z,A.1]at q;cases q)]
 let out:∀b:AW,b∉[e,it]->b≠e/\b≠it:=λb hb=>#[λz=>hb (by simp[z]),λz=>hb (by simp[z])]
 refine I.step (g':=s.gens) (d':=s.drawn) (λb hb=>?_) (λb o M M g q M=>k b o (out b g).1 (out b g).2 q) (λb o M M g q M=>#[o.slots,k b o (out b g).1 (out b g).2 q]) (λb o M q n=>?_)
  (λb o g q=>#[o,k b o (out b g).1 (out b g).2 q]) (λb L q=>by rw[Bd (DY q B)];exact q) (λb o u q=>by rw[Bd (DY q B)];exact q) (λb R q=>#[#[],by rw[Bd (DY q B),q];simp]) (λm hm=>?_) (λb u q=>?_) I.bare
 ·let N:b=e∨b=it:=by simpa using hb
  rcases N with z | z
  ·subst z;exact#[i.2.2.2.1,i.2.1,i.2.2.2.2.1,i.2.2.2.2.2]
  ·subst z;exact#[A.2.2.2.1,A.2.1,A.2.2.2.2.1,A.2.2.2.2.2]
 ·rw[Bd (Ao (AS (AX q) E))];exact n
 ·let#[o,O,P,Q,r]:=hm
  exact#[o,O,P,k _ o (Cc i.2.1) (Cc A.2.1) Q,r]
 ·by_cases hb:b=a
  ·subst hb;rw[Bv]at q;ext
  ·rw[Bd hb]at q
   refine(I.hok b u q).stay (λc v g r=>?_) (λc r=>by rw[Bd (DY r B)];exact r) λc L r=>by rw[Bd (DY r B)];exact r
   grind
def Ite(sq:Hp->¬V->Prop):It:=
 #[λi H=>∃g x,sq H g/\g[i]?=!x,λi H y m=>∃p x,H p=none/\y=.ref p/\m=upd H p (.tup [.int i,x])/\∀g,sq H g->g[i]?=!x,λi H=>∃g,sq H g/\-g<=i]
section
variable{w:Bx}{elts:¬Expr}{x1:Nat}{pos:Pos}
theorem jZ{X:Cx}{G:¬(AW×Obj)}{N:St}{H:Hp}{s:AM}{E:AH->AM->Prop}{sq:Hp->¬V->Prop}{e it:AW}{i:Nat}{x:V}{u:AH}{B:Nat}{h':Cb}{tn:Nat->Cb->Prop}
  (I:Inv X G N H s) (Θ:e≠it) (hf:∀b∈[e,it],RT X G H b) (le:e < s.heap.objs.size) (S:it < s.heap.objs.size) (T:RelV x u) (U:∀xs,sq H xs->xs[i]?=!x)
  (ho:IsEnumOut h' e it ((i:Int)+1) u s.heap.objs.size) (O:h'.get? s.heap.objs.size=some { cls:=.type "tuple",data:=.seq [.int i B,u].toArray }) (Y:∀b o,b≠e->b≠it->s.heap.get? b=!o->h'.get? b=!o)
  (Z:∀C,EF e h' C->(∃J,kQ C e it ((i+1:Nat):Int) J)->tn (i+1) C) :
  Ac (AZ X.prog X.w) X.A (QD (.Tuple elts x1 pos) (.ref e) (.ref s.heap.objs.size)) (λM P=>∃y L,Inv X G N L P/\RelV y (.ref s.heap.objs.size)/\(Ite sq).yld i H y L/\tn (i+1) P.heap/\∀b∈[e,it],L b=none) E { s with heap:=h',toks:=B+1 }:=by
 let m:=hf e ∅;let Q:=hf it ∅;let R:=Ao le;let ni:=Ao S
 let new:EB X.prog X.w (upd H s.heap.objs.size (.tup [.int i,x])) h' s.heap.objs.size (.tup [.int i,x]):=
  #[#[Ab (show 2<=1000 by decide) ∅,_,O,rfl],[.int i B,u],.cons #[B,rfl] (.cons T .nil),_,O,rfl,_,rfl]
 let I1:=I.turned2 (t':=B+1) Y m Q (AO _) new
 refine wpAny_letOwnedTupleGo_enum ho λC he2 ψ=>?_
 let g:=ψ;let I2:=I1.turned (t':=B+1) (h':=C) (λb o hb q=>(g.2 b hb).trans q) (by rw[Bd R];exact m.1) m.2.1 m.2.2.2.1 m.2.2.2.2.1 m.2.2.2.2.2;refine#[.ref s.heap.objs.size,_,I2,rfl,#[s.heap.objs.size,x,I.hok.fresh (AO _),rfl,rfl,U],Z C g #[u,by assumption],λb hb=>?_]
 let ϐ:b=e∨b=it:=by simpa using hb
 rcases ϐ with z | z
 ·rw[z,Bd R];exact m.1
 ·rw[z,Bd ni];exact Q.1
end
section
variable{e:Expr}
noncomputable def dn(ds:¬D):¬D:=ds.zipIdx.map λx=>.tup [.int x.2,x.1]
def QS(v:O4):O4:=λS=>(v S).map dn
def SI(m:ME):MI:=λe S=>m e S*>λd g=>match Hi d g with
 | some _=>.ok (QS (Hi d)) g
 | none=>.bad
end
section
theorem ff{s:AM}{o:Obj}{h':Cb}(g:∀b u,b∉[s.heap.objs.size]->(s.heap.push o).get? b=!u->h'.get? b=!u):∀b u,s.heap.get? b=!u->h'.get? b=!u:=λb u e=>
 g b u (λhm=>zX (AV.mp hm▸AX e) (Dm _)) (AI _ e)
theorem vG{s:AM}{o:Obj}{l:AW}(g:l < s.heap.objs.size):∀b∈[s.heap.objs.size,l],b < (s.heap.push o).objs.size:=λb hb=>by
 rw[Dq]
 grind
end
theorem JA{g:Type}{xs:¬g}{j:Int}{x:g}(i:0<=j)(h:xs[j.toNat]?=!x):atI xs j=!x:=by
 let m:=(AE.mp h).1;unfold atI ixN;ext
theorem Hx(g:GB d S=!ds)(i:0<=j)(h:ds[j.toNat]?=!z):ixA d (.int j) S=.ok z S:=by
 show KS (ixD d (.int j) S) _=_
 let:ixD d (.int j) S=.ok z S:=by
  unfold ixD;rw[g];symm;rw[JA i h]
 rw[this];rfl
theorem y9{g:Type}(xs:¬g){k:Nat}(h:k<=-xs):HK xs none (!(k:Int))=xs.take k:=by
 unfold HK;rw[HT.Tt,HT.Qi,OX h];simp
theorem len1{g:Type}:∀{l:¬g},l.length=1->∃x1,l=[x1]
 | [a],_=>#[a,rfl]
theorem len2{i:Type}:∀{l:¬i},l.length=2->∃x1 g,l=[x1,g]
 | y :: _,q=>by
  let#[g,rfl]:=len1 (QE q)
  lia
theorem len3{m:Type}:∀{l:¬m},l.length=3->∃x1 g i,l=[x1,g,i]
 | y :: _,q=>by
  let#[g,i,rfl]:=len2 (QE q)
  lia
theorem len4{o:Type}:∀{l:¬o},l.length=4->∃x1 g i m,l=[x1,g,i,m]
 | y :: _,q=>by
  let#[g,i,m,rfl]:=len3 (QE q)
  lia
theorem len5{s:Type}:∀{l:¬s},l.length=5->∃x1 g i m o,l=[x1,g,i,m,o]
 | y :: _,q=>by
  let#[g,i,m,o,rfl]:=len4 (QE q)
  lia
section
def U6(i:Nat)(g:Int->Int->Int)(m:ME):MS:=λe S=>match e[i]? with
 | some (!.int x)=>(m e S).lift e λd o=>match d with
  | .int y=>.ok (.nx (e.set i (!.int (g x y)))) o
  | _=>.bad
 | _=>.bad
set_option tactic.hygienic true in
theorem yT(hN:X.N.Nodup)(hi:X.N[i]?=!x)(C:Loc X.env.scope x)(G:PIp X op (ipI g))(I:GE X E e m)
  (hf:autoParam (X.fn x=true∨X.env.scope.names.lookup x=!.local) yq2q):GS X E (.AugAssign (.Name x A) op e pos) (U6 i g m):=(w8 hN hi C I G hf).imp<|by
 rintro D Y H ⟨J,l,S,o,L,hm⟩
 unfold U6 at hm;split at hm
 ·rename_i n O
  let#[v,P,Q]:=o.at' i _ O;cases Q;refine#[_,P,J,l,S,o,L,hm.lift o .refl λd Z hm s R y B T U=>?_]
  cases d with
  | int y=>cases U;exact#[n,y,rfl,rfl,hm s R _ B T ((o.mono B).set (.int _) i)]
  | _=>exact hm.elim
 ·exact hm.elim
end
section
theorem VJ{K}{ρ}{H}:∀{g:YP} {vs:¬V},Au K ρ H (g.map D.int) vs->vs=g.map V.int
 | [],_,.nil=>rfl
 | n :: g,_,.cons r t=>by
  cases r;rw[VJ t];rfl
end
end L2
namespace PySem
open PySem.Sem (wp)
section
variable{w:Bx}{A:Bq}{E:AH->AM->Prop}{s:AM}
theorem aa(C:vS (.type T) "__init__" = pure (!.builtin "object.__init__")) (hm:Bind.madeBy (.type T)=pure (!newId)) (G:((!newId) != !"object.__new__")) (m:(not g.isEmpty||not o.isEmpty)) :
  Meets (Builtin.«object.__init__» #[self :: g,o]) (λz R s=>s.TypeIs self T/\R (.ok (.ret .none)) s):=by
 refine Meets.of_wp λi w A R s B=>?_
 let#[H,I]:=B;unfold Builtin.«object.__init__»;symm;rw[qX m];(repeat(any_goals (first | assumption | wp_step)));ext
theorem eE(C:TypeCalled T newId "object.__init__") (Z:((!newId) != !"object.__new__")) (hr:(not args.isEmpty||not I.isEmpty))
  (hct:checkTypeCall T #[args,I]=pure ()) (N:checkBuiltinCall newId #[.type T :: args,I]=pure ()) (O:∀i,kF "object.__init__" #[i :: args,I]) (G:p8 table newId=!Bn) (g:Meets (Bn #[.type T :: args,I]) S)
  (h:S A.in1 (wants (λi B=>B.TypeIs i T/\Q i B) E) s):Ac (AZ prog w) A (call (.type T) args I) Q E s:=by
 let#[c,tl,U]:=C.mro;let P:=C.made;let ϔ:=C.sub;refine br (Zd ?_);show Ac _ _ (callAny (.type T) _) _ _ _;refine AC #[kA _ ∅,EJ uu ?_];rw[e8 (pX T args I) (units_type_call_type T args I)];let h1:=C.notType;let h2:=C.canCreate;(repeat(any_goals (first | assumption | wp_step)))
 refine GF (RY C.plain G (NV N (g prog w A.in1 _ s h))) λr B m=>?_
 cases r with
 | error e=>exact m
 | ok fl=>
  cases fl with
  | ret i=>
   let#[X,Y]:=m;let hli:=C.init.lookup;let hbi:=C.init.bind i;(repeat(any_goals (first | assumption | wp_step)))
   refine GF (RY (R:=wants (λr H=>r=.none/\Q i H) E) C.init.plain F.entry_object_init (C.init.check _ _ _ _ _ _ _ _ X (O i) (aa C.init.lookup C.made Z hr prog w A.in1 _ B #[X,rfl,Y]))) λL H o=>?_
   cases L with
   | error e=>exact o
   | ok J=>
    cases J with
    | ret r=>
     let#[rfl,Y]:=o;(repeat(any_goals (first | assumption | wp_step)))
    | _=>exact o.elim
  | _=>exact m.elim
end
section
variable{prog:BP}{w:Bx}{A:Bq}{E:AH->AM->Prop}{s:AM}
def sqN:Bool->String
 | true=>"tuple"
 | false=>"list"
def itN:Bool->String
 | true=>"tuple_iterator"
 | false=>"list_iterator"
def pR(b:Bool)(h:Cb)(l:AW)(items:Array AH):Prop:=∃o,h.get? l=!o/\o.cls=.type (sqN b)/\∃n,o.data=.seq items n
def WJ(b:Bool)(h:Cb)(it l:AW)(i:Nat):Prop:=∃o,h.get? it=!o/\o.cls=.type (itN b)/\o.data=.fields [.ref l,.int i 0].toArray
theorem WJ.at(x:WJ b h it l i)(k:∀o,h.get? it=!o->h'.get? it=!o):WJ b h' it l i:=let #[o,a,r]:=x;#[o,k o a,r]
set_option tactic.hygienic true in
theorem aq(b:Bool){k:Nat}(G:k=1∨k=2)(l:AW)(items:Array AH)(n:Nat)(B:⇑AW)(sl:Array (⇑AH))(t:Tok) :
  Meets (Builtin.«enumerate.__new__» #[[.type "enumerate",.ref l],[("start",.int k t)]]) (λz R s=>s.heap.get? l=some { cls:=.type (sqN b),dict:=B,data:=.seq items n,slots:=sl } /\
   R (.ok (.ret (.ref (s.heap.push { cls:=.type (itN b),data:=.fields [.ref l,.int 0 0].toArray }).objs.size)))
    { s with heap:=(s.heap.push { cls:=.type (itN b),data:=.fields [.ref l,.int 0 0].toArray }).push { cls:=.type "enumerate",data:=.fields [.none,.bool false,.ref s.heap.objs.size,bw k,.none,.none].toArray } }):=
 .of_wp λprog w A R s h=>by
  let#[i,g,d,o,os]:=s;let#[m,h]:=h;let H:=sub_enumerate
  let C:∀{E Q},Q (.ref i.objs.size) #[i.push { cls:=.type (itN b),data:=.fields [.ref l,.int 0 0].toArray },g,d,o,os]->Ac (AZ prog w) A.in1 (NX (.ref l)) Q E #[i,g,d,o,os]:=λ{E Q} q=>by
   cases b
   ·exact Jf (s:=#[i,g,d,o,os]) (items:=items) #[_,m,rfl,n,rfl] q
   ·exact MQ (s:=#[i,g,d,o,os]) (items:=items) #[_,m,rfl,n,rfl] q
  rcases G with rfl | rfl <;>
  ·wp_walk using Kn m
   refine wpAny_stack_any λst=>AC ?_
   split
   ·rename_i c _ _ _ _ _
    cases(c==Ha "enumerate") <;> (wp_walk using Kn m,C;exact#[_,rfl,h])
   ·wp_walk using Kn m,C
    exact#[_,rfl,h]
theorem eD{k:Nat}(B:k=1∨k=2)(C:pR b s.heap l items)
  (h:∀h',kQ h' (s.heap.objs.size+1) s.heap.objs.size k .none->WJ b h' s.heap.objs.size l 0 ->
   (∀b o,s.heap.get? b=!o->h'.get? b=!o)->Q (.ref (s.heap.objs.size+1)) { s with heap:=h' }) :
  Ac (AZ prog w) A (call (.type "enumerate") [.ref l] [("start",.int k t)]) Q E s:=by
 let#[#[c,g,L,sl],G,H,n,I]:=C;cases H;cases I
 refine eE F.called_enumerate (by rfl) rfl (by kernel_rfl) (by kernel_rfl) (λJ=>by
  unfold kF;rw[gw (n:=['_','_','t','i','n','i','_','_']) (by kernel_rfl) F.owner_object];kernel_rfl) F.entry_enumerate_new
  (aq b B l items n g sl t) #[G,?_]
 let m:(s.heap.push { cls:=.type (itN b),data:=.fields [.ref l,.int 0 0].toArray }).objs.size=s.heap.objs.size+1:=Dq ..;rw[m];let i:=AT (s.heap.push { cls:=.type (itN b),data:=.fields [.ref l,.int 0 0].toArray }) (o:={ cls:=.type "enumerate",data:=.fields [.none,.bool false,.ref s.heap.objs.size,bw k,.none,.none].toArray }) rfl;rw[m]at i;exact#[#[_,i,rfl],h _ i #[_,AI _ (AT _ rfl),rfl,rfl] λb o x=>AI _ (AI _ x)]
theorem XZ(m:A.handled=none)(g:WJ b s.heap it l i)(B:pR b s.heap l items)(C:items[i]?=none)
  (G:∀h' e,PH it s.heap h'->(∃o,h'.get? e=!o/\o.cls=.type "StopIteration")->E (.ref e) { s with heap:=h' }):Ac (AZ prog w) A (Dz (.ref it)) Q E s:=by
 cases b
 ·exact wpAny_nextOf_list_end m g B C G
 ·exact R8 m g B C G
theorem Vd(G:A.handled=none)
  (B:kQ s.heap e it j H) (g:WJ b s.heap it l i) (I:pR b s.heap l items) (J:items[i]?=none)
  (L:∀h',PH it s.heap h'->Q none { s with heap:=h' }):Ac (AZ prog w) A (LA (.ref e)) Q E s:=by
 let C:s.TypeIs (.ref e) "enumerate":=#[_,B,rfl];unfold LA
 refine AA (Kh (CG C j9
  (By j9 C F.entry_enumerate_next ?_ (F.args_enumerate_next_1 _))))
 show Ac _ _ (field (.ref e) 2 >>= _) _ _ _;refine AA (JC B rfl rfl (AA (XZ G g I J λh' x m o=>?_)));exact AA (Oq o b9 (AC (L _ m)))
theorem ui(k:Nat)(I:A.handled=none)(it l:AW)(J:l≠it)(items:Array AH) :
  Draws prog w A it [it,l] (items.size+k) (λi v=>items[i - k]?=!v) (λi h=>k<=i/\WJ b h it l (i - k)/\pR b h l items) where
 live:=λz z st=>let #[o,g,_]:=st.2.1;#[o,g]
 frame:=λz z z st H=>#[st.1,st.2.1.at λo e=>H it ∅ o e,let #[o,g,r]:=st.2.2;#[o,H l ∅ o g,r]]
 item:=λi s Q E O st L=>by
  let#[P,st]:=st
  let G:i - k < items.size:=by lia
  let go:∀m,WJ b m it l (i - k+1)->EF it s.heap m->Q items[i - k] { s with heap:=m }:=λm B C=>
   L _ m s.toks (by simp[G]) #[by lia,by rw[show i+1 - k=i - k+1 by grind];exact B,let #[o,g,r]:=st.2;#[o,C.extBut l o J g,r]] C
  cases b
  ·exact wpAny_nextOf_list_item st.1 st.2 (x:=items[i - k]) (by simp[G]) go
  ·exact Qu st.1 st.2 (x:=items[i - k]) (by simp[G]) go
 done:=λs Q E st N=>XZ I st.2.1 st.2.2 ∅ N
end
end PySem
namespace L2
def uh(k:Nat)(sq:Hp->¬V->Prop):It:=
 #[λi H=>∃g x,sq H g/\g[i]?=!x,λi H y m=>∃p x,H p=none/\y=.ref p/\m=upd H p (.tup [.int ((i+k:Nat):Int),x])/\∀g,sq H g->g[i]?=!x,λi H=>∃g,sq H g/\-g<=i]
def SqB(b:Bool)(K:AD)(H:Hp)(a:AW)(xs:¬V):Prop:=match b with
 | true=>SqT K H a xs
 | false=>SqL K H a xs
theorem Inv.sqB(I:Inv X A B H s)(h:SqB b X.K H a xs) :
  (∃g,Bs xs g/\pR b s.heap a g.toArray)/\∀i,SqB b X.K H a i->i=xs:=by
 cases b
 ·let#[g,m,p,_]:=I.list h
  exact#[#[g,m,p.isList],λi o=>I.list_inj o h]
 ·let#[g,m,p,_]:=I.tuple h
  exact#[#[g,m,p],λi o=>I.tuple_inj o h]
section
variable{P:BP}{w:Bx}{K:AD}{elts:¬Expr}{x1:Nat}{pos:Pos}
theorem ci(b:Bool)(k:Nat)(a e it:AW)(J:e≠it)(L:a≠it)(hef:e≠a):ZO P w K (.Tuple elts x1 pos) (uh k λH xs=>SqB b K H a xs) [e,it] e (λi h=>(∃g,kQ h e it ((i+k:Nat):Int) g)/\WJ b h it a i) where
 mem:=by simp
 obj:=λi h st c hb=>by
  let ϐ:c=e∨c=it:=by simpa using hb
  rcases ϐ with z | z
  ·grind
  ·subst z
   let#[_,o,e,c,d]:=st
   ext
 keep:=λi h h' st k=>#[st.1.imp λg B=>k e ∅ _ B,st.2.at λo q=>k it ∅ o q]
 item:=by
  intro X N hw O Q i ζ s σ H E I R st S;subst N hw O;let#[xs,x,T,G]:=S;let#[#[U,Y,p'],inj]:=I.sqB T;let#[u,hu,ru]:=Y.get G
  let My:i < U.toArray.size:=by
   let:=(AE.mp hu).1;simpa using this
  let#[#[g,B],m]:=st
  let li:it < s.heap.objs.size:=by let#[o,q,_]:=m;exact AX q
  refine wpAny_pyNext_enum_itemD (ui (A:=X.A.in1) k (I.ok.hd Q) it a L U.toArray) B #[by ext,by rw[LG];exact m,p'] (by ext) J (by ext) λu' h' tk Z ho C hT hsz hk=>?_
  let:u'=u:=by
   rw[LG]at Z;ext
  subst this
  let t:=jZ (E:=E) (elts:=elts) (x1:=x1) (pos:=pos) (sq:=λH xs=>SqB b X.K H a (xs.drop k)/\k<=-xs) (tn:=λj h=>(∃g,kQ h e it (j:Int) g)/\WJ b h it a (j - k)) I J R (AX B) li ru (λys hy=>by
   let:=inj _ hy.1;rw[<-this,Hg,zr k i]at G
   exact G) ho hT hk λh2 ψ he2=>#[he2,C.2.1.at λo q=>(ψ.2 it (Cc J)).trans q]
  refine#[_,rfl,Dv t (λM s2 h2=>?_) λM M z=>z];let#[y,H',q1,q2,#[p,x,e1,e2,e3,e4],q4,q5]:=h2;refine#[y,H',q1,q2,#[p,x,e1,e2,e3,λzs hz=>?_],by rw[show i+k+1=i+1+k by lia,LG]at q4;exact q4,q5];let:=e4 (BU k x++zs) #[by rw[qL ∅];exact hz,by simp];rwa [BE ∅,OY,LG]at this
 done:=by
  intro X N hw O Q i ζ s σ H E I R st S;subst N hw O;let#[xs,T,G]:=S;let#[#[U,Y,p],_]:=I.sqB T;let#[#[g,B],m]:=st;let#[f0,f1,f2,f3,f4,f5]:=R it ∅;let hl:=-Y
  exact Vd (I.ok.hd Q) B m p (by simp;ext) λh' eb=>#[rfl,I.turned (t':=s.toks) (λb o hb e=>eb b o hb e) f0 f1 f3 f4 f5]
 self:=λM M M M M st h=>by
  let#[#[g,B],_]:=st;exact zK B h
end
section
variable{X:Cx}{E:EW}{e:Expr}{elts:¬Expr}{x1:Nat}{p pos ptg kp vp:Pos}{j1:Nat}{m:ME}{ta:TA}{b:Bool}{k:Nat}
def n9(b:Bool)(k:Nat)(K:AD)(ta:TA):TI:=λo H R=>ta o H λs i=>∃a,s=[.ref a]/\(∃g,SqB b K i a g)/\R (uh k λH g=>SqB b K H a g) i
theorem Tb{M}{A}{E}{s}{g}{pos}{T}{e}{i}{kws}{Q}
  (h:Ac M A (zN (DB pos (AR (e :: i) g))) (λvs o=>Ac M A (evalAll ((HD pos (D8 kws g)).map (·.2)))
   (λI B=>Ac M A (call (.type T) vs (((HD pos (D8 kws g)).filterMap (·.1)).zip I)) Q E B) E o) E s)
  (J:DB pos (AR (e :: i) g)=(false,Bz e g) :: DB pos (AR i g)) (L:(DB pos (AR (e :: i) g)).any (·.1)=false)
  (C:(HD pos (D8 kws g)).all (·.1.isSome)) (H:(HD pos (D8 kws g)).any (·.1.isNone)=false) :
  Ac M A (qA pos (.type T) [] (DB pos (AR (e :: i) g)) (HD pos (D8 kws g))) Q E s:=by
 let N:Ac M A (evalArgs (.type T) true (DB pos (AR (e :: i) g)) (HD pos (D8 kws g))) (λa o=>Ac M A (call (.type T) ([]++a.pos) a.kw) Q E o) E s:=by
  rw[J]at h ⊢;exact evalArgs_kwB C h
 unfold qA;refine AA (DT (Dv N (λa o G=>AA (gp ?_)) λz z x=>x));simp only[L,H,vd];exact AA (AC (AA (Dv G (λr B O=>AA (DT (wpAny_point (AC O)))) λz z x=>x)))
theorem Xq(g:tg=.Tuple elts x1 ptg)(I:Inv X G J H s)(sq:SqB b X.K H a xs)(B:kQ h' (s.heap.objs.size+1) s.heap.objs.size k .none)(i:WJ b h' s.heap.objs.size a 0)
  (L:∀b o,s.heap.get? b=!o->h'.get? b=!o) (q:R (uh k λH xs=>SqB b X.K H a xs) H):Ac (AZ X.prog X.w) X.A (NX (.ref (s.heap.objs.size+1))) (PIE X G J tg R) X.xe { s with heap:=h' }:=by
 subst g;let#[#[P,Q,o,N,_],_]:=I.sqB sq;let C:=AX N;refine zK B #[_,[s.heap.objs.size+1,s.heap.objs.size],_,_,_,rfl,I.kept (t':=s.toks) L,ci b k a _ _ (Nat.succ_ne_self _) (Ao C) (Dk (Gi C)),#[#[_,by rw[TJ];exact B],i],λb hb=>?_,q]
 let O:b=s.heap.objs.size+1∨b=s.heap.objs.size:=by simpa using hb
 rcases O with z | z
 ·rw[z];exact I.fpOk (IM _) (I.hok.fresh (IM _))
 ·rw[z];exact I.fpOk (AO _) (I.hok.fresh (AO _))
theorem aR(g:k=1∨k=2)(L:Gl X "enumerate") (hm:X.mg "enumerate" = none) (N:PA X [e] ta) (o:↑(AR [e] X.env=[(false,Bz e X.env)])) :
  PI X (.Tuple elts x1 ptg) (.Call (.Name "enumerate" p) [e] [#[!"start",.Constant (.int k) j1 vp,kp]] pos) (n9 b k X.K ta):=by
 intro A s B H R I h;refine Ev (Mt I L hm boot_enumerate ?_ ∅ (by rfl));refine Tb (thn (N pos A s B H _ I h) ?_) (by rw[o];rfl) (by rw[o];rfl) rfl rfl;rintro us O ⟨vs,C,P,Q,S⟩;let#[a,rfl,#[xs,sq],q]:=S;let#[u,rfl,T]:=vals1 Q;cases T;refine kws_cons ?_
 refine thn (mY A O B C (λx G=>x=.int k/\G=C) P #[rfl,rfl]) ?_;rintro v s2 ⟨x,G,J,U,Y,Z⟩
 subst Y Z;let#[t,rfl]:=U;refine kws_nil ?_;let#[tx,rv,pl]:=(J.sqB sq).1
 exact eD g pl λh' he i g=>Xq rfl J sq he i g q
theorem Sw(k:Nat)(ds:¬D)(i:Nat):(ds.zipIdx.map λx=>D.tup [.int ((x.2+k:Nat):Int),x.1])[i]?=(ds[i]?).map λd=>.tup [.int ((i+k:Nat):Int),d]:=by
 rw[Al,Jt]
 cases ds[i]? <;> simp
def cQ(k:Nat)(v:O4):O4:=λS=>(v S).map λg=>g.zipIdx.map λx=>.tup [.int ((x.2+k:Nat):Int),x.1]
theorem QR{K}{ρ}{H}{J}{v}{sq}(O:QA K ρ H J v)(P:∀i H,J.go i H->∃xs x,sq H xs/\xs[i]?=!x)(Q:∀i H,J.stop i H->∃xs,sq H xs/\-xs<=i)
  (R:∀i H x,(∀xs,sq H xs->xs[i]?=!x)->J.yld i H x H):QA K ρ H (uh k sq) (cQ k v):=by
 intro B o S ds i l s C;unfold cQ at C
 cases I:v S with
 | none=>ext
 | some A=>
  rw[I]at C;cases C;let#[T,U]:=O B o S A i l s I;refine#[λY=>Q i o (T ?_),λd g=>?_]
  ·rw[Sw]at Y
   ext
  ·rw[Sw]at g
   cases L:A[i]? with
   | none=>ext
   | some Z=>
    rw[L]at g;cases g;let#[b1,b2]:=U Z L;refine#[P i o b1,λy H' #[p,x,hp,e1,e2,hx]=>?_];subst e1 e2;let#[G,l3,s3,r3]:=b2 x o (R i o x hx);let#[s4,N]:=Jz s3 hp;exact#[G,l3.trans N,s4,.tup Bv (.cons (.int _) (.cons (r3.mono N) .nil))]
noncomputable def RH(ds:¬D):¬D:=ds.zipIdx.map λx=>.tup [.int ((x.2+1:Nat):Int),x.1]
def UE(m:ME):MI:=λe S=>m e S*>λd g=>match d with
 | .tup i=>.ok (HQ (RH i)) g
 | _=>.bad
theorem oI(A:Gl X "enumerate") (hm:X.mg "enumerate" = none) (h:GE X E e m) (o:↑(AR [e] X.env=[(false,Bz e X.env)])) :
  GI X E (.Tuple elts x1 ptg) (.Call (.Name "enumerate" p) [e] [#[!"start",.Constant (.int 1) j1 vp,kp]] pos) (UE m):=
 (aR (b:=true) (.inl rfl) A hm (EV h GX o) o).imp<|by
 rintro Q H R ⟨B,l,S,C,G,hm⟩
 refine#[B,l,S,C,G,hm.seq λd T hm g I x J L N=>?_]
 cases d with
 | tup U=>
  cases N with
  | @tup _ a O s P=>exact#[a,rfl,#[O,.inl (.inl s)],hm g I _ J L (QR (UX s P) (λi H z=>z) (λi H z=>z) λi H x z=>#[rfl,z])]
 | _=>exact hm.elim
def tQ(k:Nat)(m:ME):MI:=λe S=>m e S*>λd g=>match Hj d g with
 | some _=>.ok (cQ k (Hj d)) g
 | none=>.bad
theorem vE(B:∀{ta:TA},PA X [e] ta->PI X tg it (n9 false k X.K ta))(h:GE X E e m)(C:AR [e] X.env=[(false,Bz e X.env)]):GI X E tg it (tQ k m):=
 (B (EV h GX C)).imp<|by
 rintro Q H R ⟨G,l,S,I,J,hm⟩
 refine#[G,l,S,I,J,hm.seq λd L hm o N x O A s=>?_]
 cases g:Hj d L with
 | none=>rw[g]at hm;exact hm.elim
 | some T=>
  rw[g]at hm
  let:∃a,x=.ref a:=by
   cases s <;> first | exact#[_,rfl] | (cases g;done)
  let#[a,rfl]:=this;let#[P,sq,_]:=Ub A s g;exact#[a,rfl,#[P,sq],hm o N _ O A (QR (UZ s) (λi H z=>z) (λi H z=>z) λi H x z=>#[rfl,z])]
end
section
def ltT(x y:D)(S:Sto):Res D:=match x,y with
 | .tup g,.tup m=>match G7 g,G7 m with
  | some i,!j=>.ok (.bl (HT.lexLt i j)) S
  | _,_=>.bad
 | _,_=>.bad
set_option tactic.hygienic true in
theorem xh(N:X.A.units+64 < Ef):OpR X (BY .Lt) (rD X.K ltT):=(xW ∅).imp<|by
 rintro x y H Q ⟨s,S,d1,d2,d,O,B,g,i,hm,k⟩
 unfold ltT at hm;split at hm
 ·split at hm
  ·rename_i C E
   cases hm;rw[MA C]at g;rw[MA E]at i
   cases g with
   | @tup _ G P m I=>
    cases i with
    | @tup _ J R o L=>
     rw[VJ I]at m;rw[VJ L]at o;exact#[G,J,_,_,rfl,rfl,.inl (.inl m),.inl (.inl o),k s H _ .refl B (.bl _)]
  ·cases hm
 ·cases hm
end
theorem yj{P}{w}{K}{g}{base}{CX}{k n}{f}{fd}{i}:IL P w K g base CX k f fd i (spM K n λz z=>.bad):=
 #[by rintro _ _ _ _ ⟨_,_,_,_,_,_,h⟩;exact h.elim,by rintro _ _ _ _ _ _ _ _ _ _ _ _ _ ⟨_,_,_,_,_,_,h⟩;exact h.elim]
end L2
namespace HT
section
variable{E:AH->AM->Prop}
theorem RA{t sl}{items}{B C}{lo hi}{Q}(g:cN s.heap t items)(G:s.heap.IsSliceOf sl B C .none)(pl:Rb B lo)(H:Rb C hi)
  (hw:sIx items.size 0 lo=0/\sIx items.size items.size hi=items.size) (h:Q (.ref t) s):Ac (AZ prog w) A (Lk (.ref t) (.ref sl)) Q E s:=by
 let#[os,i,m,I]:=id G;let o:s.TypeIs (.ref sl) "slice":=#[os,i,m];unfold Lk
 try with_reducible refine DT ?_
 first | refine AA (AC ?_) | skip
 refine AA (zJ g.typeIs (by rfl) (AA (CG g.typeIs CZ
  (By CZ g.typeIs ul ?_ (vV _ _)))))
 show Ac (AZ prog w) _ (QK (.ref t) >>= _) _ _ s;refine AA (tupleItemsOf_ g (AA (Lg o ?_)));rw[qX (by rfl)];refine AA (Ly G pl H ?_);show Ac (AZ prog w) _ (if (((sIx items.size 0 lo:Nat):Int)==0&&(1:Int)==1&&(sIx items.size items.size hi - sIx items.size 0 lo)==items.size) then _ else _) _ _ s;rw[hw.1,hw.2,qX (by ext)];unfold zy;refine AA (AA (Lg g.typeIs (AC ?_)));rw[qX (by rfl)];exact AA (Ph (AA (AC (AC #[_,rfl,AC h]))))
end
end HT
namespace L2
section
variable{X:Cx}
def rSlW(K:AD):V->⇑Int->⇑Int->Hp->VK->Prop:=λx lo i H Q=>∃a g,x=.ref a/\SqT K H a g/\(HT.sIx (-g) 0 lo=0/\HT.sIx (-g) (-g) i=-g)/\Q (.ref a) H
theorem wc:SlR X (rSlW X.K):=by
 intro J s L H x v N O lo P sl Q I m o A B h;let#[a,C,rfl,E,hw,q]:=h;cases m;let#[G,r,i,_]:=I.tuple E
 let g:G.toArray.size=-C:=by rw[Bp];exact r.length.symm
 exact#["tuple",_,CZ.lookup,i.typeIs,HT.RA i o A B (by rw[g];exact hw) #[.ref a,H,I,rfl,q]]
def wb(d:D)(lo hi:⇑Int)(S:Sto):Res D:=match d with
 | .tup g=>.ok (.tup (HK g lo hi)) S
 | _=>.bad
def Tw(m:ME)(ml g:MO):ME:=λe S=>m e S*>λd i=>ml e i*>λlo o=>g e o*>λs A=>okR (wb d lo s A)
variable{E:EW}{e:Expr}{lo hi:⇑Expr}{pos p2:Pos}{m:ME}{ml mh:MO}
theorem uL{g:Type}(xs:¬g)(lo hi:⇑Int)(h:HT.sIx (-xs) 0 lo=0/\HT.sIx (-xs) (-xs) hi=-xs):HK xs lo hi=xs:=by
 unfold HK
 ext
theorem jS(N:GE X E e m)(i:GO X E lo ml)(O:GO X E hi mh):GE X E (.Subscript e (.Slice lo hi none p2) pos) (Tw m ml mh):=(aS (wc.or lg) N i O).imp<|by
 rintro σ H Q ⟨P,l,S,i,R,hm⟩
 refine#[P,l,S,i,R,hm.seq λd T hm A H1 x o U Y=>#[A,l,T,i.mono o,U,(hm.later o).seq λlo Z hm B H2 s s2=>#[B,l,Z,i.mono (o.trans s),s2,(hm.later s).seq λhi S3 hm ρ3 H3 C J=>?_]]];let#[d',S',e,k]:=hm.okR;let r3:=Y.mono (s.trans C)
 cases d with
 | tup ds=>
  cases e
  cases r3 with
  | @tup _ a g G I=>
   by_cases hw:HT.sIx (-g) 0 lo=0/\HT.sIx (-g) (-g) hi=-g
   ·refine .inl #[a,g,rfl,.inl (.inl G),hw,k _ _ _ (o.trans (s.trans C)) J ?_]
    rw[uL ds lo hi (by rw[I.length];exact hw)];exact .tup G I
   ·refine .inr #[a,g,rfl,.inl (.inl G),hw,λq hq=>?_]
    let#[s4,L]:=Jz J hq;exact k _ _ _ (o.trans (s.trans (C.trans L))) s4 (.tup Bv ((V7 I lo hi).mono L))
 | _=>cases e
end
section
instance(i j:Int):Decidable ((λ_ j:Int=>0<=j) i j):=inferInstanceAs (Decidable (0<=j))
abbrev Rt:=intOp uj λi j=>.int (i * 2 ^ j.toNat)
abbrev aB:=intOp (λz j=>0<=j) λi j=>.int (i / 2 ^ j.toNat)
abbrev Td:=intOp (λz z=>True) λi j=>.int (BR i j)
abbrev vh:=intOp (λz z=>True) λi j=>.int (Co i j)
theorem N9:OpR X (Cg .LShift) (rD X.K Rt):=R6 (λz z z z=>.int _) xT
theorem dH:OpR X (Cg .RShift) (rD X.K aB):=R6 (λz z z z=>.int _) xS
theorem OA:OpR X (Cg .BitAnd) (rD X.K Td):=Mp (λz z z z=>.int _) xZ
theorem xg:OpR X (Cg .BitXor) (rD X.K vh):=Mp (λz z z z=>.int _) xQ
theorem gH:PIp X .BitOr (ipI λi j=>Cp i j):=by
 intro B s C H x y v u Q I g m h;let#[i,j,o,A,q]:=h;subst o;subst A;let#[a,rfl]:=g;let#[b,rfl]:=m;exact ior_int #[.int _,H,I.tok _,#[_,rfl],q]
theorem yH:PIp X .BitAnd (ipI λi j=>BR i j):=by
 intro B s C H x y v u Q I g m h;let#[i,j,o,A,q]:=h;subst o;subst A;let#[a,rfl]:=g;let#[b,rfl]:=m;exact iand_int #[.int _,H,I.tok _,#[_,rfl],q]
theorem yG:PIp X .BitXor (ipI λi j=>Co i j):=by
 intro B s C H x y v u Q I g m h;let#[i,j,o,A,q]:=h;subst o;subst A;let#[a,rfl]:=g;let#[b,rfl]:=m;exact ixor_int #[.int _,H,I.tok _,#[_,rfl],q]
end
def E1(C:AW)(m:Str)(n:Nat)(f:¬D->Sto->Res D)(mo:ME)(ml:ML):ME:=λe S=>mo e S*>λd g=>match d with
 | .ref k=>match g[k]? with
  | some (.ins o fs)=>if o=C/\fs.lookup m=none then(ml e g).bind λi s=>if -i+1=n then f (.ref k :: i) s else .bad else .bad
  | _=>.bad
 | _=>.bad
theorem KVR.none{K}{ρ}{H}(f:Str):∀{x:¬(Str×D)} {y:¬(Str×V)},KVR K ρ H x y->x.lookup f=none->y.lookup f=none
 | _,_,z,h=>by
  cases z with
  | nil=>rfl
  | @cons p q _ _ r t=>
   let#[g,a]:=p;let#[o,b]:=q;let#[i,s]:=r;subst i;rw[Gz]at h ⊢
   cases m:(f==g)with
   | true=>ext
   | false=>rw[m]at h;exact KVR.none f t h
section
variable{X:Cx}{E:EW}{k n:Nat}{f C:AW}{m:Str}{mo:ME}{ml:ML}{g:¬D->Sto->Res D}
set_option tactic.hygienic true in
theorem lQ{t:TA}{N:St}{H:Hp}{Q:VK}(h:gE X.K E (E1 C m n g mo ml) N H Q):uy C m (spM X.K n g) [] (iH E) (gE X.K E mo) (gA X.K E ml) N H Q:=by
 let#[U,l,S,O,Y,hm]:=h;refine#[U,l,S,O,Y,hm.seq λd P hm o H1 x s R Z=>?_]
 cases d <;> first | exact hm.elim | skip
 rename_i q;dsimp only at hm
 cases i:P[q]? with
 | none=>rw[i]at hm;exact hm.elim
 | some ob=>
  rw[i]at hm
  cases ob <;> first | exact hm.elim | skip
  rename_i C' fs;dsimp only at hm;split at hm
  ·rename_i A
   let#[A,B]:=A;rw[A]at i
   cases Z with
   | ref ϣ=>
    let#[dx,G,e1,e2]:=R.ob q _ _ i ϣ;refine#[_,dx,G,rfl,e1,KVR.none m e2 B,o,l,P,O.mono s,R,(hm.later s).seq λds S2 hm I H2 xs J s2 r2=>?_];split at hm
    ·rename_i T
     rw[CQ];exact#[I,.ref q :: ds,S2,by grind,.cons (.ref (J.pre _ _ ϣ)) r2,s2,hm.xk J λM M k L H' z l' s' r'=>k L H' z (s.trans (J.trans l')) s' r']
    ·exact hm.elim
  ·exact hm.elim
theorem Fu{pl:Sem Bool}(ho:GE X E o mo)(c:Cls X.K C)(hm:O8 X.K C m f)(F:IL X.prog X.w X.K X.mg X.base CX k f fd G (spM X.K n g))(I:NC CX X (iH E))(J:He k X.A)(hb:Binds X.K fd G [])(L:GA X E (e :: es) ml)
  (s:↑(AR (e :: es) X.env=(false,Bz e X.env) :: AR es X.env)) (N:↑((DB pos (AR es X.env)).any (·.1)=false))
  (O:↑(Bz (.Call (.Attribute o m i) (e :: es) [] pos) X.env=(do
   let B <-Bz o X.env
   bg i.atName
   let (f,fts) <-Pj [B] (jv B m pl)
   qA pos f fts (DB pos (AR (e :: es) X.env)) (HD pos (D8 [] X.env))))) :
  GE X E (.Call (.Attribute o m i) (e :: es) [] pos) (E1 C m n g mo ml):=
 (sS ho c hm F J hb .nil I L s N O).imp λP H Q h=>lQ (t:=gA X.K E ml) h
end
section
def AAh:V->¬V->Hp->VK->Prop:=λx g H Q=>∃i,x=.int i/\g=[]/\Q (.int (Do i)) H
theorem sy:MtR X "int.bit_length" AAh:=by
 intro o s A H x B v C Q I g m h;let#[i,rfl,rfl,q]:=h;let#[t,rfl]:=g;cases m;exact call_int_bit_length #[.int _,H,I.tok _,#[_,rfl],q]
def fv(m:ME):ME:=λe S=>m e S*>λd g=>match d with
 | .int i=>.ok (.int (Do i)) g
 | _=>.bad
theorem tw(ho:GE X E o mo)(m:↑(Eg o "bit_length" X.env (Bz o X.env)=Bz o X.env)) (s:↑((g.endLine==A.line))) :
  GE X E (.Call (.Attribute o "bit_length" g) [] [] A) (fv mo):=(xK PySem.F.plainAttrs_int PySem.F.slot_int_bit_length PySem.F.type_int_bit_length sy ho m s).imp<|by
 rintro O H Q ⟨B,l,S,C,G,hm⟩
 refine#[B,l,S,C,G,hm.seq λd P hm i I v J L N=>?_]
 cases d <;> first | exact hm.elim | skip
 cases N;exact#[rfl,_,rfl,rfl,hm i I _ J L (.int _)]
end
section
def AAe(K:AD):V->V->Hp->VK->Prop:=λo i H Q=>∃p g k z,o=.ref p/\i=.int k/\0<=k/\H p=!.lst g/\g[k.toNat]?=!z/\Q z H
theorem oK:PGet X (AAe X.K):=by
 intro O s P H o i R S Q I m A h;let#[p,T,k,z,rfl,rfl,B,C,g,q]:=h;cases m;let#[t,rfl]:=A;let#[E,n,r,G,J]:=I.lst C
 obtain⟨u,L,N⟩:∃u,E[k.toNat]?=!u/\RelV z u:=r.get g
 let U:=(AE.mp g).1;let Y:=OD;exact getItem_listL #[_,G,rfl,n,rfl] B ∅ L #[z,H,I,N,q]
def aG(g:Int->Int->Int)(mo mi mv:ME):MS:=λe S=>(mo e S).lift e λd A=>(mi e A).lift e λk m=>match atL d m,k with
 | some (_,B),.int i=>if 0<=i then(match B[i.toNat]? with
  | some (.int x)=>(mv e m).lift e λy o=>match y,atL d o with
   | .int y,!(n,s)=>if i.toNat < -s then .ok (.nx e) (o.set n (.lst (s.set i.toNat (.int (g x y)))))else .bad
   | _,_=>.bad
  | _=>.bad)else .bad
 | _,_=>.bad
set_option tactic.hygienic true in
theorem tU(ho:GE X E o mo)(hi:GE X E i mi)(he:GE X E e mv)(hp:PIp X op (ipI g))
  (ha:autoParam (∀I J new,augStore i I J new=(do Pj [new,I,J] (zP I J new);release [new,I,J] [];pure .next)) yq8q):GS X E (.AugAssign (.Subscript o i tpos) op e pos) (aG g mo mi mv):=
 (sH ho hi oK he hp lr ha).imp<|by
 rintro D σ H ⟨ρ,l,S,s,hs,hm⟩
 refine#[ρ,l,S,s,hs,hm.lift s .refl λd S1 hm L H1 x m s1 r1=>#[L,l,S1,s.mono m,s1,(hm.later m).lift (s.mono m) m λk S2 hm N H2 y A U r2=>?_]];let B:=r1.mono A;split at hm
 ·rename_i n xs i hq
  split at hm
  ·rename_i Y
   let#[rfl,h5,a,vs,rfl,hn,e1,rr]:=SS U B hq;cases r2;split at hm
   ·rename_i x hx
    let#[z,hz,rz]:=rr.get hx;cases rz;refine#[a,vs,i,.int x,rfl,rfl,Y,e1,hz,N,l,S2,s.mono (m.trans A),U,(hm.later A).lift (s.mono (m.trans A)) (m.trans A) λy S3 hm O H3 w P Z r3=>?_];split at hm
    ·rename_i y n3 zs Q
     split at hm
     ·rename_i My
      cases r3;let#[_,h6,a3,C,e4,R,e3,G]:=SS Z (B.mono P) Q;cases e4;let#[s4,l4]:=rp Z R e3 (G.set (.int (g x y)) i.toNat)
      let T:ixN (-C) i=!i.toNat:=by
       unfold ixN;rw[qX Y,qX (by rw[<-G.length];omega)]
      exact#[x,y,rfl,rfl,a,C,i,i.toNat,rfl,rfl,e3,T,hm O _ _ ((m.trans A).trans (P.trans l4)) s4 (s.mono ((m.trans A).trans (P.trans l4)))]
     ·exact hm.elim
    ·exact hm.elim
   ·exact hm.elim
  ·exact hm.elim
 ·exact hm.elim
end
open PySem.SeqAt
section
theorem xn(g:autoParam N.Nodup yq6q)(i:autoParam (∀x∈ps,sc.names.lookup x=!.local∨sc.names.lookup x=!.cell) yq6q)(m:autoParam (∀y∈sc.names,y.2≠.free) yq6q)(o:↑(sc.kind=.function))(s:↑(sc.isCoroutine=false))(A:↑(sc.isGenerator=false))(B:↑(N.take (-ps)=ps)):K6 N ps sc:=#[o,s,A,g,B,i,m]
end
section
variable{X:Cx}{E:EW}{e:Expr}
theorem Ce(i:Nat)(hN:X.N.Nodup)(hi:↑(X.N[i]?=!x))(g:autoParam (Loc X.env.scope x) yq7q)(hf:autoParam (X.fn x=true∨X.env.scope.names.lookup x=!.local) yq2q):GG X (.Name x pos) (tgN i):=tX (sP hN hi g hf)
theorem BZ(i:Nat)(hN:X.N.Nodup)(o:GE X E e m)(hi:↑(X.N[i]?=!x))(s:autoParam (Loc X.env.scope x) yq7q)(A:↑(HX e (!.Name x g) pos.line X.env=pure false))
  (hf:autoParam (X.fn x=true∨X.env.scope.names.lookup x=!.local) yq2q):GS X E (.Assign [.Name x g] e pos) (Bb i m):=yR hN hi s o A hf
theorem Xl(i:Nat)(hN:X.N.Nodup)(s:PIp X op (ipI g))(A:GE X E e m)(hi:↑(X.N[i]?=!x))(B:autoParam (Loc X.env.scope x) yq7q)
  (hf:autoParam (X.fn x=true∨X.env.scope.names.lookup x=!.local) yq2q):GS X E (.AugAssign (.Name x o) op e pos) (U6 i g m):=yT hN hi B s A hf
end
section
noncomputable def NT:D->D->Sto->Res D
 | .str a,.str b,S=>if -a+-b<=sizeLine then .ok (.str (a++b)) S else .bad
 | _,_,_=>.bad
set_option tactic.hygienic true in
theorem FQ:OpR X (Cg .Add) (rD X.K NT):=by
 intro E s G H x y v u Q I g i h;let#[m,S,a,b,d,J,o,A,B,hm,k]:=h;unfold NT at hm;split at hm
 ·rename_i a b S
  split at hm
  ·rename_i C
   cases hm;cases A;cases B;let#[t,rfl]:=g;let#[L,rfl]:=i;exact SB.add (λN O=>#[.str _,H,I.tok _,#[_,rfl],k m H _ .refl o (.str _)]) C
  ·cases hm
 ·cases hm
noncomputable def inS(neg:Bool):D->D->Sto->Res D
 | .str c,.str x,S=>.ok (.bl (if neg then not (Txt.contains x c) else NY x c)) S
 | _,_,_=>.bad
theorem xj:OpR X (BY .In) (rD X.K (inS false)):=by
 intro C s E H x y v u Q I g i h;let#[m,S,a,b,d,G,o,A,B,hm,k]:=h;unfold inS at hm;split at hm
 ·cases hm
  cases A;cases B;let#[t,rfl]:=g;let#[J,rfl]:=i;exact SB.contains #[.bl _,H,I,rfl,k m H _ .refl o (.bl _)]
 ·cases hm
def ixS:D->D->Sto->Res D
 | .str x,.int i,S=>if -x<=sizeLine then(match atI x.cps.toList i with
  | some c=>.ok (.str #[[c].toArray]) S
  | none=>.bad)else .bad
 | _,_,_=>.bad
set_option tactic.hygienic true in
theorem xi:IxR X (rD X.K ixS):=yE.imp<|by
 rintro x y H Q ⟨g,S,a,b,d,B,i,m,o,hm,k⟩
 unfold ixS at hm;split at hm
 ·split at hm
  ·rename_i s
   split at hm
   ·rename_i c A
    cases hm;cases m;cases o;exact#[_,_,c,rfl,rfl,s,A,k g H _ .refl i (.str _)]
   ·cases hm
  ·cases hm
 ·cases hm
def au(m:ME):ME:=λe S=>m e S*>λd g=>match d with
 | .str x=>if -x<=sizeLine then .ok (.int (-x)) g else .bad
 | _=>.bad
set_option tactic.hygienic true in
theorem gP(s:Gl X "len") (hm:X.mg "len" = none) (h:GE X E e m) (o:↑(AR [e] X.env=(false,Bz e X.env) :: AR [] X.env)):GE X E (.Call (.Name "len" p) [e] [] pos) (au m):=
 (KO ZF s hm qD (EV h GX o) ∅ (by rfl) o rfl).imp<|by
 rintro O H Q ⟨A,l,S,B,C,hm⟩
 refine#[A,l,S,B,C,hm.seq λd P g i G x I J L=>?_]
 cases d <;> first | exact g.elim | skip
 rename_i z;cases L;dsimp only at g;split at g
 ·rename_i N
  exact#[z,rfl,N,g i G _ I J (.int _)]
 ·exact g.elim
theorem jh:Jb X (.type "str") (λxs H Q=>∃i:Int,xs=[.int i]/\(if i < 0 then 0 - i else i) < 1000000/\Q (.str (toString i)) H):=by
 intro m s o H xs A Q I r h;let#[i,rfl,g,q]:=h;let#[u,rfl,t,rfl]:=vals1 r
 exact str_of_int_fit g (by ext) λz=>#[.str _,H,I.tok _,#[_,rfl],q]
def L5(m:ME):ME:=λe S=>m e S*>λd g=>match d with
 | .int i=>if (if i < 0 then 0 - i else i) < 1000000 then .ok (.str (toString i)) g else .bad
 | _=>.bad
set_option tactic.hygienic true in
theorem JL(B:Gl X "str") (hm:X.mg "str" = none) (h:GE X E e m) (A:↑(AR [e] X.env=(false,Bz e X.env) :: AR [] X.env)):GE X E (.Call (.Name "str" p) [e] [] pos) (L5 m):=
 (Rz jh B hm PyProof.Rows.boot_str (EV h GX A) ∅ (by rfl) A rfl).imp<|by
 rintro P H Q ⟨C,l,S,G,I,hm⟩
 refine#[C,l,S,G,I,hm.seq λd R g o J x L N O=>?_]
 cases d <;> first | exact g.elim | skip
 rename_i i;cases O;dsimp only at g
 by_cases s:(if i < 0 then 0 - i else i) < 1000000
 ·rw[qX s]at g
  exact#[i,rfl,s,g o J _ L N (.str _)]
 ·rw[qY s]at g
  exact g.elim
theorem jo:Jb X (.type "int") (λxs H Q=>∃x n,xs=[.str x]/\Ot x=!n/\-x<=640/\Q (.int n) H):=by
 intro m s o H xs A Q I r h;let#[x,n,rfl,g,i,q]:=h;let#[u,rfl,t,rfl]:=vals1 r;exact PySem.W.KIN.call_text g i #[.int n,H,I.tok _,#[_,rfl],q]
def fq(m:ME):ME:=λe S=>m e S*>λd g=>match d with
 | .str x=>if -x<=640 then(match Ot x with
  | some n=>.ok (.int n) g
  | none=>.bad)else .bad
 | _=>.bad
set_option tactic.hygienic true in
theorem tj(A:Gl X "int") (hm:X.mg "int" = none) (h:GE X E e m) (s:↑(AR [e] X.env=(false,Bz e X.env) :: AR [] X.env)):GE X E (.Call (.Name "int" p) [e] [] pos) (fq m):=
 (Rz jo A hm PyProof.Rows.boot_int (EV h GX s) ∅ (by rfl) s rfl).imp<|by
 rintro P H Q ⟨B,l,S,C,G,hm⟩
 refine#[B,l,S,C,G,hm.seq λd R g i I x J L N=>?_]
 cases d <;> first | exact g.elim | skip
 rename_i z;cases N;dsimp only at g;split at g
 ·rename_i O
  cases o:Ot z with
  | none=>rw[o]at g;exact g.elim
  | some n=>
   rw[o]at g;exact#[z,n,rfl,o,O,g i I _ J L (.int _)]
 ·exact g.elim
noncomputable def Nl:¬D->⇑(¬Str)
 | []=>![]
 | .str x :: r=>(Nl r).map (x :: ·)
 | _=>none
set_option tactic.hygienic true in
theorem Uo:∀{ds:¬D} {g:¬Str},Nl ds=!g->ds=g.map D.str
 | [],g,h=>by cases h;rfl
 | d :: r,g,h=>by
  cases d <;> first | (cases h;done) | skip
  rename_i x;unfold Nl at h
  cases i:Nl r with
  | none=>ext
  | some m=>
   rw[i]at h;cases h;rw[At,Uo i]
theorem QZ:∀g:¬Str,Nl (g.map D.str)=!g
 | []=>rfl
 | y :: g=>by
  show(Nl (g.map D.str)).map (y :: ·)=_;rw[QZ g];rfl
theorem aK{K}{ρ}{H}:∀{g:¬Str} {vs:¬V},Au K ρ H (g.map D.str) vs->vs=g.map V.str
 | [],_,.nil=>rfl
 | y :: g,_,.cons r t=>by
  cases r;rw[At,aK t]
theorem fY{K}{ρ}{H}:∀(g:¬Str),Au K ρ H (g.map D.str) (g.map V.str)
 | []=>.nil
 | y :: g=>.cons (.str y) (fY g)
theorem XA:∀{g:¬Str} {us:¬AH},Bs (g.map V.str) us->∃l:¬(Str×Tok),us=ju l/\l.map (·.1)=g
 | [],_,.nil=>#[[],rfl,rfl]
 | y :: g,_,.cons r t=>by
  let#[l,rfl,e]:=XA t;let#[i,rfl]:=r;exact#[(y,i) :: l,rfl,by ext]
theorem XD:∀(l:¬(Str×Tok)),Bs ((l.map (·.1)).map V.str) (ju l)
 | []=>.nil
 | x :: l=>.cons #[x.2,rfl] (XD l)
theorem sw:MtM X "str.join" (λx vs H Q=>∃g p i,x=.str g/\vs=[.ref p]/\H p=!.lst (i.map V.str)/\vb g i/\Q (.str (X2 g i)) H):=by
 intro G s J H x vs v L Q I o A h;let#[g,p,i,rfl,rfl,B,m,q]:=h;let#[t,rfl]:=o;let#[u,rfl,C]:=vals1 A;cases C;let#[z,N,n,r,_,e]:=I.lstM B;let#[l,rfl,E]:=XA r
 exact SC.join #[_,e,rfl,n,rfl] E m λO k=>#[.str _,H,I.tok _,#[_,rfl],q]
def Mr(mo mi:ME):ME:=λe S=>mo e S*>λd o=>match d with
 | .str g=>mi e o*>λx i=>match atL x i with
  | some (_,s)=>match Nl s with
   | some m=>if vb g m then .ok (.str (X2 g m)) i else .bad
   | none=>.bad
  | none=>.bad
 | _=>.bad
set_option tactic.hygienic true in
theorem Vt(ho:GE X E o mo)(T:GE X E e mi)(U:↑(Eg o "join" X.env (Bz o X.env)=Bz o X.env))
  (Y:↑(((DB m (AR [e] X.env)).all (λx=>not x.1)&&(HD m (D8 [] X.env)).all (λx=>x.1.isSome)
    &&decide (-[e]+-([]:¬NW)+(if ([]:¬NW).isEmpty then 0 else 1) < 30))))
  (Z:↑((i.endLine==m.line))) (s:↑(AR [e] X.env=(false,Bz e X.env) :: AR [] X.env)) (Y':↑((DB m (AR [] X.env)).any (·.1)=false)) :
  GE X E (.Call (.Attribute o "join" i) [e] [] m) (Mr mo mi):=(fV X6 PySem.F.slot_str_join PySem.F.type_str_join sw ho (EV T GX s) U Y Z s Y').imp<|by
 rintro σ H Q ⟨ρ,l,S,N,s,hm⟩
 refine#[ρ,l,S,N,s,hm.seq λd S1 hm A H1 v B s1 r1=>?_]
 cases d <;> first | exact hm.elim | skip
 rename_i C;cases r1;refine#[rfl,A,l,S1,N.mono B,s1,(hm.later B).seq λx S2 g G H2 u l2 O r2=>?_]
 cases I:atL x S2 with
 | none=>rw[I]at g;exact g.elim
 | some z=>
  let#[n,ds]:=z;rw[I]at g;dsimp only at g
  cases J:Nl ds with
  | none=>rw[J]at g;exact g.elim
  | some ys=>
   rw[J]at g;dsimp only at g;split at g
   ·rename_i L
    let#[e',h4,a,vs,ea,ϛ,P,R]:=SS O r2 I;subst ea;rw[Uo J]at R;rw[aK R]at P;exact#[C,a,ys,rfl,rfl,P,L,g G H2 _ (B.trans l2) O (.str _)]
   ·exact g.elim
theorem iY{prog}{w}{A}{E}{s}{Q}{x y}{t u}(o:(-y==0)=false)
  (hq:∀(l:¬(Str×Tok)) (k:Nat),l.map (·.1)=D6 x y->Q (.ref s.heap.objs.size) { s with heap:=s.heap.push { cls:=.type "list",data:=.seq (ju l).toArray },toks:=k })
  (hsz:-x<=sizeLine) (i:(TQ x (Kk x y 0 (-x) (-x+1)) (-y)).length<=sizeLine) :
  Ac (AZ prog w) A (call (.builtin "str.split") [.str x t,.str y u]) Q E s:=by
 cases g:(decide (-x < -y)||decide (W5 x < W5 y))
 ·cases m:(Kk x y 0 (-x) (-x+1)).isEmpty
  ·refine UL WY (UI _ _ _) US (TN _ _) (meets_str_split_sep x y t u g o m hsz i) ?_
   rw[strsFrom_eq];exact hq (numbered s.toks _) _ ((numbered_texts _ _).trans ((qY (ne_true_of_eq_false g)).trans (qY (ne_true_of_eq_false m))).symm)
  ·exact UL WY (UI _ _ _) US (TN _ _) (meets_str_split_not_found x y t u g o m)
    (hq [(x,t)] s.toks ((qY (ne_true_of_eq_false g)).trans (qX m)).symm)
 ·exact UL WY (UI _ _ _) US (TN _ _) (meets_str_split_cannot_occur x y t u g)
   (hq [(x,t)] s.toks (qX g).symm)
noncomputable def JH(x y:Str):Bool:=not (-y==0)&&decide (-x<=1000000)&&decide ((TQ x (Kk x y 0 (-x) (-x+1)) (-y)).length<=1000000)&&decide (-D6 x y<=1000000)
theorem nH:MtM X "str.split" (λx vs H Q=>∃z y,x=.str z/\vs=[.str y]/\JH z y/\∀l,H l=none->Q (.ref l) (upd H l (.lst ((D6 z y).map V.str)))):=by
 intro G s J H x vs v L Q I i m h;let#[z,y,rfl,rfl,g,q]:=h;let#[t,rfl]:=i;let#[u,rfl,N,rfl]:=vals1 m;unfold JH at g;simp only[Bo,GP,decide_eq_true_eq]at g;let#[#[#[o,A],B],C]:=g;refine iY o (λl k E=>?_) (Ab A ∅) (Ab B ∅);refine#[.ref s.heap.objs.size,_,I.laid (t':=k) (λb O q=>AI _ q) (AO _) ?_,rfl,q _ (I.hok.fresh (AO _))];refine#[by rw[AN];exact Ab C ∅,ju l,0,?_,AT _ rfl];rw[<-E];exact XD l
def Hu(mo mi:ME):ME:=λe S=>mo e S*>λd i=>match d with
 | .str z=>mi e i*>λx g=>match x with
  | .str y=>if JH z y then .ok (.ref (-g)) (g++[.lst ((D6 z y).map D.str)])else .bad
  | _=>.bad
 | _=>.bad
set_option tactic.hygienic true in
theorem Oj(ho:GE X E o mo)(O:GE X E e mi)(P:↑(Eg o "split" X.env (Bz o X.env)=Bz o X.env))
  (R:↑(((DB s (AR [e] X.env)).all (λx=>not x.1)&&(HD s (D8 [] X.env)).all (λx=>x.1.isSome)
    &&decide (-[e]+-([]:¬NW)+(if ([]:¬NW).isEmpty then 0 else 1) < 30))))
  (T:↑((i.endLine==s.line))) (A:↑(AR [e] X.env=(false,Bz e X.env) :: AR [] X.env)) (U:↑((DB s (AR [] X.env)).any (·.1)=false)) :
  GE X E (.Call (.Attribute o "split" i) [e] [] s) (Hu mo mi):=(fV X6 PySem.F.slot_str_split PySem.F.type_str_split nH ho (EV O GX A) P R T A U).imp<|by
 rintro σ H Q ⟨Y,l,S,J,A,hm⟩
 refine#[Y,l,S,J,A,hm.seq λd Z hm B H1 v C s1 r1=>?_]
 cases d <;> first | exact hm.elim | skip
 rename_i z;cases r1;refine#[rfl,B,l,Z,J.mono C,s1,(hm.later C).seq λx S2 g m L u l2 s2 r2=>?_]
 cases x <;> first | exact g.elim | skip
 rename_i y;cases r2;dsimp only at g;split at g
 ·rename_i G
  refine#[z,y,rfl,rfl,G,λq N=>?_];let le:Le X.K m L (m++[q]) (upd L q (.lst ((D6 z y).map V.str))):=Le.alloc N;let#[s4,l4,I]:=s2.alloc (o:=.lst ((D6 z y).map D.str)) N #[_,Bv,fY _];exact g _ _ _ ((C.trans l2).trans l4) s4 (.ref I)
 ·exact g.elim
end
def Its(x:Str):It:=#[λi z=>i < x.cps.size,λi H v g=>g=H/\∃c,x.cps[i]?=!c/\v=.str #[[c].toArray],λi z=>x.cps.size<=i]
theorem lK{P}{w}{K}{tg}(it:AW)(x:Str)(t:Tok):ZO P w K tg (Its x) [it] it (λi h=>h.IsStrIter it "str_ascii_iterator" x t i) where
 mem:=by simp
 obj:=λi h st b hb=>by
  let e:b=it:=by simpa using hb
  subst e;let#[o,m,_,S]:=st
  ext
 keep:=λi h C st k=>by
  let#[o,m,r]:=st;exact#[o,k it ∅ _ m,r]
 item:=by
  intro X G hw J T i U s Y H E I A st B;subst G hw J;let#[L,N,f2,O,Q,R]:=A it ∅;let Z:=LI B
  refine wpAny_pyNext_ascii_item st Z λC g sb=>?_
  let I1:Inv X U Y H { s with heap:=C,toks:=s.toks+1 }:=I.turned (λb o hb e=>(sb.2 b hb).trans e) L N O Q R;let#[o,m,Ϫ,S]:=id g;exact#[_,rfl,bB m Ϫ S (by rfl) #[.str #[[x.cps[i]'B].toArray],H,I1,#[_,rfl],#[rfl,_,Z,rfl],g,λb hb=>(A b hb).1]]
 done:=by
  intro X G hw J T i U s Y H E I A st B;subst G hw J;let#[L,N,f2,O,Q,R]:=A it ∅
  exact wpAny_pyNext_ascii_end (I.ok.hd T) st (Zk B) λC eb=>#[rfl,I.turned (t':=s.toks) (λb o hb e=>eb b o hb e) L N O Q R]
 self:=λz z z z z st h=>wpAny_pyIter_striter_ascii st h
section
def ABA(te:TE):TI:=λg H R=>te g H λx i=>∃z,x=.str z/\z.cps.all (· < 128)/\R (Its z) i
theorem xB(m:PE X e te):PI X tg e (ABA te):=by
 intro A s B H R I h
 refine thn (m A s B H _ I h) ?_;rintro v g ⟨x,C,i,E,z,e,G,q⟩
 subst e;let#[t,rfl]:=E;refine wpAny_pyIter_ascii G ?_;refine#[g.heap.objs.size,[g.heap.objs.size],_,_,C,rfl,i.kept (t':=g.toks) λb o e=>AI _ e,lK _ z t,#[_,AT _ rfl,rfl,rfl],λb hb=>?_,q]
 let e:b=g.heap.objs.size:=by simpa using hb
 subst e;exact i.fpOk (AO _) (i.hok.fresh (AO _))
noncomputable def Uu(z:Str):¬D:=z.cps.toList.map λc=>D.str #[[c].toArray]
def gK(m:ME):MI:=λe S=>m e S*>λd g=>match d with
 | .str z=>if z.cps.all (· < 128) then .ok (HQ (Uu z)) g else .bad
 | _=>.bad
set_option tactic.hygienic true in
theorem yX(h:GE X E e m):GI X E tg e (gK m):=(xB h).imp<|by
 rintro Z H R ⟨C,l,S,G,I,hm⟩
 refine#[C,l,S,G,I,hm.seq λd S1 hm g J x L N O=>?_]
 cases d <;> first | exact hm.elim | skip
 rename_i z;cases O;dsimp only at hm;split at hm
 ·rename_i P
  refine#[z,rfl,P,hm g J _ L N ?_];intro o H2 S2 ds i l2 Q T;cases T
  let e:(Uu z)[i]?=(z.cps[i]?).map λc=>D.str #[[c].toArray]:=by
   unfold Uu;rw[Al,Nf]
  rw[e];refine#[λhn=>?_,λd A=>?_]
  ·show z.cps.size<=i
   grind
  ·cases s:z.cps[i]? with
   | none=>ext
   | some c=>
    rw[s]at A;cases A;refine#[(Array.getElem?_eq_some_iff.mp s).1,λy H' #[U,c',B,Y]=>?_];subst U;rw[s]at B;cases B;subst Y;exact#[o,.refl,Q,.str _]
 ·exact hm.elim
end
section
variable{X:Cx}{E:EW}{e:Expr}{elts:¬Expr}{x1:Nat}{p pos ptg kp vp:Pos}{j1:Nat}{m:ME}
noncomputable def UG(ds:¬D):¬D:=ds.zipIdx.map λx=>.tup [.int ((x.2+2:Nat):Int),x.1]
def cR(v:O4):O4:=λS=>(v S).map UG
def UD(m:ME):MI:=λe S=>m e S*>λd g=>match Hj d g with
 | some _=>.ok (cR (Hj d)) g
 | none=>.bad
theorem oH(i:Gl X "enumerate") (hm:X.mg "enumerate" = none) (h:GE X E e m) (g:↑(AR [e] X.env=[(false,Bz e X.env)])) :
  GI X E (.Tuple elts x1 ptg) (.Call (.Name "enumerate" p) [e] [#[!"start",.Constant (.int 2) j1 vp,kp]] pos) (UD m):=vE (λo=>aR (.inr rfl) i hm o g) h g
end
theorem Vu(g:Gl X x)(hm:X.mg x=!.str z i)(m:↥((x==("__debug__" : Str))=false)):GE X E (.Name x pos) (mC (.str z)):=
 jU (YZ (v:=.str z) g hm #[i,rfl] m) λG G=>.str z
section
variable{X:Cx}{E:EW}{tg e:Expr}{K:AD}{ζ:¬(AW×Obj)}{σ:St}{H:Hp}{s:AM}
def Itk(a:AW)(g:Obj)(u:HO)(xs:¬V):It:=
 #[λi H=>H a=!.frz g u/\i < -xs,λi H x m=>m=H/\xs[i]?=!x,λi H=>H a=!.frz g u/\-xs<=i]
theorem iQ(Z:B.ExactDict)(hd:B.data=.dict es ep)(J:Bs xs (es.toList.map (·.key))):ZO P w K tg (Itk a B u xs) [it] it (λi h=>h.IsKeyIter it a i es.size ep) where
 mem:=by simp
 obj:=λi h st b hb=>by
  let e:b=it:=by simpa using hb
  subst e;let#[o,e,c,d]:=st
  ext
 keep:=λi h h' st k=>st.at λo e=>k it ∅ o e
 item:=by
  intro X L hw N hc i ζ s σ H E I C st O;subst L hw N;let#[Q,G]:=O;let#[g,_]:=(I.hok a _ Q)
  let hs:-xs=es.size:=by let:=-J;rw[AN,CW]at this;exact this
  let m:i < es.size:=by rw[<-hs];exact G
  let#[v,h1,h2]:=J.get (BX G);rw[Al,Nf,LI m]at h1;cases h1;let#[R,S,f2,T,U,Y]:=C it ∅
  refine Srt.aM st #[B,g,Z,hd] m λh' A sb=>?_
  let I1:=I.turned (t':=s.toks) (λb o hb e=>(sb.2 b hb).trans e) R S T U Y;let#[o,e,c,d]:=id A;exact#[_,rfl,bB e c d (by rfl) #[_,H,I1,h2,#[rfl,BX G],A,λb hb=>(C b hb).1]]
 done:=by
  intro X L hw N hc i ζ s σ H E I C st O;subst L hw N;let#[Q,G]:=O;let#[g,_]:=(I.hok a _ Q)
  let hs:-xs=es.size:=by let:=-J;rw[AN,CW]at this;exact this
  let#[R,S,f2,T,U,Y]:=C it ∅
  exact Srt.fS (I.ok.hd hc) st #[B,g,Z,hd] (by ext) λh' eb=>#[rfl,I.turned (t':=s.toks) (λb o hb e=>eb b o hb e) R S T U Y]
 self:=λz z z z z st h=>pr st h
theorem uJ:∀{l:¬SW} {us:¬(Key×AH)} {g:¬(Key×V)},Pairs (E3 P w) l us->KV g us->Bs (g.map λx=>kV x.1) (l.map (·.key)):=by
 intro l us g A
 induction A generalizing g with
 | nil=>intro h;cases h;exact .nil
 | cons B G _ C=>
  intro h
  cases h with
  | cons r t=>
   refine .cons ?_ (C t);symm;rw[r.1]
   rcases Di B with⟨i,t,m,o⟩ | ⟨x,t,m,o⟩
   ·rw[m,o];exact#[t,rfl]
   ·rw[m,o];exact#[t,rfl]
theorem oz:∀{g:¬(¬Key×V)} {xs:¬(¬Key×AW×AH)},HE (λ(p:¬Key×V) (q:¬Key×AW×AH)=>p.1=q.1/\H q.2.1=!.tup (p.1.map kV)/\RelV p.2 q.2.2) g xs->HE (λ(k:¬Key×V) b=>H b=!.tup (k.1.map kV)) g (xs.map (·.2.1)):=by
 intro g xs h
 induction h with
 | nil=>exact .nil
 | cons r _ i=>exact .cons r.2.1 i
theorem iw(l:¬AW):Bs (l.map V.ref) (l.map BJ):=by
 induction l with
 | nil=>exact .nil
 | cons a l g=>exact .cons rfl g
def iDct(o:TE):TI:=λσ H R=>o σ H λx i=>∃a m,x=.ref a/\((∃g,i a=!.frz m (.dK g)/\R (Itk a m (.dK g) (g.map λx=>kV x.1)) i) ∨
 ∃g,i a=!.frz m (.dT g)/\∀bs,HE (λ(k:¬Key×V) b=>i b=!.tup (k.1.map kV)) g bs->R (Itk a m (.dT g) (bs.map V.ref)) i)
theorem sM(S:PE X l T):PI X tg l (iDct T):=by
 intro ζ s σ H R I h
 refine thn (S ζ s σ H _ I h) ?_;rintro v s1 ⟨x,Q,B,U,Y⟩
 let#[a,C,e,q]:=Y;subst e;cases U
 let fin:∀{u:HO} {N:¬V} {G:Array SW} {O:Nat},(a==EI)=false->s1.heap.get? a=!C->C.ExactDict->C.data=.dict G O->Bs N (G.toList.map (·.key))->R (Itk a C u N) Q ->
   Ac (AZ X.prog X.w) X.A (NX (.ref a)) (PIE X ζ σ tg R) X.xe s1:=λJ g i m Z q=>by
  refine Srt.aN J #[C,g,i,m] ?_;refine#[s1.heap.objs.size,[s1.heap.objs.size],_,_,Q,rfl,B.kept (t':=s1.toks) λb o e=>AI _ e,iQ i m Z,#[_,AT _ rfl,rfl,rfl],λb hb=>?_,q]
  let e:b=s1.heap.objs.size:=by simpa using hb
  subst e;exact B.fpOk (AO _) (B.hok.fresh (AO _))
 rcases q with⟨j',P,q⟩ | ⟨j',P,q⟩
 ·let#[g,hz,J,us,kv,o,G,O,L,i,m,g5,g6,_]:=(B.hok a _ P)
  rw[g]at L;cases L;exact fin J g i m (uJ g6 kv) q
 ·let#[g,hz,J,N,rr,o,G,O,L,i,m,g4,_]:=(B.hok a _ P)
  rw[g]at L;cases L
  let hk:G.toList.map (·.key)=(N.map (·.2.1)).map BJ:=by
   rw[g4,BC,BC];rfl
  exact fin J g i m (by rw[hk];exact iw _) (q _ (oz rr))
def a5(d:D)(S:Sto):⇑(¬D):=match d with
 | .ref n=>match S[n]? with
  | some (.fK g)=>!(g.map λx=>dX x.1)
  | some (.fT g)=>!(g.map λx=>.tup (x.1.map dX))
  | _=>none
 | _=>none
def gM(m:ME):MI:=λe S=>m e S*>λd g=>match a5 d g with
 | some i=>.ok (HQ i) g
 | none=>.bad
theorem Ua(C:H a=!.frz G u)(I:Au K ρ H ds xs):QA K ρ H (Itk a G u xs) (HQ ds):=by
 intro m O S P i l s J;cases J;let o:=I.mono l;let g:=l.frz _ _ _ C;refine#[λQ=>#[g,by rw[<-o.length];ext],λd L=>?_];let#[x,A,N]:=o.get L;refine#[#[g,(AE.mp A).1],λy R #[e,B]=>?_];subst e;rw[A]at B;cases B;exact#[m,.refl,s,N]
theorem tW(h:GE X E e m):GI X E tg e (gM m):=(sM h).imp<|by
 rintro σ H R ⟨N,l,S,O,P,hm⟩
 refine#[N,l,S,O,P,hm.seq λd Q hm i I x J A T=>?_]
 cases g:a5 d Q with
 | none=>rw[g]at hm;exact hm.elim
 | some ds=>
  rw[g]at hm
  cases T with
  | @ref n a U=>
   let#[o,Y,L]:=A.there U;unfold a5 at g;simp only[Y]at g
   cases o with
   | fK Z=>
    cases g;let#[B,C,e,G]:=L;exact#[a,B,rfl,.inl #[C,e,hm i I _ J A (Ua e (Q1 G))]]
   | fT Z=>
    cases g;let#[B,C,e,G]:=L;exact#[a,B,rfl,.inr #[C,e,λbs hb=>hm i I _ J A (Ua e (Vk G hb))]]
   | _=>cases g
  | _=>cases g
theorem Inv.fz(I:Inv X ζ σ H s)(C:s.heap.get? a=!A)(G:H a=!u)(Q:Mut (!u)):Inv X ζ σ (upd H a (.frz A u)) s:=by
 let i:∀b,H b=none->b≠a:=λb h z=>by ext
 let g:∀b o,H b=!o->Not (Mut (!o))->b≠a:=λb o h n z=>by ext
 let st:∀b o,EB X.prog X.w H s.heap b o->EB X.prog X.w (upd H a (.frz A u)) s.heap b o:=λb o x=>
  x.stay (λM M M q=>q) (λc r=>by rw[Bd (g c _ r λz=>z)];exact r) λc m r=>by rw[Bd (g c _ r λz=>z)];exact r
 refine#[I.ok,I.os,I.bare,#[I.base.keep,I.base.slot,λb o q n J=>?_,I.base.there,λb m q=>?_,λb o m q=>?_,λb L q=>?_],I.loc,I.cell,?_,λx c q=>?_,λp N=>?_,λb o q=>?_,I.len]
 ·let:=I.base.free b o q n J
  rw[Bd (i b this)];exact this
 ·let:=I.base.tups b m q
  rw[Bd (g b _ this λz=>z)];exact this
 ·let:=I.base.frzs b o m q
  rw[Bd (g b _ this λz=>z)];exact this
 ·let#[more,this]:=I.base.tbls b L q
  exact#[more,by rw[Bd (g b _ this λz=>z)];exact this]
 ·rw[Bd (i _ I.free)];exact I.free
 ·rw[Bd (i _ (I.freeC x c q))];exact I.freeC x c q
 ·let#[O,B,P]:=I.pin p N
  exact#[O,by rw[Bd (i _ B)];exact B,P]
 ·by_cases hb:b=a
  ·subst hb
   rw[Bv]at q;cases q;exact#[C,st b u (I.hok b u G)]
  ·rw[Bd hb]at q
   exact st b o (I.hok b o q)
noncomputable def fzO:Ob->⇑Ob
 | .dK g=>!.fK g
 | .dT g=>!.fT g
 | .fK g=>!.fK g
 | .fT g=>!.fT g
 | _=>none
def sFz(i:Nat):MS:=λe S=>match e[i]? with
 | some (!.ref n)=>match S[n]? with
  | some o=>match fzO o with
   | some g=>.ok (.nx e) (S.set n g)
   | none=>.bad
  | none=>.bad
 | _=>.bad
theorem aC{S:Sto}{n:Nat}{o:Ob}(h:S[n]?=!o):S.set n o=S:=by
 apply IV
 intro j;rw[E0];split
 ·grind
 ·rfl
theorem ABG{i:Nat}{st:CY}{O:MS}(h:GS X E st O):GS X E st (As (sFz i) O):=by
 rintro ζ s σ H D I ⟨B,l,S,P,L,hm⟩
 cases G:l[i]? with
 | none=>unfold As sFz at hm;rw[G]at hm;exact hm.elim
 | some x=>
  cases x with
  | none=>unfold As sFz at hm;rw[G]at hm;exact hm.elim
  | some d=>
   cases d with
   | ref n=>
    cases J:S[n]? with
    | none=>unfold As sFz at hm;rw[G]at hm;dsimp only at hm;rw[J]at hm;exact hm.elim
    | some o=>
     cases C:fzO o with
     | none=>unfold As sFz at hm;rw[G]at hm;dsimp only at hm;rw[J]at hm;dsimp only at hm;rw[C]at hm;exact hm.elim
     | some U=>
      let g:CM X.K noH B H (O l (S.set n U)) λfl S'=>Vy X.K E B H S' D fl:=by
       unfold As sFz at hm;rw[G]at hm;dsimp only at hm;rw[J]at hm;dsimp only at hm;rw[C]at hm;exact hm
      let#[a,N,Y]:=L.at J
      let Z:∀u,H a=!u->Mut (!u)->(∃m,s.heap.get? a=!m)->(∀m,Ed X.K B (upd H a (.frz m u)) a U)->Ac (AZ X.prog X.w) X.A (exec st X.env) _ _ s:=λu ha mu #[m,hg] ra=>by
       let le:Le X.K B H B (upd H a (.frz m u)):=Le.write N (by ext);let#[s5,_]:=L.write N (ra m) le;exact h ζ s σ _ D (I.fz hg ha mu) #[B,l,_,P.mono le,s5,g.go le λz z k=>k.later le]
      cases o with
      | dK Q=>
       cases C;let#[R,e,T]:=Y
       refine Z _ e trivial ?_ λm=>#[m,R,Bv,KVR.mono (Le.write N (by rw[e];trivial)) T]
       let#[_,_,_,_,o,_,_,e,_]:=(I.hok a _ e)
       ext
      | dT Q=>
       cases C;let#[R,e,T]:=Y
       refine Z _ e trivial ?_ λm=>#[m,R,Bv,KVR.mono (Le.write N (by rw[e];trivial)) T]
       let#[_,_,_,_,o,_,_,e,_]:=(I.hok a _ e)
       grind
      | fK Q=>cases C;rw[aC J]at g;exact h ζ s σ H D I #[B,l,S,P,L,g]
      | fT Q=>cases C;rw[aC J]at g;exact h ζ s σ H D I #[B,l,S,P,L,g]
      | _=>cases C
   | _=>unfold As sFz at hm;rw[G]at hm;exact hm.elim
end
section
variable{K:AD}{ρ ρ':¬AW}{H H':Hp}{S:Sto}{L:Key->Int}{m n:Nat}{a:AW}
mutual
theorem B2.cut(p:∀(n:Nat) a,ρ[n]?=!a->ρ'[n]?=!a):∀{d:D} {v o:V},B2 K ρ H d v->B2 K ρ' H' d o->B2 K ρ H' d o
 | _,_,_,h,g=>by
  cases h with
  | non=>cases g;exact .non
  | bl b=>cases g;exact .bl b
  | int i=>cases g;exact .int i
  | str x=>cases g;exact .str x
  | tup _ r=>cases g with
   | tup h g=>exact .tup h (Au.cut p r g)
  | fro _ r=>cases g with
   | fro h g=>exact .fro h (Au.cut p r g)
  | ref h=>cases g with
   | ref s=>
    let e:=(p _ _ h).symm.trans s;cases e;exact .ref h
  | exc _ _=>cases g with
   | exc h e=>exact .exc h e
theorem Au.cut(p:∀(n:Nat) a,ρ[n]?=!a->ρ'[n]?=!a):∀{d:¬D} {v g:¬V},Au K ρ H d v->Au K ρ' H' d g->Au K ρ H' d g
 | _,_,_,h,g=>by
  cases h with
  | nil=>cases g;exact .nil
  | cons r t=>cases g with
   | cons i o=>exact .cons (B2.cut p r i) (Au.cut p t o)
end
theorem KVR.cut(p:∀(n:Nat) a,ρ[n]?=!a->ρ'[n]?=!a):∀{x:¬(i×D)} {y z:¬(i×V)},KVR K ρ H x y->KVR K ρ' H' x z->KVR K ρ H' x z
 | _,_,_,h,g=>by
  cases h with
  | nil=>cases g;exact .nil
  | cons r t=>cases g with
   | cons g o=>exact .cons #[g.1,r.2.cut p g.2] (KVR.cut p t o)
theorem Ed.cut(p:∀(n:Nat) a,ρ[n]?=!a->ρ'[n]?=!a)(h:Ed K ρ H a o)(h':Ed K ρ' H' a o):Ed K ρ H' a o:=by
 cases o with
 | lst s=>let#[_,_,r]:=h;let#[g,e,i]:=h';exact#[g,e,r.cut p i]
 | dK s=>let#[_,_,r]:=h;let#[g,e,i]:=h';exact#[g,e,KVR.cut p r i]
 | dT s=>let#[_,_,r]:=h;let#[g,e,i]:=h';exact#[g,e,KVR.cut p r i]
 | ins C s=>let#[_,_,_,r]:=h;let#[A,g,e,i]:=h';exact#[A,g,e,KVR.cut p r i]
 | fK s=>let#[_,_,_,r]:=h;let#[A,g,e,i]:=h';exact#[A,g,e,KVR.cut p r i]
 | fT s=>let#[_,_,_,r]:=h;let#[A,g,e,i]:=h';exact#[A,g,e,KVR.cut p r i]
 | mem L=>exact h'
def ug(L:Key->Int)(g:¬(Key×D)):Prop:=(g.map (·.1)).Nodup/\∀x∈g,x.1∈ap/\x.2=D.int (L x.1)
theorem fm:∀{g:¬(Key×V)},(∀x∈g,x.2=V.int (L x.1))->KVR K ρ H (g.map λx=>(x.1,D.int (L x.1))) g
 | [],_=>.nil
 | (k,v) :: l,h=>.cons #[rfl,by rw[show v=V.int (L k)from h _ (Aj ..)];exact .int _] (fm λx i=>h x (AY _ i))
theorem az:∀{i:¬(Key×D)} {us:¬(Key×V)},KVR K ρ H i us->(∀x∈i,x.1∈ap/\x.2=D.int (L x.1))->∀x∈us,x.1∈ap/\x.2=V.int (L x.1)
 | i,us,z,h,x,g=>by
  cases z with
  | nil=>cases g
  | @cons p q _ _ r t=>
   rcases Am.mp g with rfl | g
   ·let#[k,d]:=p;let#[B,v]:=x
    let#[e,r]:=r
    dsimp only at e r ⊢;subst e;let#[s,o]:=h _ (Aj ..);dsimp only at s o;rw[o]at r;cases r
    lia
   ·exact az t (λy A=>h y (AY _ A)) x g
theorem gB(r:KVR K ρ H g us)(h:ug L g):(us.map (·.1)).Nodup/\∀x∈us,x.1∈ap/\x.2=V.int (L x.1):=#[by rw[<-KVR.keys r];exact h.1,az r h.2]
set_option tactic.hygienic true in
theorem CL.swap(s:CL K ρ S H)(hm:S[m]?=!o)(h:∀a,ρ[m]?=!a->Ed K ρ H a o->Ed K ρ H a o'):CL K ρ (S.set m o') H:=
 #[by rw[Fn];exact s.len,s.nd,λj q b g hb=>by
  rw[E0]at g;split at g
  ·rename_i c
   subst c;split at g
   ·cases g;exact h b hb (s.ob m o b hm hb)
   ·cases g
  ·exact s.ob j q b g hb]
end
noncomputable def lmI:Res D->Int
 | .ok (.int z) _=>z
 | _=>0
noncomputable def ym(x:Str)(q:Nat)(S:Sto):⇑Str:=match S[q]? with
 | some (.ins _ fs)=>match fs.lookup x with
  | some (.str y)=>!y
  | _=>none
 | _=>none
noncomputable def Xf(x:Str)(ds:¬D)(S:Sto):⇑Nat:=match ds with
 | .ref q :: _=>match S[q]? with
  | some (.ins _ fs)=>match fs.lookup x with
   | some (.ref m)=>!m
   | _=>none
  | _=>none
 | _=>none
def vO(f:¬D->Sto->Res D)(ds:¬D)(S:Sto)(m:Nat)(L:Key->Int)(z:Int):Prop:=
 ∀i,ug L i->∃g o,f ds (S.set m (.dK i))=.ok (.int z) g/\g[m]?=!.dK o/\ug L o/\∀n,n < -S->n≠m->g[n]?=S[n]?
open Classical in
def ud(x:Str)(f:¬D->Sto->Res D)(ds:¬D)(S:Sto):Res D:=match Xf x ds S with
 | some m=>match S[m]? with
  | some (.mem L)=>match f ds (S.set m (.dK []))with
   | .ok (.int z) _=>if vO f ds S m L z then .ok (.int z) S else .bad
   | _=>.bad
  | _=>.bad
 | none=>.bad
def tD(x:Str)(i:¬D->Sto->Key->Int)(f:¬D->Sto->Res D)(ds:¬D)(S:Sto):Res D:=match f ds S with
 | .ok .non g=>match Xf x ds g with
  | some m=>match g[m]? with
   | some (.dK [])=>.ok .non (g.set m (.mem (i ds g)))
   | _=>.bad
  | none=>.bad
 | _=>.bad
section
variable{P:BP}{w:Bx}{K:AD}{mg:Str->⇑AH}{base:Cb}{CX:CXT}{k n:Nat}{fa:AW}{fd:MW}{ps:¬Str}{x:Str}{f:¬D->Sto->Res D}{Lf:¬D->Sto->Key->Int}
set_option tactic.hygienic true in
theorem yk(F:IL P w K mg base CX k fa fd ps (spM K n f)):IL P w K mg base CX k fa fd ps (spM K n (ud x f)):=F.imp<|by
 rintro vs H Q E ⟨I,O,S,R,T,i,g⟩
 unfold ud at g;split at g
 ·rename_i m hm
  split at g
  ·rename_i L B
   split at g
   ·rename_i z S0 hz
    split at g
    ·rename_i U
     let#[a,ha,C,e,X,J]:=i.at B
     let#[S',Cs,Y,G,Ϩ,Z]:=U (C.map λx=>(x.1,D.int (L x.1))) #[by rw[BC];exact X,λy hy=>by
      let#[u,hu,rfl]:=BN.mp hy
      exact#[(J u hu).1,rfl]]
     refine#[I,O,S.set m (.dK (C.map λx=>(x.1,D.int (L x.1)))),R,T,i.swap B (λb hb M=>#[C,?_,fm λx hx=>(J x hx).2]),?_]
     ·lia
     ·rw[Y]
      intro ρ' H' y l s r;cases r;refine g I H' _ #[λM M h=>h,l.tup,l.frz,λa o e n=>#[(l.oth a o e n).1,n]] #[i.len,i.nd,λj o b A hb=>?_] (.int z);let N:=l.pre j b hb
      by_cases c:j=m
      ·subst c
       rw[B]at A;cases A;let#[us,e3,r3]:=s.ob j _ b G N;exact#[us,e3,gB r3 Ϩ]
      ·exact(i.ob j o b A hb).cut l.pre (s.ob j o b ((Z j (AE.mp A).1 c).trans A) N)
    ·exact g.elim
   ·exact g.elim
  ·exact g.elim
 ·exact g.elim
set_option tactic.hygienic true in
theorem t9(F:IL P w K mg base CX k fa fd ps (spM K n f)):IL P w K mg base CX k fa fd ps (spM K n (tD x Lf f)):=F.imp<|by
 rintro R H Q E ⟨o,A,S,B,C,G,g⟩
 unfold tD at g;refine#[o,A,S,B,C,G,?_];split at g
 ·rename_i T I
  split at g
  ·rename_i m hm
   split at g
   ·rename_i J
    rw[I];intro i L y l s r;exact g i L y l (s.swap J λa U #[N,e,r]=>#[N,e,gB r #[Gr,λz O=>nomatch O]]) r
   ·exact g.elim
  ·exact g.elim
 ·exact g.elim
end
end L2
namespace L2
open PySem.W
section
variable{X:Cx}{k k' n:Nat}{x qual:Str}{st:CY}{ps:¬Str}{p pos:Pos}{e:Expr}{es:¬Expr}{ml:ML}{g:¬D->Sto->Res D}
theorem gcl(D:Dfn X.K X.mg x qual st ps)(F:IL X.prog X.w X.K X.mg X.base (CXG X.prog X.w) k D.f D.fd ps (spM X.K n g))(i:He k' X.A)(o:GA X noE (e :: es) ml)(s:↥(k<=k'))(B:↑(X.xe=λz z=>False))(C:↑(Gl X x))
  (E:↥((x==("__debug__" : Str))=false)) (G:↑(AR (e :: es) X.env=(false,Bz e X.env) :: AR es X.env)) (H:↑((DB pos (AR es X.env)).any (·.1)=false)) :
  GE X noE (.Call (.Name x p) (e :: es) [] pos) (Bg n g ml):=Y1 F (good_none B).pass (i.mono s) C D.m D.kp D.b o E G H
end
abbrev FnAt(K:Frag)(x g:Str)(st:CY)(f:AW):Prop:=∃(s:AH) (A:⇑AW) (kV i B:AH) (C:⇑AW) (o ct:AH) (m:Array (⇑AH)),
 K.lookup f=!#[s,A,.func (fnOf x g (M9 st) (IJ st) (Cd st) .none kV i B C o ct),m]/\codeIn K o g/\keepIn K (.ref f)=true
abbrev Dt(K:Frag)(x:Str)(st:CY)(f:AW):Prop:=Li K A9 x=!(!.ref f)/\FnAt K x x st f
abbrev Ig(K:Frag)(C:AW)(x g:Str)(st:CY)(f:AW):Prop:=findIn K (.ref C) x=!(!.ref f)/\isFn K (.ref f)/\FnAt K x g st f
abbrev ClsAt(K:Frag)(x:Str)(C:AW):Prop:=Li K A9 x=!(!.ref C)/\plainGet K C NP/\hasDictIn K C/\plainOver K C/\findIn K (.ref C) "__setattr__" = !(!.builtin "object.__setattr__")/\makesIn K C/\keepIn K (.ref C)=true
def eY(st:CY)(o:¬Str):Prop:=∀(x g:Str) (kV i s:AH) (A:⇑AW) (B ct:AH) (m:¬AH),m.length=-o->qB (fnOf x g (M9 st) (IJ st) (Cd st) .none kV i s A B ct) #[m,[]]=pure (o.zip m)
section
variable{K:Frag}{h:Cb}{mg:Str->⇑AH}{x qual:Str}{st:CY}{f C:AW}{ps:¬Str}{a b c d e:Str}
theorem FnAt.fd(z:FnAt K x qual st f):∃fd,Fun K x qual st f fd:=by
 let#[m,o,kV,g,s,A,B,ct,i,l,c,k]:=z;exact#[_,oR l c k]
def mkD(X:K.In h)(G:h.Ns A9 mg)(z:Dt K x st f)(b:eY st ps):Dfn K mg x x st ps:=#[f,(FnAt.fd z.2).choose,(FnAt.fd z.2).choose_spec,(FnAt.fd z.2).choose_spec.binds (b x x),Tf X G z.1]
def mkM(z:Ig K C x qual st f)(b:eY st ps):Mtd K x qual st ps:=#[f,(FnAt.fd z.2.2).choose,(FnAt.fd z.2.2).choose_spec,(FnAt.fd z.2.2).choose_spec.binds (b x qual)]
theorem FnAt.kp(z:FnAt K x qual st f):keepIn K (.ref f):=by
 let#[m,o,kV,g,s,A,B,ct,i,l,c,k]:=z;exact k
theorem mkE(z:Ig K C x qual st f):O8 K C x f:=#[z.1,z.2.1,FnAt.kp z.2.2]
theorem mkO(X:K.In h)(G:h.Ns A9 mg)(z:ClsAt K y C)(i:Ig K C "__init__" qual st f):Own K mg y C f:=#[#[z.2.1,z.2.2.1,z.2.2.2.1,z.2.2.2.2.1],#[z.2.2.2.2.2.1,i.1,i.2.1,z.2.2.2.2.2.2],Tf X G z.1]
abbrev bnd(st:CY)(ps:¬Str)(us:¬AH):Prop:=∀(x qual:Str) (kV g i:AH) (m:⇑AW) (o ct:AH),qB (fnOf x qual (M9 st) (IJ st) (Cd st) .none kV g i m o ct) #[us,[]]=pure (ps.zip us)
theorem bd1(z:∀u,bnd st [a] [u]:=by exact λG G G G G G G G G=>rfl):eY st [a]:=λx q k d p n c t i g=>by let#[u,rfl]:=len1 g;exact z u x q k d p n c t
theorem bd2(z:∀u v,bnd st [a,b] [u,v]:=by exact λG G G G G G G G G G=>rfl):eY st [a,b]:=λx q k d p n c t i g=>by let#[u,v,rfl]:=len2 g;exact z u v x q k d p n c t
theorem bd3(z:∀u v w,bnd st [a,b,c] [u,v,w]:=by exact λG G G G G G G G G G G=>rfl):eY st [a,b,c]:=λx q k d p n c t i g=>by let#[u,v,w,rfl]:=len3 g;exact z u v w x q k d p n c t
theorem bd4(z:∀u v w y,bnd st [a,b,c,d] [u,v,w,y]:=by exact λG G G G G G G G G G G G=>rfl):eY st [a,b,c,d]:=λx q k d p n c t i g=>by let#[u,v,w,y,rfl]:=len4 g;exact z u v w y x q k d p n c t
theorem bd5(z:∀u v w y l,bnd st [a,b,c,d,e] [u,v,w,y,l]:=by exact λG G G G G G G G G G G G G=>rfl):eY st [a,b,c,d,e]:=λx q k d p n c t i g=>by let#[u,v,w,y,l,rfl]:=len5 g;exact z u v w y l x q k d p n c t
end
section
variable{X:Cx}{E:EW}{e:Expr}{p pos:Pos}{m:ME}
def rAbs:¬V->Hp->VK->Prop:=λg H Q=>∃i,g=[.int i]/\Q (.int (if i < 0 then (unop% Neg.neg i) else i)) H
theorem jq:Jb X (.builtin "abs") rAbs:=by
 intro A s B H C G Q I g h;let#[i,rfl,q]:=h;let#[v,rfl,o]:=vals1 g;let#[t,rfl]:=o
 exact call_abs_int λu J=>#[.int _,H,I.tok _,#[_,rfl],q]
def tH(m:ME):ME:=λe S=>m e S*>λd g=>match d with
 | .int i=>.ok (.int (if i < 0 then (unop% Neg.neg i) else i)) g
 | _=>.bad
theorem yh(o:Gl X "abs") (hm:X.mg "abs" = none) (h:GE X E e m) (i:↑(AR [e] X.env=(false,Bz e X.env) :: AR [] X.env)):GE X E (.Call (.Name "abs" p) [e] [] pos) (tH m):=
 (KO jq o hm PyProof.Rows.boot_abs (EV h GX i) ∅ (by rfl) i rfl).imp<|by
 rintro L H Q ⟨s,l,S,A,B,hm⟩
 refine#[s,l,S,A,B,hm.seq λd N hm g C x G I J=>?_]
 cases d <;> first | exact hm.elim | skip
 cases J;exact#[_,rfl,hm g C _ G I (.int _)]
end
noncomputable abbrev Cx.q(X:Cx):Cx:={ X with xe:=λz z=>False }
def DH(n:Nat)(i:MS)(ds:¬D)(S:Sto):Res D:=okR (i (LK n ds) S)*>λf g=>match f with
 | .rt d=>.ok d g
 | .nx _=>.ok .non g
 | _=>.bad
section
variable{P:BP}{w:Bx}{K:AD}{mg:Str->⇑AH}{base:Cb}
theorem t8{x m}{st}{f}{fd}{N O}{k n}(F:Fun K x m st f fd)(Z:K6 N O (Cd st))(hn:-O=n){G}
  (ϟ:∀(L:AH) (A:Bq) (i:¬Env) (s:AM) (H:Hp) (E:XK),He k (A.deeper (KC m (Cd st) s.heap.objs.size f L))->GSs (Y9 (CXG P w) P w K mg base N m (Cd st) f L A i s H E).q noE (IJ st) G) :
  IL P w K mg base (CXG P w) (k+1) f fd O (spM K n (DH (-N) G)):=by
 let#[oc,od,kV,doc,pm,an,L,ct,osl,rfl,lk,Ϛ]:=F.ex
 refine ABL lk Ϛ Z (λvs H Q E h=>by rw[hn];exact h.len) λA i s H vs Q E C h=>?_
 let#[ρ,ds,S,h1,h2,h3,o]:=h;let hb:=ϟ L A i s H E C;refine#[gS K noE G,λζ R σ T D I q=>Dv (hb ζ R σ T D (I.with _) q) (λU s1 z=>?_) λe s1 z=>z.elim,ρ,_,S,cq h2,h3,?_]
 ·cases U with
  | next=>let#[g,B,J,z]:=z;exact#[g,B,J.without,z]
  | brk=>let#[g,B,J,z]:=z;exact#[g,B,J.without,z]
  | cont=>let#[g,B,J,z]:=z;exact#[g,B,J.without,z]
  | ret u=>let#[v,g,B,J,r,z]:=z;exact#[v,g,B,J.without,r,z]
 ·unfold DH at o
  cases C:G (LK (-N) ds) S with
  | bad=>rw[C]at o;exact o.elim
  | err c S'=>rw[C]at o;exact o.elim
  | ok U S'=>
   rw[C]at o
   cases U with
   | nx X=>exact λY T g l R r=>o Y T .non l R .non
   | rt d=>exact o
   | bk X=>exact o.elim
   | ct X=>exact o.elim
   | ex c X=>exact o.elim
end
def rIsQ(K:AD)(c:V)(cv:AH):¬V->Hp->VK->Prop:=λg H Q=>∃x t b,g=[x,c]/\RQ K H x t/\Hh K t cv=!b/\Q (.bl b) H
section
variable{E:EW}{e ce:Expr}{c:V}
theorem pH(g:∀u,RelV c u->u=cv):Jb X (.builtin "isinstance") (rIsQ X.K c cv):=by
 intro A s B H C G Q I r h;let#[x,t,b,rfl,ty,e,q]:=h;let#[v,w,rfl,i,m]:=vals2 r;rw[g w m]
 exact jK I i ty e λo=>#[.bl b,H,I.tok o,rfl,q]
def tG(g:String->⇑Bool)(m:ME):ME:=λe S=>m e S*>λd i=>match tyD d i with
  | some T=>match g T with
   | some b=>.ok (.bl b) i
   | none=>.bad
  | none=>.bad
theorem yd(G:∀u,RelV c u->u=cv)(I:∀T b,g T=!b->Hh X.K (.type T) cv=!b)
  (J:Gl X "isinstance") (hm:X.mg "isinstance" = none) (h:GE X E e m) (i:PE X ce (tC c))
  (B:↑(AR [e,ce] X.env=(false,Bz e X.env) :: AR [ce] X.env)) (o:↑(AR [ce] X.env=(false,Bz ce X.env) :: AR [] X.env)) (L:↑((DB pos (AR [ce] X.env)).any (·.1)=false)) :
  GE X E (.Call (.Name "isinstance" p) [e,ce] [] pos) (tG g m):=
 (KO (pH G) J hm PyProof.Rows.boot_isinstance (EV h (EV i GX o) B) ∅ (by rfl) B L).imp<|by
 rintro σ H Q ⟨N,l,S,O,P,hm⟩
 refine#[N,l,S,O,P,hm.seq λd R hm s U x Y C Z=>?_]
 cases A:tyD d R with
 | none=>rw[A]at hm;exact hm.elim
 | some T=>
  rw[A]at hm;dsimp only at hm
  cases hb:g T with
  | none=>rw[hb]at hm;exact hm.elim
  | some b=>
   rw[hb]at hm;exact#[x,_,b,rfl,wM C Z A,I T b hb,hm s U _ Y C (.bl _)]
end
end L2
abbrev oN(e:L2.Lo)(S:L2.Sto):L2.Res L2.Fl:=.ok (.nx e) S
abbrev sR(n:Nat):⇑L2.D:=!.ref n
noncomputable abbrev sI(i:Int):⇑L2.D:=!.int i
noncomputable abbrev sF(l:YP):⇑L2.D:=!.fro (l.map L2.D.int)
namespace PySem.W.Fast
def tw15749744713497480054:Nat:=0
def tw18445399764815445211:Nat:=0
def tw7363638664217181131:Nat:=0
def tw16917303939441532498:Nat:=0
def tw16732476419123545308:Nat:=0
def tw18415094025834857374:Nat:=0
def tw13574665166794656212:Nat:=0
def tw11574202190798388168:Nat:=0
def tw9778194864741830573:Nat:=0
def tw1882296087653953859:Nat:=0
def tw9446933735789631920:Nat:=0
def tw3621472104434067434:Nat:=0
def tw4551038276505788989:Nat:=0
def tw17990906999308921389:Nat:=0
def tw18189339803900110641:Nat:=0
def tw17919562146090975183:Nat:=0
def tw17129675938524680272:Nat:=0
def tw17652025430897859350:Nat:=0
def tw416776112716568066:Nat:=0
def tw11595410738706044573:Nat:=0
def tw12486275657633899465:Nat:=0
def tw1780594919680532621:Nat:=0
def tw14195375635690558643:Nat:=0
def tw18126475856673164036:Nat:=0
def tw15978579521017125069:Nat:=0
def tw13909036302523755427:Nat:=0
def tw7867173214925062738:Nat:=0
def tw3751902393136123758:Nat:=0
def tw3761263879313536754:Nat:=0
def tw672651220237123136:Nat:=0
def tw14310465816812758230:Nat:=0
def tw1330857124795654605:Nat:=0
def tw3225735656111510366:Nat:=0
def tw7517116819194407733:Nat:=0
def tw14588847510276107990:Nat:=0
def tw10477127551991269836:Nat:=0
def tw11318390761629948671:Nat:=0
def tw4130070044557998444:Nat:=0
def tw10772283782134480946:Nat:=0
def tw5789445983709340018:Nat:=0
def tw10056151654924886515:Nat:=0
def tw10471705999883589628:Nat:=0
def tw12656101568262587717:Nat:=0
def tw17456507878948956489:Nat:=0
def tw7991389957768817051:Nat:=0
def tw9958247373594149622:Nat:=0
def tw13190754660502203483:Nat:=0
def tw3989352018495648733:Nat:=0
def tw8251332197354604472:Nat:=0
def tw6184235209552306856:Nat:=0
def tw15594448396244257632:Nat:=0
def tw16216315951358077188:Nat:=0
def tw15844881438897100443:Nat:=0
def tw14288960593686502549:Nat:=0
def tw17527979167839164503:Nat:=0
def tw13647474755326040516:Nat:=0
def tw3463288839531993516:Nat:=0
def tw4825281592270861319:Nat:=0
def tw7350730375657555289:Nat:=0
def tw2483072801895336171:Nat:=0
def tw10732218992937845803:Nat:=0
def tw1703679354778794093:Nat:=0
def tw9356162894526843147:Nat:=0
def tw15186559896504003894:Nat:=0
def tw2710820441368888936:Nat:=0
def tw374661618172769403:Nat:=0
def tw18208805188494515550:Nat:=0
def tw13923262899769993970:Nat:=0
def tw18161798011764655235:Nat:=0
def tw15156009083320916626:Nat:=0
def tw5743850462311708309:Nat:=0
def tw16735435659937206913:Nat:=0
def tw1089578903522601234:Nat:=0
def tw11624282130830622578:Nat:=0
def tw4732568537337750979:Nat:=0
def tw883199972589827638:Nat:=0
def tw351262941432945516:Nat:=0
def tw10046012478642953784:Nat:=0
def tw17078339209599206232:Nat:=0
def tw12241668892983380429:Nat:=0
def tw3636925713382419680:Nat:=0
def tw45946085131221821:Nat:=0
def tw2766028616809999871:Nat:=0
def tw8897360051860536202:Nat:=0
def tw14947149087943588344:Nat:=0
def tw12983905599942793748:Nat:=0
def tw17257137073156108067:Nat:=0
def tw10877996809015290041:Nat:=0
def tw9411009661349063605:Nat:=0
def tw352789609901748714:Nat:=0
def tw11719103530463398142:Nat:=0
def tw553297125348738484:Nat:=0
def tw17430307819671340816:Nat:=0
def tw17972914550964784689:Nat:=0
def tw16951184406531819071:Nat:=0
def tw14313708458886173158:Nat:=0
def tw8984548044292593375:Nat:=0
def tw2632733948539133668:Nat:=0
def tw9752521654373225202:Nat:=0
def tw9225479906751456982:Nat:=0
def tw3450648748164844841:Nat:=0
def tw13990156600839549848:Nat:=0
def tw15999339720728751761:Nat:=0
def tw17651267737621832900:Nat:=0
def tw1664285768713480898:Nat:=0
def tw14189765460853391667:Nat:=0
def tw15842397019316638383:Nat:=0
def tw12609263671424847428:Nat:=0
def tw11821300487276388037:Nat:=0
def tw204550647940407745:Nat:=0
def tw611178262822862373:Nat:=0
def tw8084223728571130317:Nat:=0
def tw5119016258461673843:Nat:=0
def tw9418898734294407809:Nat:=0
def tw10593320147928106433:Nat:=0
def tw7609706688707433634:Nat:=0
def tw6258763542912774251:Nat:=0
def tw5679424411435254335:Nat:=0
def tw2372562199135247800:Nat:=0
def tw6505550779742946622:Nat:=0
def tw4629684187920486872:Nat:=0
def tw11926917979565327312:Nat:=0
def tw2692117059915624578:Nat:=0
def tw9431218727584816603:Nat:=0
def tw9626353134891334692:Nat:=0
def tw4972628862259289623:Nat:=0
def tw7599271100178862364:Nat:=0
def tw11838914309026097499:Nat:=0
def tw2068242009396397379:Nat:=0
def tw5417746417927810546:Nat:=0
def tw12088290470010180069:Nat:=0
def tw5382107395483883167:Nat:=0
def tw11999921851828997039:Nat:=0
def tw7314480428079933395:Nat:=0
def tw17873776706010250938:Nat:=0
def tw7171322311594649238:Nat:=0
def tw7730485941507875796:Nat:=0
def tw14157789035967905806:Nat:=0
def tw4914981772468190978:Nat:=0
def tw13750605142143717293:Nat:=0
def tw13149116183667905468:Nat:=0
def tw10992955124213353165:Nat:=0
def tw2099435311491332958:Nat:=0
def tw15746573744560164109:Nat:=0
def tw14358062866675697236:Nat:=0
def tw12566421322964547626:Nat:=0
def tw7945706170274607366:Nat:=0
def tw5746686684744770109:Nat:=0
def tw911546618942351007:Nat:=0
def tw11496916343731878961:Nat:=0
def tw11983540058559620090:Nat:=0
def tw11896893778368893329:Nat:=0
def tw1605617913112582631:Nat:=0
def tw13476648792168385408:Nat:=0
def tw13855885508543856782:Nat:=0
def tw8821120417824286741:Nat:=0
def tw10323368866130314532:Nat:=0
def tw3388174259601138504:Nat:=0
def tw2522111487430292175:Nat:=0
def tw12852483700967624103:Nat:=0
def tw15323922250931447234:Nat:=0
def tw10983358607075857525:Nat:=0
def tw84979356043951743:Nat:=0
def tw8499441168669071945:Nat:=0
def tw18126525999505784802:Nat:=0
def tw13992333628472814700:Nat:=0
def tw15815908349717786318:Nat:=0
def tw16270367634700570661:Nat:=0
def tw7858442364798914059:Nat:=0
def tw10305600965940879407:Nat:=0
def tw11645116169433492415:Nat:=0
def tw11595118058672929748:Nat:=0
def tw8500913253243361450:Nat:=0
def tw4503740170451293644:Nat:=0
def tw15118869471523677830:Nat:=0
def tw11464441504981604724:Nat:=0
def tw11497645196963112463:Nat:=0
def tw7521749571978321357:Nat:=0
def tw3638917657394489597:Nat:=0
def tw2622678343151592385:Nat:=0
def tw18370265707832502872:Nat:=0
def tw15076763360616434939:Nat:=0
def tw3968504221746347846:Nat:=0
def tw12501935943657925059:Nat:=0
def tw16575938123755893613:Nat:=0
def tw6546030301676000133:Nat:=0
def tw6966517751469018520:Nat:=0
def tw10231822610913723691:Nat:=0
def tw7396588994215422347:Nat:=0
def tw10370172710922858545:Nat:=0
def tw14006031107439154043:Nat:=0
def tw17917068796831602030:Nat:=0
def tw10148907383729691875:Nat:=0
def tw10936269858678288117:Nat:=0
def tw8795020535021349889:Nat:=0
def tw18790743595848250:Nat:=0
end PySem.W.Fast
namespace M
open L2
theorem EM(h:g (LK n ds) S=.ok (.rt d) S1):DH n g ds S=.ok d S1:=by unfold DH;rw[h];rfl
theorem YU(h:g (LK n ds) S=.ok (.nx e) S1):DH n g ds S=.ok .non S1:=by unfold DH;rw[h];rfl
abbrev mIs(g:String->⇑Bool)(_:AW->⇑Bool)(m:ME):ME:=tG g m
theorem AA8(h:m e S=.ok d S1)(i:tyD d S1=!T)(hb:g T=!b):mIs g tabC m e S=.ok (.bl b) S1:=by
 show tG g m e S=_;unfold tG;ext
end M
namespace L4
open L2
set_option genInjectivity true in
inductive Cel where
 | no | fz (o:Ob) | ow (i:Nat)
noncomputable abbrev Fz:=Nat->Cel
set_option genInjectivity true in
inductive Sl where
 | u | v (d:D) | z (o:Ob) | y (o:Ob) | w (i:Nat) (o:Ob) | q (P:(Nat->⇑Ob)->D->Prop)
def Sl.ok(g:Sto)(F:Fz)(S:Sto):Sl->⇑D->Prop
 | .u,_=>True
 | .v d,x=>x=!d
 | .z o,x=>∃n,x=!.ref n/\F n=.fz o
 | .y o,x=>∃n,x=!.ref n/\F n=.fz o/\-g<=n
 | .w i o,x=>∃n,x=!.ref n/\F n=.ow i/\S[n]?=!o
 | .q P,x=>∃d,x=!d/\∀L:Nat->⇑Ob,(∀n o,F n=.fz o->L n=!o)->P L d
structure Vs(S0:Sto)(A:¬Sl)(e:Lo)(F:Fz)(S:Sto):Prop where
 kp:Keeps S0 S
 fz:∀n o,F n=.fz o->S[n]?=!o
 ow:∀n i,F n=.ow i->-S0<=n/\n < -S
 hi:∀n,S.length<=n->F n=.no
 sl:∀(i:Nat) (a:Sl),A[i]?=!a->∃x,e[i]?=!x/\a.ok S0 F S x
def Fle(F g:Fz):Prop:=∀n o,F n=.fz o->g n=.fz o
theorem Fle.refl(F:Fz):Fle F F:=λz z h=>h
theorem Fle.trans(a:Fle F G)(b:Fle G H):Fle F H:=λn o h=>b n o (a n o h)
def SO(F:Fz)(S g:Sto):Fz:=λn=>if n < -S then F n else match g[n]? with
 | some o=>.fz o
 | none=>.no
section
variable{S0 S S':Sto}{A B:¬Sl}{e:Lo}{F:Fz}{α β γ ρ σ τ:Type}
theorem Gg(h:n < -S):SO F S S' n=F n:=qX h
theorem OL(h:-S<=n)(ho:S'[n]?=!o):SO F S S' n=.fz o:=by
 unfold SO;rw[qY (X8.mpr h),ho]
theorem CF(h:S[n]?=!o):n < -S:=(AE.mp h).1
theorem Sl.mono{S0:Sto}{F s:Fz}{S S':Sto}{a:Sl}{x:⇑D}(h:a.ok S0 F S x)(C:∀n o,F n=.fz o->s n=.fz o)(G:∀n i o,F n=.ow i->S[n]?=!o->s n=.ow i/\S'[n]?=!o):a.ok S0 s S' x:=by
 cases a with
 | u=>trivial
 | v d=>exact h
 | z o=>let#[n,g,m]:=h;exact#[n,g,C _ _ m]
 | y o=>let#[n,g,m,E]:=h;exact#[n,g,C _ _ m,E]
 | w i o=>let#[n,g,m,E]:=h;exact#[n,g,G _ _ _ m E]
 | q P=>let#[d,g,m]:=h;exact#[d,g,λL H=>m L λn o q=>H n o (C n o q)]
theorem Vs.fle(h:Vs S0 A e F S)(S':Sto):Fle F (SO F S S'):=λn o q=>by rw[Gg (CF (h.fz n o q))];exact q
set_option tactic.hygienic true in
theorem Vs.grow(h:Vs S0 A e F S)(k:Keeps S S'):Vs S0 A e (SO F S S') S':=by
 refine#[h.kp.trans k,λn o q=>?_,λn i q=>?_,λn g=>?_,λi a s=>?_]
 ·unfold SO at q
  split at q
  ·rename_i g
   rw[k.2 n g];exact h.fz n o q
  lia
 ·unfold SO at q
  split at q
  ·exact#[(h.ow n i q).1,AS (h.ow n i q).2 k.1]
  lia
 ·unfold SO
  rw[qY (X8.mpr (Ab k.1 g)),JQ g]
 ·let#[x,C,E]:=h.sl i a s
  exact#[x,C,Sl.mono E (h.fle S') λn i o G m=>#[by rw[Gg (CF m)];exact G,by rw[k.2 n (CF m)];exact m]]
theorem Vs.cons(h:Vs S0 A e F S)(g:a.ok S0 F S x):Vs S0 (a :: A) (x :: e) F S:=
 #[h.kp,h.fz,h.ow,h.hi,λi b hb=>by
  cases i with
  | zero=>ext
  | succ i=>exact h.sl i b hb]
set_option tactic.hygienic true in
theorem Vs.set(h:Vs S0 A e F S)(i:Nat)(g:a.ok S0 F S x):Vs S0 (A.set i a) (e.set i x) F S:=
 #[h.kp,h.fz,h.ow,h.hi,λj b hb=>by
  by_cases c:i=j
  ·subst c
   rw[E0]at hb;rw[qX rfl]at hb;split at hb
   ·rename_i m
    cases hb;let#[y,o,_]:=h.sl i (A[i]) (BX m);exact#[x,by rw[E0];rw[qX rfl,qX (AE.mp o).1],g]
   ·cases hb
  ·rw[Ak c]at hb ⊢
   exact h.sl j b hb]
set_option genInjectivity true in
inductive Wk:¬Sl->¬Sl->Prop where
 | nil:Wk [] []
 | same {a:Sl} {A B:¬Sl}:Wk A B->Wk (a :: A) (a :: B)
 | drop {a:Sl} {A B:¬Sl}:Wk A B->Wk (a :: A) (.u :: B)
 | less {o:Ob} {A B:¬Sl}:Wk A B->Wk (.y o :: A) (.z o :: B)
theorem Wk.at:∀{A B:¬Sl},Wk A B->∀(i:Nat) (b:Sl),B[i]?=!b->∃a,A[i]?=!a/\(b=.u∨b=a∨∃o,a=.y o/\b=.z o)
 | _,_,.nil,i,b,h=>by simp at h
 | _,_,.same w,0,b,h=>by cases h;exact#[_,rfl,.inr (.inl rfl)]
 | _,_,.less w,0,b,h=>by ext
 | _,_,.less w,i+1,b,h=>Wk.at w i b h
 | _,_,.drop w,0,b,h=>by ext
 | _,_,.same w,i+1,b,h=>Wk.at w i b h
 | _,_,.drop w,i+1,b,h=>Wk.at w i b h
theorem Wk.refl:∀A:¬Sl,Wk A A
 | []=>.nil
 | _ :: A=>.same (Wk.refl A)
theorem Vs.weak(h:Vs S0 A e F S)(w:Wk A B):Vs S0 B e F S:=#[h.kp,h.fz,h.ow,h.hi,λi b hb=>by
 let#[a,m,s]:=w.at i b hb;let#[x,g,C]:=h.sl i a m
 rcases s with rfl | rfl | ⟨o,rfl,rfl⟩
 ·exact#[x,g,trivial]
 ·ext
 ·let#[n,E,G,_]:=C
  exact#[x,g,n,E,G]]
noncomputable def Sl.oth(i:Nat):Sl->Bool
 | .w k _=>not (Nat.beq k i)
 | _=>true
theorem mq(h:((A.set i .u).all (Sl.oth i)))(g:j≠i)(m:A[j]?=!.w k o):k≠i:=by
 let s:(A.set i .u)[j]?=!.w k o:=by rw[Ak (Cc g)];exact m
 let:=FI.mp h _ (CH s);intro e;subst e;let C:(not (Nat.beq k k)):=this;ext
theorem Vs.put(h:Vs S0 A e F S)(E:((A.set i .u).all (Sl.oth i)))(N:A[i]?=!.w i o)(G:e[i]?=!(!.ref n))(s:F n=.ow i):Vs S0 (A.set i (.w i o')) e F (S.set n o'):=by
 let H:=h.ow n i s;refine#[h.kp.set H.1 o',λk q I=>?_,λk j q=>by rw[Fn];exact h.ow k j q,λk O=>h.hi k ∅,λj b hb=>?_]
 ·let:n≠k:=λc=>by ext
  rw[Ak this];exact h.fz k q I
 ·by_cases c:i=j
  ·subst c
   rw[E0]at hb;rw[qX rfl]at hb;split at hb
   ·cases hb
    exact#[_,G,n,rfl,s,by ext]
   ·cases hb
  ·rw[Ak c]at hb
   let#[x,J,g]:=h.sl j b hb;refine#[x,J,?_]
   cases b with
   | u=>trivial
   | v d=>exact g
   | z q=>exact g
   | y q=>exact g
   | q P=>exact g
   | w k q=>
    let#[m,L,C,Q]:=g;refine#[m,L,C,?_]
    let:n≠m:=λz=>by
     subst z;rw[s]at C;cases C;exact mq E (λz=>c z.symm) hb rfl
    ext
theorem Vs.freeze(h:Vs S0 A e F S)(O:((A.set i .u).all (Sl.oth i)))(Q:A[i]?=!.w i o):∃F',Vs S0 (A.set i (.y o)) e F' S/\Fle F F':=by
 let#[x,R,n,rfl,N,X]:=h.sl i _ Q
 let g:∀k,k≠n->(if k=n then Cel.fz o else F k)=F k:=λk H=>qY H
 let G:Fle F (λk=>if k=n then Cel.fz o else F k):=λk q I=>by
  lia
 refine#[λk=>if k=n then .fz o else F k,#[h.kp,λk q I=>?_,λk j q=>?_,λk H=>?_,λj b hb=>?_],G]
 ·split at I
  ·ext
  ·exact h.fz k q I
 ·split at q
  ·cases q
  ·exact h.ow k j q
 ·let:k≠n:=λc=>by ext
  rw[qY this];exact h.hi k H
 ·by_cases c:i=j
  ·subst c
   rw[E0]at hb;rw[qX rfl]at hb;split at hb
   ·cases hb
    exact#[_,R,n,rfl,qX rfl,(h.ow n i N).1]
   ·cases hb
  ·rw[Ak c]at hb
   let#[x,T,E]:=h.sl j b hb;refine#[x,T,?_]
   cases b with
   | u=>trivial
   | v d=>exact E
   | z q=>let#[m,C,s]:=E;exact#[m,C,G _ _ s]
   | y q=>let#[m,C,s,J]:=E;exact#[m,C,G _ _ s,J]
   | q P=>let#[d,C,s]:=E;exact#[d,C,λL U=>s L λn o q=>U n o (G n o q)]
   | w k q=>
    let#[m,C,s,J]:=E;refine#[m,C,?_,J]
    let:m≠n:=λz=>by
     subst z;rw[N]at s;cases s;exact mq O (λz=>c z.symm) hb rfl
    ext
set_option tactic.hygienic true in
theorem Vs.own(h:Vs S0 A e F S)(k:Keeps S S'){i n:Nat}{o:Ob}(E:-S<=n)(ho:S'[n]?=!o):∃F',Vs S0 (A.set i (.w i o)) (e.set i (!.ref n)) F' S'/\Fle F F':=by
 let g:=h.grow k;let C:=CF ho
 let G:Fle F (λj=>if j=n then Cel.ow i else SO F S S' j):=λj q s=>by
  let:j≠n:=λc=>by subst c;exact zX (CF (h.fz _ _ s)) (X8.mpr E)
  show(if j=n then Cel.ow i else _)=_;rw[qY this];exact h.fle S' _ _ s
 refine#[λj=>if j=n then .ow i else SO F S S' j,(Vs.set #[g.kp,λj q s=>?_,λj q s=>?_,λj H=>?_,λj b hb=>?_] i #[n,rfl,qX rfl,ho]),G]
 ·split at s
  ·cases s
  ·exact g.fz j q s
 ·split at s
  ·rename_i c;subst c;exact#[Ab h.kp.1 E,C]
  ·exact g.ow j q s
 ·let:j≠n:=λc=>by subst c;exact zX C (X8.mpr H)
  rw[qY this];exact g.hi j H
 ·let#[x,J,L]:=h.sl j b hb
  refine#[x,J,Sl.mono L G λm j q N I=>?_];let hm:=CF I
  let:m≠n:=λc=>by ext
  refine#[?_,by rw[k.2 m hm];exact I];rw[qY this,Gg hm];exact N
abbrev Rk(α:Type):=α->Sto->D->Sto->Prop
def rV(enc:α->D):Rk α:=λv z d z=>d=enc v
def rO(g:α->Ob):Rk α:=λv z d S=>∃n,d=.ref n/\S[n]?=!g v
def rN(g:α->Ob):Rk α:=λv S0 d S=>∃n,d=.ref n/\-S0<=n/\S[n]?=!g v
def VE(A:¬Sl)(m:ME)(R:Rk α)(p:⇑α):Prop:=∀v,p=!v->∀S0 e F S,Vs S0 A e F S->∃d S',m e S=.ok d S'/\Keeps S S'/\R v S d S'
def VB(A:¬Sl)(t:MT)(p:⇑Bool):Prop:=∀v,p=!v->∀S0 e F S,Vs S0 A e F S->∃S',t e S=.ok v S'/\Keeps S S'
def VL(A:¬Sl)(ml:ML)(enc:α->D)(p:⇑(¬α)):Prop:=∀v,p=!v->∀S0 e F S,Vs S0 A e F S->∃S',ml e S=.ok (v.map enc) S'/\Keeps S S'
def VK(A:¬Sl)(mi:MI)(enc:α->D)(p:⇑(¬α)):Prop:=∀v,p=!v->∀S0 e F S,Vs S0 A e F S->∃w S',mi e S=.ok w S'/\Keeps S S'/\∀g,Keeps S' g->w g=!v.map enc
def VI(A:¬Sl)(mi:MI)(enc:α->D)(p:⇑(¬α)):Prop:=∀v,p=!v->∀S0 e F S,Vs S0 A e F S->∃w S',mi e S=.ok w S'/\Keeps S S'/\∀g i,Fle (SO F S S') g->(∀n o,g n=.fz o->i[n]?=!o)->w i=!v.map enc
theorem VI.k(h:VI A mi enc p):VK A mi enc p:=λv s S0 e F S m=>by
 let#[w,S',C,o,E]:=h v s S0 e F S m;let g:=m.grow o;exact#[w,S',C,o,λi k=>E _ i (g.fle i) (g.grow k).fz]
noncomputable def eT(enc:α->D)(l:¬α):D:=.tup (l.map enc)
noncomputable def eP(a:α->D)(b:β->D)(x:α×β):D:=.tup [a x.1,b x.2]
noncomputable def eO(a:α->D):⇑α->D
 | none=>.non
 | some x=>a x
def eU(_:Unit):D:=.non
def eF(l:YP):D:=.fro (l.map D.int)
noncomputable def oL(enc:α->D)(l:¬α):Ob:=.lst (l.map enc)
theorem wF(h:VE A m R p)(i:∀v S d S',R v S d S'->R' v S d S'):VE A m R' p:=λv g S0 e F S o=>by
 let#[d,S',s,C,E]:=h v g S0 e F S o;exact#[d,S',s,C,i _ _ _ _ E]
theorem JS(h:VE A m (rN g) p):VE A m (rO g) p:=wF h (by rintro v S d S' ⟨n,i,_,o⟩;exact #[n,i,o])
theorem AL(h:↑(A[i]?=!.v (enc v))):VE A (AB i) (rV enc) (!v):=λz g S0 e F S m=>by
 cases g;let#[x,o,s]:=m.sl i _ h;cases s;exact#[_,S,by unfold AB;rw[o],Keeps.refl S,rfl]
theorem DN(h:↑(A[i]?=!.z (m v))):VE A (AB i) (rO m) (!v):=λG o S0 e F S g=>by
 cases o;let#[x,s,n,rfl,C]:=g.sl i _ h;exact#[_,S,by unfold AB;rw[s],Keeps.refl S,n,rfl,g.fz _ _ C]
theorem DG(h:↑(A[i]?=!.y (m v))):VE A (AB i) (rO m) (!v):=λz o S0 e F S g=>by
 cases o;let#[x,s,n,rfl,C,_]:=g.sl i _ h;exact#[_,S,by unfold AB;rw[s],Keeps.refl S,n,rfl,g.fz _ _ C]
theorem JF(h:↑(A[i]?=!.w k (g v))):VE A (AB i) (rO g) (!v):=λz m S0 e F S o=>by
 cases m;let#[x,s,n,rfl,E,C]:=o.sl i _ h;exact#[_,S,by unfold AB;rw[s],Keeps.refl S,n,rfl,C]
theorem Bf(h:↑(d=enc v)):VE A (mC d) (rV enc) (!v):=λz g S0 e F S i=>by
 cases g;exact#[d,S,rfl,Keeps.refl S,h]
theorem Aw(h:p.bind q=!v):∃x,p=!x/\q x=!v:=Option.bind_eq_some_iff.mp h
theorem G4{f:D->D->Sto->Res D}{a b:ME}{m:α->D}{o:β->D}{s:γ->D}{C:⇑α}{E:⇑β}{g:α->β->⇑γ}(J:VE A a (rV m) C)(hb:VE A b (rV o) E)
  (hf:∀x y z S,g x y=!z->f (m x) (o y) S=.ok (s z) S):VE A (m2 f a b) (rV s) (C*>λx=>E*>λy=>g x y):=λv i S0 e F S G=>by
 let#[x,L,i]:=Aw i;let#[y,N,O]:=Aw i;let#[d1,P,Q,H,rfl]:=J x L S0 e F S G;let#[d2,I,R,T,rfl]:=hb y N S0 e _ P (G.grow H);exact#[_,I,Bi Q R (hf x y v I O),H.trans T,rfl]
theorem cS{f:D->D->Sto->Res D}{a b:ME}{m:α->D}{o:β->Ob}{s:γ->D}{C:⇑α}{E:⇑β}{g:α->β->⇑γ}(J:VE A a (rV m) C)(hb:VE A b (rO o) E)
  (hf:∀x y z S (n:Nat),S[n]?=!o y->g x y=!z->f (m x) (.ref n) S=.ok (s z) S):VE A (m2 f a b) (rV s) (C*>λx=>E*>λy=>g x y):=λv i S0 e F S G=>by
 let#[x,L,i]:=Aw i;let#[y,N,O]:=Aw i;let#[d1,P,Q,H,rfl]:=J x L S0 e F S G;let#[d2,I,R,T,n,rfl,U]:=hb y N S0 e _ P (G.grow H);exact#[_,I,Bi Q R (hf x y v I n U O),H.trans T,rfl]
theorem cV{f:D->D->Sto->Res D}{a b:ME}{m:α->Ob}{o:β->D}{s:γ->D}{C:⇑α}{E:⇑β}{g:α->β->⇑γ}(L:VE A a (rO m) C)(hb:VE A b (rV o) E)
  (hf:∀x y z S (n:Nat),S[n]?=!m x->g x y=!z->f (.ref n) (o y) S=.ok (s z) S):VE A (m2 f a b) (rV s) (C*>λx=>E*>λy=>g x y):=λv i S0 e F S G=>by
 let#[x,N,i]:=Aw i;let#[y,O,P]:=Aw i;let#[d1,Q,R,H,n,rfl,T]:=L x N S0 e F S G;let#[d2,I,U,J,rfl]:=hb y O S0 e _ Q (G.grow H);exact#[_,I,Bi R U (hf x y v I n (J.at T) P),H.trans J,rfl]
theorem Fy(h:VE A m (rV D.bl) p):VB A (mB m) p:=λv g S0 e F S i=>by
 let#[d,S',o,s,rfl]:=h v g S0 e F S i;exact#[S',Jc o,s]
theorem cW(h:VE A m (rV D.bl) p):VB A (G6 m) p:=λv g S0 e F S i=>by
 let#[d,S',o,s,rfl]:=h v g S0 e F S i;refine#[S',?_,s];unfold G6;rw[o];rfl
theorem Jy:VB A HA (!true):=λv g S0 e F S i=>by cases g;exact#[S,rfl,Keeps.refl S]
theorem Nh(h:VB A t p):VB A (NR t) (p*>λb=>!not b):=λv g S0 e F S i=>by
 let#[x,m,o]:=Aw g;cases o;let#[S',s,C]:=h x m S0 e F S i;exact#[S',OB s,C]
theorem Ud(h:VB A t p)(C:VB A u q):VB A (OC t u) (p*>λb=>if b=true then q else !false):=λv E S0 e F S i=>by
 let#[x,G,m]:=Aw E;let#[o,s,g]:=h x G S0 e F S i
 cases x with
 | true=>
  let#[H,I,J]:=C v m S0 e _ o (i.grow g);exact#[H,(ZN s).trans I,g.trans J]
 | false=>cases m;exact#[o,ZM s,g]
theorem W9(h:VB A t p)(C:VB A u q):VB A (mOr t u) (p*>λb=>if b=true then !true else q):=λv E S0 e F S i=>by
 let#[x,G,m]:=Aw E;let#[o,s,g]:=h x G S0 e F S i
 cases x with
 | false=>
  let#[H,I,J]:=C v m S0 e _ o (i.grow g);exact#[H,(Pt s).trans I,g.trans J]
 | true=>cases m;exact#[o,xP s,g]
theorem YF(I:VB A t pt)(J:VE A a R L)(hb:VE A b R N)(E:∀v S S1 d S',S.length<=-S1->R v S1 d S'->R v S d S'):VE A (Yq t a b) R (pt*>λc=>if c=true then L else N):=λv O S0 e F S i=>by
 let#[x,P,G]:=Aw O;let#[S1,H,g]:=I x P S0 e F S i
 cases x with
 | true=>
  let#[d,m,o,s,C]:=J v G S0 e _ S1 (i.grow g);exact#[d,m,(nq H).trans o,g.trans s,E _ _ _ _ _ g.1 C]
 | false=>
  let#[d,m,o,s,C]:=hb v G S0 e _ S1 (i.grow g);exact#[d,m,(nq H).trans o,g.trans s,E _ _ _ _ _ g.1 C]
theorem E7:∀(v:α) (S S1:Sto) (d:D) (S':Sto),S.length<=-S1->rV enc v S1 d S'->rV enc v S d S':=λz z z z z z h=>h
theorem N1:∀(v:α) (S S1:Sto) (d:D) (S':Sto),S.length<=-S1->rN g v S1 d S'->rN g v S d S':=λ_ _ _ _ _ l #[n,i,m,o]=>#[n,i,Ab l m,o]
set_option genInjectivity true in
inductive Fw(ρ σ:Type) where
 | rt (r:ρ) | nx (s:σ) | bk (s:σ) | ct (s:σ)
def VG(S0:Sto)(F:Fz)(S':Sto)(R:Rk ρ)(B:σ->¬Sl)(g:Fl):Fw ρ σ->Prop
 | .nx s=>∃i m,g=.nx i/\Vs S0 (B s) i m S'/\Fle F m
 | .ct s=>∃i m,g=.ct i/\Vs S0 (B s) i m S'/\Fle F m
 | .bk s=>∃i m,g=.bk i/\Vs S0 (B s) i m S'/\Fle F m
 | .rt r=>∃d,g=.rt d/\R r S0 d S'/\Keeps S0 S'
def VS(A:¬Sl)(b:MS)(R:Rk ρ)(p:⇑(Fw ρ σ))(B:σ->¬Sl):Prop:=∀f,p=!f->∀S0 e F S,Vs S0 A e F S->∃g S',b e S=.ok g S'/\VG S0 F S' R B g f
noncomputable def BB(p:⇑(Fw ρ σ))(q:σ->⇑(Fw ρ τ)):⇑(Fw ρ τ):=match p with
 | some (.nx s)=>q s
 | some (.rt r)=>!.rt r
 | _=>none
theorem VG.up{S0:Sto}{F G:Fz}{S':Sto}{R:Rk ρ}{B:σ->¬Sl}{g:Fl}{f:Fw ρ σ}(l:Fle F G)(h:VG S0 G S' R B g f):VG S0 F S' R B g f:=by
 cases f with
 | rt r=>exact h
 | nx s=>let#[i,m,o,C,E]:=h;exact#[i,m,o,C,l.trans E]
 | bk s=>let#[i,m,o,C,E]:=h;exact#[i,m,o,C,l.trans E]
 | ct s=>let#[i,m,o,C,E]:=h;exact#[i,m,o,C,l.trans E]
theorem Av{a b:MS}{R:Rk ρ}{p:⇑(Fw ρ σ)}{q:σ->⇑(Fw ρ τ)}{B:σ->¬Sl}{C:τ->¬Sl}(H:VS A a R p B)(hb:∀s,VS (B s) b R (q s) C):VS A (As a b) R (BB p q) C:=λf m S0 e F S I=>by
 cases p with
 | none=>cases m
 | some w=>
  let#[g,E,G,i]:=H _ rfl S0 e F S I
  cases w with
  | nx s=>
   let#[J,L,rfl,i,o]:=i;let#[N,O,P,Q]:=hb s f m S0 J L E i;exact#[N,O,(BD G).trans P,Q.up o]
  | rt r=>
   cases m;let#[d,rfl,i,o]:=i;exact#[_,E,Np G,d,rfl,i,o]
  | bk s=>cases m
  | ct s=>cases m
theorem HP{R:Rk ρ}{B:σ->¬Sl}{s:σ}(w:Wk A (B s)):VS A sNx R (!.nx s) B:=λf g S0 e F S i=>by
 cases g;exact#[_,S,rfl,e,F,rfl,i.weak w,Fle.refl F]
noncomputable def E9(g:σ->τ)(p:⇑(Fw ρ σ)):⇑(Fw ρ τ):=match p with
 | some (.nx s)=>!.nx (g s)
 | some (.rt r)=>!.rt r
 | some (.bk s)=>!.bk (g s)
 | some (.ct s)=>!.ct (g s)
 | none=>none
theorem Cq{b:MS}{R:Rk ρ}{p:⇑(Fw ρ σ)}{g:σ->τ}{B:σ->¬Sl}{C:τ->¬Sl}(h:VS A b R p B)(w:∀s,Wk (B s) (C (g s))):VS A b R (E9 g p) C:=λf m S0 e F S J=>by
 cases p with
 | none=>cases m
 | some x=>
  let#[g,H,I,i]:=h _ rfl S0 e F S J
  cases x with
  | nx s=>cases m;let#[o,E,rfl,i,G]:=i;exact#[_,H,I,o,E,rfl,i.weak (w s),G]
  | rt r=>cases m;exact#[_,H,I,i]
  | bk s=>cases m;let#[o,E,rfl,i,G]:=i;exact#[_,H,I,o,E,rfl,i.weak (w s),G]
  | ct s=>cases m;let#[o,E,rfl,i,G]:=i;exact#[_,H,I,o,E,rfl,i.weak (w s),G]
theorem DC(h:VE A m (rV enc) p):VS A (Bb i m) R (p*>λv=>!.nx v) (λv=>A.set i (.v (enc v))):=λf o S0 e F S g=>by
 let#[v,s,C]:=Aw o;cases C;let#[d,S',E,G,rfl]:=h v s S0 e F S g;exact#[_,S',EL E,_,_,rfl,(g.grow G).set i rfl,g.fle S']
theorem Jx(h:VE A m (rN s) p):VS A (Bb i m) R (p*>λv=>!.nx v) (λv=>A.set i (.y (s v))):=λf C S0 e F S g=>by
 let#[v,E,G]:=Aw C;cases G;let#[d,S',H,I,n,rfl,o,J]:=h v E S0 e F S g;exact#[_,S',EL H,_,_,rfl,(g.grow I).set i #[n,rfl,OL o J,Ab g.kp.1 o],g.fle S']
theorem FO(h:VE A m (rN o) p):VS A (Bb i m) R (p*>λv=>!.nx v) (λv=>A.set i (.w i (o v))):=λf s S0 e F S g=>by
 let#[v,C,E]:=Aw s;cases E;let#[d,S',G,H,n,rfl,I,J]:=h v C S0 e F S g;let#[L,N,O]:=g.own H I J;exact#[_,S',EL G,_,L,rfl,N,O]
theorem kf(h:A[j]?=!.z o):VS A (Bb i (AB j)) R (!.nx ()) (λ_:Unit=>A.set i (.z o)):=λf m S0 e F S g=>by
 cases m;let#[x,s,n,rfl,C]:=g.sl j _ h;exact#[_,S,EL (by unfold AB;rw[s]),_,F,rfl,g.set i #[n,rfl,C],Fle.refl F]
theorem iJ(h:A[j]?=!.y o):VS A (Bb i (AB j)) R (!.nx ()) (λ_:Unit=>A.set i (.y o)):=λf m S0 e F S g=>by
 cases m;let#[x,s,n,rfl,C,E]:=g.sl j _ h;exact#[_,S,EL (by unfold AB;rw[s]),_,F,rfl,g.set i #[n,rfl,C,E],Fle.refl F]
theorem vm{b:MS}{R:Rk ρ}{p:⇑(Fw ρ σ)}{B:σ->¬Sl}{o:Ob}(i:Nat)(m:A[i]?=!.w i o)(s:((A.set i .u).all (Sl.oth i)))(h:VS (A.set i (.y o)) b R p B):VS A b R p B:=λf C S0 e F S E=>by
 let#[G,H,I]:=E.freeze s m;let#[g,S',J,L]:=h f C S0 e G S H;exact#[g,S',J,L.up I]
theorem Dx{m:ME}{enc:ρ->D}{p:⇑ρ}{B:σ->¬Sl}(h:VE A m (rV enc) p):VS A (CO m) (rV enc) (p*>λv=>!.rt v) B:=λf i S0 e F S g=>by
 let#[v,o,s]:=Aw i;cases s;let#[d,S',C,E,rfl]:=h v o S0 e F S g;exact#[_,S',Ex C,_,rfl,rfl,g.kp.trans E]
theorem Tq{m:ME}{i:ρ->Ob}{p:⇑ρ}{B:σ->¬Sl}(h:VE A m (rN i) p):VS A (CO m) (rN i) (p*>λv=>!.rt v) B:=λf o S0 e F S g=>by
 let#[v,s,C]:=Aw o;cases C;let#[d,S',E,G,n,rfl,H,I]:=h v s S0 e F S g;exact#[_,S',Ex E,_,rfl,#[n,rfl,Ab g.kp.1 H,I],g.kp.trans G]
theorem QQ{i:Nat}{m:ρ->Ob}{v:ρ}{B:σ->¬Sl}{k:Nat}(h:A[i]?=!.w k (m v)):VS A (CO (AB i)) (rN m) (!.rt v) B:=λf o S0 e F S g=>by
 cases o;let#[x,s,n,rfl,C,E]:=g.sl i _ h;exact#[_,S,Ex (by unfold AB;rw[s]),_,rfl,#[n,rfl,(g.ow _ _ C).1,E],g.kp]
theorem qe{i:Nat}{m:ρ->Ob}{v:ρ}{B:σ->¬Sl}(h:A[i]?=!.y (m v)):VS A (CO (AB i)) (rN m) (!.rt v) B:=λf o S0 e F S g=>by
 cases o;let#[x,s,n,rfl,C,E]:=g.sl i _ h;exact#[_,S,Ex (by unfold AB;rw[s]),_,rfl,#[n,rfl,E,g.fz _ _ C],g.kp]
theorem G3{t:MT}{a b:MS}{R:Rk ρ}{pt:⇑Bool}{p q:⇑(Fw ρ σ)}{B:σ->¬Sl}(I:VB A t pt)(J:VS A a R p B)(hb:VS A b R q B):VS A (sIf t a b) R (pt*>λc=>if c=true then p else q) B:=λf L S0 e F S i=>by
 let#[c,N,E]:=Aw L;let#[m,G,H]:=I c N S0 e F S i
 cases c with
 | true=>
  let#[g,o,s,C]:=J f E S0 e _ m (i.grow H);exact#[g,o,(EN G).trans s,C.up (i.fle m)]
 | false=>
  let#[g,o,s,C]:=hb f E S0 e _ m (i.grow H);exact#[g,o,(EN G).trans s,C.up (i.fle m)]
noncomputable def NS(l:¬α)(x:α):⇑(¬α):=if -l < 1000000 then !l++[x]else none
noncomputable def bI(l k:¬α):⇑(¬α):=if -l+-k<=1000000 then !l++k else none
theorem dS(h:n < 1000000):n < sizeLine:=AS h ∅
theorem tK(h:n<=1000000):n<=sizeLine:=Ab h ∅
set_option tactic.hygienic true in
theorem KD(hi:A[i]?=!.w i (oL enc l))(h:VE A m (rV enc) p)(I:((A.set i .u).all (Sl.oth i))) :
  VS A (FJ (LR (AB i) m)) R (p*>λv=>NS l v*>λo=>!.nx o) (λo=>A.set i (.w i (oL enc o))):=λf J S0 e F S s=>by
 let#[v,L,g]:=Aw J;let#[o,g,N]:=Aw g;cases N;unfold NS at g;split at g
 ·rename_i O
  cases g;let#[x,E,n,rfl,P,C]:=s.sl i _ hi;let#[d,S',Q,G,rfl]:=h v L S0 e F S s;let T:=s.grow G;let H:=ZJ (mo:=AB i) (by unfold AB;rw[E]) C Q (G.at C) (by rw[AN];exact dS O);rw[show l.map enc++[enc v]=(l++[v]).map enc by simp]at H;exact#[_,_,Om H,e,_,rfl,T.put I hi E (by rw[Gg (CF C)];exact P),s.fle S']
 ·cases g
theorem qi(h:VE A m Rm p):VS A (FJ m) R (p*>λz=>!.nx ()) (λ_:Unit=>A):=λf i S0 e F S g=>by
 let#[v,o,s]:=Aw i;cases s;let#[d,S',C,E,_]:=h v o S0 e F S g;exact#[_,S',Om C,e,_,rfl,g.grow E,g.fle S']
theorem Rf(hi:A[i]?=!.v (D.int x))(h:VE A m (rV D.int) p):VS A (U6 i g m) R (p*>λy=>!.nx (g x y)) (λz=>A.set i (.v (D.int z))):=λf s S0 e F S o=>by
 let#[v,C,E]:=Aw s;cases E;let#[d,S',I,G,rfl]:=h v C S0 e F S o;let#[y,J,H]:=o.sl i _ hi;cases H;refine#[_,S',?_,_,_,rfl,(o.grow G).set i rfl,o.fle S'];unfold U6;ext
def VT(g:MG)(enc:α->D)(t:α->¬Sl->¬Sl):Prop:=∀x S0 A e F S,Vs S0 A e F S->∃i,g (enc x) e S=.ok i S/\Vs S0 (t x A) i F S
theorem E2:VT (tgN i) enc (λx A=>A.set i (.v (enc x))):=λx S0 A e F S g=>#[_,rfl,g.set i rfl]
theorem QP:VT (JT 2 (Cw (tgN i) (Cw (tgN j) Ju))) (eP a b) (λx A=>(A.set i (.v (a x.1))).set j (.v (b x.2))):=λx S0 A e F S g=>#[_,rfl,(g.set (a:=.v (a x.1)) i rfl).set j rfl]
noncomputable def Eu:¬α->σ->(σ->α->⇑(Fw ρ σ))->⇑(Fw ρ σ)
 | [],s,_=>!.nx s
 | x :: l,s,q=>match q s x with
  | some (.nx g)=>Eu l g q
  | some (.ct g)=>Eu l g q
  | some (.bk g)=>!.nx g
  | some (.rt r)=>!.rt r
  | none=>none
set_option tactic.hygienic true in
theorem qh{enc:α->D}{g:MG}{t:α->¬Sl->¬Sl}{b:MS}{R:Rk ρ}{q:σ->α->⇑(Fw ρ σ)}{B:σ->¬Sl}(hg:VT g enc t)(hb:∀s x,VS (t x (B s)) b R (q s x) B){w:O4}{S0:Sto}{Z:Fz}{i:¬α}
  (hw:∀O P,Fle Z O->(∀n o,O n=.fz o->P[n]?=!o)->w P=!i.map enc):∀(l:¬α) (k:Nat),i.drop k=l->∀(s:σ) (f:Fw ρ σ),Eu l s q=!f->∀e F S,Vs S0 (B s) e F S->Fle Z F->∃h S',Mz w g b (-l) k e S=.ok h S'/\VG S0 Z S' R B h f:=by
 intro l
 induction l with
 | nil=>
  intro k U s f C e F S Q E;cases C
  let:-i<=k:=by
   let:=congrArg Lp U;rw[G0,J6]at this
   ext
  refine#[_,S,?_,e,F,rfl,Q,E];unfold Mz;rw[hw F S E Q.fz];ext
 | cons x l ih=>
  intro k U s f C e F S Q E
  let hx:i[k]?=!x:=by
   let:=congrArg (λz=>z[0]?) U;rw[Hg]at this;simpa using this
  let Υ:i.drop (k+1)=l:=by
   let G:i.drop (k+1)=(i.drop k).drop 1:=by rw[PF]
   exact G.trans (congrArg (List.drop 1) U)
  let#[G,g1,X]:=hg x S0 _ e F S Q
  let run:∀h S',b G S=.ok h S'->Mz w g b (-(x :: l)) k e S=(match h with
    | .nx m=>Mz w g b (-l) (k+1) m S'
    | .ct m=>Mz w g b (-l) (k+1) m S'
    | .bk m=>.ok (.nx m) S'
    | .rt d=>.ok (.rt d) S'
    | .ex c m=>.ok (.ex c m) S'):=λh S' ϐ=>by
   conv=>lhs;unfold Mz
   rw[hw F S E Q.fz];symm;rw[Al,hx];dsimp only[zV];rw[g1];dsimp only[Res.bind];rw[ϐ];rfl
  unfold Eu at C;split at C
  ·rename_i Y H
   let#[h,I,J,m,T,rfl,L,N]:=hb s x _ H S0 G F S X;rw[run _ _ J];exact ih (k+1) Υ Y f C m T I L (E.trans N)
  ·rename_i Y H
   let#[h,I,J,m,T,rfl,L,N]:=hb s x _ H S0 G F S X;rw[run _ _ J];exact ih (k+1) Υ Y f C m T I L (E.trans N)
  ·rename_i Y H
   cases C;let#[h,I,J,m,T,rfl,L,N]:=hb s x _ H S0 G F S X;rw[run _ _ J];exact#[_,I,rfl,m,T,rfl,L,E.trans N]
  ·rename_i r H
   cases C;let#[h,I,J,d,rfl,L,N]:=hb s x _ H S0 G F S X;rw[run _ _ J];exact#[_,I,rfl,d,rfl,L,N]
  ·cases C
theorem Ew{enc:α->D}{mi:MI}{g:MG}{t:α->¬Sl->¬Sl}{b:MS}{R:Rk ρ}{p:⇑(¬α)}{q:σ->α->⇑(Fw ρ σ)}{B:σ->¬Sl}{s0:σ}(hi:VI A mi enc p)(E:VT g enc t)(w0:Wk A (B s0))(hb:∀s x,VS (t x (B s)) b R (q s x) B) :
  VS A (FG mi g b) R (p*>λl=>Eu l s0 q) B:=λf G S0 e F S o=>by
 let#[l,H,I]:=Aw G;let#[w,m,J,L,C]:=hi l H S0 e F S o;let i:=o.grow L
 let N:Dc w m=-l:=by unfold Dc;rw[C _ m (Fle.refl _) i.fz];exact AN _
 let#[h,O,P,Q]:=qh E hb C l 0 rfl s0 f I e _ m (i.weak w0) (Fle.refl _);refine#[h,O,?_,Q.up (o.fle m)];rw[Mx J,N];exact P
noncomputable def V9(c:α->⇑Bool)(m:α->⇑β):¬α->⇑(¬β)
 | []=>![]
 | x :: l=>c x*>λb=>if b=true then(m x).bind λy=>V9 c m l*>λg=>!y :: g else V9 c m l
def FZ(l:¬α)(c:α->⇑Bool)(m:α->⇑β):⇑(¬β):=if -l<=1000000 then V9 c m l else none
theorem kg{enc:α->D}{N:β->D}{g:MG}{P:¬⇑D->Prop}{T:α->¬Sl}{c:MT}{m:ME}{Z:α->⇑Bool}{pm:α->⇑β}
  (hg:∀x S0 e F S o,P o->Vs S0 A e F S->∃E,g (enc x) (o++e) S=.ok (E++e) S/\P E/\Vs S0 (T x) (E++e) F S)
  (hc:∀x,VB (T x) c (Z x)) (hm:∀x,VE (T x) m (rV N) (pm x)) {w:O4} {S0:Sto} {e:Lo} {i:¬α} {S1:Sto} (hf:-i<=1000000) (hw:∀H,Keeps S1 H->w H=!i.map enc) :
  ∀(l:¬α) (k:Nat),i.drop k=l->∀(r:¬β),V9 Z pm l=!r->∀o F S s,P o->Vs S0 A e F S->Keeps S1 S->-s<=k->∃S',Gh w g c m (-l) k (o++e) S s=.ok (s++r.map N) S'/\Keeps S S':=by
 intro l
 induction l with
 | nil=>
  intro k I r J o F S s hp O C ha;cases J
  let:-i<=k:=by
   let:=congrArg Lp I;rw[G0,J6]at this
   ext
  refine#[S,?_,Keeps.refl S];unfold Gh;ext
 | cons x l ih=>
  intro k I r J o F S s hp O C ha
  let hx:i[k]?=!x:=by
   let:=congrArg (λz=>z[0]?) I;rw[Hg]at this;simpa using this
  let Υ:i.drop (k+1)=l:=by
   let e1:i.drop (k+1)=(i.drop k).drop 1:=by rw[PF]
   exact e1.trans (congrArg (List.drop 1) I)
  let Q:=(AE.mp hx).1;let#[E,g1,g2,g3]:=hg x S0 e F S o hp O;unfold V9 at J;let#[b,h1,L]:=Aw J;let#[S2,h3,G]:=hc x b h1 S0 _ F S g3;let ψ:=O.grow G
  show ∃S',Gh w g c m (-l+1) k (o++e) S s=_/\_
  conv=>arg 1;ext S';arg 1;lhs;unfold Gh
  rw[hw S C];symm;rw[Al,hx];dsimp only[zV];rw[qX (Bc ha (dS (AS Q hf))),g1];dsimp only[okR,Res.bind];rw[h3];dsimp only[okR,Res.bind]
  cases b with
  | true=>
   rw[qX rfl]at L ⊢;let#[y,h5,h6]:=Aw L;let#[ys,R,h7]:=Aw h6;cases h7;let#[d,S3,h8,U,rfl]:=hm x y h5 S0 _ _ S2 (g3.grow G);rw[h8];let#[X,q1,Y]:=ih (k+1) Υ ys R E _ S3 (s++[N y]) g2 (ψ.grow U) (C.trans (G.trans U)) (by rw[Aa,Ay];lia);refine#[X,?_,(G.trans U).trans Y]
   grind
  | false=>
   rw[qY AQ]at L ⊢;let#[X,q1,Y]:=ih (k+1) Υ r L E _ S2 s g2 ψ (C.trans G) ∅;exact#[X,q1,G.trans Y]
set_option tactic.hygienic true in
theorem qm{enc:α->D}{G:β->D}{n:Nat}{mi:MI}{g:MG}{P:¬⇑D->Prop}{T:α->¬Sl}{c:MT}{m:ME}{p:⇑(¬α)}{H:α->⇑Bool}{I:α->⇑β}(hi:VK A mi enc p)(O:P (BU n none))
  (Q:∀x S0 e F S i,P i->Vs S0 A e F S->∃s,g (enc x) (i++e) S=.ok (s++e) S/\P s/\Vs S0 (T x) (s++e) F S)
  (R:∀x,VB (T x) c (H x)) (hm:∀x,VE (T x) m (rV G) (I x)):VL A (En n mi g c m) G (p*>λl=>FZ l H I):=λr U S0 e F S J=>by
 let#[l,X,o]:=Aw U;let#[w,C,Y,L,N]:=hi l X S0 e F S J;unfold FZ at o;split at o
 ·rename_i Z
  let E:=J.grow L;let#[S2,h6,h7]:=kg Q R hm Z N l 0 rfl r o _ _ C [] O E (Keeps.refl _) (AO _);refine#[S2,?_,L.trans h7];rw[RI Y,show Dc w C=-l by unfold Dc;rw[N C (Keeps.refl _)];ext];exact h6
 ·cases o
theorem El{enc:α->D}{i:β->D}{mi:MI}{c:MT}{m:ME}{p:⇑(¬α)}{o:α->⇑Bool}{s:α->⇑β}(hi:VK A mi enc p)(C:∀x,VB (.v (enc x) :: A) c (o x))(hm:∀x,VE (.v (enc x) :: A) m (rV i) (s x)) :
  VL A (En 1 mi (tgN 0) c m) i (p*>λl=>FZ l o s):=
 qm (P:=λg=>∃z,g=[z]) hi #[none,rfl] (λx S0 e F S g E G=>by
  let#[z,rfl]:=E
  exact#[[!enc x],rfl,#[_,rfl],G.cons rfl]) C hm
theorem DD(h:VL A ml enc p):VE A (ED ml) (rN (oL enc)) p:=λv i S0 e F S m=>by
 let#[S',o,g]:=h v i S0 e F S m;exact#[_,_,R9 o,g.trans (Keeps.app _ _),_,rfl,g.1,DM _ _]
set_option genInjectivity true in
inductive Ar where
 | v (d:D) | z (o:Ob) | q (P:(Nat->⇑Ob)->D->Prop)
def Ar.ok(S:Sto):Ar->D->Prop
 | .v d,x=>x=d
 | .z o,x=>∃n,x=.ref n/\S[n]?=!o
 | .q P,x=>∀L:Nat->⇑Ob,(∀n o,S[n]?=!o->L n=!o)->P L x
noncomputable def Ar.sl:Ar->Sl
 | .v d=>.v d
 | .z o=>.z o
 | .q P=>.q P
def NM(S:Sto):¬Ar->¬D->Prop
 | [],[]=>True
 | a :: as,d :: g=>a.ok S d/\NM S as g
 | _,_=>False
theorem NM.len:∀{as:¬Ar} {ds:¬D},NM S as ds->-ds=-as
 | [],[],_=>rfl
 | _ :: as,_ :: ds,h=>by rw[Az,Az,NM.len h.2]
 | [],_ :: _,h=>h.elim
 | _ :: _,[],h=>h.elim
theorem NM.at:∀{as:¬Ar} {ds:¬D},NM S as ds->∀(i:Nat) (a:Ar),as[i]?=!a->∃d,ds[i]?=!d/\a.ok S d
 | [],[],_,i,a,h=>by simp at h
 | b :: as,d :: ds,h,0,a,q=>by cases q;exact#[d,rfl,h.1]
 | b :: as,d :: ds,h,i+1,a,q=>NM.at h.2 i a q
 | [],_ :: _,h,_,_,_=>h.elim
 | _ :: _,[],h,_,_,_=>h.elim
def VF(f:¬D->Sto->Res D)(as:¬Ar)(R:Rk α)(p:⇑α):Prop:=∀v,p=!v->∀S g,NM S as g->∃d S',f g S=.ok d S'/\Keeps S S'/\R v S d S'
def VA(A:¬Sl)(ml:ML)(p:⇑γ)(i:γ->¬Ar):Prop:=∀v,p=!v->∀S0 e F S,Vs S0 A e F S->∃g S',ml e S=.ok g S'/\Keeps S S'/\NM S' (i v) g
theorem CT:VA A Ax (!()) (λz=>[]):=λv g S0 e F S i=>#[[],S,rfl,Keeps.refl S,trivial]
theorem C2(h:VE A m (rV enc) p)(s:VA A ml q C):VA A (AK m ml) (p*>λx=>q*>λy=>!(x,y)) (λz=>.v (enc z.1) :: C z.2):=λv E S0 e F S i=>by
 let#[x,G,H]:=Aw E;let#[y,g,I]:=Aw H;cases I;let#[d,J,L,o,rfl]:=h x G S0 e F S i;let#[R,N,O,P,Q]:=s y g S0 e _ J (i.grow o);exact#[_,N,BF L O,o.trans P,rfl,Q]
theorem Ri(h:VE A m (rO C) p)(E:VA A ml q G):VA A (AK m ml) (p*>λx=>q*>λy=>!(x,y)) (λz=>.z (C z.1) :: G z.2):=λv H S0 e F S i=>by
 let#[x,I,J]:=Aw H;let#[y,g,L]:=Aw J;cases L;let#[d,N,O,o,n,rfl,P]:=h x I S0 e F S i;let#[U,Q,R,s,T]:=E y g S0 e _ N (i.grow o);exact#[_,Q,BF O R,o.trans s,#[n,rfl,s.at P],T]
theorem CN(o:VA A ml p g)(hf:∀z,VF f (g z) R (q z))(s:∀z,(g z).length=n)(C:∀v S S1 d S',S.length<=-S1->R v S1 d S'->R v S d S'):VE A (Bg n f ml) R (p.bind q):=λv E S0 e F S G=>by
 let#[z,H,I]:=Aw E;let#[J,S1,L,i,m]:=o z H S0 e F S G;let#[d,N,O,P,Q]:=hf z v I S1 J m;exact#[d,N,(Fv L (m.len.trans (s z))).trans O,i.trans P,C _ _ _ _ _ i.1 Q]
noncomputable def MN(S:Sto):Fz:=λn=>match S[n]? with
 | some o=>.fz o
 | none=>.no
set_option tactic.hygienic true in
theorem Vs.start(h:NM S as ds):Vs S (as.map Ar.sl++BU (n - -as) .u) (LK n ds) (MN S) S:=by
 refine#[Keeps.refl S,λn o q=>?_,λn i q=>?_,λn N=>by unfold MN;ext,λi a g=>?_]
 ·unfold MN at q
  lia
 ·unfold MN at q
  split at q <;> cases q
 ·unfold LK
  by_cases c:i < -as
  ·rw[Ah ∅,Al]at g
   rw[Ah (by rw[AN,h.len];exact c),Al]
   cases C:as[i]? with
   | none=>ext
   | some b=>
    rw[C]at g;cases g;let#[d,E,s]:=h.at i b C;refine#[!d,by rw[E];rfl,?_]
    cases b with
    | v x=>exact congrArg some s
    | z o=>let#[m,G,H]:=s;exact#[m,congrArg some G,by unfold MN;rw[H]]
    | q P=>exact#[d,rfl,λL I=>s L λn o q=>I n o (by unfold MN;rw[q])]
  ·rw[BE ∅]at g
   rw[AN,D3]at g;split at g
   ·rename_i J
    cases g;refine#[none,?_,trivial];rw[BE (by rw[AN,h.len];ext),AN,h.len,D3,qX J]
   ·cases g
noncomputable def Gu(p:⇑(Fw ρ σ)):⇑ρ:=match p with
 | some (.rt r)=>!r
 | _=>none
noncomputable def xO(p:⇑(Fw Unit σ)):⇑Unit:=match p with
 | some (.rt r)=>!()
 | some (.nx _)=>!()
 | _=>none
end
section
variable{S0 S S':Sto}{A:¬Sl}{α β γ δ:Type}
section
variable{a b c:ME}{pa pb pc:⇑Int}
theorem Ik(g:VE A a (rV D.int) pa)(hb:VE A b (rV D.int) pb):VE A (m2 JB a b) (rV D.int) (pa*>λx=>pb*>λy=>!x+y):=G4 g hb λx y z S h=>by cases h;rfl
theorem Rh(g:VE A a (rV D.int) pa)(hb:VE A b (rV D.int) pb):VE A (m2 Z4 a b) (rV D.int) (pa*>λx=>pb*>λy=>!x - y):=G4 g hb λx y z S h=>by cases h;rfl
def dM(x y:Int):⇑Int:=if bf x y then !x * y else none
def bF(x y:Int):⇑Int:=if pV x y then !x / y else none
noncomputable def jF(x y:Int):⇑Int:=if 0 < y then !x % y else none
set_option tactic.hygienic true in
theorem cT(g:VE A a (rV D.int) pa)(hb:VE A b (rV D.int) pb):VE A (m2 ai a b) (rV D.int) (pa*>λx=>pb*>λy=>dM x y):=G4 g hb λx y z S h=>by
 unfold dM at h;split at h
 ·rename_i i;cases h;exact qX i
 ·cases h
set_option tactic.hygienic true in
theorem fG(g:VE A a (rV D.int) pa)(hb:VE A b (rV D.int) pb):VE A (m2 JY a b) (rV D.int) (pa*>λx=>pb*>λy=>bF x y):=G4 g hb λx y z S h=>by
 unfold bF at h;split at h
 ·rename_i i;cases h;exact qX i
 ·cases h
set_option tactic.hygienic true in
theorem cU(g:VE A a (rV D.int) pa)(hb:VE A b (rV D.int) pb):VE A (m2 LQ a b) (rV D.int) (pa*>λx=>pb*>λy=>jF x y):=G4 g hb λx y z S h=>by
 unfold jF at h;split at h
 ·rename_i i;cases h;exact fj i
 ·cases h
theorem GR(i:(decide (0 < k)&&decide (k<=1000000)))(m:VE A a (rV D.int) pa):VE A (m2 JY a (mC (.int k))) (rV D.int) (pa*>λx=>!x / k):=λv o S0 e F S s=>by
 let#[x,B,C]:=Aw o;cases C;let#[d,S',E,G,rfl]:=m x B S0 e F S s;let g:=Bo _ _▸i;exact#[_,S',Bi E rfl (og (of_decide_eq_true g.1) (of_decide_eq_true g.2)),G,rfl]
theorem Fq(g:decide (0 < k))(i:VE A a (rV D.int) pa):VE A (m2 LQ a (mC (.int k))) (rV D.int) (pa*>λx=>!x % k):=λv m S0 e F S o=>by
 let#[x,s,B]:=Aw m;cases B;let#[d,S',C,E,rfl]:=i x s S0 e F S o;exact#[_,S',Bi C rfl (fj (of_decide_eq_true g)),E,rfl]
theorem qv(i:(decide (-1000000<=k)&&decide (k<=1000000)))(m:VE A a (rV D.int) pa):VE A (m2 ai a (mC (.int k))) (rV D.int) (pa*>λx=>!x * k):=λv o S0 e F S s=>by
 let#[x,B,C]:=Aw o;cases C;let#[d,S',E,G,rfl]:=m x B S0 e F S s;let g:=Bo _ _▸i;exact#[_,S',Bi E rfl (sv (of_decide_eq_true g.1) (of_decide_eq_true g.2)),G,rfl]
theorem Uc(g:VE A a (rV D.int) pa):VE A (Wn a) (rV D.int) (pa*>λx=>!((unop% Neg.neg x))):=λv i S0 e F S m=>by
 let#[x,o,s]:=Aw i;cases s;let#[d,S',B,C,rfl]:=g x o S0 e F S m;exact#[_,S',by unfold Wn;rw[B];rfl,C,rfl]
theorem kt(g:VE A a (rV D.int) pa)(hb:VE A b (rV D.int) pb):VE A (m2 ltD a b) (rV D.bl) (pa*>λx=>pb*>λy=>!decide (x < y)):=G4 g hb λx y z S h=>by cases h;rfl
theorem lA(g:VE A a (rV D.int) pa)(hb:VE A b (rV D.int) pb):VE A (m2 gtD a b) (rV D.bl) (pa*>λx=>pb*>λy=>!decide (y < x)):=G4 g hb λx y z S h=>by cases h;rfl
theorem Lu{f g:D->D->Sto->Res D}{P Q:Int->Int->Bool}(hf:∀x y S,f (.int x) (.int y) S=.ok (.bl (P x y)) S)(L:∀x y S,g (.int x) (.int y) S=.ok (.bl (Q x y)) S)(N:VE A a (rV D.int) pa)(hb:VE A b (rV D.int) pb)(O:VE A c (rV D.int) pc) :
  VE A (m3 f g a b c) (rV D.bl) (pa*>λx=>pb*>λy=>if P x y then pc*>λz=>!Q y z else !false):=λv s S0 e F S B=>by
 let#[x,R,s]:=Aw s;let#[y,T,i]:=Aw s;let#[d1,U,G,m,rfl]:=N x R S0 e F S B;let#[d2,C,H,E,rfl]:=hb y T S0 e _ U (B.grow m);let o:=hf x y C
 cases I:P x y with
 | false=>
  rw[I]at i o;cases i;exact#[_,C,AAz G H o,m.trans E,rfl]
 | true=>
  rw[I]at i o;rw[qX rfl]at i;let#[w,X,Y]:=Aw i;cases Y;let#[d3,J,Z,k3,rfl]:=O w X S0 e _ C ((B.grow m).grow E);exact#[_,J,vA G H o Z (L y w J),(m.trans E).trans k3,rfl]
theorem gi(x y:Int)(S:Sto):ltD (.int x) (.int y) S=.ok (.bl (decide (x < y))) S:=rfl
theorem Sy(x y:Int)(S:Sto):leD (.int x) (.int y) S=.ok (.bl (decide (x<=y))) S:=rfl
theorem fC(o:VE A a (rV D.int) pa)(hb:VE A b (rV D.int) pb):VE A (mQ Qv (AK a (AK b Ax))) (rV D.int) (pa*>λx=>pb*>λy=>!(if y < x then y else x)):=λv g S0 e F S i=>by
 let#[x,s,g]:=Aw g;let#[y,B,C]:=Aw g;cases C;let#[d1,E,G,m,rfl]:=o x s S0 e F S i;let#[d2,H,I,J,rfl]:=hb y B S0 e _ E (i.grow m);exact#[_,H,iz (BF G (BF I rfl)) rfl,m.trans J,rfl]
theorem qw(o:VE A a (rV D.int) pa)(hb:VE A b (rV D.int) pb):VE A (mQ Sq (AK a (AK b Ax))) (rV D.int) (pa*>λx=>pb*>λy=>!(if y > x then y else x)):=λv g S0 e F S i=>by
 let#[x,s,g]:=Aw g;let#[y,B,C]:=Aw g;cases C;let#[d1,E,G,m,rfl]:=o x s S0 e F S i;let#[d2,H,I,J,rfl]:=hb y B S0 e _ E (i.grow m);exact#[_,H,iz (BF G (BF I rfl)) rfl,m.trans J,rfl]
theorem rC{pa pb}(o:VE A a (rV D.bl) pa)(hb:VE A b (rV D.bl) pb):VE A (aw a b) (rV D.bl) (pa*>λx=>if x=true then pb else !false):=λv s S0 e F S i=>by
 let#[x,B,m]:=Aw s;let#[d,S',C,g,rfl]:=o x B S0 e F S i
 cases x with
 | true=>
  let#[d,E,H,G,rfl]:=hb v m S0 e _ S' (i.grow g);exact#[_,E,by unfold aw;ext,g.trans G,rfl]
 | false=>cases m;exact#[_,S',by unfold aw;rw[C];rfl,g,rfl]
end
def EqN(n:Nat)(enc:α->D)[DecidableEq α]:Prop:=∀x y,eqP n (enc x) (enc y)=!decide (x=y)
def NL(enc:α->D):Prop:=∀x S,O0 (enc x) S=none
theorem Ds:EqN n D.int:=λx y=>by
 let:ON (.int x) (.int y)=!decide (x=y):=rfl
 cases n <;> exact this
theorem Kz:EqN n D.str:=λx y=>by
 let:ON (.str x) (.str y)=!decide (x=y):=rfl
 cases n <;> exact this
theorem oq{n:Nat}{a:α->D}{b:β->D}[DecidableEq α][DecidableEq β](g:EqN n a)(hb:EqN n b):EqN (n+1) (eP a b):=λx y=>by
 show eqL (eqP n) [a x.1,b x.2] [a y.1,b y.2]=_;unfold eqL eqL eqL;rw[g,hb];let#[i,m]:=x;let#[y1,y2]:=y;ext
theorem LP:NL D.int:=λz z=>rfl
theorem Ym:NL D.str:=λz z=>rfl
section
variable{a b:ME}{enc:α->D}[DecidableEq α]
theorem dj(h:EqN 8 enc)(n:NL enc)(neg:Bool)(x y:α)(S:Sto):eqD neg (enc x) (enc y) S=.ok (.bl (if neg then not (decide (x=y))else decide (x=y))) S:=by
 unfold eqD eqB;rw[n x S,n y S];rw[h x y]
theorem QV(h:EqN 8 enc)(n:NL enc)(g:VE A a (rV enc) i)(hb:VE A b (rV enc) m):VE A (m2 (eqD false) a b) (rV D.bl) (i*>λx=>m*>λy=>!decide (x=y)):=G4 g hb λx y z S q=>by cases q;exact dj h n false x y S
theorem Zr(h:EqN 8 enc)(n:NL enc)(g:VE A a (rV enc) i)(hb:VE A b (rV enc) m):VE A (m2 (eqD true) a b) (rV D.bl) (i*>λx=>m*>λy=>!not (decide (x=y))):=G4 g hb λx y z S q=>by cases q;exact dj h n true x y S
theorem bV(h:EqN 8 enc)(x:α):∀l:¬α,Pe (enc x) (l.map enc)=!decide (x∈l)
 | []=>by simp[Pe]
 | y :: l=>by
  rw[At];unfold Pe;rw[h y x,bV h x l]
  grind
theorem SH(h:EqN 8 enc)(neg:Bool)(x:α){l:¬α}{d:D}{S:Sto}(g:GB d S=!l.map enc):inA neg (enc x) d S=.ok (.bl (if neg then not (decide (x∈l))else decide (x∈l))) S:=by
 show KS (inD neg (enc x) d S) _=_
 let e:inD neg (enc x) d S=.ok (.bl (if neg then not (decide (x∈l))else decide (x∈l))) S:=by
  unfold inD;rw[g];symm;rw[bV h]
 rw[e];rfl
theorem k9{pl:⇑(¬α)}(h:EqN 8 enc)(g:VE A a (rV enc) i)(hb:VE A b (rV (eT enc)) pl):VE A (m2 (inA false) a b) (rV D.bl) (i*>λx=>pl*>λl=>!decide (x∈l)):=G4 g hb λx l z S q=>by cases q;exact SH h false x rfl
theorem fB{pl:⇑(¬α)}(h:EqN 8 enc)(g:VE A a (rV enc) i)(hb:VE A b (rV (eT enc)) pl):VE A (m2 (inA true) a b) (rV D.bl) (i*>λx=>pl*>λl=>!not (decide (x∈l))):=G4 g hb λx l z S q=>by cases q;exact SH h true x rfl
theorem wE{pl:⇑(¬α)}(h:EqN 8 enc)(g:VE A a (rV enc) i)(hb:VE A b (rO (oL enc)) pl):VE A (m2 (inA false) a b) (rV D.bl) (i*>λx=>pl*>λl=>!decide (x∈l)):=cS g hb λx l z S n m q=>by cases q;exact SH h false x (DO m)
theorem qu{pl:⇑(¬α)}(h:EqN 8 enc)(g:VE A a (rV enc) i)(hb:VE A b (rO (oL enc)) pl):VE A (m2 (inA true) a b) (rV D.bl) (i*>λx=>pl*>λl=>!not (decide (x∈l))):=cS g hb λx l z S n m q=>by cases q;exact SH h true x (DO m)
theorem yr(h:EqN n enc):∀l k:¬α,eqL (eqP n) (l.map enc) (k.map enc)=!decide (l=k):=by
 intro l
 induction l with
 | nil=>intro k;cases k <;> rfl
 | cons x l g=>
  intro k
  cases k with
  | nil=>rfl
  | cons y k=>
   rw[At,At];unfold eqL;rw[h x y,g k];ext
theorem Oo(h:EqN 8 enc)(neg:Bool)(g:S[n]?=!oL enc l)(hm:S[m]?=!oL enc k):eqD neg (.ref n) (.ref m) S=.ok (.bl (if neg then not (decide (l=k))else decide (l=k))) S:=by
 unfold eqD eqB;rw[Qz g,Qz hm];symm;rw[AN,AN]
 by_cases c:-l=-k
 ·rw[qX c,yr h]
 ·rw[qY c,wY λz=>c (by rw[z])]
theorem uw{f:D->D->Sto->Res D}{o:β->Ob}{s:γ->Ob}{B:δ->D}{C:⇑β}{E:⇑γ}{g:β->γ->⇑δ}(L:VE A a (rO o) C)(hb:VE A b (rO s) E)
  (hf:∀x y z S (n m:Nat),S[n]?=!o x->S[m]?=!s y->g x y=!z->f (.ref n) (.ref m) S=.ok (B z) S):VE A (m2 f a b) (rV B) (C*>λx=>E*>λy=>g x y):=λv i S0 e F S G=>by
 let#[x,N,i]:=Aw i;let#[y,O,P]:=Aw i;let#[d1,Q,R,H,n,rfl,T]:=L x N S0 e F S G;let#[d2,I,U,J,m,rfl,hm]:=hb y O S0 e _ Q (G.grow H);exact#[_,I,Bi R U (hf x y v I n m (J.at T) hm P),H.trans J,rfl]
theorem wH{g i:⇑(¬α)}(h:EqN 8 enc)(o:VE A a (rO (oL enc)) g)(hb:VE A b (rO (oL enc)) i):VE A (m2 (eqD false) a b) (rV D.bl) (g*>λx=>i*>λy=>!decide (x=y)):=uw o hb λx y z S n m s hm q=>by cases q;exact Oo h false s hm
theorem kr{g i:⇑(¬α)}(h:EqN 8 enc)(o:VE A a (rO (oL enc)) g)(hb:VE A b (rO (oL enc)) i):VE A (m2 (eqD true) a b) (rV D.bl) (g*>λx=>i*>λy=>!not (decide (x=y))):=uw o hb λx y z S n m s hm q=>by cases q;exact Oo h true s hm
end
section
variable{a b m mo:ME}
theorem uW(l:¬α)(i:Int)(f:α->β):atI (l.map f) i=(atI l i).map f:=by
 unfold atI;rw[AN]
 cases ixN (-l) i with
 | none=>rfl
 | some j=>ext
theorem Yv(g:GB d S=!l.map enc)(h:atI l i=!x):ixA d (.int i) S=.ok (enc x) S:=by
 show KS (ixD d (.int i) S) _=_
 let:ixD d (.int i) S=.ok (enc x) S:=by
  unfold ixD;rw[g];symm;rw[uW,h];rfl
 rw[this];rfl
theorem kz(g:VE A a (rV (eT enc)) pl)(hb:VE A b (rV D.int) pi):VE A (m2 ixA a b) (rV enc) (pl*>λl=>pi*>λi=>atI l i):=G4 g hb λl i z S q=>Yv rfl q
theorem wB{pl}(g:VE A a (rV eF) pl)(hb:VE A b (rV D.int) pi):VE A (m2 ixA a b) (rV D.int) (pl*>λl=>pi*>λi=>atI l i):=G4 g hb λl i z S q=>Yv rfl q
theorem EK(g:VE A a (rO (oL enc)) pl)(hb:VE A b (rV D.int) pi):VE A (m2 ixA a b) (rV enc) (pl*>λl=>pi*>λi=>atI l i):=cV g hb λl i z S n o q=>Yv (DO o) q
theorem wG(g:VE A a (rV (eP i H)) p):VE A (m2 ixA a (mC (.int 0))) (rV i) (p*>λx=>!x.1):=λv o S0 e F S s=>by
 let#[x,B,C]:=Aw o;cases C;let#[d,S',E,G,rfl]:=g x B S0 e F S s;exact#[_,S',Bi E rfl (Hx rfl (by ext) rfl),G,rfl]
theorem v0(g:VE A a (rV (eP H i)) p):VE A (m2 ixA a (mC (.int 1))) (rV i) (p*>λx=>!x.2):=λv o S0 e F S s=>by
 let#[x,B,C]:=Aw o;cases C;let#[d,S',E,G,rfl]:=g x B S0 e F S s;exact#[_,S',Bi E rfl (Hx rfl (by ext) rfl),G,rfl]
theorem fE{pl}(g:VE A a (rV eF) pl):VE A (JW a) (rV D.int) (pl*>λl=>!(-l:Int)):=λv i S0 e F S o=>by
 let#[l,s,B]:=Aw i;cases B;let#[d,S',C,E,rfl]:=g l s S0 e F S o;exact#[_,S',(Vj C rfl).trans (by ext),E,rfl]
theorem QU(g:VE A a (rO (oL enc)) pl):VE A (JW a) (rV D.int) (pl*>λl=>!(-l:Int)):=λv i S0 e F S o=>by
 let#[l,s,B]:=Aw i;cases B;let#[d,S',C,E,n,rfl,G]:=g l s S0 e F S o;exact#[_,S',(Vj C (DO G)).trans (by ext),E,rfl]
theorem a8:∀g:YP,G7 (g.map D.int)=!g
 | []=>rfl
 | x :: g=>by rw[At];unfold G7;ext
theorem Ii(g:VE A a (rO (oL enc)) pl):VE A (HJ a) (rV (eT enc)) pl:=λl i S0 e F S o=>by
 let#[d,S',s,B,n,rfl,C]:=g l i S0 e F S o;exact#[_,S',Nk s (DO C),B,rfl]
theorem ql(g:VE A a (rO (oL enc)) pl):VL A (Vf a) enc pl:=λl i S0 e F S o=>by
 let#[d,S',s,B,n,rfl,C]:=g l i S0 e F S o;exact#[S',uz s (DO C),B]
theorem uQ:∀l:¬Bool,ZH (l.map D.bl)=!l
 | []=>rfl
 | x :: l=>by rw[At];unfold ZH;ext
theorem wI{pl}(h:VL A ml D.bl pl):VE A (mQ uY ml) (rV D.bl) (pl*>λl=>!l.all id):=λv g S0 e F S i=>by
 let#[l,o,s]:=Aw g;cases s;let#[S',B,C]:=h l o S0 e F S i;refine#[_,S',iz B ?_,C,rfl];unfold uY uP;rw[uQ]
theorem E6:VL A Ax enc (![]):=λv g S0 e F S i=>by cases g;exact#[S,rfl,Keeps.refl S]
theorem Ek(h:VE A m (rV enc) p)(s:VL A ml enc pl):VL A (AK m ml) enc (p*>λx=>pl*>λl=>!x :: l):=λv B S0 e F S i=>by
 let#[x,C,E]:=Aw B;let#[l,g,G]:=Aw E;cases G;let#[d,H,I,o,rfl]:=h x C S0 e F S i;let#[J,L,N]:=s l g S0 e _ H (i.grow o);exact#[J,BF I L,o.trans N]
noncomputable def IS(l:¬α):⇑(¬α):=if -l<=1000000 then !l else none
set_option tactic.hygienic true in
theorem D5(h:VL A ml enc pl):VL A (Dg ml) enc (pl.bind IS):=λv i S0 e F S o=>by
 let#[l,s,g]:=Aw i;unfold IS at g;split at g
 ·rename_i B
  cases g;let#[S',C,E]:=h _ s S0 e F S o;refine#[S',?_,E];unfold Dg;rw[C];dsimp only[Res.bind];rw[qX (by rw[AN];exact tK B)]
 ·cases g
set_option tactic.hygienic true in
theorem YE(h:VL A ml enc pl):VE A (Hd ml) (rV (eT enc)) (pl.bind IS):=λv i S0 e F S o=>by
 let#[l,s,g]:=Aw i;unfold IS at g;split at g
 ·rename_i B
  cases g;let#[S',C,E]:=h _ s S0 e F S o;refine#[_,S',?_,E,rfl];unfold Hd;rw[C];dsimp only[Res.bind];rw[qX (by rw[AN];exact tK B)];rfl
 ·cases g
theorem Ko(s:VE A a (rV B) C)(hb:VE A b (rV E) G):VE A (Hd (AK a (AK b Ax))) (rV (eP B E)) (C*>λx=>G*>λy=>!(x,y)):=λv g S0 e F S i=>by
 let#[x,H,g]:=Aw g;let#[y,I,J]:=Aw g;cases J;let#[d1,L,N,o,rfl]:=s x H S0 e F S i;let#[d2,O,P,Q,rfl]:=hb y I S0 e _ L (i.grow o);exact#[_,O,Uk (BF N (BF P rfl)) ∅,o.trans Q,rfl]
set_option tactic.hygienic true in
theorem fH(g:VE A a (rV (eT enc)) pl)(hb:VE A b (rV (eT enc)) i):VE A (m2 JB a b) (rV (eT enc)) (pl*>λl=>i*>λk=>bI l k):=G4 g hb λl k z S q=>by
 unfold bI at q;split at q
 ·rename_i o
  cases q;unfold eT;rw[BQ];exact rJ (by rw[AN,AN];exact tK o)
 ·cases q
set_option tactic.hygienic true in
theorem q9(C:VE A a (rO (oL enc)) pl)(hb:VE A b (rO (oL enc)) E):VE A (m2 JB a b) (rN (oL enc)) (pl*>λl=>E*>λk=>bI l k):=λv i S0 e F S B=>by
 let#[x,G,i]:=Aw i;let#[y,H,g]:=Aw i;let#[d1,I,J,o,n,rfl,L]:=C x G S0 e F S B;let#[d2,P,N,s,m,rfl,hm]:=hb y H S0 e _ I (B.grow o);unfold bI at g;split at g
 ·rename_i O
  cases g;refine#[_,_,Bi J N ?_,(o.trans s).trans (Keeps.app _ _),_,rfl,(o.trans s).1,DM _ _];unfold JB;symm;rw[s.at L,hm];unfold oL;symm;rw[qX (by rw[AN,AN];exact tK O),BQ]
 ·cases g
def VO(A:¬Sl)(mo:MO)(p:⇑(⇑Int)):Prop:=∀v,p=!v->∀S0 e F S,Vs S0 A e F S->∃S',mo e S=.ok v S'/\Keeps S S'
theorem Oc:VO A Ia (!none):=λv g S0 e F S i=>by cases g;exact#[S,rfl,Keeps.refl S]
theorem Oa(h:VE A m (rV D.int) pi):VO A (Gb m) (pi*>λi=>!(!i)):=λv g S0 e F S o=>by
 let#[x,s,B]:=Aw g;cases B;let#[d,S',C,E,rfl]:=h x s S0 e F S o;exact#[S',by unfold Gb;rw[C];rfl,E]
theorem V6(l:¬α)(f:α->β)(lo hi:⇑Int):HK (l.map f) lo hi=(HK l lo hi).map f:=by
 unfold HK;ext
theorem qz(C:VE A a (rV (eT enc)) pl)(E:VO A mlo G)(H:VO A mhi ph):VE A (Tw a mlo mhi) (rV (eT enc)) (pl*>λl=>G*>λx=>ph*>λy=>!HK l x y):=λv g S0 e F S i=>by
 let#[l,I,g]:=Aw g;let#[x,J,g]:=Aw g;let#[y,L,N]:=Aw g;cases N;let#[d1,O,P,o,rfl]:=C l I S0 e F S i;let#[Q,R,s]:=E x J S0 e _ O (i.grow o);let#[B,T,U]:=H y L S0 e _ Q ((i.grow o).grow s);refine#[_,B,?_,(o.trans s).trans U,rfl];unfold Tw;rw[P];dsimp only[Res.bind];rw[R];symm;rw[T];show Res.ok (D.tup (HK (l.map enc) x y)) B=_;rw[V6];rfl
theorem QW(E:VE A a (rO (oL enc)) pl)(G:VO A mlo H)(I:VO A mhi ph):VE A (FA a mlo mhi) (rN (oL enc)) (pl*>λl=>H*>λx=>ph*>λy=>!HK l x y):=λv g S0 e F S s=>by
 let#[l,J,g]:=Aw g;let#[x,L,g]:=Aw g;let#[y,N,O]:=Aw g;cases O;let#[d1,P,Q,i,n,rfl,R]:=E l J S0 e F S s;let#[T,U,o]:=G x L S0 e _ P (s.grow i);let#[B,X,C]:=I y N S0 e _ T ((s.grow i).grow o);refine#[.ref (-B),B++[oL enc (HK l x y)],?_,((i.trans o).trans C).trans (Keeps.app _ _),_,rfl,((i.trans o).trans C).1,DM _ _];unfold FA;rw[Q];dsimp only[Res.bind];rw[U];symm;rw[X];unfold Mc;symm;rw[Qz ((o.trans C).at R)];show Res.ok _ (B++[Ob.lst (HK (l.map enc) x y)])=_;rw[V6];rfl
theorem aI:∀g:¬YP,g.all (λr=>not r.isEmpty)->PQ (g.map Ow)=!g
 | [],_=>rfl
 | [] :: g,h=>by simp at h
 | (x :: r) :: g,h=>by
  rw[QJ,Bo]at h;show PQ (.tup ((x :: r).map D.int) :: g.map Ow)=_;unfold PQ;rw[a8,aI g h.2]
theorem Ng(g:VE A a (rV (eT enc)) pl):VI A (EO a) enc pl:=λl i S0 e F S o=>by
 let#[d,S',s,B,rfl]:=g l i S0 e F S o;exact#[_,S',Vq s,B,λz z z z=>rfl]
theorem Rg(i:VE A a (rN (oL enc)) pl):VI A (EO a) enc pl:=λl o S0 e F S s=>by
 let#[d,S',B,C,n,rfl,E,g]:=i l o S0 e F S s;exact#[_,S',JX B g,C,λH I G h=>C0 (h n _ (G _ _ (OL E g)))]
theorem vn(h:A[i]?=!.z (oL enc l)):VI A (EO (AB i)) enc (!l):=λG B S0 e F S g=>by
 cases B;let#[x,C,n,rfl,o]:=g.sl i _ h;let s:=g.fz _ _ o;exact#[_,S,JX (by unfold AB;rw[C]) s,Keeps.refl S,λG H E h=>C0 (h n _ (E _ _ (by rw[Gg (CF s)];exact o)))]
theorem qp(h:A[i]?=!.y (oL enc l)):VI A (EO (AB i)) enc (!l):=λz B S0 e F S g=>by
 cases B;let#[x,C,n,rfl,o,_]:=g.sl i _ h;let s:=g.fz _ _ o;exact#[_,S,JX (by unfold AB;rw[C]) s,Keeps.refl S,λG H E h=>C0 (h n _ (E _ _ (by rw[Gg (CF s)];exact o)))]
noncomputable def GC(lo:Int)(n:Nat):YP:=(Ca n).map λi:Nat=>lo+i
def Ql(j:Int):⇑YP:=if -1000000<=j/\j<=1000000 then !GC 0 j.toNat else none
def mH(i j:Int):⇑YP:=if -1000000<=i/\i<=1000000/\-1000000<=j/\j<=1000000 then !GC i (j - i).toNat else none
theorem mF(lo:Int)(n:Nat):Ks lo n=(GC lo n).map D.int:=by
 unfold Ks GC;ext
set_option tactic.hygienic true in
theorem Fd(o:VE A a (rV D.int) pi):VI A (iR1 (AK a Ax)) D.int (pi.bind Ql):=λl s S0 e F S B=>by
 let#[j,C,g]:=Aw s;let#[d,S',E,G,rfl]:=o j C S0 e F S B;unfold Ql at g;split at g
 ·rename_i i
  cases g;exact#[_,S',n8 (BF E rfl) i.1 i.2,G,λz z z z=>congrArg some (mF _ _)]
 ·cases g
set_option tactic.hygienic true in
theorem W6(E:VE A a (rV D.int) pi)(hb:VE A b (rV D.int) pj):VI A (iR2 (AK a (AK b Ax))) D.int (pi*>λi=>pj*>λj=>mH i j):=λl s S0 e F S B=>by
 let#[i,G,s]:=Aw s;let#[j,H,g]:=Aw s;let#[d,I,J,C,rfl]:=E i G S0 e F S B;let#[d,L,N,O,rfl]:=hb j H S0 e _ I (B.grow C);unfold mH at g;split at g
 ·rename_i o
  cases g;exact#[_,L,yL (BF J (BF N rfl)) o.1 o.2.1 o.2.2.1 o.2.2.2,C.trans O,λz z z z=>congrArg some (mF _ _)]
 ·cases g
noncomputable def DS(l:¬α):¬(Int×α):=l.zipIdx.map λx=>((x.2:Int),x.1)
theorem SQ(l:¬α):dn (l.map enc)=(DS l).map (eP D.int enc):=by
 unfold dn DS;rw[WL,BC,BC];rfl
def NN(enc:α->D):Prop:=∀x S neg,Q6 neg (enc x) .non S=.ok (.bl neg) S
theorem fb{a:α->D}{b:β->D}:NN (eP a b):=λz z z=>rfl
theorem uv(g:NN enc)(i:VE A a (rV (eO enc)) p):VE A (m2 (Q6 true) a (mC .non)) (rV D.bl) (p*>λo=>!o.isSome):=λv s S0 e F S B=>by
 let#[x,C,E]:=Aw s;cases E;let#[d,S',G,H,rfl]:=i x C S0 e F S B;refine#[_,S',Bi G rfl ?_,H,rfl]
 cases x with
 | none=>rfl
 | some y=>exact g y S' true
theorem lB(g:VE A a (rV (eO enc)) p):VE A a (rV enc) (p*>λo=>o):=λv i S0 e F S s=>by
 let#[x,B,C]:=Aw i;cases C;exact g _ B S0 e F S s
theorem QT(g:VE A a (rV enc) p):VE A a (rV (eO enc)) (p*>λo=>!(!o)):=λv i S0 e F S s=>by
 let#[x,B,C]:=Aw i;cases C;exact g _ B S0 e F S s
theorem Tr:VE A (mC .non) (rV (eO enc)) (!none):=Bf rfl
end
end
section
variable{α β ρ σ κ κ':Type}
noncomputable def oDK(enc:α->D)(l:¬(Int×α)):Ob:=.dK (l.map λx=>(Eh x.1,enc x.2))
theorem Lw[DecidableEq κ][DecidableEq κ']{g:κ->κ'}(i:∀x y,g x=g y->x=y)(f:α->β)(l:¬(κ×α))(k:κ):BI (l.map λx=>(g x.1,f x.2)) (g k)=(BI l k).map f:=by
 unfold BI
 induction l with
 | nil=>rfl
 | cons x l m=>
  grind
theorem N6[DecidableEq κ][DecidableEq κ']{g:κ->κ'}(m:∀x y,g x=g y->x=y)(f:α->β)(l:¬(κ×α))(k:κ)(v:α):Cy (l.map λx=>(g x.1,f x.2)) (g k) (f v)=(Cy l k v).map λx=>(g x.1,f x.2):=by
 let any:((l.map λx=>(g x.1,f x.2)).any λi=>decide (i.1=g k))=l.any λi=>decide (i.1=k):=by
  rw[List.any_map]
  congr 1
  funext x
  exact decide_eq_decide.mpr #[m _ _,λz=>congrArg g z]
 unfold Cy;rw[any];split
 ·rw[BC,BC]
  refine Ck λx G=>?_
  show(if g x.1=g k then(g x.1,f v)else(g x.1,f x.2))=_
  by_cases c:x.1=k
  ·show _=(λx:κ×α=>(g x.1,f x.2)) (if x.1=k then(x.1,v)else x)
   rw[qX c,qX (by rw[c])]
  ·show _=(λx:κ×α=>(g x.1,f x.2)) (if x.1=k then(x.1,v)else x)
   rw[qY c,qY λz=>c (m _ _ z)]
 ext
theorem UC(x y:Int)(h:(Eh x:Key)=Eh y):x=y:=by cases h;rfl
theorem vI{enc:α->D}{l:¬(Int×α)}{n:Nat}{S:Sto}(h:S[n]?=!oDK enc l)(k:Int):Kl (.ref n) (.int k) S=!(BI l k).map enc:=by
 unfold Kl;symm;rw[h];show (!BI _ (Eh k))=_;rw[Lw UC]
theorem P1(hq:GB (.ref n) S=none)(h:Kl (.ref n) y S=!o)(neg:Bool):inA neg y (.ref n) S=.ok (.bl (if neg then not o.isSome else o.isSome)) S:=by
 show KS (inD neg y (.ref n) S) (P2 neg y (.ref n) S)=_;rw[show inD neg y (.ref n) S=.bad by unfold inD;rw[hq]];show P2 neg y (.ref n) S=_;unfold P2;rw[h]
theorem Kc(hq:GB (.ref n) S=none)(h:Kl (.ref n) y S=!(!d)):ixA (.ref n) y S=.ok d S:=by
 show KS (ixD (.ref n) y S) (V5 (.ref n) y S)=_;rw[show ixD (.ref n) y S=.bad by unfold ixD;rw[hq]];show V5 (.ref n) y S=_;unfold V5;rw[h]
theorem seqK(h:S[n]?=!oDK enc l):GB (.ref n) S=none:=by unfold GB;symm;rw[h];rfl
section
theorem Zu:VE A Iu (rN (oDK enc)) (![]):=λv g i e F S m=>by cases g;exact#[_,_,rfl,Keeps.app _ _,_,rfl,AO _,DM _ _]
theorem Zt{g}{pl}(m:VE A a (rV D.int) g)(hb:VE A b (rO (oDK enc)) pl):VE A (m2 (inA true) a b) (rV D.bl) (g*>λx=>pl*>λl=>!not (BI l x).isSome):=cS m hb λx l z S n i q=>by cases q;rw[P1 (seqK i) (vI i x)];simp
def Wg[DecidableEq κ](l:¬(κ×α))(k:κ)(v:α):⇑(¬(κ×α)):=if -l < 1000000 then !Cy l k v else none
set_option tactic.hygienic true in
theorem qj{L:κ->D}[DecidableEq κ]{s:¬(κ×α)->Ob}{R:Rk ρ}{p:⇑α}{N:⇑κ}{i:Nat}{l:¬(κ×α)}
  (B:∀(l:¬(κ×α)) (k:κ) (v:α) (S:Sto) (n:Nat),S[n]?=!s l->-l < 1000000->O3 (.ref n) (L k) (enc v) S=!S.set n (s (Cy l k v)))
  (hi:A[i]?=!.w i (s l)) (T:VE A b (rV L) N) (h:VE A m (rV enc) p) (U:((A.set i .u).all (Sl.oth i))) :
  VS A (Cr (AB i) b m) R (p*>λv=>N*>λk=>Wg l k v*>λE=>!.nx E) (λE=>A.set i (.w i (s E))):=λf X O e F S g=>by
 let#[v,Y,Z]:=Aw X;let#[k,I,h3]:=Aw Z;let#[E,G,h0]:=Aw h3;cases h0;unfold Wg at G;split at G
 ·rename_i hl
  cases G;let#[x,P,n,rfl,g2,J]:=g.sl i _ hi;let#[d,o,h5,C,rfl]:=h v Y O e F S g;let#[d,H,h7,Q,rfl]:=T k I O e _ o (g.grow C);let hg:=(g.grow C).grow Q;let hn:=(C.trans Q).at J
  let hx:Cr (AB i) b m e S=.ok (.nx e) (H.set n (s (Cy l k v))):=by
   unfold Cr;rw[h5];dsimp only[Res.lift];rw[show AB i e o=.ok (.ref n) o by unfold AB;rw[P]];symm;rw[h7];symm;rw[B l k v H n hn hl]
  let hF:SO (SO F S o) o H n=.ow i:=by rw[Gg (CF (C.at J)),Gg (CF J)];exact g2
  exact#[_,_,hx,e,_,rfl,hg.put U hi P hF,(g.fle o).trans ((g.grow C).fle H)]
 ·cases G
theorem Zo{R:Rk ρ}{p:⇑α}{o:⇑Int}{i:Nat}{l:¬(Int×α)}(hi:A[i]?=!.w i (oDK enc l))(s:VE A b (rV D.int) o)(h:VE A m (rV enc) p)(B:((A.set i .u).all (Sl.oth i))) :
  VS A (Cr (AB i) b m) R (p*>λv=>o*>λk=>Wg l k v*>λg=>!.nx g) (λg=>A.set i (.w i (oDK enc g))):=
 qj (λl k v S n C E=>by
  unfold O3;symm;rw[C];show(if -l.map _ < sizeLine then !S.set n (.dK (Cy (l.map λx=>(Eh x.1,enc x.2)) (Eh k) (enc v)))else none)=_;rw[qX (by rw[AN];exact dS E),N6 UC]
  rfl) hi s h B
theorem rE(h:VE A m (rV (eT enc)) pl):VB A (G6 m) (pl*>λl=>!not l.isEmpty):=λv g i e F S o=>by
 let#[l,s,B]:=Aw g;cases B;let#[d,C,E,G,rfl]:=h l s i e F S o;refine#[C,?_,G];unfold G6;rw[E]
 cases l <;> rfl
theorem rF(h:VE A m (rO (oL enc)) pl):VB A (G6 m) (pl*>λl=>!not l.isEmpty):=λv i o e F S s=>by
 let#[l,B,C]:=Aw i;cases C;let#[d,g,E,G,n,rfl,H]:=h l B o e F S s;refine#[g,?_,G];unfold G6;rw[E];dsimp only[Res.bind]
 let:Qy (.ref n) g=!not l.isEmpty:=by
  unfold Qy;symm;rw[H]
  cases l <;> rfl
 rw[this]
theorem YC{b:MS}{R:Rk ρ}{B:σ->¬Sl}:VS A b R none B:=λf g=>by cases g
noncomputable def toPr(r:YP):Int×Int:=(r.getD 0 0,r.getD 1 0)
def Ur(l:¬XP):¬XP:=(Nn (l.map λx=>[x.1,x.2])).map toPr
theorem rW(l:¬XP):(Nn (l.map λx=>[x.1,x.2])).map Ow=(Ur l).map (eP D.int D.int):=by
 unfold Ur;rw[BC]
 refine Ck λr g=>?_
 let#[x,_,rfl]:=BN.mp ((Il _).mem_iff.mp g);rfl
theorem Zq(m:VE A a (rO (oL (eP D.int D.int))) pl):VE A (Hv a) (rN (oL (eP D.int D.int))) (pl*>λl=>!Ur l):=λv o s e F S B=>by
 let#[l,C,E]:=Aw o;cases E;let#[d,I,G,g,n,rfl,H]:=m l C s e F S B;refine#[_,_,Oe G (Vn H) ?_,g.trans (Keeps.app _ _),_,rfl,g.1,DM _ _];rw[<-rW]
 cases l with
 | nil=>show (!(Hk []).map D.int)=!(Nn []).map Ow;rw[ie];unfold Nn;ext
 | cons x l=>
  let i:PQ (em (eP D.int D.int) (x :: l))=!((x :: l).map λx=>[x.1,x.2]):=by
   let:=aI ((x :: l).map λx=>[x.1,x.2]) (FI.mpr λr i=>by grind);rw[BC]at this;exact this
  unfold No;rw[show G7 (em (eP D.int D.int) (x :: l))=none from rfl,i]
theorem YD(h:A[i]?=!.y (oL enc l)):VI A (SI (AB i)) (eP D.int enc) (!DS l):=λz s E e F S g=>by
 cases s;let#[x,B,n,rfl,m,_]:=g.sl i _ h;let o:=g.fz _ _ m;refine#[QS (Hi (.ref n)),S,?_,Keeps.refl S,λG H C h=>?_]
 ·unfold SI
  rw[show AB i e S=.ok (.ref n) S by unfold AB;rw[B]];dsimp only[Res.bind];rw[C0 o]
 ·unfold QS
  rw[C0 (h n _ (C _ _ (by rw[Gg (CF o)];exact m)))];exact congrArg some (SQ l)
theorem vz(g:VE A a (rO (oL D.int)) pl):VE A (tF a) (rV D.int) (pl*>λl=>!YL l):=λv i m e F S o=>by
 let#[l,s,B]:=Aw i;cases B;let#[d,C,E,G,n,rfl,H]:=g l s m e F S o;refine#[_,C,?_,G,rfl];unfold tF;rw[E];dsimp only[Res.bind];rw[Qz H];ext
end
end
section
variable{α ρ σ:Type}
theorem Bw:BB (!.nx s) q=q s:=rfl
theorem tE:E9 (ρ:=ρ) g (!.nx s)=!.nx (g s):=rfl
theorem t6{l:¬α}{q:σ->α->⇑(Fw ρ σ)}{s0:σ}(I:¬α->σ->Prop)(o:I [] s0)(h:∀g x s,x∈l->g++[x] <+: l->I g s->∃s',q s x=!.nx s'/\I (g++[x]) s'):∃s,Eu l s0 q=!.nx s/\I l s:=by
 let i:∀(r g:¬α) (s:σ),l=g++r->I g s->∃s',Eu r s q=!.nx s'/\I l s':=by
  intro r
  induction r with
  | nil=>intro g s e m;rw[CQ]at e;subst e;exact#[s,rfl,m]
  | cons x r A=>
   intro g s e m;let#[s',G,B]:=h g x s (by rw[e];simp) #[r,by rw[e];simp] m;let#[C,H,E]:=A (g++[x]) s' (by rw[e];simp) B;refine#[C,?_,E];unfold Eu;ext
 exact i l [] s0 rfl o
theorem oU(I:¬α->σ->Prop)(R:ρ->Prop)(B:I [] s0)(h:∀g x s,x∈l->g++[x] <+: l->I g s->(∃s',q s x=!.nx s'/\I (g++[x]) s')∨∃r,q s x=!.rt r/\R r):(∃s,Eu l s0 q=!.nx s/\I l s)∨∃r,Eu l s0 q=!.rt r/\R r:=by
 let i:∀(r g:¬α) (s:σ),l=g++r->I g s->(∃s',Eu r s q=!.nx s'/\I l s')∨∃y,Eu r s q=!.rt y/\R y:=by
  intro r
  induction r with
  | nil=>intro g s e m;rw[CQ]at e;subst e;exact .inl #[s,rfl,m]
  | cons x r C=>
   intro g s e m
   rcases h g x s (by rw[e];simp) #[r,by rw[e];simp] m with⟨s',o,A⟩ | ⟨y,o,A⟩
   ·let E:Eu (x :: r) s q=Eu r s' q:=by
     conv=>lhs;unfold Eu
     rw[o]
    rw[E];exact C (g++[x]) s' (by rw[e];simp) A
   ·refine .inr #[y,?_,A]
    unfold Eu;rw[o]
 exact i l [] s0 rfl B
theorem pE(o:∀x∈l,c x=!P x)(hm:∀x∈l,P x->m x=!f x):V9 c m l=!(l.filter P).map f:=by
 induction l with
 | nil=>rfl
 | cons x l i=>
  let i:=i (λy g=>o y (AY _ g)) λy g=>hm y (AY _ g)
  unfold V9
  grind
theorem RJ(g:-l<=1000000)(i:∀x∈l,c x=!P x)(hm:∀x∈l,P x->m x=!f x):FZ l c m=!(l.filter P).map f:=by
 unfold FZ;rw[qX g,pE i hm]
theorem Gq(g:-l<=1000000)(hm:∀x∈l,m x=!f x):FZ l (λz=>!true) m=!l.map f:=by
 rw[RJ g (λz z=>rfl) λx i z=>hm x i,List.filter_eq_self.mpr λz z=>rfl]
theorem P3(g:-l<=1000000)(i:∀x∈l,c x=!P x):FZ l c (λx=>!x)=!l.filter P:=by
 rw[RJ g i λx m z=>rfl,zY]
theorem JN(h:-l < 1000000):NS l x=!l++[x]:=qX h
theorem Y4(h:-l+-k<=1000000):bI l k=!l++k:=qX h
theorem df:IS ([]:¬α)=![]:=rfl
theorem yo(a:α):IS [a]=![a]:=qX ∅
theorem few2(a b:α):IS [a,b]=![a,b]:=qX ∅
theorem few4(a b c d:α):IS [a,b,c,d]=![a,b,c,d]:=qX ∅
theorem JI(g:-1000000<=j)(i:j<=1000000):Ql j=!GC 0 j.toNat:=qX #[g,i]
theorem fP(g:-1000000<=i)(m:i<=1000000)(o:-1000000<=j)(s:j<=1000000):mH i j=!GC i (j - i).toNat:=qX #[g,m,o,s]
theorem G5{lo:Int}{n:Nat}{x:Int}:x∈GC lo n↔lo<=x/\x < lo+n:=by
 unfold GC;rw[BN]
 constructor
 ·rintro⟨k,g,rfl⟩
  let:=Ea.mp g
  lia
 ·rintro⟨i,m⟩
  exact#[(x - lo).toNat,Ea.mpr ∅,by lia]
theorem Ct(lo:Int)(n:Nat):-GC lo n=n:=by unfold GC;ext
theorem YX(lo:Int)(n:Nat):(GC lo n).Pairwise (· < ·):=by
 unfold GC;rw[D2]
 exact List.pairwise_lt_range.imp λh=>by ext
theorem WG(m:0<=i)(o:i < -l):∃x,atI l i=!x/\l[i.toNat]?=!x:=by
 let g:i.toNat < -l:=by ext
 exact#[l[i.toNat],JA m (BX g),BX g]
theorem uV(h:atI l i=!x):x∈l:=by
 unfold atI at h;let#[j,_,g]:=Aw h;exact CH g
theorem Yn(h:0 < y):jF x y=!x % y:=qX h
theorem bD(P:α->Bool)(l:¬α)(x:α):(l++[x]).filter P=if P x then l.filter P++[x]else l.filter P:=by
 grind
theorem Qk{lo:Int}{n:Nat}{g:YP}{x:Int}(h:g++[x] <+: GC lo n):x=lo+-g/\-g < n:=by
 let i:=h.length_le;rw[Aa,Ay,Ct]at i;let#[r,m]:=h;let:=congrArg (λz=>z[g.length]?) m;simp only[BM,BE (AO _),zn]at this;rw[show([x]++r)[0]?=!x from rfl]at this;unfold GC at this;rw[Al,DL (by trivial)]at this;simp only[Option.map_some,Option.some.injEq]at this;exact#[this,by lia]
theorem SD[DecidableEq α]:∀{l k:¬α},l.Nodup->(∀x∈l,x∈k)->-l<=-k
 | [],_,_,_=>DV _
 | x :: l,k,i,h=>by
  let g:=h x Aj;let#[m,o]:=CA.mp i
  let:=SD o λy s=>(List.mem_erase_of_ne (λz:y=x=>m (by ext))).mpr (h y (AY _ s))
  rw[List.length_erase_of_mem g]at this;let:=List.length_pos_of_mem g;rw[Az]
  grind
def Ok(p:⇑α)(P:α->Prop):Prop:=∃v,p=!v/\P v
theorem Ok.is(h:Ok p λr=>r=v):p=!v:=by
 let#[_,g,rfl]:=h;exact g
def OkF(p:⇑(Fw ρ σ))(N:σ->Prop)(R:ρ->Prop):Prop:=(∃s,p=!.nx s/\N s)∨∃r,p=!.rt r/\R r
theorem OkF.nx(h:N s):OkF (!.nx s) N R:=.inl #[s,rfl,h]
theorem OkF.rt(h:R r):OkF (!.rt r) N R:=.inr #[r,rfl,h]
theorem OkF.seq(h:OkF p N R)(hq:∀s,N s->OkF (q s) N' R):OkF (BB p q) N' R:=by
 rcases h with⟨s,rfl,h⟩ | ⟨r,rfl,h⟩
 ·exact hq s h
 ·exact .inr #[r,rfl,h]
theorem OkF.map(h:OkF p N R)(i:∀s,N s->N' (g s)):OkF (E9 g p) N' R:=by
 rcases h with⟨s,rfl,h⟩ | ⟨r,rfl,h⟩
 ·exact .inl #[_,rfl,i s h]
 ·exact .inr #[r,rfl,h]
theorem OkF.for(I:¬α->σ->Prop)(i:I [] s0)(h:∀g x s,x∈l->g++[x] <+: l->I g s->OkF (q s x) (I (g++[x])) R):OkF (Eu l s0 q) (I l) R:=oU I R i h
theorem OkF.out(h:OkF p (λz=>False) R):Ok (Gu p) R:=by
 rcases h with⟨s,rfl,h⟩ | ⟨r,rfl,h⟩
 ·exact h.elim
 ·exact#[r,rfl,h]
theorem OkF.imp(h:OkF p N R)(g:∀s,N s->N' s)(i:∀r,R r->R' r):OkF p N' R':=by
 rcases h with⟨s,rfl,h⟩ | ⟨r,rfl,h⟩
 ·exact .inl #[s,rfl,g s h]
 ·exact .inr #[r,rfl,i r h]
theorem VF.law(h:VF f [.v (eF g)] (rV D.bl) (!true)):∃S',f [.fro (g.map D.int)] []=.ok (.bl true) S':=by
 let#[d,S',i,_,rfl]:=h true rfl [] [.fro (g.map D.int)] #[rfl,trivial]
 ext
end
section
noncomputable def Qb(x y:Int):⇑Int:=if uj x y then !x * 2 ^ y.toNat else none
noncomputable def wd(x y:Int):⇑Int:=if 0<=y then !x / 2 ^ y.toNat else none
set_option tactic.hygienic true in
theorem Pl(g:VE A a (rV D.int) i)(hb:VE A b (rV D.int) m):VE A (m2 Rt a b) (rV D.int) (i*>λx=>m*>λy=>Qb x y):=G4 g hb λx y z S h=>by
 unfold Qb at h;split at h
 ·rename_i o;cases h;exact qX o
 ·cases h
set_option tactic.hygienic true in
theorem v4(g:VE A a (rV D.int) i)(hb:VE A b (rV D.int) m):VE A (m2 aB a b) (rV D.int) (i*>λx=>m*>λy=>wd x y):=G4 g hb λx y z S h=>by
 unfold wd at h;split at h
 ·rename_i o;cases h;exact qX o
 ·cases h
theorem Od(g:VE A a (rV D.int) i)(hb:VE A b (rV D.int) m):VE A (m2 Td a b) (rV D.int) (i*>λx=>m*>λy=>!BR x y):=G4 g hb λx y z S h=>by cases h;rfl
theorem rA(g:VE A a (rV D.int) i)(hb:VE A b (rV D.int) m):VE A (m2 vh a b) (rV D.int) (i*>λx=>m*>λy=>!Co x y):=G4 g hb λx y z S h=>by cases h;rfl
theorem YG(h:VE A m (rV D.int) g):VB A (G6 m) (g*>λx=>!x != 0):=λv i o e F S s=>by
 let#[l,B,C]:=Aw i;cases C;let#[d,E,G,H,rfl]:=h l B o e F S s;refine#[E,?_,H];unfold G6;rw[G];rfl
end
section
variable{α:Type}
noncomputable def V2(l:¬α):¬(Int×α):=l.zipIdx.map λx=>(((x.2+1:Nat):Int),x.1)
theorem dr(l:¬α):RH (l.map enc)=(V2 l).map (eP D.int enc):=by
 unfold RH V2;rw[WL,BC,BC];rfl
theorem kj(g:VE A a (rV (eT enc)) pl):VI A (UE a) (eP D.int enc) (pl*>λl=>!V2 l):=λv i m e F S o=>by
 let#[l,s,B]:=Aw i;cases B;let#[d,C,E,G,rfl]:=g l s m e F S o;refine#[HQ (RH (l.map enc)),C,?_,G,λH I J h=>?_]
 ·unfold UE
  rw[E];rfl
 ·show (!RH (l.map enc))=_
  rw[dr]
theorem W8(i:VE A a (rV (eT D.int)) pl):VE A (Hv a) (rN (oL D.int)) (pl*>λl=>!Hk l):=λv m o e F S s=>by
 let#[l,B,C]:=Aw m;cases C;let#[d,G,E,g,rfl]:=i l B o e F S s;refine#[_,_,Oe E rfl ?_,g.trans (Keeps.app _ _),_,rfl,g.1,DM _ _];unfold No;rw[a8]
end
section
variable{ρ σ:Type}
theorem Ec{n:Nat}{b:MS}{as:¬Ar}{R:Rk ρ}{p:⇑(Fw ρ σ)}{B:σ->¬Sl}(h:VS (as.map Ar.sl++BU (n - -as) .u) b R p B):VF (DH n b) as R (Gu p):=λv i S G o=>by
 cases p with
 | none=>cases i
 | some x=>
  let#[g,A,C,m]:=h _ rfl S _ _ S (Vs.start o)
  cases x with
  | rt r=>cases i;let#[d,rfl,m,E]:=m;exact#[d,A,_root_.M.EM C,E,m]
  | nx s=>cases i
  | bk s=>cases i
  | ct s=>cases i
theorem kn{n:Nat}{b:MS}{as:¬Ar}{p:⇑(Fw Unit σ)}{B:σ->¬Sl}(h:VS (as.map Ar.sl++BU (n - -as) .u) b (rV eU) p B):VF (DH n b) as (rV eU) (xO p):=λv m S G E=>by
 cases p with
 | none=>cases m
 | some x=>
  let#[g,o,A,i]:=h _ rfl S _ _ S (Vs.start E)
  cases x with
  | rt r=>let#[d,rfl,i,C]:=i;exact#[d,o,_root_.M.EM A,C,i]
  | nx s=>let#[H,I,rfl,i,C]:=i;exact#[.non,o,_root_.M.YU A,i.kp,rfl]
  | bk s=>cases m
  | ct s=>cases m
theorem wC(g:VE A a (rO (oL enc)) p)(hb:isB t "list" = !r):VE A (_root_.M.mIs (isB t) (λz=>none) a) (rV D.bl) (p*>λz=>!r):=λv i m e F S o=>by
 let#[x,s,B]:=Aw i;cases B;let#[d,C,E,G,n,rfl,H]:=g x s m e F S o;exact#[_,C,_root_.M.AA8 E (by unfold tyD;symm;rw[H];rfl) hb,G,rfl]
end
section
variable{κ α:Type}[DecidableEq κ]
set_option tactic.hygienic true in
theorem Lv(l:¬(κ×α))(k:κ)(v:α)(k':κ):BI (Cy l k v) k'=if k'=k then !v else BI l k':=by
 let g:∀l:¬(κ×α),BI (l.map λi=>if i.1=k then(i.1,v)else i) k'=if k'=k then(BI l k').map (λz=>v)else BI l k':=by
  intro l
  induction l with
  | nil=>unfold BI;simp
  | cons x l m=>
   unfold BI at m ⊢
   grind
 unfold Cy;split
 ·rename_i h
  rw[g]
  by_cases c:k'=k
  ·rw[qX c,qX c]
   subst c
   let:(BI l k').isSome:=by
    unfold BI;rw[LC,List.find?_isSome];let#[x,o,s]:=NF.mp h;exact#[x,o,s]
   let#[b,hb]:=Dd.mp this;rw[hb];rfl
  ext
 ·rename_i h
  unfold BI
  grind
theorem Q2(l:¬(κ×α))(k:κ)(v:α):(Cy l k v).map (·.1)=if k∈l.map (·.1)then l.map (·.1)else l.map (·.1)++[k]:=by
 let i:(l.any λm=>decide (m.1=k))=true↔k∈l.map (·.1):=by
  rw[NF,BN];exact#[by rintro ⟨x,g,e⟩;exact #[x,g,of_decide_eq_true e],by rintro ⟨x,g,e⟩;exact #[x,g,wX e]]
 unfold Cy
 by_cases c:k∈l.map (·.1)
 ·rw[qX c,qX (i.mpr c),BC]
  refine Ck λx z=>?_
  show(if x.1=k then(x.1,v)else x).1=x.1
  split <;> rfl
 ext
theorem FV(l:¬(κ×α))(k:κ):(BI l k).isSome=true↔k∈l.map (·.1):=by
 unfold BI
 ext
end
noncomputable def hb(bits x:Int):Bool:=BR (bits / 2 ^ x.toNat) 1 != 0
abbrev HL:=¬XP
abbrev QL:=¬(Int×Bool)
section
abbrev w0(T:Int->YP)(bits g:Int):YP:=(T g).filter (hb bits)
def MOn(T:Int->YP)(bits:Int)(P:Int->Prop)(H:HL):Prop:=(∀x,P x->∀a,BI H x=!a->x∈w0 T bits a)/\∀x y a,P x->P y->BI H x=!a->BI H y=!a->x=y
abbrev sn(Q:QL)(x:Int):Prop:=(BI Q x).isSome=true
def Good(T:Int->YP)(bits:Int)(H:HL)(g:Int)(Q:QL)(i:HL):Prop:=
 (∀x,sn Q x->BI i x=BI H x)/\(MOn T bits (λx=>Not (sn Q x)) H->(∀x,Not (sn Q x)->BI H x≠!g)->MOn T bits (λx=>Not (sn Q x)) i/\∀a,(∃x,Not (sn Q x)/\BI i x=!a)↔a=g∨∃x,Not (sn Q x)/\BI H x=!a)
end
def rOP{g i:Type}(enc:g->D)(o:i->Ob):Rk (⇑(g×i)):=λv s d S=>match v with
 | none=>d=.non
 | some m=>∃n,d=.tup [enc m.1,.ref n]/\-s<=n/\S[n]?=!o m.2
section
variable{α β:Type}
theorem wk:∀(v:⇑(α×β)) (S S1:Sto) (d:D) (S':Sto),S.length<=-S1->rOP enc g v S1 d S'->rOP enc g v S d S':=λv z z z z l h=>by
 cases v with
 | none=>exact h
 | some s=>let#[n,i,m,o]:=h;exact#[n,i,Ab l m,o]
theorem qg:VS A (CO (mC .non)) (rOP enc m) (!.rt none) B:=λf g o e F S i=>by
 cases g;exact#[.rt .non,S,rfl,_,rfl,rfl,i.kp]
theorem qf(o:VE A ma (rV enc) p)(hb:VE A s (rN C) q):VS A (CO (Hd (AK ma (AK s Ax)))) (rOP enc C) (p*>λx=>q*>λy=>!.rt (!(x,y))) B:=λf E m e F S g=>by
 let#[x,G,H]:=Aw E;let#[y,I,J]:=Aw H;cases J;let#[d1,L,N,i,rfl]:=o x G m e F S g;let#[d2,O,P,Q,n,rfl,R,T]:=hb y I m e _ L (g.grow i);exact#[_,O,Ex (Uk (BF N (BF P rfl)) ∅),_,rfl,#[n,rfl,Ab (Ab g.kp.1 i.1) R,T],(g.kp.trans i).trans Q]
theorem BA(h:e[i]?=!(!d)):AB i e S=.ok d S:=by unfold AB;rw[h]
set_option tactic.hygienic true in
theorem qd(hi:A[i]?=!.w i (oL D.int t))(U:A[k]?=!.u)(X:i≠j)(B:i≠k)(Y:j≠k)(hm:VE A m (rOP D.int (oL D.int)) p)(Z:(((A.set k .u).set i .u).all (Sl.oth i))) :
  VS A (As (Bb k m) (As (sIf (mB (m2 (Q6 false) (AB k) (mC .non))) (CO (mC .non)) sNx) (As (FJ (LR (AB i) (m2 ixA (AB k) (mC (.int 0))))) (Bb j (m2 ixA (AB k) (mC (.int 1))))))) (rV (eO (eT D.int)))
   (p*>λo=>match o with | none=>!.rt none | some s=>NS t s.1*>λl=>!.nx (l,s.2)) (λz:YP×YP=>((A.set k .u).set i (.w i (oL D.int z.1))).set j (.z (oL D.int z.2))):=λf hf S0 e F S C=>by
 let#[o,h1,L]:=Aw hf;let#[d,S',c1,N,O]:=hm o h1 S0 e F S C;let g:=C.grow N;let P:Bb k m e S=.ok (.nx (e.set k (!d))) S':=EL c1;let#[xk,ek,_]:=C.sl k _ U;let H:=(AE.mp ek).1
 let E:(e.set k (!d))[k]?=!(!d):=by rw[An H]
 cases o with
 | none=>
  cases O;cases L;let I:mB (m2 (Q6 false) (AB k) (mC .non)) (e.set k (!.non)) S'=.ok true S':=Jc (Bi (BA E) rfl rfl);exact#[.rt .non,S',(BD P).trans (Np ((EN I).trans ((qX rfl).trans rfl))),_,rfl,rfl,C.kp.trans N]
 | some s=>
  let#[n,rfl,hn,hb]:=O;let#[l,G,h4]:=Aw L;cases h4;unfold NS at G;split at G
  ·rename_i hl
   cases G;let#[x,g1,J,rfl,g2,Q]:=g.sl i _ hi;let I:mB (m2 (Q6 false) (AB k) (mC .non)) (e.set k (!.tup [.int s.1,.ref n])) S'=.ok false S':=Jc (Bi (BA E) rfl rfl)
   let R:(e.set k (!.tup [D.int s.1,.ref n]))[i]?=!(!.ref J):=by rw[Ak (Cc B)];exact g1
   let T:=ZJ (ma:=m2 ixA (AB k) (mC (.int 0))) (BA R) Q (Bi (BA E) rfl rfl) Q (by rw[AN];exact dS hl);rw[show t.map D.int++[D.int s.1]=(t++[s.1]).map D.int by simp]at T;let v1:=(g.set (a:=.u) k trivial).put (o':=oL D.int (t++[s.1])) Z (by rw[Ak (Cc B)];exact hi) R g2;let v2:=v1.set (a:=.z (oL D.int s.2)) j #[n,rfl,OL hn hb];let s4:Bb j (m2 ixA (AB k) (mC (.int 1))) (e.set k (!.tup [.int s.1,.ref n])) (S'.set J (oL D.int (t++[s.1])))=.ok (.nx ((e.set k (!.tup [.int s.1,.ref n])).set j (!.ref n))) (S'.set J (oL D.int (t++[s.1]))):=EL (Bi (BA E) rfl rfl);refine#[_,_,(BD P).trans ((BD ((EN I).trans ((qY AQ).trans rfl))).trans ((BD (Om T)).trans s4)),_,_,rfl,v2,C.fle S']
  ·cases G
end
noncomputable abbrev inG{g:Type}[DecidableEq g](x:g)(l:¬g):Bool:=decide (x∈l)
theorem tP{g:Type}[DecidableEq g]{x:g}{l:¬g}:inG x l=true↔x∈l:=decide_eq_true_iff
section
variable{F:Fz}
def loF(F:Fz):Nat->⇑Ob:=λn=>match F n with
 | .fz o=>!o
 | _=>none
theorem nP(h:F n=.fz o):loF F n=!o:=by unfold loF;rw[h]
theorem Ms(h:loF F n=!o):F n=.fz o:=by
 unfold loF at h;split at h
 ·ext
 ·cases h
end
section
variable{S0 S:Sto}{A:¬Sl}{ρ σ:Type}
noncomputable def whF(c:σ->⇑Bool)(q:σ->⇑(Fw ρ σ)):Nat->σ->⇑(Fw ρ σ)
 | 0,_=>none
 | n+1,s=>c s*>λt=>if t=true then match q s with
   | some (.nx g)=>whF c q n g
   | some (.ct g)=>whF c q n g
   | some (.bk g)=>!.nx g
   | some (.rt r)=>!.rt r
   | none=>none
  else !.nx s
set_option tactic.hygienic true in
theorem iI(X:∀s,VB (B s) t (c s))(hb:∀s,VS (B s) b R (q s) B):∀(n:Nat) (s:σ),VS (B s) (Jl t b n) R (whF c q n s) B:=by
 intro n
 induction n with
 | zero=>intro s f L;cases L
 | succ n U=>
  intro s f L S0 e F S I;unfold whF at L;let#[v,Y,o]:=Aw L;let#[S1,Z,h4]:=X s v Y S0 e F S I;let m:=I.grow h4
  let run:Jl t b (n+1) e S=if v=true then(b e S1).bind λf g=>match f with
   | .nx i=>Jl t b n i g
   | .ct i=>Jl t b n i g
   | .bk i=>.ok (.nx i) g
   | .rt d=>.ok (.rt d) g
   | .ex c i=>.ok (.ex c i) g
  else .ok (.nx e) S1:=by
   show(t e S).lift e _=_;rw[Z];rfl
  cases v with
  | false=>
   rw[qY AQ]at o;cases o;exact#[_,S1,run.trans (qY AQ),e,_,rfl,m,I.fle S1]
  | true=>
   rw[qX rfl]at o;rw[run,qX rfl];split at o
   ·rename_i N C
    let#[h,g,E,i,J,rfl,G,H]:=hb s _ C S0 e _ S1 m;rw[E];let#[O,P,Q,T]:=U N f o S0 i J g G;exact#[O,P,Q,T.up ((I.fle S1).trans H)]
   ·rename_i N C
    let#[h,g,E,i,J,rfl,G,H]:=hb s _ C S0 e _ S1 m;rw[E];let#[O,P,Q,T]:=U N f o S0 i J g G;exact#[O,P,Q,T.up ((I.fle S1).trans H)]
   ·rename_i N C
    cases o;let#[h,g,E,i,J,rfl,G,H]:=hb s _ C S0 e _ S1 m;rw[E];exact#[_,g,rfl,i,J,rfl,G,(I.fle S1).trans H]
   ·rename_i r C
    cases o;let#[h,g,E,d,rfl,G,H]:=hb s _ C S0 e _ S1 m;rw[E];exact#[_,g,rfl,d,rfl,G,H]
   ·cases o
theorem Zm(w0:Wk A (B s0))(g:∀s,VB (B s) t (c s))(hb:∀s,VS (B s) b R (q s) B):VS A (Jl t b n) R (whF c q n s0) B:=λf i S0 e F S m=>
 iI g hb n s0 f i S0 e F S (m.weak w0)
end
section
variable{β:Type}
def rOL(g:β->Ob):Rk (⇑β):=λv i d S=>match v with
 | none=>d=.non
 | some b=>∃n,d=.ref n/\-i<=n/\S[n]?=!g b
theorem mJ:∀(v:⇑β) (S S1:Sto) (d:D) (S':Sto),S.length<=-S1->rOL g v S1 d S'->rOL g v S d S':=λv S S1 d S' l h=>by
 cases v with
 | none=>exact h
 | some b=>let#[n,i,m,o]:=h;exact#[n,i,Ab l m,o]
theorem kc:VS A (CO (mC .non)) (rOL m) (!.rt none) B:=λf g o e F S i=>by
 cases g;exact#[.rt .non,S,rfl,_,rfl,rfl,i.kp]
end
section
variable{α β ρ σ:Type}
noncomputable def Ie(x y:Str):⇑Str:=if -x+-y<=sizeLine then !x++y else none
set_option tactic.hygienic true in
theorem FP(g:VE A a (rV D.str) i)(hb:VE A b (rV D.str) m):VE A (m2 NT a b) (rV D.str) (i*>λx=>m*>λy=>Ie x y):=G4 g hb λx y z S h=>by
 unfold Ie at h;split at h
 ·rename_i o
  cases h;show(if -x+-y<=sizeLine then Res.ok (D.str (x++y)) S else .bad)=_
  ext
 ·cases h
theorem wD(g:VE A a (rV D.str) i)(hb:VE A b (rV D.str) m):VE A (m2 (inS false) a b) (rV D.bl) (i*>λx=>m*>λy=>!NY y x):=G4 g hb λx y z S h=>by
 cases h;rfl
def np(x:Str)(i:Int):⇑Str:=if -x<=sizeLine then(atI x.cps.toList i).map λc=>#[[c].toArray]else none
set_option tactic.hygienic true in
theorem wA(g:VE A a (rV D.str) m)(hb:VE A b (rV D.int) pi):VE A (m2 ixS a b) (rV D.str) (m*>λx=>pi*>λi=>np x i):=G4 g hb λx i z S h=>by
 unfold np at h;split at h
 ·rename_i o
  show(if -x<=sizeLine then(match atI x.cps.toList i with | some c=>Res.ok (D.str ⟨[c].toArray⟩) S | none=>.bad)else .bad)=_
  grind
 ·cases h
noncomputable def Xh(x:Str):⇑Int:=if -x<=sizeLine then !(-x:Int)else none
set_option tactic.hygienic true in
theorem fD(i:VE A a (rV D.str) m):VE A (au a) (rV D.int) (m.bind Xh):=λv o s e F S B=>by
 let#[x,C,g]:=Aw o;let#[d,E,H,G,rfl]:=i x C s e F S B;unfold Xh at g;split at g
 ·rename_i I
  cases g;refine#[_,E,?_,G,rfl];unfold au;ext
 ·cases g
noncomputable def KF(i:Int):⇑Str:=if (if i < 0 then 0 - i else i) < 1000000 then !toString i else none
theorem JG(m:VE A a (rV D.int) o):VE A (L5 a) (rV D.str) (o.bind KF):=λv s B e F S C=>by
 let#[x,E,g]:=Aw s;let#[d,G,H,I,rfl]:=m x E B e F S C;unfold KF at g
 by_cases i:(if x < 0 then 0 - x else x) < 1000000
 ·rw[qX i]at g
  cases g;refine#[_,G,?_,I,rfl];unfold L5;rw[H];dsimp only[Res.bind];rw[qX i]
 ext
noncomputable def Wq(i:Int):⇑Str:=if i.natAbs.log2 < 1920 then !toString i else none
def a9(x:Str):⇑Int:=if -x<=640 then Ot x else none
set_option tactic.hygienic true in
theorem qy(i:VE A a (rV D.str) m):VE A (fq a) (rV D.int) (m.bind a9):=λv o s e F S B=>by
 let#[x,C,g]:=Aw o;let#[d,E,H,G,rfl]:=i x C s e F S B;unfold a9 at g;split at g
 ·rename_i I
  refine#[_,E,?_,G,rfl];unfold fq;ext
 ·cases g
noncomputable def KG(p:⇑Str)(q:Str->⇑Str)(g:Str):⇑Str:=p*>λy=>if -(g++y)<=sizeLine then q (g++y)else none
noncomputable def PY(g:Str)(l:¬Str):⇑Str:=if vb g l then !X2 g l else none
set_option tactic.hygienic true in
theorem Zs(C:VE A a (rV D.str) E)(hb:VE A b (rO (oL D.str)) pl):VE A (Mr a b) (rV D.str) (E*>λx=>pl*>λl=>PY x l):=λv i m e F S o=>by
 let#[x,G,i]:=Aw i;let#[l,H,g]:=Aw i;let#[d,I,J,s,rfl]:=C x G m e F S o;let#[d2,B,L,N,n,rfl,O]:=hb l H m e _ I (o.grow s);unfold PY at g;split at g
 ·rename_i Q
  cases g;refine#[_,B,?_,s.trans N,rfl]
  let P:atL (.ref n) B=!(n,l.map D.str):=by unfold atL;symm;rw[O];rfl
  unfold Mr;rw[J];dsimp only[Res.bind];rw[L];dsimp only[Res.bind];rw[P];symm;rw[QZ]
  ext
 ·cases g
def HG(x y:Str):⇑(¬Str):=if JH x y then !D6 x y else none
set_option tactic.hygienic true in
theorem W7(C:VE A a (rV D.str) E)(hb:VE A b (rV D.str) G):VE A (Hu a b) (rN (oL D.str)) (E*>λx=>G*>λy=>HG x y):=λv i o e F S s=>by
 let#[x,H,i]:=Aw i;let#[y,I,g]:=Aw i;let#[d,J,L,m,rfl]:=C x H o e F S s;let#[d2,N,O,B,rfl]:=hb y I o e _ J (s.grow m);unfold HG at g;split at g
 ·rename_i P
  cases g;refine#[.ref (-N),_,?_,(m.trans B).trans (Keeps.app _ _),_,rfl,(m.trans B).1,DM _ _];unfold Hu;rw[L];dsimp only[Res.bind];rw[O];dsimp only[Res.bind];rw[qX P];rfl
 ·cases g
noncomputable def signs(z:Str):¬Str:=z.cps.toList.map λc=>#[[c].toArray]
def Ut(z:Str):⇑(¬Str):=if z.cps.all (· < 128) then !signs z else none
set_option tactic.hygienic true in
theorem vq(h:VE A m (rV D.str) p):VI A (gK m) D.str (p.bind Ut):=λv i o e F S s=>by
 let#[z,B,g]:=Aw i;let#[d,C,E,G,rfl]:=h z B o e F S s;unfold Ut at g;split at g
 ·rename_i H
  cases g;refine#[HQ (Uu z),C,?_,G,λI I I I=>?_]
  ·unfold gK
   rw[E];dsimp only[Res.bind];rw[qX H]
  ·unfold Uu signs
   rw[BC];rfl
 ·cases g
noncomputable def M6(l:¬α):¬(Int×α):=l.zipIdx.map λx=>(((x.2+2:Nat):Int),x.1)
theorem dq(l:¬α):UG (l.map enc)=(M6 l).map (eP D.int enc):=by
 unfold UG M6;rw[BC,WL,BC];rfl
theorem kh(i:VE A a (rN (oL enc)) pl):VI A (UD a) (eP D.int enc) (pl*>λl=>!M6 l):=λv m o e F S s=>by
 let#[l,B,C]:=Aw m;cases C;let#[d,E,N,G,n,rfl,H,I]:=i l B o e F S s
 let J:∀g:Sto,g[n]?=!oL enc l->Hj (.ref n) g=!l.map enc:=λg h=>by unfold Hj;symm;rw[h];rfl
 refine#[cR (Hj (.ref n)),E,?_,G,λO g L h=>?_]
 ·unfold UD
  ext
 ·unfold cR
  rw[J g (h n _ (L _ _ (OL H I)))];show (!UG (l.map enc))=_;rw[dq]
theorem fw:∀a b:YP,HT.lexLt a b=Srt.ltL a b
 | [],[]=>rfl
 | [],_ :: _=>rfl
 | _ :: _,[]=>rfl
 | x :: a,y :: b=>by
  unfold HT.lexLt Srt.ltL;rw[fw a b]
theorem v6(B:VE A a (rV (eT D.int)) C)(hb:VE A b (rV (eT D.int)) E):VE A (m2 ltT a b) (rV D.bl) (C*>λx=>E*>λy=>!HT.lexLt x y):=λv g i e F S m=>by
 let#[x,G,g]:=Aw g;let#[y,H,I]:=Aw g;cases I;let#[d1,J,L,o,rfl]:=B x G i e F S m;let#[d2,s,N,O,rfl]:=hb y H i e _ J (m.grow o);refine#[_,s,Bi L N ?_,o.trans O,rfl];show(match G7 (x.map D.int),G7 (y.map D.int)with | some P,!Q=>Res.ok (D.bl (HT.lexLt P Q)) s | _,_=>.bad)=_;ext
theorem bJ:EqN n (eO D.int):=λx y=>by
 cases x with
 | none=>
  cases y with
  | none=>cases n <;> rfl
  | some y=>cases n <;> rfl
 | some x=>
  cases y with
  | none=>cases n <;> rfl
  | some y=>rw[show eqP n (eO D.int (!x)) (eO D.int (!y))=eqP n (D.int x) (D.int y)from rfl,Ds];simp
noncomputable def N7:¬YP->⇑(¬XP)
 | []=>![]
 | [x,y] :: r=>(N7 r).map ((x,y) :: ·)
 | _=>none
theorem XT:∀{i:¬YP} {g:¬XP},N7 i=!g->i.map (eT D.int)=g.map (eP D.int D.int)
 | [],g,h=>by cases h;rfl
 | [x,y] :: r,g,h=>by
  unfold N7 at h
  cases m:N7 r with
  | none=>ext
  | some o=>
   rw[m]at h;cases h;rw[At,At,XT m];rfl
 | [] :: r,g,h=>by cases h
 | [_] :: r,g,h=>by cases h
 | (_ :: _ :: _ :: _) :: r,g,h=>by cases h
theorem ko(g:VE A a (rO (oL (eT D.int))) pl):VE A a (rO (oL (eP D.int D.int))) (pl.bind N7):=λv i m e F S o=>by
 let#[l,s,B]:=Aw i;let#[d,C,E,G,n,rfl,H]:=g l s m e F S o;refine#[_,C,E,G,n,rfl,?_];rw[H];unfold oL;rw[XT B]
noncomputable def Wu:¬⇑α->⇑(¬α)
 | []=>![]
 | some x :: r=>(Wu r).map (x :: ·)
 | none :: _=>none
theorem gm:∀{i:¬⇑α} {g:¬α},Wu i=!g->i.map (eO enc)=g.map enc
 | [],g,h=>by cases h;rfl
 | some x :: r,g,h=>by
  unfold Wu at h
  cases m:Wu r with
  | none=>ext
  | some o=>
   rw[m]at h;cases h;rw[At,At,gm m];rfl
 | none :: r,g,h=>by cases h
def vL(o:⇑(¬⇑α)):⇑(⇑(¬α)):=match o with
 | none=>!none
 | some l=>(Wu l).map some
theorem VF.all(h:VF f as (rOL (oL (eO enc))) p):VF f as (rOL (oL enc)) (p.bind vL):=λv C S E G=>by
 let#[o,H,g]:=Aw C;let#[d,i,m,s,A]:=h o H S E G
 cases o with
 | none=>cases g;exact#[d,i,m,s,A]
 | some l=>
  let g:(Wu l).map some=!v:=g
  cases B:Wu l with
  | none=>ext
  | some N=>
   rw[B]at g;cases g;let#[n,I,J,L]:=A;refine#[d,i,m,s,n,I,J,?_];rw[L];unfold oL;rw[gm B]
theorem ke(h:A[i]?=!.y (m v)):VS A (CO (AB i)) (rOL m) (!.rt (!v)) B:=λf o G e F S g=>by
 cases o;let#[x,s,n,rfl,C,E]:=g.sl i _ h;exact#[.rt (.ref n),S,Ex (BA s),_,rfl,#[n,rfl,E,g.fz _ _ C],g.kp]
theorem Zn{B:σ->¬Sl}{R:Rk ρ}{E:β->Ob}{t:MT}{s:MS}{p:⇑(⇑β)}{i:Nat}{J:β->⇑Bool}{q:β->⇑(Fw ρ σ)}(P:A[i]?=!.u)(h:VE A m (rOL E) p)(Q:∀l,VB (A.set i (.y (E l))) t (J l))(T:∀l,VS (A.set i (.y (E l))) s R (q l) B) :
  VS A (As (Bb i m) (As (sIf (mOr (mB (m2 (Q6 false) (AB i) (mC .non))) t) N0 sNx) s)) R (p*>λo=>o*>λl=>J l*>λb=>if b=true then none else q l) B:=λf U G e F S C=>by
 let#[o,X,Y]:=Aw U;let#[l,rfl,Z]:=Aw Y;let#[b,h4,L]:=Aw Z;let#[d,S',c1,k1,n,rfl,N,hb]:=h _ X G e F S C;let g:=C.grow k1;let s1:Bb i m e S=.ok (.nx (e.set i (!.ref n))) S':=EL c1;let#[xk,ek,_]:=C.sl i _ P;let H:=(AE.mp ek).1
 let vk:(e.set i (!D.ref n))[i]?=!(!.ref n):=by rw[An H]
 let t1:mB (m2 (Q6 false) (AB i) (mC .non)) (e.set i (!.ref n)) S'=.ok false S':=Jc (Bi (BA vk) rfl rfl);let I:=g.set (a:=.y (E l)) i #[n,rfl,OL N hb,Ab C.kp.1 N];let#[O,c2,k2]:=Q l b h4 G _ _ S' I
 cases b with
 | true=>trivial
 | false=>
  rw[qY AQ]at L;let#[h6,S3,c3,g3]:=T l f L G _ _ O (I.grow k2);exact#[h6,S3,(BD s1).trans ((BD ((EN ((Pt t1).trans c2)).trans ((qY AQ).trans rfl))).trans c3),g3.up ((C.fle S').trans (I.fle O))]
end
section
variable{S0 S S':Sto}{A B:¬Sl}{e:Lo}{F:Fz}{α ρ σ:Type}{a b:ME}{enc:α->D}
noncomputable def oFK(enc:α->D)(l:¬(Int×α)):Ob:=.fK (l.map λx=>(Eh x.1,enc x.2))
theorem y0(h:S[n]?=!oFK enc l)(k:Int):Kl (.ref n) (.int k) S=!(BI l k).map enc:=by
 unfold Kl;symm;rw[h];show (!BI _ (Eh k))=_;rw[Lw UC]
theorem AAX(h:S[n]?=!oFK enc l):GB (.ref n) S=none:=by unfold GB;symm;rw[h];rfl
theorem iL(i:VE A a (rO (oFK enc)) pl)(hb:VE A b (rV D.int) m):VE A (m2 ixA a b) (rV enc) (pl*>λl=>m*>λx=>BI l x):=cV i hb λl x z S n g q=>Kc (AAX g) (by rw[y0 g x,q];rfl)
theorem tM(h:S[n]?=!oFK enc l):a5 (.ref n) S=!(l.map (·.1)).map D.int:=by
 unfold a5;symm;rw[h];show (!_)=_;rw[BC,BC];rfl
theorem vt(h:A[i]?=!.y (oFK enc l)):VI A (gM (AB i)) D.int (!l.map (·.1)):=λz m S0 e F S g=>by
 cases m;let#[x,o,n,rfl,s,_]:=g.sl i _ h;refine#[HQ ((l.map (·.1)).map D.int),S,?_,Keeps.refl S,λz z z z=>rfl];unfold gM;rw[BA o];dsimp only[Res.bind];rw[tM (g.fz _ _ s)]
theorem AAC{b:MS}{R:Rk ρ}{p:⇑(Fw ρ σ)}{B:σ->¬Sl}{l:¬(Int×α)}(i:Nat)(m:A[i]?=!.w i (oDK enc l))(s:((A.set i .u).all (Sl.oth i)))(h:VS (A.set i (.y (oFK enc l))) b R p B):VS A (As (sFz i) b) R p B:=λf H S0 e F S C=>by
 let#[x,E,n,rfl,I,J]:=C.sl i _ m;let L:=C.put (o':=oFK enc l) s m E I;let o:(A.set i (.w i (oFK enc l)))[i]?=!.w i (oFK enc l):=An (AE.mp m).1;let#[N,G,O]:=L.freeze (by rw[zW];exact s) o;rw[zW]at G;let#[g,S',P,Q]:=h f H S0 e N _ G;refine#[g,S',?_,Q.up O]
 let:sFz i e S=.ok (.nx e) (S.set n (oFK enc l)):=by
  unfold sFz;rw[E];symm;rw[J];rfl
 exact(BD this).trans P
theorem lE(g:VE A a (rO (oDK enc)) pl):VB A (G6 a) (pl*>λl=>!not l.isEmpty):=λv i S0 e F S m=>by
 let#[l,o,s]:=Aw i;cases s;let#[d,S',C,E,n,rfl,G]:=g l o S0 e F S m;refine#[S',?_,E];unfold G6;rw[C];dsimp only[Res.bind];rw[show Qy (.ref n) S'=!not l.isEmpty by unfold Qy;symm;rw[G];show (!not (em _ l).isEmpty)=_;ext]
end
abbrev Pq:=(Nat->⇑Ob)->D->Prop
def AtV(P:Pq)(C:AW)(x:Str)(g:D):Prop:=∀L d,P L d->∃q fs,d=.ref q/\L q=!.ins C fs/\fs.lookup x=!g
def AtO(P:Pq)(C:AW)(x:Str)(o:Ob):Prop:=∀L d,P L d->∃q fs n,d=.ref q/\L q=!.ins C fs/\fs.lookup x=!.ref n/\L n=!o
def AtN(P:Pq)(C:AW)(x:Str):Prop:=∀L d,P L d->∃q fs,d=.ref q/\L q=!.ins C fs/\fs.lookup x=none
section
variable{S0 S S':Sto}{A:¬Sl}{e:Lo}{F:Fz}{α β:Type}{enc:α->D}{ob:α->Ob}{i n:Nat}{P:Pq}{Pf Pg:β->Pq}{C:AW}{x:Str}{v:α}{f:β}
theorem Vs.qAt(g:Vs S0 A e F S)(h:A[i]?=!.q P):∃d,e[i]?=!(!d)/\P (loF F) d:=by
 let#[x,m,d,rfl,s]:=g.sl i _ h;exact#[d,m,s _ λn o q=>nP q]
theorem lD(m:AtV P C x (enc v))(h:A[i]?=!.q P):VE A (CD C x (AB i)) (rV enc) (!v):=λz o S0 e F S g=>by
 cases o;let#[d,s,B]:=Vs.qAt g h;let#[q,fs,rfl,E,G]:=m _ _ B;exact#[_,S,FT (BA s) (g.fz _ _ (Ms E)) G,Keeps.refl S,rfl]
theorem Fs(m:AtO P C x (ob v))(h:A[i]?=!.q P):VE A (CD C x (AB i)) (rO ob) (!v):=λz o S0 e F S g=>by
 cases o;let#[d,s,B]:=Vs.qAt g h;let#[q,fs,n,rfl,E,G,H]:=m _ _ B;exact#[_,S,FT (BA s) (g.fz _ _ (Ms E)) G,Keeps.refl S,n,rfl,g.fz _ _ (Ms H)]
theorem vx(s:AtO P C x (oL enc l))(h:A[i]?=!.q P):VI A (EO (CD C x (AB i))) enc (!l):=λz B S0 e F S g=>by
 cases B;let#[d,E,G]:=Vs.qAt g h;let#[q,fs,n,rfl,H,I,J]:=s _ _ G;let m:=Ms J;let o:=g.fz _ _ m;exact#[_,S,JX (FT (BA E) (g.fz _ _ (Ms H)) I) o,Keeps.refl S,λN O L h=>C0 (h n _ (L _ _ (by rw[Gg (CF o)];exact m)))]
theorem qq(s:AtO P C x (oL enc l))(h:A[i]?=!.q P):VI A (SI (CD C x (AB i))) (eP D.int enc) (!DS l):=λz B S0 e F S g=>by
 cases B;let#[d,E,G]:=Vs.qAt g h;let#[q,fs,n,rfl,H,I,J]:=s _ _ G;let m:=Ms J;let o:=g.fz _ _ m;refine#[QS (Hi (.ref n)),S,?_,Keeps.refl S,λN O L h=>?_]
 ·unfold SI
  rw[FT (BA E) (g.fz _ _ (Ms H)) I];dsimp only[Res.bind];rw[C0 o]
 ·unfold QS
  rw[C0 (h n _ (L _ _ (by rw[Gg (CF o)];exact m)))];exact congrArg some (SQ l)
theorem va_p(s:∀L d,Pf f L d->Pg f L d)(h:A[i]?=!.q (Pf f))(B:VA A ml q E):VA A (AK (AB i) ml) (q*>λy=>!(f,y)) (λz=>.q (Pg z.1) :: E z.2):=λv G S0 e F S g=>by
 let#[y,H,I]:=Aw G;cases I;let#[x,J,d,rfl,N]:=g.sl i _ h;let#[U,O,Q,m,R]:=B y H S0 e F S g;exact#[_,O,BF (BA J) Q,m,λL T=>s _ _ (N L λn o q=>T n o (m.at (g.fz _ _ q))),R]
theorem MZ(I:AtN (Pf f) C m)(J:∀L d,Pf f L d->Pg f L d)(h:A[i]?=!.q (Pf f))(N:VA A ml p E)(hf:∀z,VF g (.q (Pg f) :: E z) R (q z))(O:∀z,(E z).length+1=n)
  (Q:∀v S S1 d S',S.length<=-S1->R v S1 d S'->R v S d S'):VE A (E1 C m n g (AB i) ml) R (p.bind q):=λv T S0 e F S s=>by
 let#[z,U,X]:=Aw T;let#[x,Y,d,rfl,G]:=s.sl i _ h;let#[k,fs,rfl,Z,h7]:=I _ _ (G (loF F) λn o q=>nP q);let#[ds,S2,q1,B,H]:=N z U S0 e F S s;let#[d,S3,r1,r2,r3]:=hf z v X S2 (.ref k :: ds) #[λL hL=>J _ _ (G L λn o q=>hL n o (B.at (s.fz _ _ q))),H];refine#[d,S3,?_,B.trans r2,Q _ _ _ _ _ B.1 r3];unfold E1;rw[BA Y];dsimp only[Res.bind];rw[s.fz _ _ (Ms Z)];symm;rw[qX #[rfl,h7],q1];symm;rw[qX (by rw[H.len];exact O z)];exact r1
end
noncomputable def kR(r:YP):¬Key:=r.map Eh
def oDR(enc:g->D)(l:¬(YP×g)):Ob:=.dT (l.map λx=>(kR x.1,enc x.2))
theorem ng(x y:YP)(h:kR x=kR y):x=y:=by
 let:∀r:YP,(kR r).map (λk:Key=>match k with | .inl i=>i | .inr _=>0)=r:=λr=>by
  unfold kR;rw[BC]
  conv=>rhs;rw[<-UQ r]
  rfl
 grind
theorem vB(r:YP):PX (r.map D.int)=!kR r:=by
 induction r with
 | nil=>rfl
 | cons x r g=>
  rw[At];unfold PX;rw[g];rfl
section
variable{S0 S S':Sto}{A:¬Sl}{e:Lo}{F:Fz}{α:Type}{enc:α->D}{a b m:ME}
theorem pC(h:S[n]?=!oDR enc l)(k:YP):Kl (.ref n) (eT D.int k) S=!(BI l k).map enc:=by
 unfold Kl;symm;rw[h];show(match PX (k.map D.int)with | some g=>!BI (l.map λx:YP×α=>(kR x.1,enc x.2)) g | none=>none)=_;rw[vB];symm;rw[Lw ng]
theorem wf(h:S[n]?=!oDR enc l):GB (.ref n) S=none:=by unfold GB;symm;rw[h];rfl
theorem lC(i:VE A a (rO (oDR enc)) pl)(hb:VE A b (rV (eT D.int)) o):VE A (m2 ixA a b) (rV enc) (pl*>λl=>o*>λx=>BI l x):=cV i hb λl x z S n g q=>Kc (wf g) (by rw[pC g x,q];rfl)
theorem yx(l:¬(YP×α))(k:YP)(v:α)(S:Sto)(n:Nat)(g:S[n]?=!oDR enc l)(i:-l < 1000000):O3 (.ref n) (eT D.int k) (enc v) S=!S.set n (oDR enc (Cy l k v)):=by
 unfold O3;symm;rw[g];show(match PX (k.map D.int)with | some o=>if -l.map _ < sizeLine then !S.set n (Ob.dT (Cy (l.map λx:YP×α=>(kR x.1,enc x.2)) o (enc v)))else none | none=>none)=_;rw[vB];symm;rw[qX (by rw[AN];exact dS i),N6 ng];rfl
theorem rB(g:VE A a (rV D.int) p):VE A (fv a) (rV D.int) (p*>λx=>!(Do x:Int)):=λv i S0 e F S o=>by
 let#[x,s,B]:=Aw i;cases B;let#[d,S',C,E,rfl]:=g x s S0 e F S o;refine#[_,S',?_,E,rfl];unfold fv;rw[C];rfl
theorem qk(h:VE A m (rV (eP o s)) p):VS A (im m (JT 2 (Cw (tgN i) (Cw (tgN j) Ju)))) R (p*>λv=>!.nx v) (λv=>(A.set i (.v (o v.1))).set j (.v (s v.2))):=λf B S0 e F S g=>by
 let#[v,C,E]:=Aw B;cases E;let#[d,S',G,H,rfl]:=h v C S0 e F S g;refine#[_,S',?_,_,_,rfl,((g.grow H).set (a:=.v (o v.1)) i rfl).set j rfl,g.fle S'];unfold im;rw[G];rfl
end
section
variable{S0 S S':Sto}{A:¬Sl}{e:Lo}{F:Fz}{a:ME}
theorem wJ{p:⇑Int}(g:VE A a (rV D.int) p):VE A (tH a) (rV D.int) (p*>λx=>!(if x < 0 then (unop% Neg.neg x) else x)):=λv i S0 e F S m=>by
 let#[x,o,s]:=Aw i;cases s;let#[d,S',B,C,rfl]:=g x o S0 e F S m;refine#[_,S',?_,C,rfl];unfold tH;rw[B];rfl
end
end L4
namespace L2
section
variable{P:BP}{w:Bx}{K:AD}{mg:Str->⇑AH}{base:Cb}
theorem Vx{x i}{st}{f}{fd}{N o}{k n}(F:Fun K x i st f fd)(B:K6 N o (Cd st))(I:-o=n){C}
  (J:∀(m:AH) (A:Bq) (g:¬Env) (s:AM) (H:Hp) (E:XK),He k (A.deeper (KC i (Cd st) s.heap.objs.size f m))->(A.deeper (KC i (Cd st) s.heap.objs.size f m)).units+64 < Ef->N.Nodup ->
   GSs (Y9 (CXG P w) P w K mg base N i (Cd st) f m A g s H E).q noE (IJ st) C) :
  IL P w K mg base (CXG P w) (k+1) f fd o (spM K n (DH (-N) C)):=t8 F B I λm A g s H E G=>J m A g s H E G G.units B.nd
end
def nL(neg:Bool)(g:¬Str)(m:ME):ME:=λe S=>m e S*>λd i=>match d with
 | .str x=>.ok (.bl (if neg then not (inV (.str x) (g.map V.str))else inV (.str x) (g.map V.str))) i
 | _=>.bad
noncomputable def Rr:¬AH->⇑(¬Str)
 | []=>![]
 | .str x _ :: l=>(Rr l).map (x :: ·)
 | _=>none
def Pn(K:AD)(a:AW):⇑(¬Str):=match K.lookup a with
 | some o=>match o.data with
  | .seq g _=>if o.cls==.type "tuple"&&decide (g.size<=100)then Rr g.toList else none
  | _=>none
 | none=>none
theorem XE:∀{us:¬AH} {g:¬Str},Rr us=!g->Bs (g.map V.str) us
 | [],_,h=>by cases h;exact .nil
 | .str x t :: l,g,h=>by
  unfold Rr at h
  cases q:Rr l with
  | none=>rw[q]at h;cases h
  | some r=>rw[q]at h;cases h;exact .cons #[t,rfl] (XE q)
 | .none :: _,_,h=>nomatch h
 | .bool _ :: _,_,h=>nomatch h
 | .int _ _ :: _,_,h=>nomatch h
 | .ref _ :: _,_,h=>nomatch h
 | .type _ :: _,_,h=>nomatch h
 | .builtin _ :: _,_,h=>nomatch h
 | .bytes _ _ :: _,_,h=>nomatch h
 | .float _ _ :: _,_,h=>nomatch h
set_option tactic.hygienic true in
theorem iW{K:AD}{H:Hp}{a:AW}{g:¬Str}(h:Pn K a=!g):SqT K H a (g.map V.str):=by
 unfold Pn at h;split at h
 ·rename_i o i
  split at h
  ·rename_i m n s
   split at h
   ·rename_i c
    rw[Bo]at c;exact .inr #[o,m,n,i,eq_of_beq c.1,s,Ab (of_decide_eq_true c.2) ∅,XE h]
   ·cases h
  ·cases h
 ·cases h
section
variable{X:Cx}{E:EW}{i o e:Expr}{mi mo:ME}{pos p apos E':Pos}
theorem tR{x:Str}{a:AW}{m:¬Str}(hi:GE X E i mi)(s:Gl X x)(hm:X.mg x=!.ref a)(A:Pn X.K a=!m)(B:↥((x==("__debug__" : Str))=false)) (C:autoParam (DU .NotIn (.Name x p)=false) yq4q) :
  GT X E (.Compare i [.NotIn] [.Name x p] pos) (mB (nL true m mi)):=(fU Yb hi (YZ (v:=.ref a) s hm rfl B) C).imp<|by
 rintro U H Q ⟨G,l,S,I,J,hm⟩
 refine#[G,l,S,I,J,(hm.seq λd L h=>h).seq λd L h g N x O P R=>?_]
 cases d <;> first | exact h.elim | skip
 cases R;refine#[a,_,rfl,.inr (iW A),rfl,?_,?_]
 ·rw[FI]
  intro v T;let#[z,_,rfl]:=BN.mp T;rfl
 ·exact#[_,rfl,h g N O P]
theorem Z5{K:AD}{ρ:¬AW}{H:Hp}:∀{g:¬Str} {vs:¬V},Au K ρ H (g.map D.str) vs->vs=g.map V.str
 | [],_,.nil=>rfl
 | x :: l,_,.cons r t=>by cases r;rw[Z5 t];rfl
theorem iX{K:AD}{ρ:¬AW}{H:Hp}{ds:¬D}{g:¬Str}{vs:¬V}(h:Nl ds=!g)(r:Au K ρ H ds vs):vs=g.map V.str:=by
 rw[Uo h]at r;exact Z5 r
def AAd:V->¬V->Hp->VK->Prop:=λx m H Q=>∃(l:AW) (k:Str) (g:¬Str) (j:Nat),x=.ref l/\m=[.str k]/\H l=!.lst (g.map V.str)/\g.findIdx? (·==k)=!j/\Q (.int j) H
theorem di{k:Str}:∀{xs:¬Str} {us:¬AH},Bs (xs.map V.str) us->∀(m:Nat) (h:m < -us) (h':m < -xs),eqU (.str k) us[m]=(xs[m]==k)
 | [],_,.nil,m,h,_=>zX h (WU _)
 | x :: xs,_,.cons #[t,e] r,0,_,_=>by subst e;show eqV (.str x) (.str k)=_;unfold eqV;rfl
 | x :: xs,_,.cons _ r,m+1,h,h'=>di r m (by simp at h;omega) (by simp at h';omega)
theorem jE:MtM X "list.index" AAd:=by
 intro Z s σ H x vs v us Q I g A h;let#[l,k,B,j,rfl,rfl,C,G,q]:=h;cases g;let#[u,rfl,J]:=vals1 A;let#[z,L,n,r,N,e]:=I.lstM C;rw[AN]at z N;let#[O,P,R]:=List.findIdx?_eq_some_iff_getElem.mp G
 let S:(B.map V.str).all RE:=by
  rw[FI];intro v T;let#[z,_,rfl]:=BN.mp T;rfl
 let hs:(sizeLine:Int) < 2 ^ 63 - 1:=by decide
 refine UL Wy #[_,e,rfl] PySem.F.entry_list_index (PySem.F.args_list_index_2 _ _)
  (SeqAt.list_indexAt l L.toArray n none _ u (eqU (.str k)) j (by rw[Bp];lia) ∅ ?_ λm hm U=>?_) #[e,λy Y=>Qx J rfl r S y (by simpa using Y),.int j,H,I.kept (t':=s.toks+1) (h':=s.heap) (λM M e=>e),#[_,rfl],q]
 ·rw[et,di r j (by omega) O];exact P
 ·rw[Bp]at hm
  rw[et,di r m hm (by ext)];let:=R m U;simpa using this
def Tx(mo mi:ME):ME:=λe S=>mo e S*>λd g=>match atL d g with
 | some _=>mi e g*>λx m=>match atL d m,x with
  | some (_,s),.str k=>match Nl s with
   | some A=>(match A.findIdx? (·==k)with
    | some j=>.ok (.int j) m
    | none=>.bad)
   | none=>.bad
  | _,_=>.bad
 | none=>.bad
set_option tactic.hygienic true in
theorem jT(ho:GE X E o mo)(R:GE X E e mi)(T:↑(Eg o "index" X.env (Bz o X.env)=Bz o X.env))
  (U:↑(((DB E' (AR [e] X.env)).all (λx=>not x.1)&&(HD E' (D8 [] X.env)).all (λx=>x.1.isSome)
    &&decide (-[e]+-([]:¬NW)+(if ([]:¬NW).isEmpty then 0 else 1) < 30))))
  (Y:↑((apos.endLine==E'.line))) (g:↑(AR [e] X.env=(false,Bz e X.env) :: AR [] X.env)) (Z:↑((DB E' (AR [] X.env)).any (·.1)=false)) :
  GE X E (.Call (.Attribute o "index" apos) [e] [] E') (Tx mo mi):=(fV W0 Wy PySem.F.type_list_index jE ho (EV R GX g) T U Y g Z).imp<|by
 rintro σ H Q ⟨ρ,l,S,G,g,hm⟩
 refine#[ρ,l,S,G,g,hm.seq λd I hm m H1 v s J L=>?_]
 cases A:atL d I with
 | none=>rw[A]at hm;exact hm.elim
 | some z=>
  let#[n,xs0]:=z;rw[A]at hm;let#[rfl,h0,a,B,rfl,hn,e0,_]:=SS J L A;refine#[.inl #[rfl,B,.inl (.inl e0)],m,l,I,G.mono s,J,(hm.later s).seq λx S2 hm C H2 u N O r2=>?_];split at hm
  ·rename_i n' xs k h2
   split at hm
   ·rename_i zs h3
    split at hm
    ·rename_i j h5
     let#[e',h6,a',vs,ea,ϛ,P,rr]:=SS O (L.mono N) h2;cases e';cases ea;cases r2;rw[iX h3 rr]at P;exact#[a,k,zs,j,rfl,rfl,P,h5,hm C _ _ (s.trans N) O (.int _)]
    ·exact hm.elim
   ·exact hm.elim
  ·exact hm.elim
end
theorem tT{X:Cx}{body:¬CY}{h₀:ExceptHandler}{g:¬ExceptHandler}{pos:Pos}{mb:MS}(hb:GSs X.q noE body mb):GS X.q noE (.Try body (h₀ :: g) [] [] pos) mb:=by
 intro i s m H D I q;refine wpAny_Try_except (Dv (hb i s m H D I q) (λf o q=>?_) λe o z=>z.elim)
 cases f with
 | next=>exact K9 q
 | brk=>exact q
 | cont=>exact q
 | ret u=>exact q
end L2
namespace PySem
open PySem.Sem (wp)
open SetTable
noncomputable def Rq(j:Nat)(led:Bool):qC:={ mask:=7,place:=[j].toArray,dummies:=#[],finger:=0,led,moves:=0,plain:=true }
theorem fit1(j:Nat)(h:j < 8)(led:Bool):(Rq j led).fits 1:=by
 let:∀l:Bool,∀j∈Ca 8,(Rq j l).fits 1:=by decide
 exact this led j (Ea.mpr h)
theorem lay1(led:Bool)(h:Int)(x:AH):layNew (.fresh 0 0 led) #[] h x=([(h,x)].toArray,Rq (bits h % 8) led,false,false):=by
 let e:(Ti 0 0 led).freeSlot h=!(bits h % 8,false):=rfl;let g:(Ti 0 0 led).put (bits h % 8)=(Rq (bits h % 8) led,0):=rfl;unfold layNew;rw[e];symm;rw[g];symm;rw[show qC.insertAt #[] 0 (h,x) = [(h,x)].toArray from rfl];unfold orStandIn;rw[show([(h,x)].toArray:Array (Int×AH)).size=1 from rfl,fit1 _ (kH _ (by ext)) led];rfl
theorem zD(j:Nat):zR [j].toArray (j+1)=1:=by
 unfold zR;simp[zR.go]
theorem AAk{g:Type}(next:Nat->Nat)(e:g):zj next [e].toArray = [e].toArray:=by
 unfold zj kD;simp[Nat.mod_one,kD]
noncomputable def Uv(led:Bool):Obj:={ cls:=.type "set",dict:=none,data:=.set #[] 0 (.fresh 0 0 led) }
def bY(w:Bx)(h:Cb)(a:AW)(n:Int):Prop:=∃(g:Int) (i:Tok) (j:Nat),j < 8/\h.get? a=some { cls:=.type "set",dict:=none,data:=.set [(g,.int n i)].toArray 1 (Rq j (not (w.params.followText "set-order"))) }
section
variable{prog:BP}{w:Bx}{A:Bq}{E:AH->AM->Prop}{s:AM}{a:AW}{n:Int}
theorem lv{led:Bool}{g:Tok}{Q:Bool->AM->Prop}(C:led=(not (w.params.followText "set-order"))) (ho:s.heap.get? a=!Uv led)
  (h:∀h' b,EF a s.heap h'->bY w h' a n->Q b { s with heap:=h' }) :
  Ac (AZ prog w) A (setAddHashed a (.int n g) ((Lj prog w).hash n)) Q E s:=by
 let i:(Lj prog w).is n (.int n g):=intKind_is _ _ _ _;let m:(Dy n g).scannable:=rfl
 let o:ElemsOf (Lj prog w) (#[]:Array (Int×AH)).toList:=λe G=>by simp at G
 let B:(Ti 0 0 led).fits (#[]:Array (Int×AH)).size:=by rfl
 unfold setAddHashed setAddHashedIn;refine DT (AA (Gx ho rfl B ?_));symm;rw[byScan_of m ∅ o];simp only[↓reduceIte];unfold setAddByScan;refine AA ?_;refine AA (Ph ?_);refine AA (wpAny_setScan_of i ho rfl B o ?_);rw[show List.findIdx? (λe=>(Lj prog w).is n e.2) (#[]:Array (Int×AH)).toList=none from rfl,lay1];symm;refine AA (AC ?_);rw[qX (show(Rq (bits ((Lj prog w).hash n) % 8) led).plain=true from rfl)];refine AA ?_;rw[hashByValue_scannable 8 m];refine AC ?_;rw[qX (show plainKind (.int n g)=true from rfl)];refine AA (wpAny_storeSet_of ho rfl ?_ (fits_of_scanBound (show 1 < scanBound by decide)));refine AC ?_;symm;refine AC (h _ true (Ej s.heap a _) ?_);subst C;exact#[(Lj prog w).hash n,g,bits ((Lj prog w).hash n) % 8,kH _ (by ext),Db (Obj.putSet [((Lj prog w).hash n,.int n g)].toArray (Rq (bits ((Lj prog w).hash n) % 8) (not (w.params.followText "set-order")))) ho rfl]
theorem ii{R:kG->AM->Prop}{I:AW}{N wr:¬AW}{G:Array qM->Array qM->Prop}{P:Nat->AH->Prop}{St:Nat->AM->Prop}(W:WalksS prog w A.in1 I N wr G 1 P St)(g:a∉N)
  (i:∀v,P 0 v->∃t,v=.int n t) {led:Bool} (Q:led=(not (w.params.followText "set-order"))) (J:St 0 s) (S:s.heap.get? a=!Uv led)
  (T:∀s',Moved (a :: wr) G s s'->bY w s'.heap a n->R (.ok (.ret .none)) s') :
  Jh (AZ prog w) A (.builtin "set.update.loop" #[[.ref a,.ref I],[]]) R s:=by
 let m:a∉wr:=λh=>g (W.sub _ h)
 let O:∀b∈wr,b∈a :: wr:=λb hb=>AY _ hb
 refine EJ eu ?_;rw[Dj Nc _];show Ac _ A.in1 (LA (.ref I) >>= _) _ _ s;refine AA (W.item 0 s _ _ ∅ J λv s' U B hm=>?_);let#[t,rfl]:=i v U;show Ac _ A.in1 (Pj [Dy n t] (setAdd a (.int n t)) >>= _) _ _ s';refine AA (DT ?_);unfold setAdd;refine DT ?_;refine AA ((Lj prog w).pyHash (k:=n) (intKind_is _ _ _ _) ?_)
 refine lv (s:={ s' with toks:=s'.toks+1 }) Q (hm.heap a _ m S) λh' bb C L=>?_
 refine AC #[IQ Nc _,EJ eu ?_];rw[Dj Nc _];show Ac _ A.in1 (LA (.ref I) >>= _) _ _ _;refine AA (W.done _ _ _ (W.frame _ s' _ _ B (IM _) λb hb o e=>?_) λX H=>?_)
 ·rw[C.2 b (λh:b=a=>g (by rw[<-h];exact hb))];exact e
 ·refine AC (T X (Moved.trans W.gtrans ((hm.mono O).then_heap (IM _) λb o hb e=>?_) (H.mono O)) ?_)
  ·rw[C.2 b (λh:b=a=>hb (by rw[h];exact Aj))];exact e
  ·let#[Y,Z,j,hj,ho]:=L
   exact#[Y,Z,j,hj,H.heap a _ m ho]
theorem jj{l:AW}{I:Tok}{Q:AH->AM->Prop}(hh:A.handled=none)(hl:s.heap.IsList l [.int n I].toArray)
  (h:∀(h':Cb) (Y:Nat),bY w h' s.heap.objs.size n->(∀b o,b < s.heap.objs.size->s.heap.get? b=!o->h'.get? b=!o)->Q (.ref s.heap.objs.size) { s with heap:=h',toks:=Y }):Ac (AZ prog w) A (call (.type "set") [.ref l]) Q E s:=by
 let#[c,tl,hmro]:=HF.mro;let Z:=HF.made;let ϔ:=HF.sub;refine br (Zd ?_);show Ac _ _ (callAny (.type "set") _) _ _ _;refine AC #[kA _ ∅,EJ uu ?_];rw[e8 (pX "set" [.ref l] []) rfl];let h1:=HF.notType;let h2:=HF.canCreate;let hct:=F.typeCall_set_1 (.ref l);(repeat(any_goals (first | assumption | wp_step)))
 refine GF (Wr (.ref l) (E:=E) (Q₁:=λJ m=>∃led:Bool,led=(not (w.params.followText "set-order"))/\J=.ref s.heap.objs.size/\m={ s with heap:=s.heap.push (Uv led) }) #[_,rfl,rfl,rfl]) λr m hr=>?_
 cases r with
 | error e=>exact hr
 | ok fl=>
  cases fl with
  | ret J=>
   let#[led,L,rfl,rfl]:=hr;let hS:(s.heap.push (Uv led)).get? s.heap.objs.size=!Uv led:=AT _ rfl;let hT:AM.TypeIs { s with heap:=s.heap.push (Uv led) } (.ref s.heap.objs.size) "set":=#[_,hS,rfl];let hli:=HF.init.lookup;let hbi:=HF.init.bind (.ref s.heap.objs.size);(repeat(any_goals (first | assumption | wp_step)))
   refine GF (RY (R:=wants (λr B=>r=.none/\∃h' Y,B={ s with heap:=h',toks:=Y }/\bY w h' s.heap.objs.size n /\
     (∀b o,b < s.heap.objs.size->s.heap.get? b=!o->h'.get? b=!o)) E) HF.init.plain F.entry_set_init (check_set_init_1 hT ?_)) λN B g=>?_
   ·let#[ol,O,Ϫ,nl,P]:=hl
    let#[ocls,C,odata,i]:=ol;simp only at Ϫ P;subst Ϫ;subst P;let S:(s.heap.push (Uv led)).get? l=some { cls:=.type "list",dict:=C,data:=.seq [.int n I].toArray nl,slots:=i }:=AI _ O
    let hsls:isSubtype (.type "list") (.type "set")=pure false:=by rw[isSubtype_type];kernel_rfl
    let hslf:isSubtype (.type "list") (.type "frozenset")=pure false:=by rw[isSubtype_type];kernel_rfl
    let Θ:(Ha "list"==Ha "dict")=false:=by decide
    let T:(s.heap.push (Uv led)).IsList l [.int n I].toArray:=#[_,S,rfl,nl,rfl];unfold Builtin.«set.__init__» noKeywords qN;generalize hPI:NX=PI
    wp_walk
    subst hPI;refine Jf T (AA (wpAny_runValue ?_));let U:l < s.heap.objs.size:=AX O
    let hh3:A.in1.in1.in1.handled=none:=by simp[hh]
    let X:l≠(s.heap.push (Uv led)).objs.size:=by
     rw[Dq];exact Ao (Gi U)
    let hSf:s.heap.objs.size∉[(s.heap.push (Uv led)).objs.size,l]:=by
     rw[Dq];simp only[Am,AV,CB,or_false,not_or];exact#[Ao (DE _),Dk U]
    refine ii (n:=n) ((g7 hh3 _ l X [.int n I].toArray).toS) hSf (λv hv=>#[I,by simpa using hv.symm]) L
     #[#[_,AT _ rfl,rfl,rfl],(T.push _)] (AI _ hS) ?_
    intro s' hm G;let#[h',g',d',tk',os']:=s';let eg:g'=s.gens:=hm.gens;let ed:d'=s.drawn:=hm.drawn;let eo:os'=s.os:=hm.os;subst eg;subst ed;subst eo;show Ac _ _ _ _ _ _;refine AC ?_;show Ac _ _ (ret D1) _ _ _;refine AC #[rfl,h',tk',rfl,G,λb o hb e=>?_];let hb1:b≠s.heap.objs.size:=Ao hb
    let hb2:b≠(s.heap.push (Uv led)).objs.size:=by
     rw[Dq];exact Ao (Gi hb)
    exact hm.heap b o (by simp only[Am,AV,CB,or_false,not_or];exact#[hb1,hb2]) (AI _ (AI _ e))
   ·cases N with
    | error e=>exact g
    | ok H=>
     cases H with
     | ret r=>
      let#[rfl,h',Y,rfl,G,Υ]:=g;(repeat(any_goals (first | assumption | wp_step)));exact h _ _ G Υ
     | _=>exact g.elim
  | _=>exact hr.elim
theorem ij{Q:AH->AM->Prop}(L:A.handled=none)(N:bY w s.heap a n)
  (O:∀(h':Cb) (g:Tok) (St:Nat->Cb->Prop),(∀b o,s.heap.get? b=!o->h'.get? b=!o)->Walks prog w A s.heap.objs.size [s.heap.objs.size,a] [s.heap.objs.size] 1 (λi v=>[Dy n g][i]?=!v) St->St 0 h'->Q (.ref s.heap.objs.size) { s with heap:=h' }) :
  Ac (AZ prog w) A (NX (.ref a)) Q E s:=by
 let#[m,g,j,P,B]:=N;let C:=fit1 j P (not (w.params.followText "set-order"));let I:ZQ s.heap a [(m,.int n g)].toArray 1 (Rq j (not (w.params.followText "set-order"))):=#[_,B,#[rfl,rfl,rfl],rfl,C];let J:s.TypeIs (.ref a) "set":=#[_,B,rfl];let R:a < s.heap.objs.size:=AX B;refine WO J zb (By zb J V4 ?_ (F.args_set_iter_1 _));unfold Builtin.«frozenset.__iter__» qO slotArgs qR qP;refine AA (AC ?_);refine AA (AA (TC B rfl C (AC ?_)));refine AA (UW I ?_);symm;rw[qY (by show Not ((_&&(false&&_))=true);simp)];refine AA (AC ?_);unfold setEpoch;refine AA (AA (Gx B rfl C (AC ?_)));unfold newFields;refine AA (Be (AC #[_,rfl, "set_iterator",_,#[_,AT _ rfl,rfl],Fe.lookup,?_]) (by size_fits))
 let fin:=λ(sl:Nat->Nat) (S:sl 0=0) (T:Nxt prog w a [(m,.int n g)].toArray 1 (Rq j (not (w.params.followText "set-order"))) (sl 0) 0 (!(.int n g,sl 1))) (U:Nxt prog w a [(m,.int n g)].toArray 1 (Rq j (not (w.params.followText "set-order"))) (sl 1) 1 none)=>
  O _ g _ (λb o e=>AI _ e) (kb L (Ao R) sl [.int n g] rfl (λi x G=>by
   match i,G with
   | 0,G=>cases G;exact T) U) #[by unfold SIt;rw[S];exact AT _ rfl,I.at' λo e=>AI _ e]
 cases H:w.params.followText "set-order" with
 | true=>
  let:=λi=>nA (prog:=prog) (a:=a) (es:=[(m,.int n g)].toArray) (ep:=1) (i:=i) (t:=Rq j (not (w.params.followText "set-order"))) H
  rw[AAk]at this;exact fin (λM=>0) rfl (this 0) (this 1)
 | false=>
  let:=λi sl=>nB (prog:=prog) (a:=a) (es:=[(m,.int n g)].toArray) (ep:=1) (i:=i) (t:=Rq j (not (w.params.followText "set-order"))) H (by rw[H];rfl) (.inl rfl) sl
  refine fin (λi=>if i=0 then 0 else j+1) rfl (this 0 0) ?_;let z:=this 1 (j+1);rw[show zR (Rq j (not (w.params.followText "set-order"))).place (j+1)=1 from zD j]at z;exact z
theorem aD{R:kG->AM->Prop}(hh:A.handled=none)(Y:bY w s.heap a n)(S:AW)(N:S≠a)(res:AH)(hL:s.heap.get? S=some { cls:=.type "list",data:=.seq #[] 0 })
  (hR:∀h' U X J,(∀b o,b≠S->s.heap.get? b=!o->h'.get? b=!o)->h'.get? S=some { cls:=.type "list",dict:=none,data:=.seq [.int n X].toArray J,slots:=#[] }->R (.ok (.ret res)) { s with heap:=h',toks:=U }) :
  Ac (AZ prog w) A.in1 (JE (.ref S) (.ref a) res)
   (λfin s'=>match fin with | .done f=>R (.ok f) s' | .again J=>J.quiet/\Jh (AZ prog w) A J R s') (λe s'=>R (.error e) s') s:=by
 let hT:s.TypeIs (.ref a) "set":=let #[_,_,_,_,Z]:=Y;#[_,Z,rfl]
 let hSl:S < s.heap.objs.size:=AX hL;unfold JE;refine AA (Lg (T:="set") hT ?_)
 let h1:SX (.ref S) (.ref a)=false:=by simp[SX,N]
 simp only[h1,show(Ha "set"==Ha "list")=false by decide,show(Ha "set"==Ha "tuple")=false by decide,vd,C9,if_false];refine AA (ij (A:=A.in1) hh Y λh1 X St L W st=>?_)
 let O:S∉[s.heap.objs.size,a]:=by
  simp only[Am,CB,or_false,not_or];exact#[Ao hSl,N]
 let P:∀(h:Cb) (m U:Nat),St 0 h->(∀b o,b≠S->s.heap.get? b=!o->h.get? b=!o) ->
   h.get? S=some { cls:=.type "list",data:=.seq #[] m }->Jh (AZ prog w) A (.builtin "list.extend.loop" #[[.ref S,.ref s.heap.objs.size,res],[]]) R { s with heap:=h,toks:=U }:=by
  intro h m U hst L g
  refine codeAny_extend_loopS W.toS ∅ S O res 1 0 _ #[] m rfl (DV _) hst g (ItemsOf.nil _) λs' H J hm hS' B=>?_
  rw[Moved.eq_with hm];refine hR s'.heap s'.toks X J (λb o hb e=>hm.heap b o (λC=>?_) (L b o hb e)) ?_
  ·rcases Am.mp C with e' | C
   ·exact hb e'
   ·exact zX (AX e) (by rw[AV.mp C];exact Dm _)
  ·rw[show([Dy n X].toArray:Array AH)=H from ?_]
   ·exact hS'
   ·let z:=B.2 0 (H[0]'(by rw[B.1];decide)) ∅
    refine Array.ext (by rw[B.1];rfl) λi hi hi2=>?_
    let:i=0:=by simp at hi;exact hi
    subst this;simpa using z
 let g:=L S _ hL;refine AA (DT (oC (let #[_,_,_,_,Z]:=Y;#[_,L _ _ Z,rfl]) ?_));refine Za (λM=>?_) (λM=>AC #[IQ WK _,P _ 0 _ st (λb o M e=>L b o e) g]);refine AA (Ph ?_);refine AA ?_;show Ac _ _ (zh S (·.push .none) >>= λM=>zh S (·.pop)) _ _ _;refine AA (QC g rfl ?_);let G:=Db (E5 (·.push D1)) g rfl;refine QC (hz:=by seq_fits) G rfl ?_;let I:=Db (E5 (·.pop)) G rfl;refine AC #[IQ WK _,P _ _ _ ?_ (λb o hb e=>?_) I]
 ·refine W.frame 0 _ _ st λb hb o e=>?_
  let Q:b≠S:=λh=>O (h▸hb)
  exact(CJ _ _ (Cc Q)).trans ((CJ _ _ (Cc Q)).trans e)
 ·exact(CJ _ _ (Cc hb)).trans ((CJ _ _ (Cc hb)).trans (L b o e))
theorem YS{R:¬AH->AM->Prop}(P:A.handled=none)(Q:bY w s.heap a n)
  (h:∀(h':Cb) (i:Nat) (m:Tok),(∀b o,s.heap.get? b=!o->h'.get? b=!o)->R [.int n m] { s with heap:=h',toks:=i }) :
  Ac (AZ prog w) A (collect (.ref a)) R E s:=by
 let#[S,H,j,T,L]:=Q;unfold collect;refine AA (wpAny_runValue (EJ entry_proto_collect' ?_));rw[Dj PySem.F.plain_proto_collect _];show Ac _ A.in1 (newList [] >>= λl=>again (.builtin "list.__iadd__" #[[l,.ref a],[]])) _ _ s;refine AA (Be ?_);refine AC #[IQ Wz _,EJ entry_list_iadd' ?_];rw[Dj Wz _];show Ac _ A.in1 (JE (.ref s.heap.objs.size) (.ref a) (.ref s.heap.objs.size)) _ _ _
 let I:=aD (prog:=prog) (A:=A) (s:={ s with heap:=s.heap.push { cls:=.type "list",data:=.seq ([]:¬AH).toArray } })
  (R:=λ(q:kG) (J:AM)=>∃(h':Cb) (i:Nat) (m:Tok) (B:Nat),q=.ok (.ret (.ref s.heap.objs.size))/\J={ s with heap:=h',toks:=i } /\
   (∀b o,s.heap.get? b=!o->h'.get? b=!o)/\h'.get? s.heap.objs.size=some { cls:=.type "list",dict:=none,data:=.seq [.int n m].toArray B,slots:=#[] })
  P #[S,H,j,T,AI _ L] s.heap.objs.size (Dk (AX L)) (.ref s.heap.objs.size) (AT _ rfl)
  (λh' i m B C g=>#[h',i,m,B,rfl,rfl,λb o e=>C b o (Ao (AX e)) (AI _ e),g])
 refine Dv I (λG J x=>?_) λe J x=>?_
 ·cases G with
  | done f=>
   let#[h',i,m,B,e,rfl,C,g]:=x;cases e;exact AA (vQ g (AC (h h' i m C)))
  | again N=>
   refine#[x.1,GF x.2 λq O y=>?_];let#[h',i,m,B,rfl,rfl,C,g]:=y;exact AA (vQ g (AC (h h' i m C)))
 ·let#[_,_,_,_,U,_]:=x
  cases U
end
end PySem
namespace L2
open Srt
theorem eC{X:Cx}{B:¬(AW×Obj)}{s:AM}{C:St}{H:Hp}{a:AW}{n:Int}{Q:VK}(P:X.calm)(I:Inv X B C H s)(R:bY X.w s.heap a n)
  (q:∀l,H l=none->Q (.ref l) (upd H l (.lst [V.int n]))):Ac (AZ X.prog X.w) X.A (call (.builtin "sorted") [.ref a]) (EP X B C Q) X.xe s:=by
 refine W4 kind_sorted plain_sorted entry_sorted (args_sorted1 _) ?_;unfold Builtin.«sorted»;refine AA (m:=checkCount "sorted" 1 1 _) (AC (AA (YS (A:=X.A.in1) (I.ok.hd P) R λg E i kp=>?_)));let L:Bs [V.int n] [Dy n i]:=.cons #[_,rfl] .nil;refine AA (gq ?_ (show 1<=sizeLine by decide));let G:Inv X B C H { s with heap:=g,toks:=E }:=I.kept (t':=E) kp;let J:(g.push (KB "list" [Dy n i].toArray 0)).get? g.objs.size=!KB "list" [Dy n i].toArray 0:=AT _ rfl;refine AA (DT (By slot_list_sort #[_,J,rfl] entry_list_sort (Srt.PV (f:=rowH H) (vs:=[Dy n i]) J (show 1<=sizeLine by decide) (λS s' keep=>?_) λout T so=>#[_,rfl,AC #[_,rfl,?_]]) (args_list_sort _)))
 ·refine Si (λb U e=>?_) (.inl λv N=>#[n,AV.mp N,by rw[AV.mp N];rfl]:WI H (λv=>[Vb v]) [V.int n]) L S
  let#[_,is,r,o,O,Ϫ,n,Y]:=(show EB X.prog X.w H g b (.tup U)from G.hok b _ e);exact#[is,r,o,keep b o (Ao (AX O)) (AI _ O),Ϫ,n,Y]
 ·let Z:out.toList=[Dy n i]:=iB.mp T
  let#[k,hk]:=sortedHeap_at (out:=out) J
  let I2:=G.laid (a:=g.objs.size) (o:=.lst [V.int n]) (t':=E) (h':=bu (g.push (KB "list" [Dy n i].toArray 0)) g.objs.size [Dy n i] out)
   (λb u z=>by
    let lt:b < g.objs.size:=AX z;rw[sortedHeap_old (Ao lt) (by rw[size_push'];exact Gi lt)]
    exact AI _ z) (AO _) #[show 1<=sizeLine by decide,out.toList,k,by rw[Z];exact L,hk]
  exact#[.ref g.objs.size,_,I2,rfl,q _ (G.hok.fresh (AO _))]
section
variable{X:Cx}{E:EW}{e:Expr}{p p2 pos ϡ:Pos}{m:ME}{te:TE}
def wS(K:AD)(te:TE):TE:=λi H Q=>te i H λx g=>∃q n,x=.ref q/\SqL K g q [V.int n]/\∀l,g l=none->Q (.ref l) (upd g l (.lst [V.int n]))
theorem mX(L:X.calm)(P:Gl X "sorted") (hm:X.mg "sorted" = none) (A:Gl X "set") (B:X.mg "set" = none) (h:PE X e te)
  (N:↑(AR [e] X.env=(false,Bz e X.env) :: AR [] X.env)) (g:↑(AR [.Call (.Name "set" p2) [e] [] ϡ] X.env=(false,Bz (.Call (.Name "set" p2) [e] [] ϡ) X.env) :: AR [] X.env)) :
  PE X (.Call (.Name "sorted" p) [.Call (.Name "set" p2) [e] [] ϡ] [] pos) (wS X.K te):=by
 intro R s S H Q I T;refine Ev (Mt I P hm boot_sorted ?_ ∅ (by rfl));refine PD ?_ g rfl;rw[g];show Ac _ _ (zN ((false,Bz (.Call (.Name "set" p2) [e] [] ϡ) X.env) :: DB pos (AR [] X.env))) _ _ s;refine iG ?_;refine Ev (Mt I A B PyProof.Rows.boot_set ?_ ∅ (by rfl));refine Dp (thn (EV h GX N ϡ R s S H (λC i=>match C with | [x]=>∃q n,x=.ref q/\SqL X.K i q [V.int n]/\∀l,i l=none->Q (.ref l) (upd i l (.lst [V.int n])) | _=>False) I T) ?_) N rfl;rintro us s1 ⟨C,i,O,G,J⟩
 match C,G,J with
 | [x],G,J=>
  let#[q,n,rfl,sq,k]:=J;let#[u,rfl,U]:=vals1 G;cases U;let#[tx,Y,Z,hz]:=O.list sq;let#[v,rfl,tv,rfl]:=vals1 Y
  refine jj (I.ok.hd L) Z.isList λh' tk hS hk=>?_
  refine kB ?_;exact eC L (O.kept λb o e=>hk b o (AX e) e) hS k
def Yp(m:ME):ME:=λe S=>m e S*>λd g=>match atL d g with
 | some (_,[.int n])=>.ok (.ref (-g)) (g++[.lst [.int n]])
 | _=>.bad
set_option tactic.hygienic true in
theorem oM(J:X.calm)(L:Gl X "sorted") (hm:X.mg "sorted" = none) (s:Gl X "set") (A:X.mg "set" = none) (h:GE X E e m)
  (N:↑(AR [e] X.env=(false,Bz e X.env) :: AR [] X.env)) (B:↑(AR [.Call (.Name "set" p2) [e] [] ϡ] X.env=(false,Bz (.Call (.Name "set" p2) [e] [] ϡ) X.env) :: AR [] X.env)) :
  GE X E (.Call (.Name "sorted" p) [.Call (.Name "set" p2) [e] [] ϡ] [] pos) (Yp m):=(mX J L hm s A h N B).imp<|by
 rintro σ H Q ⟨O,l,S,P,R,hm⟩
 refine#[O,l,S,P,R,hm.seq λd S1 hm g G x T I U=>?_];split at hm
 ·rename_i k n Y
  obtain⟨-,-,a,Z,rfl,-,e,rr⟩:=SS I U Y
  cases rr with
  | cons r t=>
   cases r;cases t
   refine#[a,n,rfl,.inl (.inl e),λl i=>?_];let le:Le X.K g G (g++[l]) (upd G l (.lst [V.int n])):=Le.alloc i;let#[s4,l4,C]:=I.alloc (ho:=.lst [V.int n]) (o:=.lst [D.int n]) i #[_,Bv,Au.of_ints [n]];exact hm _ _ _ (T.trans l4) s4 (.ref C)
 ·exact hm.elim
end
end L2
namespace PySem
open PySem.Sem (wp)
theorem Xd{prog:BP}{w:Bx}{A:Bq}{E:AH->AM->Prop}{s:AM}{x:AH}{Q:AH->AM->Prop}
  (h:Ac (AZ prog w) A.in1 (NX x) (λit g=>∃z fp wr P i,it=.ref z/\Walks prog w A.in1 z fp wr 1 P i/\i 0 g.heap/\(∀b∈fp,b < g.heap.objs.size) /\
   ∀v h' H,P 0 v->(∀b o,b∉wr->g.heap.get? b=!o->h'.get? b=!o)->Q v { g with heap:=h',toks:=H }) E s):Ac (AZ prog w) A (call (.builtin "min") [x]) Q E s:=by
 let I:(toString "min"++toString ".loop" : String) = "min.loop":=by decide
 refine call_function_tree F.kind_min F.plain_min F.entry_min (F.args_min1 _) ?_;refine(AA (NV (rfl) ?_));refine AA (AC (AA (Dv h (λit g J=>?_) λM M e=>e)));let#[z,fp,wr,P,i,rfl,W,st,X,k]:=J
 let L:g.heap.objs.size∉fp:=λq=>Dm _ (X _ q)
 let N:g.heap.objs.size∉wr:=λq=>L (W.sub _ q)
 refine AA (Be ?_);rw[I];refine AC #[IQ Nd _,?_];refine EJ vc ?_;rw[Dj Nd _];refine(AA (RW (AT _ rfl) rfl ?_));refine(AA (wpAny_tryCatch (W.item 0 _ _ _ (by ext) (W.frame _ _ _ st λb M o e=>AI _ e) λy h1 H Y C O=>?_)));let m:=O _ _ N (AT _ rfl);refine(show Ac _ A.in1 (zh g.heap.objs.size (λM=>[y,y].toArray) >>= _) _ _ _ from AA (QC m rfl ?_));rw[I];let B:=Db (E5 λM=>[y,y].toArray) m rfl;refine AC #[IQ Nd _,?_];refine EJ vc ?_;rw[Dj Nd _];refine(AA (RW B rfl ?_));refine(AA (wpAny_tryCatch (W.done _ _ _ (W.frame _ _ _ C λb q o Z=>(CJ _ _ λh:g.heap.objs.size=b=>L (by rw[h];exact q)).trans Z) λJ G R=>?_)));refine(AA (QC (R _ _ N B) rfl (AA (wpAny_letGo (AC ?_)))))
 refine k y _ G Y λb o S T=>?_
 let U:=Dk (AX T);exact(CJ _ _ U).trans (R b o S ((CJ _ _ U).trans (O b o S (AI _ T))))
end PySem
namespace L2
section
variable{X:Cx}{E:EW}{e:Expr}{p pos:Pos}{m:ME}
noncomputable def Xc(ds:¬D)(S:Sto):Res D:=match ds with
 | [d]=>.ok d S
 | _=>.bad
def u5(K:AD):¬V->Hp->VK->Prop:=λg H Q=>∃a v,g=[.ref a]/\(SqL K H a [v]∨SqT K H a [v])/\Q v H
theorem jk(R:X.calm):Jb X (.builtin "min") (u5 X.K):=by
 intro S s T H xs us Q I r h;let#[a,v,rfl,sq,q]:=h;let#[u,rfl,U]:=vals1 r;cases U;let P:=I.ok.hd R
 let fin:∀(y x:AH) (g:Cb) (C:Nat),RelV v y->([y].toArray)[0]?=!x->(∀b o,s.heap.get? b=!o->g.get? b=!o)->EP X S T Q x { s with heap:=g,toks:=C }:=λy x g C G J L=>by
  let:y=x:=by simpa using J
  subst this;exact#[_,H,I.kept L,G,q]
 rcases sq with sq | sq
 ·let#[Y,G,N,Z]:=I.list sq
  let#[y,rfl,i]:=vals1 G
  let O:a < s.heap.objs.size:=by let#[o,q,_]:=N.isList;exact AX q
  refine Xd (Jf N.isList ?_);exact#[_,_,_,_,_,rfl,g7 (A:=X.A.in1) P _ a (Ao O) [y].toArray,#[#[_,AT _ rfl,rfl,rfl],N.isList.push _],vG O,λx g C J L=>fin y x g C i J (ff L)]
 ·let#[Y,G,N,Z]:=I.tuple sq
  let#[y,rfl,i]:=vals1 G;let B:s.heap.IsTuple a [y].toArray:=N
  let O:a < s.heap.objs.size:=by let#[o,q,_]:=B;exact AX q
  refine Xd (MQ B ?_);exact#[_,_,_,_,_,rfl,zS (A:=X.A.in1) P _ a (Ao O) [y].toArray,#[#[_,AT _ rfl,rfl,rfl],B.push _],vG O,λx g C J L=>fin y x g C i J (ff L)]
theorem rZ:ue X.K (u5 X.K) Xc:=λg H S G q I d J Q i o sq hm k=>by
 cases o with
 | nil=>cases hm
 | cons s A=>
  cases A with
  | nil=>
   injection hm with B C
   subst B C;exact#[q,_,rfl,sq,k g H _ .refl i s]
  | cons _ _=>exact zX hm (by unfold Xc;intro h;cases h)
theorem tZ(s:X.A.units+64 < Ef)(g:X.calm)(i:Gl X "min") (hm:X.mg "min" = none) (h:GE X E e m) (o:↑(AR [e] X.env=(false,Bz e X.env) :: AR [] X.env)):GE X E (.Call (.Name "min" p) [e] [] pos) (mQ Xc (Vf m)):=
 Yy (jk g) rZ i hm UN (oG h) ∅ (by rfl) o
end
section
variable{X:Cx}{E:EW}{e:Expr}{elts:¬Expr}{x1:Nat}{p pos ptg:Pos}{m:ME}{k:Nat}
def Hy(m:ME):MI:=λe S=>m e S*>λd g=>match Hj d g with
 | some _=>.ok (QS (Hj d)) g
 | none=>.bad
theorem Vr(A:Gl X "enumerate") (hm:X.mg "enumerate" = none) (h:GE X E e m) (g:↑(AR [e] X.env=[(false,Bz e X.env)])):GI X E (.Tuple elts x1 ptg) (.Call (.Name "enumerate" p) [e] [] pos) (Hy m):=
 vE (k:=0) (λB C s G H R I h=>Call_ (Mt I A hm boot_enumerate (Dp (thn (B pos C s G H _ I h)<|by
  rintro S T ⟨U,Y,o,J,L⟩
  let#[a,rfl,#[Z,sq],q]:=L;let#[u,rfl,N]:=vals1 J;cases N;let#[tx,rv,O]:=(o.sqB sq).1
  exact call_enumerate_list O λh' g i P Q=>Xq rfl o sq g i Q q) g rfl))) h g
end
end L2
namespace M
open L2
noncomputable def top(i:Nat):CY:=vY.main.body.getD i (.Pass #[0,0,0,0])
structure Wd where
 Web:AW
 Field:AW
 Desk:AW
def Wd.excs(W:Wd):¬AW:=[]
abbrev Nv:CY:=top 12
abbrev Nq:CY:=top 13
abbrev U2:CY:=FR (top 11) 0
abbrev XN:CY:=top 28
abbrev Lz:CY:=top 36
abbrev Uy:CY:=top 37
abbrev Sa:CY:=top 38
abbrev Kq:CY:=top 14
abbrev lw:CY:=top 15
abbrev Uw:CY:=top 17
abbrev XQ:CY:=top 18
abbrev SZ:CY:=top 26
abbrev IY:CY:=FR (top 40) 3
abbrev Ux:CY:=top 20
abbrev lz:CY:=top 21
abbrev IZ:CY:=FR (top 40) 4
abbrev Qg:CY:=FR (top 40) 0
abbrev Se:CY:=FR (top 73) 0
abbrev XO:CY:=top 19
abbrev Qc:CY:=top 22
abbrev Qd:CY:=top 23
abbrev L0:CY:=top 25
abbrev PP:CY:=FR (top 40) 1
abbrev Ny:CY:=FR (top 40) 2
abbrev Nz:CY:=FR (top 40) 5
abbrev JU:CY:=FR (top 40) 6
abbrev PN:CY:=top 42
abbrev aF:CY:=top 41
abbrev Nt:CY:=top 43
abbrev Nu:CY:=top 54
abbrev Sb:CY:=top 64
abbrev L1:CY:=top 65
abbrev aE:CY:=top 66
abbrev XM:CY:=top 71
abbrev Sg:CY:=FR (top 73) 4
abbrev Sf:CY:=FR (top 73) 5
abbrev L3:CY:=FR (top 73) 6
abbrev PM:CY:=top 72
abbrev KH:CY:=FR (top 73) 3
abbrev Kr:CY:=FR (top 73) 2
abbrev Qh:CY:=FR (top 73) 1
abbrev Uz:CY:=top 70
abbrev Nx:CY:=top 75
abbrev Qe:CY:=top 77
abbrev U0:CY:=top 78
abbrev Sd:CY:=top 79
abbrev NG:CY:=top 80
abbrev ly:CY:=top 81
def WD(W:Wd):MS:=
  (As (Bb 2 SE)
  (As (FG (EO (AB 1)) (JT 2 (Cw (tgN 3) (Cw (tgN 4) Ju)))
  (As (Bb 5 (Hd (AK (mQ Qv (AK (AB 3) (AK (AB 4) Ax))) (AK (mQ Sq (AK (AB 3) (AK (AB 4) Ax))) Ax))))
  (As (sIf (mB (m2 (eqD false) (m2 ixA (AB 5) (mC (.int 0))) (m2 ixA (AB 5) (mC (.int 1))))) N0 sNx)
  (As (sIf (mOr (mB (m2 ltD (m2 ixA (AB 5) (mC (.int 0))) (mC (.int 0)))) (mB (m2 geD (m2 ixA (AB 5) (mC (.int 1))) (AB 0)))) N0 sNx)
  (As (sIf (mB (m2 (inA false) (AB 5) (AB 2))) N0 sNx)
  (Cr (AB 2) (AB 5) (mC (.bl true))))))))
  (CO (HJ (Hv (AB 2))))))
def ID(W:Wd):¬D->Sto->Res D:=DH 6 (WD W)
def OP(W:Wd):MS:=
  (As (Bb 2 (ED (En 1 (iR1 (AK (AB 0) Ax)) (tgN 0) HA (ED (Dg Ax)))))
  (As (FG (EO (AB 1)) (JT 2 (Cw (tgN 3) (Cw (tgN 4) Ju)))
  (As (FJ (LR (m2 ixA (AB 2) (AB 3)) (AB 4)))
  (FJ (LR (m2 ixA (AB 2) (AB 4)) (AB 3)))))
  (CO (HJ (ED (En 1 (EO (AB 2)) (tgN 0) HA (HJ (Hv (AB 0)))))))))
def IB(W:Wd):¬D->Sto->Res D:=DH 5 (OP W)
def WF(W:Wd):MS:=
  (As (sIf (NR (mB (m3 leD leD (mC (.int 1)) (AB 1) (mC (.int 60))))) N0 sNx)
  (As (JV W.Web "places" (AB 0) (AB 1))
  (As (JV W.Web "ties" (AB 0) (Bg 2 (ID W) (AK (AB 1) (AK (AB 2) Ax))))
  (JV W.Web "near_sets" (AB 0) (Bg 2 (IB W) (AK (AB 1) (AK (CD W.Web "ties" (AB 0)) Ax)))))))
def M5(W:Wd):¬D->Sto->Res D:=DH 3 (WF W)
def Xx(W:Wd):MS:=
  (As (Bb 2 (ED (Dg (AK (Hd Ax) Ax))))
  (As (FG (iR1 (AK (AB 1) Ax)) (tgN 3)
  (As (Bb 4 (ED (Dg Ax)))
  (As (FG (EO (AB 2)) (tgN 5)
  (As (Bb 6 (Yq (G6 (AB 5)) (m2 JB (m2 ixA (AB 5) (Wn (mC (.int 1)))) (mC (.int 1))) (mC (.int 0))))
  (FG (iR2 (AK (AB 6) (AK (m2 JB (m2 JB (m2 Z4 (AB 0) (AB 1)) (AB 3)) (mC (.int 1))) Ax))) (tgN 7)
  (FJ (LR (AB 4) (m2 JB (AB 5) (Hd (AK (AB 7) Ax))))))))
  (Bb 2 (AB 4)))))
  (CO (AB 2))))
def SM(W:Wd):¬D->Sto->Res D:=DH 8 (Xx W)
def MH(W:Wd):MS:=
  (As (Bb 2 (mC (.int 1)))
  (As (FG (iR1 (AK (AB 1) Ax)) (tgN 3)
  (Bb 2 (m2 JY (m2 ai (AB 2) (m2 Z4 (AB 0) (AB 3))) (m2 JB (AB 3) (mC (.int 1))))))
  (CO (AB 2))))
def Iy(W:Wd):¬D->Sto->Res D:=DH 4 (MH W)
def WC(W:Wd):MS:=
  (As (sIf (NR (mB (m3 leD leD (mC (.int 1)) (AB 1) (CD W.Web "places" (AB 0))))) N0 sNx)
  (CO (Bg 2 (Iy W) (AK (CD W.Web "places" (AB 0)) (AK (AB 1) Ax)))))
def P0(W:Wd):¬D->Sto->Res D:=DH 2 (WC W)
def S7(W:Wd):MS:=
  (As (sIf (mB (m2 gtD (Bg 2 (P0 W) (AK (AB 0) (AK (AB 1) Ax))) (mC (.int 400)))) N0 sNx)
  (CO (Bg 2 (SM W) (AK (CD W.Web "places" (AB 0)) (AK (AB 1) Ax)))))
def Kx(W:Wd):¬D->Sto->Res D:=DH 2 (S7 W)
def K0(W:Wd):MS:=
  (sIf (NR (mB (m3 leD ltD (mC (.int 0)) (AB 1) (CD W.Web "places" (AB 0))))) N0 sNx)
def IA(W:Wd):¬D->Sto->Res D:=DH 2 (K0 W)
def pM(W:Wd):MS:=
  (As (FJ (Bg 2 (IA W) (AK (AB 0) (AK (AB 1) Ax))))
  (CO (m2 ixA (CD W.Web "near_sets" (AB 0)) (AB 1))))
def dh(W:Wd):¬D->Sto->Res D:=DH 2 (pM W)
def WB(W:Wd):MS:=
  (CO (ED (En 1 (iR1 (AK (CD W.Web "places" (AB 0)) Ax)) (tgN 0) HA (HJ (Hv (m2 JB (Hd (AK (AB 0) Ax)) (Bg 2 (dh W) (AK (AB 1) (AK (AB 0) Ax)))))))))
def M0(W:Wd):¬D->Sto->Res D:=DH 1 (WB W)
def Xz(W:Wd):MS:=
  (As (Bb 1 (mC (.int 0)))
  (As (FG (EO (AB 0)) (tgN 2)
  (U6 1 (λa b=>Cp a b) (m2 Rt (mC (.int 1)) (AB 2))))
  (CO (AB 1))))
def SN(W:Wd):¬D->Sto->Res D:=DH 3 (Xz W)
def Sz(W:Wd):MS:=
  (CO (HJ (ED (En 1 (EO (AB 0)) (tgN 0) HA (Yq (mB (m2 (eqD false) (AB 0) (AB 2))) (AB 3) (AB 0))))))
def OG(W:Wd):¬D->Sto->Res D:=DH 3 (Sz W)
def Ib(W:Wd):MS:=
  (As (Bb 2 (m2 ixA (CD W.Field "everything" (AB 0)) (AB 1)))
  (As (Bb 3 (mC (.int 0)))
  (As (FG (EO (AB 2)) (tgN 4)
  (FG (EO (m2 ixA (CD W.Field "takes" (AB 0)) (AB 4))) (tgN 5)
  (sIf (mB (m2 (inA true) (AB 5) (AB 2))) (U6 3 (λa b=>Cp a b) (m2 Rt (mC (.int 1)) (m2 ixA (CD W.Field "numbers" (AB 0)) (HJ (Hv (Bg 3 (OG W) (AK (AB 2) (AK (AB 4) (AK (AB 5) Ax))))))))) sNx)))
  (CO (AB 3)))))
def DQ(W:Wd):¬D->Sto->Res D:=DH 6 (Ib W)
def pL(W:Wd)(g:¬D->Sto->Res D):MS:=
  (As (Bb 5 (ED (En 1 (EO (m2 ixA (AB 0) (AB 3))) (tgN 0) (OC (G6 (m2 Td (m2 aB (AB 2) (AB 0)) (mC (.int 1)))) (mB (m2 (inA true) (AB 0) (AB 5)))) (AB 0))))
  (As (FG (EO (AB 5)) (tgN 6)
  (sIf (mB (m2 (inA true) (AB 6) (AB 2))) (As (Cr (AB 2) (AB 6) (AB 3))
  (CO (mC (.bl true)))) sNx))
  (As (FG (EO (AB 5)) (tgN 6)
  (sIf (mB (m2 (inA true) (AB 6) (AB 4))) (As (Cr (AB 4) (AB 6) (mC (.bl true)))
  (sIf (G6 (Bg 5 g (AK (AB 0) (AK (AB 1) (AK (AB 2) (AK (m2 ixA (AB 2) (AB 6)) (AK (AB 4) Ax))))))) (As (Cr (AB 2) (AB 6) (AB 3))
  (CO (mC (.bl true)))) sNx)) sNx))
  (CO (mC (.bl false))))))
def OH(W:Wd):Nat->¬D->Sto->Res D
 | 0=>λz z=>.bad
 | n+1=>DH 7 (pL W (OH W n))
def zE(W:Wd):MS:=
  (As (Bb 3 Iu)
  (As (FG (EO (AB 1)) (tgN 4)
  (sIf (G6 (m2 Td (m2 aB (AB 2) (AB 4)) (mC (.int 1)))) (Cr (AB 3) (AB 4) (AB 4)) sNx))
  (As (FG (EO (AB 1)) (tgN 4)
  (sIf (OC (NR (G6 (m2 Td (m2 aB (AB 2) (AB 4)) (mC (.int 1))))) (NR (G6 (Bg 5 (OH W 1) (AK (AB 0) (AK (AB 2) (AK (AB 3) (AK (AB 4) (AK Iu Ax))))))))) (CO (mC (.bl false))) sNx))
  (CO (mC (.bl true))))))
def V0(W:Wd):¬D->Sto->Res D:=DH 5 (zE W)
def Ic(W:Wd):MS:=
  (As (Bb 2 (m2 ixA (CD W.Field "everything" (AB 0)) (AB 1)))
  (As (Bb 3 (mC (.int 0)))
  (As (FG (Hy (CD W.Field "place_bits" (AB 0))) (JT 2 (Cw (tgN 4) (Cw (tgN 5) Ju)))
  (sIf (G6 (Bg 3 (V0 W) (AK (CD W.Field "takes" (AB 0)) (AK (AB 2) (AK (AB 5) Ax))))) (U6 3 (λa b=>Cp a b) (m2 Rt (mC (.int 1)) (AB 4))) sNx))
  (CO (AB 3)))))
def DR(W:Wd):¬D->Sto->Res D:=DH 6 (Ic W)
def RN(W:Wd):MS:=
  (As (JV W.Field "everything" (AB 0) (Bg 2 (Kx W) (AK (AB 1) (AK (AB 2) Ax))))
  (As (JV W.Field "kind" (AB 0) (AB 3))
  (As (JV W.Field "takes" (AB 0) (Bg 1 (M0 W) (AK (AB 1) Ax)))
  (As (JV W.Field "numbers" (AB 0) SE)
  (As (JV W.Field "having" (AB 0) (ED (En 1 (iR1 (AK (CD W.Web "places" (AB 1)) Ax)) (tgN 0) HA (mC (.int 0)))))
  (As (FG (Hy (CD W.Field "everything" (AB 0))) (JT 2 (Cw (tgN 4) (Cw (tgN 5) Ju)))
  (As (Cr (CD W.Field "numbers" (AB 0)) (AB 5) (AB 4))
  (FG (EO (AB 5)) (tgN 6)
  (aG (λa b=>Cp a b) (CD W.Field "having" (AB 0)) (AB 6) (m2 Rt (mC (.int 1)) (AB 4))))))
  (As (JV W.Field "place_bits" (AB 0) (ED (En 1 (EO (CD W.Field "everything" (AB 0))) (tgN 0) HA (Bg 1 (SN W) (AK (AB 0) Ax)))))
  (JV W.Field "known" (AB 0) Iu))))))))
def LU(W:Wd):¬D->Sto->Res D:=DH 7 (RN W)
def LM(W:Wd)(ds:¬D)(S:Sto)(k:Key):Int:=match ds,k with
 | .ref q :: _,.inl n=>lmI (if ym "kind" q S=!("one" : Str)then DQ W [.ref q,.int n] S else DR W [.ref q,.int n] S)
 | _,_=>0
def IF(W:Wd):¬D->Sto->Res D:=tD "known" (LM W) (LU W)
def TB(W:Wd):MS:=
  (As (JV W.Desk "web" (AB 0) (AB 1))
  (As (JV W.Desk "replies" (AB 0) Iu)
  (JV W.Desk "duels" (AB 0) SE)))
def Ky(W:Wd):¬D->Sto->Res D:=DH 2 (TB W)
def Xy(W:Wd):MS:=
  (As (Bb 1 (ED (Dg Ax)))
  (As (Bb 2 (AB 0))
  (As (Jl (G6 (AB 2)) (As (FJ (LR (AB 1) (m2 Z4 (fv (m2 Td (AB 2) (Wn (AB 2)))) (mC (.int 1)))))
  (U6 2 (λa b=>BR a b) (m2 Z4 (AB 2) (mC (.int 1))))) wN)
  (CO (AB 1)))))
def MF(W:Wd):¬D->Sto->Res D:=DH 3 (Xy W)
def RK(W:Wd):MS:=
  (As (FG (EO (m2 ixA (AB 0) (AB 1))) (tgN 4)
  (As (Bb 5 (m2 Rt (mC (.int 1)) (AB 4)))
  (As (Bb 6 (ED (En 1 (EO (AB 3)) (tgN 0) (G6 (m2 Td (AB 0) (AB 6))) (m2 vh (AB 0) (AB 6)))))
  (FG (Hy (AB 6)) (JT 2 (Cw (tgN 7) (Cw (tgN 8) Ju)))
  (sIf (G6 (Bg 3 (V0 W) (AK (AB 0) (AK (AB 2) (AK (AB 8) Ax))))) (CO (Hd (AK (AB 4) (AK (FA (AB 6) (Gb (AB 7)) Ia) Ax)))) sNx)))))
  (CO (mC .non)))
def M1(W:Wd):¬D->Sto->Res D:=DH 9 (RK W)
def RL(W:Wd):MS:=
  (As (Bb 3 (ED (Dg Ax)))
  (As (Bb 4 (AB 2))
  (As (FG (UE (AB 1)) (JT 2 (Cw (tgN 5) (Cw (tgN 6) Ju)))
  (As (Bb 7 (Bg 4 (M1 W) (AK (AB 0) (AK (AB 6) (AK (Tw (AB 1) (Gb (AB 5)) Ia) (AK (AB 4) Ax))))))
  (As (sIf (mB (m2 (Q6 false) (AB 7) (mC .non))) (CO (mC .non)) sNx)
  (As (FJ (LR (AB 3) (m2 ixA (AB 7) (mC (.int 0)))))
  (Bb 4 (m2 ixA (AB 7) (mC (.int 1))))))))
  (CO (HJ (AB 3))))))
def M2(W:Wd):¬D->Sto->Res D:=DH 8 (RL W)
def MK(W:Wd):MS:=
  (sIf (mOr (NR (mB (m3 leD ltD (mC (.int 0)) (AB 2) (CD W.Web "places" (AB 0))))) (mB (m2 (inA false) (AB 2) (AB 1)))) N0 sNx)
def FD(W:Wd):¬D->Sto->Res D:=DH 3 (MK W)
def Pc(W:Wd):MS:=
  (As (Bb 2 (m2 ixA (CD W.Field "everything" (AB 0)) (AB 1)))
  (CO (ED (En 1 (iR1 (AK (JW (CD W.Field "takes" (AB 0))) Ax)) (tgN 0) (mB (m2 (inA true) (AB 0) (AB 3))) (AB 0)))))
def LS(W:Wd):¬D->Sto->Res D:=DH 3 (Pc W)
def Ke(W:Wd):MS:=
  (As (sIf (mB (m2 (inA true) (AB 1) (CD W.Field "known" (AB 0)))) (Cr (CD W.Field "known" (AB 0)) (AB 1) (Yq (mB (m2 (eqD false) (CD W.Field "kind" (AB 0)) (mC (.str "one")))) (E1 W.Field "linked_by_one" 2 (DQ W) (AB 0) (AK (AB 1) Ax)) (E1 W.Field "linked_by_all" 2 (DR W) (AB 0) (AK (AB 1) Ax)))) sNx)
  (CO (m2 ixA (CD W.Field "known" (AB 0)) (AB 1))))
def Jq(W:Wd):¬D->Sto->Res D:=DH 2 (Ke W)
def IE(W:Wd):¬D->Sto->Res D:=ud "known" (Jq W)
def OT(W:Wd):MS:=
  (CO (m2 Td (E1 W.Field "linked" 2 (IE W) (AB 0) (AK (AB 1) Ax)) (m2 ixA (CD W.Field "having" (AB 0)) (AB 2))))
def IG(W:Wd):¬D->Sto->Res D:=DH 3 (OT W)
def JZ(W:Wd):MS:=
  (As (Bb 4 (m2 ixA (CD W.Field "everything" (AB 0)) (AB 1)))
  (As (sIf (mB (m2 (eqD false) (CD W.Field "kind" (AB 0)) (mC (.str "all")))) (CO (Bg 3 (M2 W) (AK (CD W.Field "takes" (AB 0)) (AK (AB 4) (AK (ED (En 1 (EO (Bg 1 (MF W) (AK (AB 3) Ax))) (tgN 0) HA (m2 ixA (CD W.Field "place_bits" (AB 1)) (AB 0)))) Ax))))) sNx)
  (As (Bb 5 (ED (Dg Ax)))
  (As (FG (EO (Bg 1 (MF W) (AK (AB 3) Ax))) (tgN 6)
  (FJ (LR (AB 5) (HJ (ED (En 1 (EO (AB 4)) (tgN 0) HA (Yq (mB (m2 (inA false) (AB 0) (m2 ixA (CD W.Field "everything" (AB 1)) (AB 7)))) (AB 0) (AB 3))))))))
  (CO (mQ Xc (Vf (AB 5))))))))
def Gf(W:Wd):¬D->Sto->Res D:=DH 7 (JZ W)
def Pb(W:Wd):MS:=
  (As (Bb 2 Iu)
  (As (FG (EO (Bg 1 (MF W) (AK (AB 1) Ax))) (tgN 3)
  (As (Bb 4 (ED (En 1 (EO (E1 W.Field "calls" 2 (LS W) (AB 0) (AK (AB 3) Ax))) (tgN 0) (mB (m2 (eqD false) (m2 Td (E1 W.Field "behind" 3 (IG W) (AB 1) (AK (AB 4) (AK (AB 0) Ax))) (AB 2)) (mC (.int 0)))) (AB 0))))
  (sIf (G6 (AB 4)) (Cr (AB 2) (AB 3) (m2 ixA (AB 4) (mC (.int 0)))) sNx)))
  (CO (AB 2))))
def JM(W:Wd):¬D->Sto->Res D:=DH 5 (Pb W)
def bT(W:Wd):MS:=
  (As (Bb 1 Iu)
  (As (Bb 2 (m2 Z4 (m2 Rt (mC (.int 1)) (JW (CD W.Field "everything" (AB 0)))) (mC (.int 1))))
  (As (Bb 3 (mC (.int 1)))
  (As (Bb 4 (Bg 2 (JM W) (AK (AB 0) (AK (AB 2) Ax))))
  (As (Jl (G6 (AB 4)) (As (As (sFz 4) (FG (gM (AB 4)) (tgN 5)
  (As (Cr (AB 1) (AB 5) (Hd (AK (AB 3) (AK (m2 ixA (AB 4) (AB 5)) Ax))))
  (U6 2 (λa b=>Co a b) (m2 Rt (mC (.int 1)) (AB 5))))))
  (As (U6 3 (λa b=>a+b) (mC (.int 1)))
  (Bb 4 (Bg 2 (JM W) (AK (AB 0) (AK (AB 2) Ax)))))) wN)
  (CO (AB 1)))))))
def OI(W:Wd):¬D->Sto->Res D:=DH 6 (bT W)
def OQ(W:Wd):MS:=
  (CO (tF (ED (En 1 (iR1 (AK (JW (CD W.Field "everything" (AB 0))) Ax)) (tgN 0) (mB (m2 (inA true) (AB 0) (AB 2))) (m2 Rt (mC (.int 1)) (AB 0))))))
def IC(W:Wd):¬D->Sto->Res D:=DH 2 (OQ W)
def OR(W:Wd):MS:=
  (CO (E1 W.Field "first_answer" 4 (Gf W) (AB 0) (AK (AB 1) (AK (AB 2) (AK (m2 Td (E1 W.Field "behind" 3 (IG W) (AB 0) (AK (AB 1) (AK (AB 2) Ax))) (AB 3)) Ax)))))
def Ge(W:Wd):¬D->Sto->Res D:=DH 4 (OR W)
def S8(W:Wd):MS:=
  (As (sIf (mOr (NR (mB (m3 leD leD (mC (.int 1)) (au (AB 0)) (mC (.int 2))))) (NR (mB (mQ uY (Vf (ED (En 1 (gK (AB 0)) (tgN 0) HA (m2 (inS false) (AB 0) (mC (.str "0123456789")))))))))) (CO (mC .non)) sNx)
  (As (sIf (OC (mB (m2 gtD (au (AB 0)) (mC (.int 1)))) (mB (m2 (eqD false) (m2 ixS (AB 0) (mC (.int 0))) (mC (.str "0"))))) (CO (mC .non)) sNx)
  (CO (fq (AB 0)))))
def FL(W:Wd):¬D->Sto->Res D:=DH 1 (S8 W)
def MM(W:Wd):MS:=
  (As (Bb 3 (Hu (AB 0) (mC (.str " "))))
  (As (Bb 4 (ED (En 1 (EO (FA (AB 3) (Gb (mC (.int 1))) Ia)) (tgN 0) HA (Bg 1 (FL W) (AK (AB 0) Ax)))))
  (As (sIf (mOr (mB (m2 (eqD true) (m2 ixA (AB 3) (mC (.int 0))) (AB 1))) (mOr (mB (m2 (eqD true) (JW (AB 4)) (AB 2))) (mB (m2 (inA false) (mC .non) (AB 4))))) (CO (mC .non)) sNx)
  (CO (AB 4)))))
def FE(W:Wd):¬D->Sto->Res D:=DH 5 (MM W)
def bS(W:Wd):MS:=
  (As (Bb 1 (Hu (AB 0) (mC (.str "\n"))))
  (As (Bb 2 (Bg 3 (FE W) (AK (m2 ixA (AB 1) (mC (.int 0))) (AK (mC (.str "places")) (AK (mC (.int 1)) Ax)))))
  (As (sIf (mOr (mB (m2 (Q6 false) (AB 2) (mC .non))) (NR (mB (m3 leD leD (mC (.int 1)) (m2 ixA (AB 2) (mC (.int 0))) (mC (.int 60)))))) N0 sNx)
  (As (Bb 3 (ED (Dg (AK (Hd (AK (Wn (mC (.int 1))) (AK (Wn (mC (.int 1))) Ax))) Ax))))
  (As (FG (UD (FA (AB 1) (Gb (mC (.int 1))) Ia)) (JT 2 (Cw (tgN 4) (Cw (tgN 5) Ju)))
  (As (Bb 6 (Bg 3 (FE W) (AK (AB 5) (AK (mC (.str "tie")) (AK (mC (.int 2)) Ax)))))
  (As (sIf (mOr (mB (m2 (Q6 false) (AB 6) (mC .non))) (mOr (NR (mB (m3 ltD ltD (m2 ixA (AB 6) (mC (.int 0))) (m2 ixA (AB 6) (mC (.int 1))) (m2 ixA (AB 2) (mC (.int 0)))))) (NR (mB (m2 ltT (m2 ixA (AB 3) (Wn (mC (.int 1)))) (HJ (AB 6))))))) N0 sNx)
  (FJ (LR (AB 3) (HJ (AB 6)))))))
  (CO (PU W.Web 3 (M5 W) (AK (m2 ixA (AB 2) (mC (.int 0))) (AK (FA (AB 3) (Gb (mC (.int 1))) Ia) Ax)))))))))
def MD(W:Wd):¬D->Sto->Res D:=DH 7 (bS W)
def Xw(W:Wd):MS:=
  (CO (Mr (mC (.str " ")) (ED (En 1 (EO (AB 0)) (tgN 0) HA (L5 (AB 0))))))
def J9(W:Wd):¬D->Sto->Res D:=DH 1 (Xw W)
def Ja(W:Wd):MS:=
  (As (sIf (mB (m2 (inA true) (Hd (AK (AB 1) (AK (AB 2) Ax))) (CD W.Desk "duels" (AB 0)))) (As (Bb 3 (PU W.Field 4 (IF W) (AK (CD W.Desk "web" (AB 0)) (AK (AB 2) (AK (AB 1) Ax)))))
  (Cr (CD W.Desk "duels" (AB 0)) (Hd (AK (AB 1) (AK (AB 2) Ax))) (Hd (AK (AB 3) (AK (Bg 1 (OI W) (AK (AB 3) Ax)) Ax))))) sNx)
  (CO (m2 ixA (CD W.Desk "duels" (AB 0)) (Hd (AK (AB 1) (AK (AB 2) Ax))))))
def HV(W:Wd):¬D->Sto->Res D:=DH 4 (Ja W)
def OU(W:Wd):MS:=
  (As (Bb 3 (E1 W.Desk "duel" 3 (HV W) (AB 0) (AK (AB 1) (AK (JW (AB 2)) Ax))))
  (As (Bb 4 (m2 ixA (CD W.Field "numbers" (m2 ixA (AB 3) (mC (.int 0)))) (AB 2)))
  (As (sIf (mB (m2 (inA true) (AB 4) (m2 ixA (AB 3) (mC (.int 1))))) (CO (mC (.str "lasts"))) sNx)
  (As (Bb 5 (m2 ixA (m2 ixA (m2 ixA (AB 3) (mC (.int 1))) (AB 4)) (mC (.int 0))))
  (As (Bb 6 (m2 ixA (m2 ixA (m2 ixA (AB 3) (mC (.int 1))) (AB 4)) (mC (.int 1))))
  (CO (fo (L8 (mC (.str "falls in round ")) (L8 (av (AB 5)) (L8 (mC (.str " at ")) (L8 (av (AB 6)) dY)))))))))))
def OK(W:Wd):¬D->Sto->Res D:=DH 7 (OU W)
def FF(W:Wd):MS:=
  (As (FJ (Bg 3 (FD W) (AK (CD W.Desk "web" (AB 0)) (AK (AB 3) (AK (AB 2) Ax)))))
  (As (Bb 4 (E1 W.Desk "duel" 3 (HV W) (AB 0) (AK (AB 1) (AK (JW (AB 3)) Ax))))
  (As (Bb 5 (m2 ixA (CD W.Field "numbers" (m2 ixA (AB 4) (mC (.int 0)))) (AB 3)))
  (As (sIf (mB (m2 (inA false) (AB 5) (m2 ixA (AB 4) (mC (.int 1))))) (CO (mC (.str "beaten"))) sNx)
  (CO (Bg 1 (J9 W) (AK (Bg 4 (Ge W) (AK (m2 ixA (AB 4) (mC (.int 0))) (AK (AB 5) (AK (AB 2) (AK (Bg 2 (IC W) (AK (m2 ixA (AB 4) (mC (.int 0))) (AK (m2 ixA (AB 4) (mC (.int 1))) Ax))) Ax))))) Ax)))))))
def Iz(W:Wd):¬D->Sto->Res D:=DH 6 (FF W)
def LX(W:Wd):MS:=
  (As (Bb 2 (ED (En 1 (EO (AB 1)) (tgN 0) HA (Bg 1 (FL W) (AK (AB 0) Ax)))))
  (As (sIf (mOr (NR (G6 (AB 2))) (mOr (mB (m2 (inA false) (mC .non) (AB 2))) (mOr (mB (m2 (eqD true) (AB 2) (Yp (AB 2)))) (mB (m2 geD (m2 ixA (AB 2) (Wn (mC (.int 1)))) (CD W.Web "places" (AB 0))))))) N0 sNx)
  (CO (HJ (AB 2)))))
def Fg(W:Wd):¬D->Sto->Res D:=DH 3 (LX W)
def ES(W:Wd):MS:=
  (As (sIf (mB (m2 (eqD false) (AB 1) (ED (Dg (AK (mC (.str "five")) Ax))))) (CO (Bg 1 (J9 W) (AK xq Ax))) sNx)
  (As (sIf (mOr (mB (m2 ltD (JW (AB 1)) (mC (.int 2)))) (mB (nL true ["one", "all"] (m2 ixA (AB 1) (mC (.int 1)))))) (CO (mC (.str "refused"))) sNx)
  (As (sIf (OC (mB (m2 (eqD false) (m2 ixA (AB 1) (mC (.int 0))) (mC (.str "fewest")))) (mB (m2 (eqD false) (JW (AB 1)) (mC (.int 2))))) (CO (Bg 1 (J9 W) (AK (ED (Dg (AK xq Ax))) Ax))) sNx)
  (As (sIf (mB (m2 (eqD false) (m2 ixA (AB 1) (mC (.int 0))) (mC (.str "lasts")))) (CO (E1 W.Desk "fate" 3 (OK W) (AB 0) (AK (m2 ixA (AB 1) (mC (.int 1))) (AK (Bg 2 (Fg W) (AK (CD W.Desk "web" (AB 0)) (AK (FA (AB 1) (Gb (mC (.int 2))) Ia) Ax))) Ax)))) sNx)
  (As (sIf (mB (m2 (eqD false) (m2 ixA (AB 1) (mC (.int 0))) (mC (.str "call")))) (As (Bb 2 (m2 ixA (Bg 2 (Fg W) (AK (CD W.Desk "web" (AB 0)) (AK (FA (AB 1) (Gb (mC (.int 2))) (Gb (mC (.int 3)))) Ax))) (mC (.int 0))))
  (CO (E1 W.Desk "answer_to" 4 (Iz W) (AB 0) (AK (m2 ixA (AB 1) (mC (.int 1))) (AK (AB 2) (AK (Bg 2 (Fg W) (AK (CD W.Desk "web" (AB 0)) (AK (FA (AB 1) (Gb (mC (.int 3))) Ia) Ax))) Ax)))))) sNx)
  (CO (mC (.str "refused"))))))))
def ER(W:Wd):¬D->Sto->Res D:=DH 3 (ES W)
def RO(W:Wd):MS:=
  (CO (E1 W.Desk "right_reply" 2 (ER W) (AB 0) (AK (AB 1) Ax)))
def IH(W:Wd):¬D->Sto->Res D:=DH 2 (RO W)
def IK(W:Wd):MS:=
  (As (sIf (mB (m2 (inA true) (AB 1) (CD W.Desk "replies" (AB 0)))) (Cr (CD W.Desk "replies" (AB 0)) (AB 1) (E1 W.Desk "reply_anew" 2 (IH W) (AB 0) (AK (Hu (AB 1) (mC (.str " "))) Ax))) sNx)
  (CO (m2 ixA (CD W.Desk "replies" (AB 0)) (AB 1))))
def II(W:Wd):¬D->Sto->Res D:=DH 2 (IK W)
def P4(W:Wd):MS:=
  (As (Bb 1 (Hu (AB 0) (mC (.str "\n"))))
  (As (sIf (mB (m2 (inA true) (mC (.str "")) (AB 1))) (As (FJ (Bg 1 (MD W) (AK (AB 0) Ax)))
  N0) sNx)
  (As (Bb 2 (Tx (AB 1) (mC (.str ""))))
  (As (Bb 3 (PU W.Desk 2 (Ky W) (AK (Bg 1 (MD W) (AK (Mr (mC (.str "\n")) (FA (AB 1) Ia (Gb (AB 2)))) Ax)) Ax)))
  (CO (ED (En 1 (EO (FA (AB 1) (Gb (m2 JB (AB 2) (mC (.int 1)))) Ia)) (tgN 0) HA (E1 W.Desk "reply" 2 (II W) (AB 4) (AK (AB 0) Ax)))))))))
def Ka(W:Wd):¬D->Sto->Res D:=DH 4 (P4 W)
def OS(W:Wd):MS:=
  (As (sIf (mB (m2 ltD (AB 1) (JW (AB 0)))) (CO (m2 ixA (AB 0) (AB 1))) sNx)
  (CO (mC (.int 0))))
def EQ(W:Wd):¬D->Sto->Res D:=DH 2 (OS W)
def RM(W:Wd):MS:=
  (As (Bb 2 (tH (Bg 2 (EQ W) (AK (AB 0) (AK (mC (.int 1)) Ax)))))
  (As (Bb 3 (m2 LQ (m2 JY (Bg 2 (EQ W) (AK (AB 0) (AK (mC (.int 0)) Ax))) (mC (.int 80))) (mC (.int 4))))
  (As (Bb 4 (ED (Dg Ax)))
  (As (Bb 5 (ED (Dg Ax)))
  (As (FG (iR2 (AK (mC (.int 1)) (AK (AB 1) Ax))) (tgN 6)
  (FG (iR1 (AK (AB 6) Ax)) (tgN 7)
  (As (Bb 8 (m2 LQ (m2 ai (m2 JB (m2 JB (m2 LQ (Bg 2 (EQ W) (AK (AB 0) (AK (m2 JB (m2 JB (mC (.int 2)) (AB 7)) (AB 6)) Ax))) (mC (.int 1000000007))) (m2 ai (mC (.int 31)) (AB 7))) (AB 6)) (mC (.int 48271))) (mC (.int 2147483629))))
  (As (Bb 8 (m2 LQ (m2 JY (m2 LQ (m2 ai (AB 8) (AB 8)) (mC (.int 2147483629))) (mC (.int 8))) (mC (.int 4))))
  (As (Bb 9 (m2 ixA (ED (Dg (AK (m2 (eqD false) (m2 LQ (AB 2) (mC (.int 2))) (mC (.int 1))) (AK (m2 ltD (AB 8) (mC (.int 1))) (AK (m2 ltD (AB 8) (mC (.int 3))) (AK (m2 (eqD true) (m2 LQ (AB 2) (mC (.int 64))) (mC (.int 37))) Ax)))))) (AB 3)))
  (As (Bb 2 (m2 JY (AB 2) (mC (.int 2))))
  (sIf (G6 (AB 9)) (FJ (LR (AB 4) (Hd (AK (AB 7) (AK (AB 6) Ax))))) (FJ (LR (AB 5) (Hd (AK (AB 7) (AK (AB 6) Ax))))))))))))
  (As (sIf (OC (mB (m2 (eqD false) (AB 3) (mC (.int 3)))) (mB (m2 gtD (JW (AB 5)) (mC (.int 2))))) (Bb 4 (Hv (m2 JB (AB 4) (FA (AB 5) (Gb (mC (.int 2))) Ia)))) sNx)
  (CO (AB 4))))))))
def M3(W:Wd):¬D->Sto->Res D:=DH 10 (RM W)
def WE(W:Wd):MS:=
  (As (Bb 3 (ED (Dg Ax)))
  (As (FG (iR1 (AK (AB 0) Ax)) (tgN 4)
  (sIf (OC (mB (m2 (eqD true) (AB 4) (AB 2))) (mB (m2 (inA true) (Hd (AK (mQ Qv (AK (AB 2) (AK (AB 4) Ax))) (AK (mQ Sq (AK (AB 2) (AK (AB 4) Ax))) Ax))) (AB 1)))) (FJ (LR (AB 3) (AB 4))) sNx))
  (CO (AB 3))))
def M4(W:Wd):¬D->Sto->Res D:=DH 5 (WE W)
def S9(W:Wd):MS:=
  (As (Bb 3 (Bg 3 (M4 W) (AK (AB 0) (AK (AB 1) (AK (AB 2) Ax)))))
  (As (sIf (mB (m2 (eqD true) (AB 3) (ED (Dg Ax)))) (CO (Hd (AK (mC (.int 1)) (AK (m2 ixA (AB 3) (mC (.int 0))) Ax)))) sNx)
  (As (FG (iR1 (AK (AB 0) Ax)) (tgN 4)
  (sIf (OC (mB (m2 (eqD true) (AB 4) (AB 2))) (mB (m2 (eqD true) (Bg 3 (M4 W) (AK (AB 0) (AK (AB 1) (AK (AB 4) Ax)))) (ED (Dg Ax))))) (CO (Hd (AK (mC (.int 2)) (AK (AB 4) Ax)))) sNx))
  (CO (mC .non)))))
def OJ(W:Wd):¬D->Sto->Res D:=DH 5 (S9 W)
def NJ(W:Wd):MS:=
  (As (Bb 3 (m2 ixA (ED (Dg (AK (mC (.str "one")) (AK (mC (.str "all")) Ax)))) (m2 LQ (AB 2) (mC (.int 2)))))
  (As (Bb 4 (m2 LQ (m2 JY (AB 2) (mC (.int 4))) (AB 0)))
  (As (Bb 5 (Bg 3 (OJ W) (AK (AB 0) (AK (AB 1) (AK (AB 4) Ax)))))
  (As (sIf (mOr (mB (m2 (eqD false) (m2 LQ (m2 JY (AB 2) (mC (.int 2))) (mC (.int 2))) (mC (.int 0)))) (mB (m2 (eqD false) (AB 0) (mC (.int 1))))) (As (Bb 6 (mC (.str "lasts")))
  (As (sIf (mB (m2 (Q6 true) (AB 5) (mC .non))) (Bb 6 (m2 NT (m2 NT (m2 NT (mC (.str "falls in round ")) (L5 (m2 ixA (AB 5) (mC (.int 0))))) (mC (.str " at "))) (L5 (m2 ixA (AB 5) (mC (.int 1)))))) sNx)
  (CO (Hd (AK (m2 NT (m2 NT (m2 NT (mC (.str "lasts ")) (AB 3)) (mC (.str " "))) (L5 (AB 4))) (AK (AB 6) Ax)))))) sNx)
  (As (Bb 7 (m2 LQ (m2 JB (m2 JB (AB 4) (mC (.int 1))) (m2 LQ (m2 JY (m2 JY (AB 2) (mC (.int 4))) (AB 0)) (m2 Z4 (AB 0) (mC (.int 1))))) (AB 0)))
  (As (Bb 6 (L5 (AB 7)))
  (As (sIf (mB (m2 (Q6 true) (AB 5) (mC .non))) (Bb 6 (mC (.str "beaten"))) sNx)
  (CO (Hd (AK (m2 NT (m2 NT (m2 NT (m2 NT (m2 NT (mC (.str "call ")) (AB 3)) (mC (.str " "))) (L5 (AB 7))) (mC (.str " "))) (L5 (AB 4))) (AK (AB 6) Ax)))))))))))
def Jp(W:Wd):¬D->Sto->Res D:=DH 8 (NJ W)
def vJ(W:Wd):MS:=
  (As (Bb 1 (Bg 2 (EQ W) (AK (AB 0) (AK (mC (.int 0)) Ax))))
  (As (Bb 2 (m2 JB (mC (.int 1)) (m2 ixA (ED (Dg (AK (m2 LQ (m2 JY (AB 1) (mC (.int 4))) (mC (.int 9))) (AK (m2 LQ (m2 JY (AB 1) (mC (.int 4))) (mC (.int 9))) (AK (m2 LQ (m2 JY (AB 1) (mC (.int 4))) (mC (.int 9))) (AK (m2 LQ (m2 JY (AB 1) (mC (.int 4))) (mC (.int 20))) Ax)))))) (m2 LQ (AB 1) (mC (.int 4))))))
  (As (Bb 3 (Bg 2 (M3 W) (AK (AB 0) (AK (AB 2) Ax))))
  (As (Bb 4 (ED (Dg (AK (m2 NT (mC (.str "places ")) (L5 (AB 2))) Ax))))
  (As (FG (EO (Hv (AB 3))) (JT 2 (Cw (tgN 5) (Cw (tgN 6) Ju)))
  (FJ (LR (AB 4) (m2 NT (m2 NT (m2 NT (mC (.str "tie ")) (L5 (AB 5))) (mC (.str " "))) (L5 (AB 6))))))
  (As (FJ (LR (AB 4) (mC (.str ""))))
  (As (Bb 7 (ED (Dg Ax)))
  (As (FG (iR1 (AK (mQ Qv (AK (mC (.int 3)) (AK (m2 JB (mC (.int 1)) (JW (AB 0))) Ax))) Ax)) (tgN 8)
  (As (im (Bg 3 (Jp W) (AK (AB 2) (AK (AB 3) (AK (m2 JB (m2 JY (Bg 2 (EQ W) (AK (AB 0) (AK (AB 8) Ax))) (mC (.int 3))) (AB 8)) Ax)))) (JT 2 (Cw (tgN 9) (Cw (tgN 10) Ju))))
  (As (FJ (LR (AB 4) (AB 9)))
  (FJ (LR (AB 7) (AB 10))))))
  (As (Bb 11 (Bg 1 (Ka W) (AK (Mr (mC (.str "\n")) (AB 4)) Ax)))
  (CO (aw (M.mIs (isB "list") (λz=>none) (AB 11)) (m2 (eqD false) (AB 11) (AB 7)))))))))))))
def gZ(W:Wd):¬D->Sto->Res D:=DH 12 (vJ W)
structure Txt(K:AD)(mg:Str->⇑AH)(W:Wd) where
 aaP:Dfn K mg "checked_ties" "checked_ties" Nv ["places", "ties"]
 aaQ:Dfn K mg "near_sets_of" "near_sets_of" Nq ["places", "ties"]
 aav:Mtd K "__init__" "Web.__init__" U2 ["self", "places", "ties"]
 aaR:Dfn K mg "sets_of" "sets_of" XN ["places", "size"]
 aaS:Dfn K mg "ways_to_choose" "ways_to_choose" Lz ["places", "size"]
 aaT:Dfn K mg "how_many" "how_many" Uy ["web", "guards"]
 aaU:Dfn K mg "standings" "standings" Sa ["web", "guards"]
 aaV:Dfn K mg "refuse_no_place" "refuse_no_place" Kq ["web", "place"]
 aaW:Dfn K mg "near" "near" lw ["web", "place"]
 aaX:Dfn K mg "takes_of" "takes_of" Uw ["web"]
 aaY:Dfn K mg "bits_of" "bits_of" XQ ["some"]
 aaZ:Dfn K mg "with_step" "with_step" SZ ["standing", "guard", "place"]
 aaw:Mtd K "linked_by_one" "Field.linked_by_one" IY ["self", "number"]
 LE:Dfn K mg "settle" "settle" Ux ["takes", "bits", "holders", "guard", "seen"]
 aax:Dfn K mg "fits" "fits" lz ["takes", "guards", "bits"]
 aay:Mtd K "linked_by_all" "Field.linked_by_all" IZ ["self", "number"]
 aag:Mtd K "__init__" "Field.__init__" Qg ["self", "web", "guards", "kind"]
 aaz:Mtd K "__init__" "Desk.__init__" Se ["self", "web"]
 aam:Dfn K mg "members" "members" XO ["bits"]
 aa0:Dfn K mg "first_step" "first_step" Qc ["takes", "guard", "rest", "wanted"]
 aa1:Dfn K mg "first_into" "first_into" Qd ["takes", "guards", "wanted"]
 aa2:Dfn K mg "refuse_no_call" "refuse_no_call" L0 ["web", "standing", "call"]
 aaA:Mtd K "calls" "Field.calls" PP ["self", "number"]
 aah:Mtd K "linked" "Field.linked" Ny ["self", "number"]
 aan:Mtd K "behind" "Field.behind" Nz ["self", "number", "call"]
 aaB:Mtd K "first_answer" "Field.first_answer" JU ["self", "number", "call", "wanted"]
 aaC:Dfn K mg "falling_now" "falling_now" PN ["field", "left"]
 aa3:Dfn K mg "fallen" "fallen" aF ["field"]
 aa4:Dfn K mg "lasting_bits" "lasting_bits" Nt ["field", "gone"]
 aa5:Dfn K mg "guide_answer" "guide_answer" Nu ["field", "number", "call", "kept"]
 aaD:Dfn K mg "number_in" "number_in" Sb ["word"]
 aaE:Dfn K mg "numbers_behind" "numbers_behind" L1 ["row", "first", "many"]
 aaF:Dfn K mg "web_of" "web_of" aE ["text"]
 aao:Dfn K mg "written" "written" XM ["numbers"]
 aap:Mtd K "duel" "Desk.duel" Sg ["self", "kind", "guards"]
 aaG:Mtd K "fate" "Desk.fate" Sf ["self", "kind", "standing"]
 aaH:Mtd K "answer_to" "Desk.answer_to" L3 ["self", "kind", "call", "standing"]
 aaq:Dfn K mg "standing_in" "standing_in" PM ["web", "words"]
 aaI:Mtd K "right_reply" "Desk.right_reply" KH ["self", "words"]
 aaJ:Mtd K "reply_anew" "Desk.reply_anew" Kr ["self", "words"]
 aaK:Mtd K "reply" "Desk.reply" Qh ["self", "row"]
 aa6:Dfn K mg "answered" "answered" Uz ["text"]
 aaa:Dfn K mg "_law_cell_at" "_law_cell_at" Nx ["script", "k"]
 aa7:Dfn K mg "_law_pairs" "_law_pairs" Qe ["script", "places"]
 aaL:Dfn K mg "_law_far" "_law_far" U0 ["places", "pairs", "place"]
 aa8:Dfn K mg "_law_fall" "_law_fall" Sd ["places", "pairs", "place"]
 aa9:Dfn K mg "_law_question" "_law_question" NG ["places", "pairs", "cell"]
 aab:Dfn K mg "law" "law" ly ["script"]
 mt:Own K mg "Web" W.Web aav.f
 BT:Ez K W.Web "places"
 aai:Ez K W.Web "ties"
 aaj:Ez K W.Web "near_sets"
 ad:Own K mg "Field" W.Field aag.f
 on:Ez K W.Field "everything"
 aac:Ez K W.Field "kind"
 LT:Ez K W.Field "takes"
 ST:Ez K W.Field "numbers"
 aad:Ez K W.Field "having"
 aae:Ez K W.Field "place_bits"
 Tm:Ez K W.Field "known"
 abe:O8 K W.Field "linked_by_one" aaw.f
 abf:O8 K W.Field "linked_by_all" aay.f
 abg:O8 K W.Field "calls" aaA.f
 abh:O8 K W.Field "linked" aah.f
 aba:O8 K W.Field "behind" aan.f
 abi:O8 K W.Field "first_answer" aaB.f
 ld:Own K mg "Desk" W.Desk aaz.f
 IO:Ez K W.Desk "web"
 Ty:Ez K W.Desk "replies"
 XL:Ez K W.Desk "duels"
 abb:O8 K W.Desk "duel" aap.f
 abj:O8 K W.Desk "fate" aaG.f
 abk:O8 K W.Desk "answer_to" aaH.f
 abl:O8 K W.Desk "right_reply" aaI.f
 abm:O8 K W.Desk "reply_anew" aaJ.f
 abn:O8 K W.Desk "reply" aaK.f
 abo:mg "abs" = none
 abp:mg "all" = none
 aar:mg "enumerate" = none
 abq:mg "int" = none
 abr:mg "isinstance" = none
 Cl:mg "len" = none
 abt:mg "list" = none
 abc:mg "max" = none
 aaM:mg "min" = none
 Fr:mg "range" = none
 abu:mg "set" = none
 aaf:mg "sorted" = none
 KK:mg "str" = none
 abv:mg "sum" = none
 Id:mg "tuple" = none
 aak:∃tk,mg "MOST_PLACES" = !.int 60 tk
 aas:∃tk,mg "MOST_STANDINGS" = !.int 400 tk
 aaN:∃tk,mg "MOST_PLACES_TRIED" = !.int 12 tk
 aaO:∃tk,mg "MOST_PLACES_GUARDED" = !.int 8 tk
 aat:∃tk,mg "FIGURES" = !.str "0123456789" tk
 aau:∃tk,mg "MOST_FIGURES" = !.int 2 tk
 aal:∃tk,mg "REFUSED" = !.str "refused" tk
 abd:∃a,mg "KINDS" = !.ref a/\Pn K a=!(["one", "all"]:¬Str)
section
variable{P:BP}{w:Bx}{K:AD}{mg:Str->⇑AH}{base:Cb}{W:Wd}
abbrev FOd{x q:Str}{st:CY}{i:¬Str}(P:BP)(w:Bx)(base:Cb)(d:Dfn K mg x q st i)(k n:Nat)(g:¬D->Sto->Res D):Prop:=IL P w K mg base (CXG P w) k d.f d.fd i (spM K n g)
abbrev FOm{x q:Str}{st:CY}{i:¬Str}(P:BP)(w:Bx)(mg:Str->⇑AH)(base:Cb)(d:Mtd K x q st i)(k n:Nat)(g:¬D->Sto->Res D):Prop:=IL P w K mg base (CXG P w) k d.f d.fd i (spM K n g)
theorem ndk{l:¬Str}(h:autoParam (decide l.Nodup) yq10q):l.Nodup:=of_decide_eq_true h
theorem NI(N':¬Str)(hi:GI X E H iter mi)(I:∀s C i o ex A,GE (EA X scope N' s C i o ex A) noE B m)(J:∀s C i o ex A,GG (EA X scope N' s C i o ex A) H g:=by exact λz z z z z z=>Ce 0 ndk)(hf:∀s C i o ex A,pS (EA X scope N' s C i o ex A) noE G c:=by exact λz z z z z z=>Q7)
  (h:autoParam (dz X scope (N'.take 1) N'=true) yq10q) (L:↑X.calm) (N:autoParam (∀x,EE iter X.env x=pure x) yq3q):GL X E (.ListComp B [#[H,iter,G,0]] scope pos) (En (-N'.take 1) mi g c m):=tV L (NA h) hi J hf I N
theorem Es{tg iter:Expr}{body:¬CY}{mi:MI}{g:MG}(hi:GI X E tg iter mi)(i:GG X tg g)(hb:GSs X E body b)(m:↑(X.xe=λz z=>False))(o:↑X.calm)(s:autoParam (∀x,EE iter X.env x=pure x) yq3q):GS X E (.For tg iter body [] pos) (FG mi g b):=yS (good_none m).own o hi i hb s
theorem hu1{n:Nat}(h:n+64 < Ef):n+1 < Ef:=Bc (Nat.add_le_add_left (by decide:1<=64) _) h
theorem G9{x q:Str}{st:CY}{i:¬Str}{k n:Nat}{o:MS}(d:Dfn K mg x q st i)(N:¬Str)(hb:∀(m:AH) (A:Bq) (g:¬Env) (s:AM) (H:Hp) (E:XK),He k (A.deeper (KC q (Cd st) s.heap.objs.size d.f m))->(A.deeper (KC q (Cd st) s.heap.objs.size d.f m)).units+64 < Ef->N.Nodup->GSs (Y9 (CXG P w) P w K mg base N q (Cd st) d.f m A g s H E).q noE (IJ st) o)(B:autoParam (K6 N i (Cd st)) yq11q)(C:↑(-i=n)):FOd P w base d (k+1) n (DH (-N) o):=Vx d.F B C hb
theorem Pz{x q:Str}{st:CY}{i:¬Str}{k n:Nat}{o:MS}(d:Mtd K x q st i)(N:¬Str)(hb:∀(m:AH) (A:Bq) (g:¬Env) (s:AM) (H:Hp) (E:XK),He k (A.deeper (KC q (Cd st) s.heap.objs.size d.f m))->(A.deeper (KC q (Cd st) s.heap.objs.size d.f m)).units+64 < Ef->N.Nodup->GSs (Y9 (CXG P w) P w K mg base N q (Cd st) d.f m A g s H E).q noE (IJ st) o)(B:autoParam (K6 N i (Cd st)) yq11q)(C:↑(-i=n)):FOm P w mg base d (k+1) n (DH (-N) o):=Vx d.F B C hb
theorem TX(T:Txt K mg W):FOd P w base T.aaP 1 2 (ID W):=G9 T.aaP ["places", "ties", "found", "one", "other", "tie"] λz z z z z z m g i=>(AJ (BZ 2 i Vv)
  (AJ (Es (DZ (gv 1)) (Mw rfl (DP (Ce 3 i) (DP (Ce 4 i) J4)))
  (AJ (BZ 5 i (Fm (AG (Yz rfl rfl T.aaM (AG (gv 3) (AG (gv 4) Af))) (AG (gN rfl rfl T.abc (AG (gv 3) (AG (gv 4) Af))) Af))))
  (AJ (Cf (CU (Jv g) (Bj g (gv 5) ge_int) (Bj g (gv 5) ge_int) (CC _)) (AU FY) BV)
  (AJ (Cf (O2 (MB (CU Qt (Bj g (gv 5) ge_int) ge_int (CC _)) (Mu (CU u7 (Bj g (gv 5) ge_int) (gv 0) (CC _))))) (AU FY) BV)
  (AJ (Cf (Xk g (gv 5) (gv 2)) (AU FY) BV)
  (AU (Hz (hu1 g) (gv 2) (gv 5) Vw rfl)))))))
  (AU (BL (Gc rfl T.Id (J8 rfl rfl T.aaf (gv 2)))))))
theorem TU(T:Txt K mg W):FOd P w base T.aaQ 1 2 (IB W):=G9 T.aaQ ["places", "ties", "rows", "one", "other"] λz z z z z z o m g=>(AJ (Oi (i:=2) (own:=["place"]) (N':=["place", "·1", "·2", "·3", "·4", "·5"]) rfl rfl g rfl (by first | exact LZ rfl | exact Jr rfl) (NA (by kernel_rfl)) (FC rfl T.Fr (AG (gv 0) Af)) (λz z z z z z=>(Ce 0 ndk)) (λz z z z z z=>Q7) (λz z z z z z=>(Cz (FS Af))))
  (AJ (Es (DZ (gv 1)) (Mw rfl (DP (Ce 3 g) (DP (Ce 4 g) J4)))
  (AJ (Et (Dr (Bj m (gv 2) (gv 3)) (gv 4)))
  (AU (Et (Dr (Bj m (gv 2) (gv 4)) (gv 3))))))
  (AU (BL (Gc rfl T.Id (Cz (NI ["row", "·1", "·2", "·3", "·4", "·5"] (DZ (gv 2)) (λz z z z z z=>(Gc rfl T.Id (J8 rfl rfl T.aaf (gv 0)))))))))))
theorem aY(T:Txt K mg W):FOm P w mg base T.aav 2 3 (M5 W):=Pz T.aav ["self", "places", "ties"] λz z z z z z g i m=>(AJ (Cf (Jo (KW PR PR ge_int (gv 1) (RC rfl T.aak.choose_spec))) (AU FY) BV)
  (AJ (Iw T.mt.cl T.BT (gv 0) (gv 1) rfl)
  (AJ (Iw T.mt.cl T.aai (gv 0) (gcl T.aaP (TX T) g (AG (gv 1) (AG (gv 2) Af))) rfl)
  (AU (Iw T.mt.cl T.aaj (gv 0) (gcl T.aaQ (TU T) g (AG (gv 1) (AG (Br T.mt.cl T.aai (gv 0) rfl) Af))) rfl)))))
theorem dF(T:Txt K mg W):FOd P w base T.aaR 1 2 (SM W):=G9 T.aaR ["places", "size", "told", "step", "longer", "some", "least", "place"] λz z z z z z m i g=>(AJ (BZ 2 g (Cz (FS (AG (Fm Af) Af))))
  (AJ (Es (FC rfl T.Fr (AG (gv 1) Af)) (Ce 3 g)
  (AJ (BZ 4 g (Cz (FS Af)))
  (AJ (Es (DZ (gv 2)) (Ce 5 g)
  (AJ (BZ 6 g (RB (Er (gv 5)) (Aq Ga (Bj i (gv 5) (SJ ge_int)) ge_int) ge_int))
  (AU (Es (Xm rfl T.Fr (AG (gv 6) (AG (Aq Ga (Aq Ga (Aq R5 (gv 0) (gv 1)) (gv 3)) ge_int) Af))) (Ce 7 g)
  (AU (Et (Dr (gv 4) (Aq Ga (gv 5) (Fm (AG (gv 7) Af))))))))))
  (AU (BZ 2 g (gv 4))))))
  (AU (BL (gv 2)))))
theorem Qo(T:Txt K mg W):FOd P w base T.aaS 1 2 (Iy W):=G9 T.aaS ["places", "size", "ways", "step"] λz z z z z z i m g=>(AJ (BZ 2 g ge_int)
  (AJ (Es (FC rfl T.Fr (AG (gv 1) Af)) (Ce 3 g)
  (AU (BZ 2 g (Aq Go (Aq Yi (gv 2) (Aq R5 (gv 0) (gv 3))) (Aq Ga (gv 3) ge_int)))))
  (AU (BL (gv 2)))))
theorem aW(T:Txt K mg W):FOd P w base T.aaT 2 2 (P0 W):=G9 T.aaT ["web", "guards"] λz z z z z z g i m=>(AJ (Cf (Jo (KW PR PR ge_int (gv 1) (Br T.mt.cl T.BT (gv 0) rfl))) (AU FY) BV)
  (AU (BL (gcl T.aaS (Qo T) g (AG (Br T.mt.cl T.BT (gv 0) rfl) (AG (gv 1) Af))))))
theorem Ye(T:Txt K mg W):FOd P w base T.aaU 3 2 (Kx W):=G9 T.aaU ["web", "guards"] λz z z z z z g i m=>(AJ (Cf (CU m9 (gcl T.aaT (aW T) g (AG (gv 0) (AG (gv 1) Af))) (RC rfl T.aas.choose_spec) (CC _)) (AU FY) BV)
  (AU (BL (gcl T.aaR (dF T) g (AG (Br T.mt.cl T.BT (gv 0) rfl) (AG (gv 1) Af))))))
theorem Pv(T:Txt K mg W):FOd P w base T.aaV 1 2 (IA W):=G9 T.aaV ["web", "place"] λz z z z z z g i m=>(AU (Cf (Jo (KW PR Qt ge_int (gv 1) (Br T.mt.cl T.BT (gv 0) rfl))) (AU FY) BV))
theorem sk(T:Txt K mg W):FOd P w base T.aaW 2 2 (dh W):=G9 T.aaW ["web", "place"] λz z z z z z g i m=>(AJ (Et (gcl T.aaV (Pv T) g (AG (gv 0) (AG (gv 1) Af))))
  (AU (BL (Bj i (Br T.mt.cl T.aaj (gv 0) rfl) (gv 1)))))
theorem aV(T:Txt K mg W):FOd P w base T.aaX 3 1 (M0 W):=G9 T.aaX ["web"] λz z z z z z g i m=>(AU (BL (Cz (NI ["place", "web"] (FC rfl T.Fr (AG (Br T.mt.cl T.BT (gv 0) rfl) Af)) (λz z z z z z=>(Gc rfl T.Id (J8 rfl rfl T.aaf (Aq Ga (Fm (AG (gv 0) Af)) (gcl T.aaW (sk T) g (AG (gv 1) (AG (gv 0) Af)))))))))))
theorem dG(T:Txt K mg W):FOd P w base T.aaY 1 1 (SN W):=G9 T.aaY ["some", "bits", "place"] λz z z z z z i m g=>(AJ (BZ 1 g ge_int)
  (AJ (Es (DZ (gv 0)) (Ce 2 g)
  (AU (Xl 1 g gH (Aq N9 ge_int (gv 2)))))
  (AU (BL (gv 1)))))
theorem Yd(T:Txt K mg W):FOd P w base T.aaZ 1 3 (OG W):=G9 T.aaZ ["standing", "guard", "place"] λz z z z z z i g m=>(AU (BL (Gc rfl T.Id (Cz (NI ["other", "·1", "guard", "place"] (DZ (gv 0)) (λz z z z z z=>(RB (CU (Jv g) (gv 0) (gv 2) (CC _)) (gv 3) (gv 0))))))))
theorem Mn(T:Txt K mg W):FOm P w mg base T.aaw 2 2 (DQ W):=Pz T.aaw ["self", "number", "standing", "told", "guard", "place"] λz z z z z z m i g=>(AJ (BZ 2 g (Bj i (Br T.ad.cl T.on (gv 0) rfl) (gv 1)))
  (AJ (BZ 3 g ge_int)
  (AJ (Es (DZ (gv 2)) (Ce 4 g)
  (AU (Es (DZ (Bj i (Br T.ad.cl T.LT (gv 0) rfl) (gv 4))) (Ce 5 g)
  (AU (Cf (FX i (gv 5) (gv 2)) (AU (Xl 3 g gH (Aq N9 ge_int (Bj i (Br T.ad.cl T.ST (gv 0) rfl) (Gc rfl T.Id (J8 rfl rfl T.aaf (gcl T.aaZ (Yd T) m (AG (gv 2) (AG (gv 4) (AG (gv 5) Af)))))))))) BV)))))
  (AU (BL (gv 3))))))
theorem il:K6 ["takes", "bits", "holders", "guard", "seen", "wanted", "place"] ["takes", "bits", "holders", "guard", "seen"] (Cd Ux):=xn
theorem XX(T:Txt K mg W):∀n:Nat,IL P w K mg base (CXG P w) (0+n) T.LE.f T.LE.fd ["takes", "bits", "holders", "guard", "seen"] (spM K 5 (OH W n))
 | 0=>yj
 | n+1=>by
  refine Vx (k:=0+n) T.LE.F il rfl λz z z z z z s g o=>?_
  exact(AJ (Oi (i:=5) (own:=["place"]) (N':=["place", "·1", "bits", "·3", "·4", "seen", "·6", "·7"]) rfl rfl o rfl (by first | exact LZ rfl | exact Jr rfl) (NA (by kernel_rfl)) (DZ (Bj g (gv 0) (gv 3))) (λz z z z z z=>(Ce 0 ndk)) (λz z z z z z=>(OF (O2 (Py (Er (Aq OA (Aq dH (gv 2) (gv 0)) ge_int)) (Mv (FX g (gv 0) (gv 5))))))) (λz z z z z z=>(gv 0)))
  (AJ (Es (DZ (gv 5)) (Ce 6 o)
  (AU (Cf (FX g (gv 6) (gv 2)) (AJ (Hz (hu1 g) (gv 2) (gv 6) (gv 3) rfl)
  (AU (BL Vw))) BV)))
  (AJ (Es (DZ (gv 5)) (Ce 6 o)
  (AU (Cf (FX g (gv 6) (gv 4)) (AJ (Hz (hu1 g) (gv 4) (gv 6) Vw rfl)
  (AU (Cf (Er (Y1 (XX T n) (good_none rfl).pass (s.mono (AO _)) rfl T.LE.m T.LE.kp T.LE.b (AG (gv 0) (AG (gv 1) (AG (gv 2) (AG (Bj g (gv 2) (gv 6)) (AG (gv 4) Af))))))) (AJ (Hz (hu1 g) (gv 2) (gv 6) (gv 3) rfl)
  (AU (BL Vw))) BV))) BV)))
  (AU (BL Vw)))))
theorem fX(T:Txt K mg W):FOd P w base T.aax 3 3 (V0 W):=G9 T.aax ["takes", "guards", "bits", "holders", "guard"] λz z z z z z i o g=>(AJ (BZ 3 g MC)
  (AJ (Es (DZ (gv 1)) (Ce 4 g)
  (AU (Cf (Er (Aq OA (Aq dH (gv 2) (gv 4)) ge_int)) (AU (Hz (hu1 o) (gv 3) (gv 4) (gv 4) rfl)) BV)))
  (AJ (Es (DZ (gv 1)) (Ce 4 g)
  (AU (Cf (O2 (Py (Jo (Er (Aq OA (Aq dH (gv 2) (gv 4)) ge_int))) (Mv (Jo (Er (Y1 (XX T 1) (good_none rfl).pass (i.mono (by decide)) rfl T.LE.m T.LE.kp T.LE.b (AG (gv 0) (AG (gv 2) (AG (gv 3) (AG (gv 4) (AG MC Af))))))))))) (AU (BL Vw)) BV)))
  (AU (BL Vw)))))
theorem Mo(T:Txt K mg W):FOm P w mg base T.aay 4 2 (DR W):=Pz T.aay ["self", "number", "standing", "told", "other", "bits"] λz z z z z z i m g=>(AJ (BZ 2 g (Bj m (Br T.ad.cl T.on (gv 0) rfl) (gv 1)))
  (AJ (BZ 3 g ge_int)
  (AJ (Es (Vr rfl T.aar (Br T.ad.cl T.aae (gv 0) rfl)) (Mw rfl (DP (Ce 4 g) (DP (Ce 5 g) J4)))
  (AU (Cf (Er (gcl T.aax (fX T) i (AG (Br T.ad.cl T.LT (gv 0) rfl) (AG (gv 2) (AG (gv 5) Af))))) (AU (Xl 3 g gH (Aq N9 ge_int (gv 4)))) BV)))
  (AU (BL (gv 3))))))
theorem VZ(T:Txt K mg W):FOm P w mg base T.aag 5 4 (LU W):=Pz T.aag ["self", "web", "guards", "kind", "number", "standing", "place"] λz z z z z z g m i=>(AJ (Iw T.ad.cl T.on (gv 0) (gcl T.aaU (Ye T) g (AG (gv 1) (AG (gv 2) Af))) rfl)
  (AJ (Iw T.ad.cl T.aac (gv 0) (gv 3) rfl)
  (AJ (Iw T.ad.cl T.LT (gv 0) (gcl T.aaX (aV T) g (AG (gv 1) Af)) rfl)
  (AJ (Iw T.ad.cl T.ST (gv 0) Vv rfl)
  (AJ (Iw T.ad.cl T.aad (gv 0) (Cz (NI ["place", "·1", "·2", "·3", "·4", "·5", "·6", "·7"] (FC rfl T.Fr (AG (Br T.mt.cl T.BT (gv 1) rfl) Af)) (λz z z z z z=>ge_int))) rfl)
  (AJ (Es (Vr rfl T.aar (Br T.ad.cl T.on (gv 0) rfl)) (Mw rfl (DP (Ce 4 i) (DP (Ce 5 i) J4)))
  (AJ (Hz (hu1 m) (Br T.ad.cl T.ST (gv 0) rfl) (gv 5) (gv 4) rfl)
  (AU (Es (DZ (gv 5)) (Ce 6 i)
  (AU (tU (Br T.ad.cl T.aad (gv 0) rfl) (gv 6) (Aq N9 ge_int (gv 4)) gH))))))
  (AJ (Iw T.ad.cl T.aae (gv 0) (Cz (NI ["standing", "·1", "·2", "·3", "·4", "·5", "·6", "·7"] (DZ (Br T.ad.cl T.on (gv 0) rfl)) (λz z z z z z=>(gcl T.aaY (dG T) g (AG (gv 0) Af))))) rfl)
  (AU (Iw T.ad.cl T.Tm (gv 0) MC rfl)))))))))
theorem Wl(T:Txt K mg W):IL P w K mg base (CXG P w) 5 T.aag.f T.aag.fd ["self", "web", "guards", "kind"] (spM K 4 (IF W)):=t9 (VZ T)
theorem Yg(T:Txt K mg W):FOm P w mg base T.aaz 1 2 (Ky W):=Pz T.aaz ["self", "web"] λz z z z z z g i m=>(AJ (Iw T.ld.cl T.IO (gv 0) (gv 1) rfl)
  (AJ (Iw T.ld.cl T.Ty (gv 0) MC rfl)
  (AU (Iw T.ld.cl T.XL (gv 0) Vv rfl))))
theorem Pw(T:Txt K mg W):FOd P w base T.aam 1 1 (MF W):=G9 T.aam ["bits", "told", "left"] λz z z z z z i m g=>(AJ (BZ 1 g (Cz (FS Af)))
  (AJ (BZ 2 g (gv 0))
  (AJ (bA wN (good_none rfl).own (Er (gv 2)) (AJ (Et (Dr (gv 1) (Aq R5 (tw (Aq OA (gv 2) (SJ (gv 2)))) ge_int)))
  (AU (Xl 2 g yH (Aq R5 (gv 2) ge_int)))))
  (AU (BL (gv 1))))))
theorem Wh(T:Txt K mg W):FOd P w base T.aa0 4 4 (M1 W):=G9 T.aa0 ["takes", "guard", "rest", "wanted", "place", "bit", "lefts", "number", "left"] λz z z z z z m o g=>(AJ (Es (DZ (Bj o (gv 0) (gv 1))) (Ce 4 g)
  (AJ (BZ 5 g (Aq N9 ge_int (gv 4)))
  (AJ (Oi (i:=6) (own:=["left"]) (N':=["left", "·1", "·2", "·3", "·4", "·5", "bit", "·7", "·8", "·9"]) rfl rfl g rfl (by first | exact LZ rfl | exact Jr rfl) (NA (by kernel_rfl)) (DZ (gv 3)) (λz z z z z z=>(Ce 0 ndk)) (λz z z z z z=>(OF (Er (Aq OA (gv 0) (gv 6))))) (λz z z z z z=>(Aq xg (gv 0) (gv 6))))
  (AU (Es (Vr rfl T.aar (gv 6)) (Mw rfl (DP (Ce 7 g) (DP (Ce 8 g) J4)))
  (AU (Cf (Er (gcl T.aax (fX T) m (AG (gv 0) (AG (gv 2) (AG (gv 8) Af))))) (AU (BL (Fm (AG (gv 4) (AG (G8 (gv 6) (HC (gv 7)) JK) Af))))) BV)))))))
  (AU (BL Ix)))
theorem Wi(T:Txt K mg W):FOd P w base T.aa1 5 3 (M2 W):=G9 T.aa1 ["takes", "guards", "wanted", "told", "lefts", "number", "guard", "step"] λz z z z z z m i g=>(AJ (BZ 3 g (Cz (FS Af)))
  (AJ (BZ 4 g (gv 2))
  (AJ (Es (oI rfl T.aar (gv 1)) (Mw rfl (DP (Ce 5 g) (DP (Ce 6 g) J4)))
  (AJ (BZ 7 g (gcl T.aa0 (Wh T) m (AG (gv 0) (AG (gv 6) (AG (jS (gv 1) (HC (gv 5)) JK) (AG (gv 4) Af))))))
  (AJ (Cf (CU dI (gv 7) Ix (CC _)) (AU (BL Ix)) BV)
  (AJ (Et (Dr (gv 3) (Bj i (gv 7) ge_int)))
  (AU (BZ 4 g (Bj i (gv 7) ge_int)))))))
  (AU (BL (Gc rfl T.Id (gv 3)))))))
theorem Qp(T:Txt K mg W):FOd P w base T.aa2 1 3 (FD W):=G9 T.aa2 ["web", "standing", "call"] λz z z z z z i g m=>(AU (Cf (O2 (MB (Jo (KW PR Qt ge_int (gv 2) (Br T.mt.cl T.BT (gv 0) rfl))) (Mu (Xk g (gv 2) (gv 1))))) (AU FY) BV))
theorem VW(T:Txt K mg W):FOm P w mg base T.aaA 1 2 (LS W):=Pz T.aaA ["self", "number", "standing"] λz z z z z z m g i=>(AJ (BZ 2 i (Bj g (Br T.ad.cl T.on (gv 0) rfl) (gv 1)))
  (AU (BL (Cz (NI ["place", "·1", "·2", "standing"] (FC rfl T.Fr (AG (KZ rfl T.Cl (Br T.ad.cl T.LT (gv 0) rfl)) Af)) (λz z z z z z=>(gv 0)) (hf:=λz z z z z z=>(OF (FX g (gv 0) (gv 3)))))))))
theorem R4(T:Txt K mg W):FOm P w mg base T.aah 5 2 (Jq W):=Pz T.aah ["self", "number"] λz z z z z z i g m=>(AJ (Cf (FX g (gv 1) (Br T.ad.cl T.Tm (gv 0) rfl)) (AU (Hz (hu1 g) (Br T.ad.cl T.Tm (gv 0) rfl) (gv 1) (RB (CU (Jv g) (Br T.ad.cl T.aac (gv 0) rfl) CV (CC _)) (Fu (gv 0) T.ad.cl T.abe (Mn T) (good_none rfl).pass (i.mono (by ext)) T.aaw.b (AG (gv 1) Af)) (Fu (gv 0) T.ad.cl T.abf (Mo T) (good_none rfl).pass (i.mono (by ext)) T.aay.b (AG (gv 1) Af))) rfl)) BV)
  (AU (BL (Bj g (Br T.ad.cl T.Tm (gv 0) rfl) (gv 1)))))
theorem TY(T:Txt K mg W):IL P w K mg base (CXG P w) 5 T.aah.f T.aah.fd ["self", "number"] (spM K 2 (IE W)):=yk (R4 T)
theorem NH(T:Txt K mg W):FOm P w mg base T.aan 6 3 (IG W):=Pz T.aan ["self", "number", "call"] λz z z z z z g i m=>(AU (BL (Aq OA (Fu (gv 0) T.ad.cl T.abh (TY T) (good_none rfl).pass (g.mono (by ext)) T.aah.b (AG (gv 1) Af)) (Bj i (Br T.ad.cl T.aad (gv 0) rfl) (gv 2)))))
theorem NQ(T:Txt K mg W):FOm P w mg base T.aaB 6 4 (Gf W):=Pz T.aaB ["self", "number", "call", "wanted", "standing", "told", "other"] λz z z z z z i g m=>(AJ (BZ 4 m (Bj g (Br T.ad.cl T.on (gv 0) rfl) (gv 1)))
  (AJ (Cf (CU (Jv g) (Br T.ad.cl T.aac (gv 0) rfl) CV (CC _)) (AU (BL (gcl T.aa1 (Wi T) i (AG (Br T.ad.cl T.LT (gv 0) rfl) (AG (gv 4) (AG (Cz (NI ["other", "self", "·2", "·3", "·4", "·5", "·6", "·7"] (DZ (gcl T.aam (Pw T) i (AG (gv 3) Af))) (λz z z z z z=>(Bj g (Br T.ad.cl T.aae (gv 1) rfl) (gv 0))))) Af)))))) BV)
  (AJ (BZ 5 m (Cz (FS Af)))
  (AJ (Es (DZ (gcl T.aam (Pw T) i (AG (gv 3) Af))) (Ce 6 m)
  (AU (Et (Dr (gv 5) (Gc rfl T.Id (Cz (NI ["guard", "self", "·2", "call", "·4", "·5", "·6", "other"] (DZ (gv 4)) (λz z z z z z=>(RB (Xk g (gv 0) (Bj g (Br T.ad.cl T.on (gv 1) rfl) (gv 7))) (gv 0) (gv 3))))))))))
  (AU (BL (tZ g rfl rfl T.aaM (gv 5))))))))
theorem N8(T:Txt K mg W):FOd P w base T.aaC 7 2 (JM W):=G9 T.aaC ["field", "left", "told", "number", "lost"] λz z z z z z g m o=>(AJ (BZ 2 o MC)
  (AJ (Es (DZ (gcl T.aam (Pw T) g (AG (gv 1) Af))) (Ce 3 o)
  (AJ (Oi (i:=4) (own:=["call"]) (N':=["call", "field", "left", "·3", "number", "·5"]) rfl rfl o rfl (by first | exact LZ rfl | exact Jr rfl) (NA (by kernel_rfl)) (DZ (Fu (gv 0) T.ad.cl T.abg (VW T) (good_none rfl).pass (g.mono (by ext)) T.aaA.b (AG (gv 3) Af))) (λz z z z z z=>(Ce 0 ndk)) (λz z z z z z=>(OF (CU (Jv m) (Aq OA (Fu (gv 1) T.ad.cl T.aba (NH T) (good_none rfl).pass (g.mono (by ext)) T.aan.b (AG (gv 4) (AG (gv 0) Af))) (gv 2)) ge_int (CC _)))) (λz z z z z z=>(gv 0)))
  (AU (Cf (Er (gv 4)) (AU (Hz (hu1 m) (gv 2) (gv 3) (Bj m (gv 4) ge_int) rfl)) BV))))
  (AU (BL (gv 2)))))
theorem jA(T:Txt K mg W):FOd P w base T.aa3 8 1 (OI W):=G9 T.aa3 ["field", "told", "left", "stage", "falling", "number"] λz z z z z z m o g=>(AJ (BZ 1 g MC)
  (AJ (BZ 2 g (Aq R5 (Aq N9 ge_int (KZ rfl T.Cl (Br T.ad.cl T.on (gv 0) rfl))) ge_int))
  (AJ (BZ 3 g ge_int)
  (AJ (BZ 4 g (gcl T.aaC (N8 T) m (AG (gv 0) (AG (gv 2) Af))))
  (AJ (bA wN (good_none rfl).own (Er (gv 4)) (AJ (ABG (i:=4) (Es (tW (gv 4)) (Ce 5 g)
  (AJ (Hz (hu1 o) (gv 1) (gv 5) (Fm (AG (gv 3) (AG (Bj o (gv 4) (gv 5)) Af))) rfl)
  (AU (Xl 2 g yG (Aq N9 ge_int (gv 5)))))))
  (AJ (Xl 3 g yI ge_int)
  (AU (BZ 4 g (gcl T.aaC (N8 T) m (AG (gv 0) (AG (gv 2) Af))))))))
  (AU (BL (gv 1))))))))
theorem TV(T:Txt K mg W):FOd P w base T.aa4 1 2 (IC W):=G9 T.aa4 ["field", "gone"] λz z z z z z i g m=>(AU (BL (yb rfl rfl T.abv (Cz (NI ["number", "·1", "gone"] (FC rfl T.Fr (AG (KZ rfl T.Cl (Br T.ad.cl T.on (gv 0) rfl)) Af)) (λz z z z z z=>(Aq N9 ge_int (gv 0))) (hf:=λz z z z z z=>(OF (FX g (gv 0) (gv 2)))))))))
theorem TW(T:Txt K mg W):FOd P w base T.aa5 7 4 (Ge W):=G9 T.aa5 ["field", "number", "call", "kept"] λz z z z z z g i m=>(AU (BL (Fu (gv 0) T.ad.cl T.abi (NQ T) (good_none rfl).pass (g.mono (by ext)) T.aaB.b (AG (gv 1) (AG (gv 2) (AG (Aq OA (Fu (gv 0) T.ad.cl T.aba (NH T) (good_none rfl).pass (g.mono ∅) T.aan.b (AG (gv 1) (AG (gv 2) Af))) (gv 3)) Af))))))
theorem Qq(T:Txt K mg W):FOd P w base T.aaD 1 1 (FL W):=G9 T.aaD ["word"] λz z z z z z i g m=>(AJ (Cf (O2 (MB (Jo (KW PR PR ge_int (gP rfl T.Cl (gv 0)) (RC rfl T.aau.choose_spec))) (Mu (Jo (yP (yg rfl rfl T.abp (Cz (NI ["sign", "·1"] (yX (gv 0)) (λz z z z z z=>(SK xj (gv 0) (Vu rfl T.aat.choose_spec) (by with_unfolding_all rfl))))))))))) (AU (BL Ix)) BV)
  (AJ (Cf (O2 (Py (CU m9 (gP rfl T.Cl (gv 0)) ge_int (CC _)) (Mv (CU (Jv g) (vF xi (gv 0) ge_int) CV (CC _))))) (AU (BL Ix)) BV)
  (AU (BL (tj rfl T.abq (gv 0))))))
theorem Kw(T:Txt K mg W):FOd P w base T.aaE 2 3 (FE W):=G9 T.aaE ["row", "first", "many", "words", "numbers"] λz z z z z z o g m=>(AJ (BZ 3 m (Oj (gv 0) CV))
  (AJ (Oi (i:=4) (own:=["word"]) (N':=["word", "·1", "·2", "·3", "·4", "·5"]) rfl rfl m rfl (by first | exact LZ rfl | exact Jr rfl) (NA (by kernel_rfl)) (DZ (G8 (gv 3) (HC ge_int) JK)) (λz z z z z z=>(Ce 0 ndk)) (λz z z z z z=>Q7) (λz z z z z z=>(gcl T.aaD (Qq T) o (AG (gv 0) Af))))
  (AJ (Cf (O2 (MB (CU (Sm g) (Bj g (gv 3) ge_int) (gv 1) (CC _)) (MB (CU (Sm g) (KZ rfl T.Cl (gv 4)) (gv 2) (CC _)) (Mu (Xk g Ix (gv 4)))))) (AU (BL Ix)) BV)
  (AU (BL (gv 4))))))
theorem XW(T:Txt K mg W):FOd P w base T.aaF 4 1 (MD W):=G9 T.aaF ["text", "rows", "head", "ties", "number", "row", "ends"] λz z z z z z o g i=>(AJ (BZ 1 i (Oj (gv 0) CV))
  (AJ (BZ 2 i (gcl T.aaE (Kw T) o (AG (Bj g (gv 1) ge_int) (AG CV (AG ge_int Af)))))
  (AJ (Cf (O2 (MB (CU dI (gv 2) Ix (CC _)) (Mu (Jo (KW PR PR ge_int (Bj g (gv 2) ge_int) (RC rfl T.aak.choose_spec)))))) (AU FY) BV)
  (AJ (BZ 3 i (Cz (FS (AG (Fm (AG (SJ ge_int) (AG (SJ ge_int) Af))) Af))))
  (AJ (Es (oH rfl T.aar (G8 (gv 1) (HC ge_int) JK)) (Mw rfl (DP (Ce 4 i) (DP (Ce 5 i) J4)))
  (AJ (BZ 6 i (gcl T.aaE (Kw T) o (AG (gv 5) (AG CV (AG ge_int Af)))))
  (AJ (Cf (O2 (MB (CU dI (gv 6) Ix (CC _)) (MB (Jo (KW Qt Qt (Bj g (gv 6) ge_int) (Bj g (gv 6) ge_int) (Bj g (gv 2) ge_int))) (Mu (Jo (CU (xh g) (Bj g (gv 3) (SJ ge_int)) (Gc rfl T.Id (gv 6)) (CC _))))))) (AU FY) BV)
  (AU (Et (Dr (gv 3) (Gc rfl T.Id (gv 6))))))))
  (AU (BL (Y0 T.mt.mk' (aY T) (good_none rfl).pass (o.mono (by ext)) rfl T.mt.m T.aav.b (AG (Bj g (gv 2) ge_int) (AG (G8 (gv 3) (HC ge_int) JK) Af))))))))))
theorem Pu(T:Txt K mg W):FOd P w base T.aao 1 1 (J9 W):=G9 T.aao ["numbers"] λz z z z z z g i m=>(AU (BL (Vt CV (Cz (NI ["number", "·1"] (DZ (gv 0)) (λz z z z z z=>(JL rfl T.KK (gv 0))))))))
theorem Qr(T:Txt K mg W):FOm P w mg base T.aap 9 3 (HV W):=Pz T.aap ["self", "kind", "guards", "field"] λz z z z z z i g o=>(AJ (Cf (FX g (Fm (AG (gv 1) (AG (gv 2) Af))) (Br T.ld.cl T.XL (gv 0) rfl)) (AJ (BZ 3 o (Y0 T.ad.mk' (Wl T) (good_none rfl).pass (i.mono (by ext)) rfl T.ad.m T.aag.b (AG (Br T.ld.cl T.IO (gv 0) rfl) (AG (gv 2) (AG (gv 1) Af)))))
  (AU (Hz (hu1 g) (Br T.ld.cl T.XL (gv 0) rfl) (Fm (AG (gv 1) (AG (gv 2) Af))) (Fm (AG (gv 3) (AG (gcl T.aa3 (jA T) i (AG (gv 3) Af)) Af))) rfl))) BV)
  (AU (BL (Bj g (Br T.ld.cl T.XL (gv 0) rfl) (Fm (AG (gv 1) (AG (gv 2) Af)))))))
theorem Yh(T:Txt K mg W):FOm P w mg base T.aaG 10 3 (OK W):=Pz T.aaG ["self", "kind", "standing", "duel", "number", "stage", "call"] λz z z z z z m g i=>(AJ (BZ 3 i (Fu (gv 0) T.ld.cl T.abb (Qr T) (good_none rfl).pass (m.mono (by ext)) T.aap.b (AG (gv 1) (AG (KZ rfl T.Cl (gv 2)) Af))))
  (AJ (BZ 4 i (Bj g (Br T.ad.cl T.ST (Bj g (gv 3) ge_int) rfl) (gv 2)))
  (AJ (Cf (FX g (gv 4) (Bj g (gv 3) ge_int)) (AU (BL CV)) BV)
  (AJ (BZ 5 i (Bj g (Bj g (Bj g (gv 3) ge_int) (gv 4)) ge_int))
  (AJ (BZ 6 i (Bj g (Bj g (Bj g (gv 3) ge_int) (gv 4)) ge_int))
  (AU (BL (tf (UF CV (UF (oO (gv 5)) (UF CV (UF (oO (gv 6)) yV))))))))))))
theorem Qs(T:Txt K mg W):FOm P w mg base T.aaH 10 4 (Iz W):=Pz T.aaH ["self", "kind", "call", "standing", "duel", "number"] λz z z z z z i g m=>(AJ (Et (gcl T.aa2 (Qp T) i (AG (Br T.ld.cl T.IO (gv 0) rfl) (AG (gv 3) (AG (gv 2) Af)))))
  (AJ (BZ 4 m (Fu (gv 0) T.ld.cl T.abb (Qr T) (good_none rfl).pass (i.mono (by ext)) T.aap.b (AG (gv 1) (AG (KZ rfl T.Cl (gv 3)) Af))))
  (AJ (BZ 5 m (Bj g (Br T.ad.cl T.ST (Bj g (gv 4) ge_int) rfl) (gv 3)))
  (AJ (Cf (Xk g (gv 5) (Bj g (gv 4) ge_int)) (AU (BL CV)) BV)
  (AU (BL (gcl T.aao (Pu T) i (AG (gcl T.aa5 (TW T) i (AG (Bj g (gv 4) ge_int) (AG (gv 5) (AG (gv 2) (AG (gcl T.aa4 (TV T) i (AG (Bj g (gv 4) ge_int) (AG (Bj g (gv 4) ge_int) Af))) Af))))) Af))))))))
theorem KU(T:Txt K mg W):FOd P w base T.aaq 2 2 (Fg W):=G9 T.aaq ["web", "words", "places"] λz z z z z z m g o=>(AJ (Oi (i:=2) (own:=["word"]) (N':=["word", "·1", "·2", "·3"]) rfl rfl o rfl (by first | exact LZ rfl | exact Jr rfl) (NA (by kernel_rfl)) (DZ (gv 1)) (λz z z z z z=>(Ce 0 ndk)) (λz z z z z z=>Q7) (λz z z z z z=>(gcl T.aaD (Qq T) m (AG (gv 0) Af))))
  (AJ (Cf (O2 (MB (Jo (Er (gv 2))) (MB (Xk g Ix (gv 2)) (MB (CU (Sm g) (gv 2) (oM rfl rfl T.aaf rfl T.abu (gv 2)) (CC _)) (Mu (CU u7 (Bj g (gv 2) (SJ ge_int)) (Br T.mt.cl T.BT (gv 0) rfl) (CC _))))))) (AU FY) BV)
  (AU (BL (Gc rfl T.Id (gv 2))))))
theorem Oy(T:Txt K mg W):FOm P w mg base T.aaI 11 2 (ER W):=Pz T.aaI ["self", "words", "call"] λz z z z z z i g m=>(AJ (Cf (CU (Jv g) (gv 1) (Cz (FS (AG CV Af))) (CC _)) (AU (BL (gcl T.aao (Pu T) i (AG oP Af)))) BV)
  (AJ (Cf (O2 (MB (CU Qt (KZ rfl T.Cl (gv 1)) ge_int (CC _)) (Mu (tR (Bj g (gv 1) ge_int) rfl T.abd.choose_spec.1 T.abd.choose_spec.2)))) (AU (BL (Vu rfl T.aal.choose_spec))) BV)
  (AJ (Cf (O2 (Py (CU (Jv g) (Bj g (gv 1) ge_int) CV (CC _)) (Mv (CU (Jv g) (KZ rfl T.Cl (gv 1)) ge_int (CC _))))) (AU (BL (gcl T.aao (Pu T) i (AG (Cz (FS (AG oP Af))) Af)))) BV)
  (AJ (Cf (CU (Jv g) (Bj g (gv 1) ge_int) CV (CC _)) (AU (BL (Fu (gv 0) T.ld.cl T.abj (Yh T) (good_none rfl).pass (i.mono (by ext)) T.aaG.b (AG (Bj g (gv 1) ge_int) (AG (gcl T.aaq (KU T) i (AG (Br T.ld.cl T.IO (gv 0) rfl) (AG (G8 (gv 1) (HC ge_int) JK) Af))) Af))))) BV)
  (AJ (Cf (CU (Jv g) (Bj g (gv 1) ge_int) CV (CC _)) (AJ (BZ 2 m (Bj g (gcl T.aaq (KU T) i (AG (Br T.ld.cl T.IO (gv 0) rfl) (AG (G8 (gv 1) (HC ge_int) (HC ge_int)) Af))) ge_int))
  (AU (BL (Fu (gv 0) T.ld.cl T.abk (Qs T) (good_none rfl).pass (i.mono ∅) T.aaH.b (AG (Bj g (gv 1) ge_int) (AG (gv 2) (AG (gcl T.aaq (KU T) i (AG (Br T.ld.cl T.IO (gv 0) rfl) (AG (G8 (gv 1) (HC ge_int) JK) Af))) Af))))))) BV)
  (AU (BL (Vu rfl T.aal.choose_spec))))))))
theorem Px(T:Txt K mg W):FOm P w mg base T.aaJ 12 2 (IH W):=Pz T.aaJ ["self", "words"] λz z z z z z g i m=>(AU (tT (AU (BL (Fu (gv 0) T.ld.cl T.abl (Oy T) (good_none rfl).pass (g.mono (by ext)) T.aaI.b (AG (gv 1) Af))))))
theorem Wm(T:Txt K mg W):FOm P w mg base T.aaK 13 2 (II W):=Pz T.aaK ["self", "row"] λz z z z z z i g m=>(AJ (Cf (FX g (gv 1) (Br T.ld.cl T.Ty (gv 0) rfl)) (AU (Hz (hu1 g) (Br T.ld.cl T.Ty (gv 0) rfl) (gv 1) (Fu (gv 0) T.ld.cl T.abm (Px T) (good_none rfl).pass (i.mono (by ext)) T.aaJ.b (AG (Oj (gv 1) CV) Af)) rfl)) BV)
  (AU (BL (Bj g (Br T.ld.cl T.Ty (gv 0) rfl) (gv 1)))))
theorem aX(T:Txt K mg W):FOd P w base T.aa6 14 1 (Ka W):=G9 T.aa6 ["text", "rows", "end", "desk"] λz z z z z z g o i=>(AJ (BZ 1 i (Oj (gv 0) CV))
  (AJ (Cf (FX o CV (gv 1)) (AJ (Et (gcl T.aaF (XW T) g (AG (gv 0) Af)))
  (AU FY)) BV)
  (AJ (BZ 2 i (jT (gv 1) CV))
  (AJ (BZ 3 i (Y0 T.ld.mk' (Yg T) (good_none rfl).pass (g.mono (by ext)) rfl T.ld.m T.aaz.b (AG (gcl T.aaF (XW T) g (AG (Vt CV (G8 (gv 1) JK (HC (gv 2)))) Af)) Af)))
  (AU (BL (Cz (NI ["row", "·1", "·2", "·3", "desk"] (DZ (G8 (gv 1) (HC (Aq Ga (gv 2) ge_int)) JK)) (λz z z z z z=>(Fu (gv 4) T.ld.cl T.abn (Wm T) (good_none rfl).pass (g.mono (by ext)) T.aaK.b (AG (gv 0) Af)))))))))))
theorem FW(T:Txt K mg W):FOd P w base T.aaa 1 2 (EQ W):=G9 T.aaa ["script", "k"] λz z z z z z i g m=>(AJ (Cf (CU Qt (gv 1) (KZ rfl T.Cl (gv 0)) (CC _)) (AU (BL (Bj g (gv 0) (gv 1)))) BV)
  (AU (BL ge_int)))
theorem Wj(T:Txt K mg W):FOd P w base T.aa7 2 2 (M3 W):=G9 T.aa7 ["script", "places", "bits", "style", "pairs", "left", "other", "one", "mixed", "there"] λz z z z z z m i g=>(AJ (BZ 2 g (yh rfl T.abo (gcl T.aaa (FW T) m (AG (gv 0) (AG ge_int Af)))))
  (AJ (BZ 3 g (Aq GZ (Aq Go (gcl T.aaa (FW T) m (AG (gv 0) (AG ge_int Af))) ge_int) ge_int))
  (AJ (BZ 4 g (Cz (FS Af)))
  (AJ (BZ 5 g (Cz (FS Af)))
  (AJ (Es (Xm rfl T.Fr (AG ge_int (AG (gv 1) Af))) (Ce 6 g)
  (AU (Es (FC rfl T.Fr (AG (gv 6) Af)) (Ce 7 g)
  (AJ (BZ 8 g (Aq GZ (Aq Yi (Aq Ga (Aq Ga (Aq GZ (gcl T.aaa (FW T) m (AG (gv 0) (AG (Aq Ga (Aq Ga ge_int (gv 7)) (gv 6)) Af))) ge_int) (Aq Yi ge_int (gv 7))) (gv 6)) ge_int) ge_int))
  (AJ (BZ 8 g (Aq GZ (Aq Go (Aq GZ (Aq Yi (gv 8) (gv 8)) ge_int) ge_int) ge_int))
  (AJ (BZ 9 g (Bj i (Cz (FS (AG (SK (Jv i) (Aq GZ (gv 2) ge_int) ge_int (CC _)) (AG (SK Qt (gv 8) ge_int (CC _)) (AG (SK Qt (gv 8) ge_int (CC _)) (AG (SK (Sm i) (Aq GZ (gv 2) ge_int) ge_int (CC _)) Af)))))) (gv 3)))
  (AJ (BZ 2 g (Aq Go (gv 2) ge_int))
  (AU (Cf (Er (gv 9)) (AU (Et (Dr (gv 4) (Fm (AG (gv 7) (AG (gv 6) Af)))))) (AU (Et (Dr (gv 5) (Fm (AG (gv 7) (AG (gv 6) Af)))))))))))))))
  (AJ (Cf (O2 (Py (CU (Jv i) (gv 3) ge_int (CC _)) (Mv (CU m9 (KZ rfl T.Cl (gv 5)) ge_int (CC _))))) (AU (BZ 4 g (J8 rfl rfl T.aaf (Aq Ga (gv 4) (G8 (gv 5) (HC ge_int) JK))))) BV)
  (AU (BL (gv 4)))))))))
theorem Sk(T:Txt K mg W):FOd P w base T.aaL 1 3 (M4 W):=G9 T.aaL ["places", "pairs", "place", "far", "other"] λz z z z z z m g i=>(AJ (BZ 3 i (Cz (FS Af)))
  (AJ (Es (FC rfl T.Fr (AG (gv 0) Af)) (Ce 4 i)
  (AU (Cf (O2 (Py (CU (Sm g) (gv 4) (gv 2) (CC _)) (Mv (FX g (Fm (AG (Yz rfl rfl T.aaM (AG (gv 2) (AG (gv 4) Af))) (AG (gN rfl rfl T.abc (AG (gv 2) (AG (gv 4) Af))) Af))) (gv 1))))) (AU (Et (Dr (gv 3) (gv 4)))) BV)))
  (AU (BL (gv 3)))))
theorem Yf(T:Txt K mg W):FOd P w base T.aa8 2 3 (OJ W):=G9 T.aa8 ["places", "pairs", "place", "far", "other"] λz z z z z z i g m=>(AJ (BZ 3 m (gcl T.aaL (Sk T) i (AG (gv 0) (AG (gv 1) (AG (gv 2) Af)))))
  (AJ (Cf (CU (Sm g) (gv 3) (Cz (FS Af)) (CC _)) (AU (BL (Fm (AG ge_int (AG (Bj g (gv 3) ge_int) Af))))) BV)
  (AJ (Es (FC rfl T.Fr (AG (gv 0) Af)) (Ce 4 m)
  (AU (Cf (O2 (Py (CU (Sm g) (gv 4) (gv 2) (CC _)) (Mv (CU (Sm g) (gcl T.aaL (Sk T) i (AG (gv 0) (AG (gv 1) (AG (gv 4) Af)))) (Cz (FS Af)) (CC _))))) (AU (BL (Fm (AG ge_int (AG (gv 4) Af))))) BV)))
  (AU (BL Ix)))))
theorem R3(T:Txt K mg W):FOd P w base T.aa9 3 3 (Jp W):=G9 T.aa9 ["places", "pairs", "cell", "kind", "place", "fall", "due", "call"] λz z z z z z m i g=>(AJ (BZ 3 g (Bj i (Cz (FS (AG CV (AG CV Af)))) (Aq GZ (gv 2) ge_int)))
  (AJ (BZ 4 g (Aq GZ (Aq Go (gv 2) ge_int) (gv 0)))
  (AJ (BZ 5 g (gcl T.aa8 (Yf T) m (AG (gv 0) (AG (gv 1) (AG (gv 4) Af)))))
  (AJ (Cf (O2 (MB (CU (Jv i) (Aq GZ (Aq Go (gv 2) ge_int) ge_int) ge_int (CC _)) (Mu (CU (Jv i) (gv 0) ge_int (CC _))))) (AJ (BZ 6 g CV)
  (AJ (Cf (CU fZ (gv 5) Ix (CC _)) (AU (BZ 6 g (Aq FQ (Aq FQ (Aq FQ CV (JL rfl T.KK (Bj i (gv 5) ge_int))) CV) (JL rfl T.KK (Bj i (gv 5) ge_int))))) BV)
  (AU (BL (Fm (AG (Aq FQ (Aq FQ (Aq FQ CV (gv 3)) CV) (JL rfl T.KK (gv 4))) (AG (gv 6) Af))))))) BV)
  (AJ (BZ 7 g (Aq GZ (Aq Ga (Aq Ga (gv 4) ge_int) (Aq GZ (Aq Go (Aq Go (gv 2) ge_int) (gv 0)) (Aq R5 (gv 0) ge_int))) (gv 0)))
  (AJ (BZ 6 g (JL rfl T.KK (gv 7)))
  (AJ (Cf (CU fZ (gv 5) Ix (CC _)) (AU (BZ 6 g CV)) BV)
  (AU (BL (Fm (AG (Aq FQ (Aq FQ (Aq FQ (Aq FQ (Aq FQ CV (gv 3)) CV) (JL rfl T.KK (gv 7))) CV) (JL rfl T.KK (gv 4))) (AG (gv 6) Af))))))))))))
theorem xf(T:Txt K mg W):FOd P w base T.aab 15 1 (gZ W):=G9 T.aab ["script", "head", "places", "pairs", "rows", "one", "other", "due", "k", "question", "answer", "found"] λz z z z z z i m g=>(AJ (BZ 1 g (gcl T.aaa (FW T) i (AG (gv 0) (AG ge_int Af))))
  (AJ (BZ 2 g (Aq Ga ge_int (Bj m (Cz (FS (AG (Aq GZ (Aq Go (gv 1) ge_int) ge_int) (AG (Aq GZ (Aq Go (gv 1) ge_int) ge_int) (AG (Aq GZ (Aq Go (gv 1) ge_int) ge_int) (AG (Aq GZ (Aq Go (gv 1) ge_int) ge_int) Af)))))) (Aq GZ (gv 1) ge_int))))
  (AJ (BZ 3 g (gcl T.aa7 (Wj T) i (AG (gv 0) (AG (gv 2) Af))))
  (AJ (BZ 4 g (Cz (FS (AG (Aq FQ CV (JL rfl T.KK (gv 2))) Af))))
  (AJ (Es (DZ (J8 rfl rfl T.aaf (gv 3))) (Mw rfl (DP (Ce 5 g) (DP (Ce 6 g) J4)))
  (AU (Et (Dr (gv 4) (Aq FQ (Aq FQ (Aq FQ CV (JL rfl T.KK (gv 5))) CV) (JL rfl T.KK (gv 6)))))))
  (AJ (Et (Dr (gv 4) CV))
  (AJ (BZ 7 g (Cz (FS Af)))
  (AJ (Es (FC rfl T.Fr (AG (Yz rfl rfl T.aaM (AG ge_int (AG (Aq Ga ge_int (KZ rfl T.Cl (gv 0))) Af))) Af)) (Ce 8 g)
  (AJ (yU (gcl T.aa9 (R3 T) i (AG (gv 2) (AG (gv 3) (AG (Aq Ga (Aq Go (gcl T.aaa (FW T) i (AG (gv 0) (AG (gv 8) Af))) ge_int) (gv 8)) Af)))) (Mw rfl (DP (Ce 9 g) (DP (Ce 10 g) J4))))
  (AJ (Et (Dr (gv 4) (gv 9)))
  (AU (Et (Dr (gv 7) (gv 10)))))))
  (AJ (BZ 11 g (gcl T.aa6 (aX T) i (AG (Vt CV (gv 4)) Af)))
  (AU (BL (L2.ye (yd (c:=.ty "list") (cv:=.type "list") (λz r=>r) nv rfl T.abr (gv 11) (sY rfl T.abt PyProof.Rows.boot_list rfl)) (yc (SK (Jv m) (gv 11) (gv 7) (CC _)))))))))))))))
end
open L2
open Srt (ltL)
noncomputable def pairD(x:Int×Int):D:=.tup [.int x.1,.int x.2]
noncomputable def nrm(x:Int×Int):Int×Int:=(if x.2 < x.1 then x.2 else x.1,if x.2 > x.1 then x.2 else x.1)
noncomputable def VH(x:Int×Int):YP:=[x.1,x.2]
noncomputable def Q5(x:Int×Int):¬Key:=[.inl x.1,.inl x.2]
theorem a6(h:Q5 x=Q5 y):x=y:=by
 unfold Q5 at h
 grind
theorem Vp:∀g:YP,G7 (g.map D.int)=!g
 | []=>rfl
 | n :: g=>by
  rw[At];unfold G7;ext
theorem U9:∀g:¬YP,(∀r∈g,r≠[])->PQ (g.map Ow)=!g
 | [],_=>rfl
 | [] :: g,h=>zX rfl (h [] Aj)
 | (n :: m) :: g,h=>by
  rw[At];unfold Ow PQ;rw[Vp,show em (λr:YP=>D.tup (r.map D.int)) g=g.map Ow from rfl,U9 g λr i=>h r (AY _ i)]
theorem cu(g:¬YP)(h:∀r∈g,r≠[]):No (g.map Ow)=!(Nn g).map Ow:=by
 unfold No
 cases g with
 | nil=>simp[G7,Nn]
 | cons r g=>
  let:G7 ((r :: g).map Ow)=none:=rfl;rw[this,U9 _ h]
theorem cx(g:YP):No (g.map D.int)=!(Hk g).map D.int:=by
 unfold No;rw[Vp]
def Oz(g:¬XP):¬(¬Key×D):=g.map λx=>(Q5 (nrm x),.bl true)
theorem nJ(g:¬XP)(x:Int×Int):(BI (Oz g) (Q5 (nrm x))).isSome=decide (nrm x∈g.map nrm):=by
 unfold BI Oz
 induction g with
 | nil=>rfl
 | cons y g i=>
  rw[At,D7]
  by_cases e:Q5 (nrm y)=Q5 (nrm x)
  ·rw[wX e]
   simp[a6 e]
  grind
theorem nI(g:¬XP)(x:Int×Int)(h:nrm x∉g.map nrm):Cy (Oz g) (Q5 (nrm x)) (.bl true)=Oz (g++[x]):=by
 unfold Cy;rw[qY]
 ·simp[Oz]
 ·intro z
  let#[y,i,e]:=NF.mp z;let#[a,m,rfl]:=BN.mp i;exact h (by rw[<-a6 (of_decide_eq_true e)];exact List.mem_map_of_mem m)
theorem AA9(h:S[n]?=!.dT g)(neg:Bool):inA neg (pairD x) (.ref n) S=.ok (.bl (if neg then not (BI g (Q5 x)).isSome else(BI g (Q5 x)).isSome)) S:=by
 show KS (inD neg (pairD x) (.ref n) S) (P2 neg (pairD x) (.ref n) S)=_
 let e:inD neg (pairD x) (.ref n) S=.bad:=by
  unfold inD GB;symm;rw[h]
 let i:Kl (.ref n) (pairD x) S=!BI g (Q5 x):=by
  unfold Kl pairD;symm;rw[h];rfl
 rw[e];show P2 neg (pairD x) (.ref n) S=_;unfold P2;rw[i]
theorem pA(i:mv e S=.ok v S)(ho:mo e S=.ok (.ref d) S)(hi:mi e S=.ok (pairD x) S)(h:S[d]?=!.dT g)(m:-g < sizeLine) :
  Cr mo mi mv e S=.ok (.nx e) (S.set d (.dT (Cy g (Q5 x) v))):=by
 unfold Cr;rw[i];dsimp only[Res.lift];rw[ho];dsimp only[Res.lift];rw[hi];dsimp only[Res.lift]
 let:O3 (.ref d) (pairD x) v S=!S.set d (.dT (Cy g (Q5 x) v)):=by
  unfold O3 pairD;symm;rw[h];show(if -g < sizeLine then !S.set d (.dT (Cy g (Q5 x) v))else none)=_;rw[qX m]
 rw[this]
theorem ix0(x:Int×Int)(S:Sto):ixA (pairD x) (.int 0) S=.ok (.int x.1) S:=rfl
theorem ix1(x:Int×Int)(S:Sto):ixA (pairD x) (.int 1) S=.ok (.int x.2) S:=rfl
def Fit(p:Int)(x:Int×Int):Prop:=(nrm x).1≠(nrm x).2/\0<=(nrm x).1/\(nrm x).2 < p
abbrev bTie(W:Wd):MS:=As (Bb 5 (Hd (AK (mQ Qv (AK (AB 3) (AK (AB 4) Ax))) (AK (mQ Sq (AK (AB 3) (AK (AB 4) Ax))) Ax))))
  (As (sIf (mB (m2 (eqD false) (m2 ixA (AB 5) (mC (.int 0))) (m2 ixA (AB 5) (mC (.int 1))))) N0 sNx)
  (As (sIf (mOr (mB (m2 ltD (m2 ixA (AB 5) (mC (.int 0))) (mC (.int 0)))) (mB (m2 geD (m2 ixA (AB 5) (mC (.int 1))) (AB 0)))) N0 sNx)
  (As (sIf (mB (m2 (inA false) (AB 5) (AB 2))) N0 sNx)
  (Cr (AB 2) (AB 5) (mC (.bl true))))))
theorem Yl(h:t e S=.ok false S):sIf t a sNx e S=.ok (.nx e) S:=(EN h).trans rfl
theorem lN(i:S[n]?=!.dT (Oz g))(o:-g<=100000)(hf:Fit p x)(m:nrm x∉g.map nrm) :
  bTie W [sI p,!t,sR n,sI x.1,sI x.2,s] S=oN [sI p,!t,sR n,sI x.1,sI x.2,!pairD (nrm x)] (S.set n (.dT (Oz (g++[x])))):=by
 let A:Bb 5 (Hd (AK (mQ Qv (AK (AB 3) (AK (AB 4) Ax))) (AK (mQ Sq (AK (AB 3) (AK (AB 4) Ax))) Ax))) [sI p,!t,sR n,sI x.1,sI x.2,s] S =
   oN [sI p,!t,sR n,sI x.1,sI x.2,!pairD (nrm x)] S:=
  EL (Uk (BF (iz rfl rfl) (BF (iz rfl rfl) rfl)) ∅)
 let#[B,C,E]:=hf;refine(BD A).trans ((BD (Yl (Jc (Bi (Bi rfl rfl (ix0 _ _)) (Bi rfl rfl (ix1 _ _)) (yt (wY B)))))).trans ((BD (Yl ((Pt (Jc (Bi (Bi rfl rfl (ix0 _ _)) rfl (nO (wY (by ext)))))).trans (Jc (Bi (Bi rfl rfl (ix1 _ _)) rfl (oQ (wY (by ext)))))))).trans ((BD (Yl (Jc (Bi rfl rfl ?_)))).trans ?_)))
 ·rw[AA9 i,nJ,wY m]
  rfl
 ·rw[pA rfl rfl rfl i (by unfold Oz;rw[AN];exact Bc o ∅),nI _ _ m]
theorem jN(h:m e S=.ok d S1)(g:Hi d S1=!xs):EO m e S=.ok (Hi d) S1:=by
 unfold EO;ext
def HM(p:Int)(g:¬XP):Prop:=(∀x∈g,Fit p x)/\(g.map nrm).Nodup
theorem HM.snoc:HM p (i++[x])↔HM p i/\Fit p x/\nrm x∉i.map nrm:=by
 unfold HM;rw[BQ,Ln]
 constructor
 ·grind
 ·rintro⟨⟨m,o⟩,s,A⟩
  refine#[λy g=>?_,o,by simp,λa B b hb e=>?_]
  ·rcases BO.mp g with g | g
   ·exact m y g
   ·rw[AV.mp g];exact s
  grind
theorem HM.take(h:HM p g)(i:Nat):HM p (g.take i):=by
 refine#[λx m=>h.1 x (List.mem_of_mem_take m),?_];rw[List.map_take];exact h.2.sublist (kJ _ _)
theorem take_snoc{g:Type}{l:¬g}{i:Nat}{x:g}(h:l[i]?=!x):l.take (i+1)=l.take i++[x]:=by
 rw[DJ,h];rfl
theorem ZD(W:Wd){p:Int}{d:D}{S:Sto}{s:¬XP}(G:∀m,Keeps S m->Hi d m=!s.map pairD)(L:-s<=100000)(hf:HM p s) :
  ∃A B o,FG (EO (AB 1)) (JT 2 (Cw (tgN 3) (Cw (tgN 4) Ju))) (bTie W) [sI p,!d,sR (-S),none,none,none] (S++[.dT []])=oN [sI p,!d,sR (-S),A,B,o] (S++[.dT (Oz s)]):=by
 rw[Mx (jN rfl (G _ (Keeps.app _ _)))]
 let#[f,m,h,A,B,o,rfl,rfl]:=Y2 (g:=JT 2 (Cw (tgN 3) (Cw (tgN 4) Ju))) (S:=S++[.dT []]) (λi e m=>(∃A B o,e=[sI p,!d,sR (-S),A,B,o])/\m=S++[.dT (Oz (s.take i))]) (λf m=>∃A B o,f=.nx [sI p,!d,sR (-S),A,B,o]/\m=S++[.dT (Oz s)]) #[#[none,none,none,rfl],by simp[Oz]] (by rintro i e m ⟨_,rfl⟩;exact G _ (Keeps.app _ _))
  (by
   rintro i y e m C ⟨⟨A,B,o,rfl⟩,rfl⟩;rw[Al]at C
   cases E:s[i]? with
   | none=>rw[E]at C;cases C
   | some x=>
    rw[E]at C;cases C;let N:=(AE.mp E).1;let H:=hf.take (i+1);rw[take_snoc E]at H;let#[_,I,J]:=HM.snoc.mp H;refine#[[sI p,!d,sR (-S),sI x.1,sI x.2,o],_,rfl,_,_,lN (W:=W) (DM S (.dT (Oz (s.take i)))) (by rw[ET];grind) I J,#[_,_,_,rfl],?_];rw[take_snoc E]
    simp)
  (by
   ext)
 exact#[A,B,o,h]
def LJ(g:¬XP):¬YP:=Nn (g.map λx=>VH (nrm x))
theorem ZE(W:Wd){p:Int}{d:D}{S:Sto}{g:¬XP}(i:∀S',Keeps S S'->Hi d S'=!g.map pairD)(o:-g<=100000)(hf:HM p g) :
  ∃S',ID W [.int p,d] S=.ok (.tup ((LJ g).map Ow)) S'/\Keeps S S':=by
 let#[s,A,B,C]:=ZD W i o hf
 ·let E:OE (.ref (-S)) (S++[.dT (Oz g)])=!(g.map λx=>VH (nrm x)).map Ow:=by
   unfold OE;symm;rw[DM];symm;unfold Oz;rw[BC,BC];rfl
  let G:=Oe (m:=AB 2) (e:=[sI p,!d,sR (-S),s,A,B]) rfl E (cu _ (by intro r H;let#[x,_,rfl]:=BN.mp H;simp[VH]));refine#[S++[.dT (Oz g)]++[.lst ((LJ g).map Ow)],EM ?_,(Keeps.app S _).trans (Keeps.app _ _)];refine G1 (BD rfl) ?_;refine G1 (BD C) ?_;exact Ex (Nk G (DO (DM _ _)))
open L2
noncomputable def Ee(ts:¬XP)(x:Nat):YP:=ts.flatMap λt=>(if t.1=(x:Int)then[t.2]else[])++(if t.2=(x:Int)then[t.1]else[])
theorem ah(ts:¬XP)(t:Int×Int)(x:Nat):Ee (ts++[t]) x=Ee ts x++((if t.1=(x:Int)then[t.2]else[])++(if t.2=(x:Int)then[t.1]else[])):=by
 unfold Ee;ext
noncomputable def Hm(p:Nat)(F:Nat->YP):Sto:=(Ca p).map λx=>Ob.lst ((F x).map D.int)
noncomputable def HI(k p:Nat):¬D:=(Ca p).map λx=>D.ref (k+x)
def stN(S:Sto)(p:Nat)(F:Nat->YP):Sto:=S++Hm p F++[.lst (HI (-S) p)]
theorem KI(p:Nat)(F:Nat->YP):-Hm p F=p:=by simp[Hm]
theorem YO(S:Sto)(p:Nat)(F:Nat->YP):-stN S p F=-S+p+1:=by simp[stN,KI];rfl
theorem Rs(S:Sto)(p:Nat)(F:Nat->YP):Keeps S (stN S p F):=(Keeps.app S _).trans (Keeps.app _ _)
theorem Nm(S:Sto)(p:Nat)(F:Nat->YP):(stN S p F)[S.length+p]?=!.lst (HI (-S) p):=by
 let:-S+p=-(S++Hm p F):=by simp[KI]
 unfold stN;rw[this];exact DM _ _
theorem Mb(S:Sto)(F:Nat->YP)(h:a < p):(stN S p F)[S.length+a]?=!.lst ((F a).map D.int):=by
 unfold stN;rw[BM,BE (by ext),Ah (by rw[KI];ext),show -S+a - -S=a by ext];unfold Hm;ext
theorem fN(S:Sto)(F:Nat->YP)(g:YP)(h:a < p):(stN S p F).set (-S+a) (.lst (g.map D.int))=stN S p (λx=>if x=a then g else F x):=by
 apply IV
 intro j
 by_cases e:-S+a=j
 ·subst e
  rw[An (by rw[YO];lia),Mb _ _ h,qX rfl]
 ·rw[Ak e]
  by_cases i:j < -S
  ·rw[(Rs S p F).2 j i,(Rs S p _).2 j i]
  by_cases m:j - -S < p
  ·let o:j=-S+(j - -S):=by ext
   rw[o,Mb S F m,Mb S _ m,qY ∅]
  by_cases s:j=-S+p
  ·subst s
   rw[Nm,Nm]
  ·rw[JQ (by rw[YO];grind),JQ (by rw[YO];lia)]
theorem gD(F:Nat->YP)(h:a < p):ixA (.ref (-S+p)) (.int a) (stN S p F)=.ok (.ref (-S+a)) (stN S p F):=by
 show KS (ixD _ _ _) _=_;let g:=DO (Nm S p F)
 let i:atI (HI (-S) p) (a:Int)=!.ref (-S+a):=by
  unfold atI ixN;rw[show(HI (-S) p).length=p by simp[HI],qX (by ext),qX (by ext)];simp only[AF,Ap];unfold HI;rw[Al,DL h];rfl
 let:ixD (.ref (-S+p)) (.int a) (stN S p F)=.ok (.ref (-S+a)) (stN S p F):=by
  unfold ixD;rw[g];symm;rw[i]
 rw[this];rfl
theorem lW(S:Sto):∀p:Nat,S++Hm (p+1) (λz=>[])=S++Hm p (λz=>[])++[.lst []]:=λp=>by
 unfold Hm;rw[Nb,BQ,BM];rfl
theorem ip(H:p<=60)(E:mp e S=.ok (.int p) S) :
  En 1 (iR1 (AK mp Ax)) (tgN 0) HA (ED (Dg Ax)) e S=.ok (HI (-S) p) (S++Hm p λJ=>[]):=by
 let A:iR1 (AK mp Ax) e S=.ok (HQ (Ks 0 p)) S:=by
  let:=n8 (ml:=AK mp Ax) (BF E rfl) (by ext) ∅;simpa using this
 let#[r,I,B,s,#[z,_],rfl,rfl]:=ZB (g:=tgN 0) (c:=HA) (m:=ED (Dg Ax)) (xs:=Ks 0 p) (S:=S)
  (λi s C o=>(∃z,s=z :: e)/\C=S++Hm i (λJ=>[])/\o=HI (-S) i)
  #[#[none,rfl],by simp[Hm],rfl] (λJ J J J J=>rfl)
  (by
   rintro i d s C o G ⟨⟨z,rfl⟩,rfl,rfl⟩;let#[A,rfl]:=mG G;refine#[by simp[HI];exact Bc (m:=60) ∅ ∅,(!.int (0+i)) :: e,_,rfl,true,_,rfl,.inl #[rfl,.ref (-(S++Hm i λJ=>[])),_,rfl,#[_,rfl],(lW S i).symm,?_]];unfold HI;rw[Nb,BQ,Aa,KI]
   rfl)
 rw[iu]at B;exact(RI A).trans B
abbrev vK:MS:=As (FJ (LR (m2 ixA (AB 2) (AB 3)) (AB 4))) (FJ (LR (m2 ixA (AB 2) (AB 4)) (AB 3)))
def In(p:Nat)(t:Int×Int):Prop:=0<=t.1/\t.1 < p/\0<=t.2/\t.2 < p/\t.1≠t.2
theorem io(i:In p t)(E:∀x,(F x).length < 200000) :
  vK [!m,!d1,sR (-S+p),sI t.1,sI t.2] (stN S p F)=.ok (.nx [!m,!d1,sR (-S+p),sI t.1,sI t.2])
   (stN S p λx=>F x++((if t.1=(x:Int)then[t.2]else[])++(if t.2=(x:Int)then[t.1]else[]))):=by
 obtain⟨a,s⟩:∃a:Nat,t.1=a:=#[t.1.toNat,by let:=i.1;lia]
 obtain⟨b,hb⟩:∃b:Nat,t.2=b:=#[t.2.toNat,by let:=i.2.2.1;lia]
 let#[_,H,_,I,G]:=i
 let o:a≠b:=λe=>G (by rw[s,hb,e])
 rw[s,hb]
 let A:∀x,((F x).map D.int).length < sizeLine:=λx=>by rw[AN];exact cJ (E x) ∅
 let B:=ZJ (mo:=m2 ixA (AB 2) (AB 3)) (ma:=AB 4) (e:=[!m,!d1,sR (-S+p),sI a,sI b]) (Bi rfl rfl (gD F (by ext))) (Mb S F ∅) rfl (Mb S F ∅) (A a);rw[show(F a).map D.int++[D.int b]=(F a++[(b:Int)]).map D.int by simp,fN S F _ ∅]at B
 let g:(stN S p λx=>if x=a then F a++[(b:Int)]else F x)[S.length+b]?=!.lst ((F b).map D.int):=by
  rw[Mb S _ (by ext),qY (Cc o)]
 let C:=ZJ (mo:=m2 ixA (AB 2) (AB 4)) (ma:=AB 3) (e:=[!m,!d1,sR (-S+p),sI a,sI b]) (Bi rfl rfl (gD _ ∅)) g rfl g (A b);rw[show(F b).map D.int++[D.int a]=(F b++[(a:Int)]).map D.int by simp,fN S _ _ ∅]at C;unfold vK;rw[BD (Om B),Om C]
 congr 2
 grind
theorem dL(ts:¬XP)(x:Nat):-Ee ts x<=2 * -ts:=by
 unfold Ee
 induction ts with
 | nil=>simp
 | cons t ts g=>
  rw[kL,Aa,Az]
  let:-((if t.1=(x:Int)then[t.2]else[])++(if t.2=(x:Int)then[t.1]else[]))<=2:=by split <;> split <;> simp
  lia
def Ru(p:Nat)(ts:¬XP):¬D:=(Ca p).map λx=>.tup ((Hk (Ee ts x)).map D.int)
theorem su(W:Wd)(N:p<=60)(O:∀t∈ts,In p t)(P:-ts<=90000)(S:Sto) :
  ∃S',IB W [.int p,.tup (ts.map pairD)] S=.ok (.tup (Ru p ts)) S'/\Keeps S S':=by
 let I:=EL (i:=2) (R9 (ip N (mp:=AB 0) (e:=[sI p,!.tup (ts.map pairD),none,none,none]) (S:=S) rfl));let Q:(S++Hm p λM=>[])++[.lst (HI (-S) p)]=stN S p (Ee []):=rfl
 let R:-(S++Hm p λM=>[])=-S+p:=by simp[KI]
 rw[Q,R]at I
 let#[f,S1,T,#[o,s,rfl],rfl]:=Y2 (g:=JT 2 (Cw (tgN 3) (Cw (tgN 4) Ju))) (xs:=ts.map pairD)
  (λi e S'=>(∃o s,e=[sI p,!.tup (ts.map pairD),sR (-S+p),o,s])/\S'=stN S p (Ee (ts.take i)))
  (λf S'=>(∃o s,f=.nx [sI p,!.tup (ts.map pairD),sR (-S+p),o,s])/\S'=stN S p (Ee ts))
  #[#[none,none,rfl],rfl] (λM M M M=>rfl)
  (by
   rintro i y e S' B ⟨⟨o,s,rfl⟩,rfl⟩;rw[Al]at B
   cases C:ts[i]? with
   | none=>rw[C]at B;cases B
   | some t=>
    rw[C]at B;cases B;refine#[[sI p,!.tup (ts.map pairD),sR (-S+p),sI t.1,sI t.2],_,rfl,_,_,io (O t (CH C)) (λx=>?_),#[_,_,rfl],?_]
    ·let:=dL (ts.take i) x
     rw[ET]at this;exact Bc (Ab this (Nat.mul_le_mul_left 2 (Ab (qE _ _) P))) (by ext)
    ·rw[take_snoc C,show Ee (ts.take i++[t])=_ from funext λx=>ah _ _ x])
  (by
   simp)
 let U:=(Mx (Vq (m:=AB 1) rfl)).trans T
 let#[r,X,Y,E,#[z,_],K,rfl]:=ZB (g:=tgN 0) (c:=HA)
  (λi E S' A=>(∃z,E=[z,sI p,!.tup (ts.map pairD),sR (-S+p),o,s])/\Keeps (stN S p (Ee ts)) S'/\A=(Ca i).map λx=>.tup ((Hk (Ee ts x)).map D.int))
  #[#[none,rfl],.refl _,rfl] (λi E S' A h=>C0 (h.2.1.at (Nm S p _)))
  (by
   rintro i d E S' A G ⟨⟨z,rfl⟩,K,rfl⟩
   let J:i < p:=by
    let:=(AE.mp G).1;simpa[HI]using this
   unfold HI at G;rw[Al,DL J]at G;cases G;let H:=Vn (K.at (Mb S _ J));let Z:=Oe (m:=AB 0) (e:=[sR (-S+i),sI p,!.tup (ts.map pairD),sR (-S+p),o,s]) rfl H (cx _);refine#[by simp;exact Bc (m:=60) ∅ ∅,[sR (-S+i),sI p,!.tup (ts.map pairD),sR (-S+p),o,s],_,rfl,true,_,rfl,.inl #[rfl,_,_,Nk Z (DO (DM _ _)),#[_,rfl],K.trans (Keeps.app _ _),?_]];rw[Nb,BQ]
   rfl)
 let L:=(RI (n:=1) (JX (m:=AB 2) rfl (Nm S p _))).trans Y;rw[show(HI (-S) p).length=p by simp[HI]]at L;refine#[X++[.lst (Ru p ts)],EM ?_,((Rs S p _).trans K).trans (Keeps.app _ _)];unfold OP;refine G1 (BD I) ?_;refine G1 (BD U) ?_;exact Ex (Nk (R9 L) (DO (DM _ _)))
open L2
open Srt (ltL)
def toP(r:YP):Int×Int:=(r.getD 0 0,r.getD 1 0)
def F9(g:¬XP):¬XP:=(LJ g).map toP
theorem Ul(h:r∈LJ g):∃x∈g,r=VH (nrm x):=by
 let:=(Il _).mem_iff.mp h
 grind
theorem XC(ps:¬XP):(F9 ps).map VH=LJ ps:=by
 unfold F9;rw[BC]
 conv=>rhs;rw[<-UQ (LJ ps)]
 refine Ck λr g=>?_
 let#[x,_,rfl]:=Ul g;rfl
theorem cj(g:¬XP):(LJ g).map Ow=(F9 g).map pairD:=by
 rw[<-XC,BC];rfl
theorem Z1(h:t∈F9 g):∃x∈g,t=nrm x:=by
 let#[r,i,rfl]:=BN.mp h;let#[x,m,rfl]:=Ul i;exact#[x,m,rfl]
theorem J7(g:¬XP):(F9 g).Perm (g.map nrm):=by
 unfold F9 LJ;let:=(Il (g.map λx=>VH (nrm x))).map toP;refine this.trans ?_;rw[BC];rfl
theorem xl(x:Int×Int):(nrm x).1<=(nrm x).2:=by
 unfold nrm
 split <;> split <;> ext
theorem Fit.in{p:Nat}{x:Int×Int}(h:Fit p x):In p (nrm x):=by
 let#[g,i,m]:=h;let:=xl x;exact#[i,by lia,by lia,m,g]
theorem ne_pt:Not (("places" : Str) = "ties"):=by decide +kernel
theorem ne_pn:Not (("places" : Str) = "near_sets"):=by decide +kernel
theorem ne_tn:Not (("ties" : Str) = "near_sets"):=by decide +kernel
theorem put2(a b:D):LO "ties" b [(("places" : Str),a)]=([("places",a),("ties",b)]:¬(Str×D)):=by
 rfl
theorem put3(a b c:D):LO "near_sets" c [(("places" : Str),a),("ties",b)]=([("places",a),("ties",b),("near_sets",c)]:¬(Str×D)):=by
 rfl
theorem AA0(a b c:D):([("places",a),("ties",b),("near_sets",c)]:¬(Str×D)).lookup ("places" : Str)=!a:=by
 rfl
theorem look3(a b c:D):([("places",a),("ties",b),("near_sets",c)]:¬(Str×D)).lookup ("near_sets" : Str)=!c:=by
 rfl
theorem xt(a b:D):([("places",a),("ties",b)]:¬(Str×D)).lookup ("ties" : Str)=!b:=by
 rfl
open L2 L4
def Jn(W:Wd)(w:Nat×¬XP):Ob:=.ins W.Web [("places",.int w.1),("ties",.tup (w.2.map pairD)),("near_sets",.tup (Ru w.1 w.2))]
def SA(p:Nat)(ts:¬XP):¬YP:=(Ca p).map λx=>Hk (Ee ts x)
theorem nG(p:Nat)(ts:¬XP):D.tup (Ru p ts)=eT (eT D.int) (SA p ts):=by
 unfold Ru SA eT;rw[BC];rfl
open Classical in
def qW(x:Int)(l:¬XP):⇑(Nat×¬XP):=if 1<=x/\x<=60/\HM x l/\-l<=90000 then !(x.toNat,F9 l)else none
section
variable{W:Wd}{A:¬Sl}{a b m:ME}{p:⇑(Nat×¬XP)}
theorem fF{i:Type}{f:Str}{enc:i->D}{g:Nat×¬XP->i}(h:VE A m (rO (Jn W)) p)(o:∀w,([("places",D.int w.1),("ties",.tup (w.2.map pairD)),("near_sets",.tup (Ru w.1 w.2))]:¬(Str×D)).lookup f=!enc (g w)):VE A (CD W.Web f m) (rV enc) (p*>λw=>!g w):=λv s B e F S C=>by
 let#[w,E,G]:=Aw s;cases G;let#[d,H,I,J,n,rfl,L]:=h w E B e F S C;exact#[_,H,FT I L (o w),J,rfl]
theorem Ij(h:VE A m (rO (Jn W)) p):VE A (CD W.Web "places" m) (rV D.int) (p*>λw=>!(w.1:Int)):=fF h λw=>AA0 _ _ _
theorem qr(h:VE A m (rO (Jn W)) p):VE A (CD W.Web "near_sets" m) (rV (eT (eT D.int))) (p*>λw=>!SA w.1 w.2):=fF h λw=>by rw[<-nG];rfl
theorem vj(W:Wd){p:Nat}(h1:1<=p)(Y:p<=60){d:D}{S:Sto}{g:¬XP}(Z:∀i,Keeps S i->Hi d i=!g.map pairD)(P:-g<=90000)(hf:HM p g){e:Lo}{ml:ML}{Q:Sto}(ha:ml e Q=.ok [.int p,d] S) :
  ∃i,PU W.Web 3 (M5 W) ml e Q=.ok (.ref (-S)) i/\Keeps S i/\i[S.length]?=!Jn W (p,F9 g):=by
 let t0:NR (mB (m3 leD leD (mC (.int 1)) (AB 1) (mC (.int 60)))) [sR (-S),sI p,!d] (S++[.ins W.Web []])=.ok false (S++[.ins W.Web []]):=
  OB (Jc (vA rfl rfl (nR (wX ∅)) rfl (nR (wX ∅))))
 let E:(S++[Ob.ins W.Web []])[S.length]?=!.ins W.Web []:=DM _ _;let e1:=Me (f:="places") (mo:=AB 0) (mv:=AB 1) (e:=[sR (-S),sI p,!d]) rfl rfl E (by ext);let G:Keeps S ((S++[Ob.ins W.Web []]).set (-S) (.ins W.Web (LO "places" (.int p) []))):=(Keeps.app S _).set (AO _) _;generalize H:(S++[Ob.ins W.Web []]).set (-S) (.ins W.Web (LO "places" (.int p) []))=S1 at e1 G
 let s:S1[S.length]?=!.ins W.Web [("places",.int p)]:=by rw[<-H];exact An ∅
 let#[R,T,I]:=ZE W (λi k=>Z i (G.trans k)) (Ab P (by ext)) hf;rw[cj]at T;let J:=Me (f:="ties") (mo:=AB 0) (mv:=Bg 2 (ID W) (AK (AB 1) (AK (AB 2) Ax))) (e:=[sR (-S),sI p,!d]) ((Fv rfl rfl).trans T) rfl (I.at s) ∅;let L:Keeps S (R.set (-S) (.ins W.Web (LO "ties" (.tup ((F9 g).map pairD)) [("places",.int p)]))):=(G.trans I).set (AO _) _;rw[put2]at J L;let B:=(AE.mp (I.at s)).1;generalize N:R.set (-S) (.ins W.Web [("places",.int p),("ties",.tup ((F9 g).map pairD))])=U at J L
 let o:U[S.length]?=!.ins W.Web [("places",.int p),("ties",.tup ((F9 g).map pairD))]:=by rw[<-N];exact An B
 let#[S4,c4,O]:=su W Y (λt ht=>by
  let#[x,hx,rfl]:=Z1 ht
  exact(hf.1 x hx).in) (by rw[(J7 g).length_eq,AN];exact P) U
 let X:=Me (f:="near_sets") (mo:=AB 0) (mv:=Bg 2 (IB W) (AK (AB 1) (AK (CD W.Web "ties" (AB 0)) Ax))) (e:=[sR (-S),sI p,!d])
  ((Fv (BF rfl (BF (FT rfl o (xt _ _)) rfl)) rfl).trans c4) rfl (O.at o) ∅
 let C:=(AE.mp (O.at o)).1;rw[put3]at X;refine#[_,Yo ha rfl (YU (e:=[sR (-S),sI p,!d]) ?_),(L.trans O).set (AO _) _,An C];unfold WF;refine G1 (BD (e1:=[sR (-S),sI p,!d]) (G1 (EN t0) rfl)) ?_;rw[BD e1,BD J];exact X
set_option tactic.hygienic true in
theorem vy{s:⇑Int}{pl:⇑(¬XP)}(G:VE A a (rV D.int) s)(hb:VE A b (rO (oL (eP D.int D.int))) pl):VE A (PU W.Web 3 (M5 W) (AK a (AK b Ax))) (rN (Jn W)) (s*>λx=>pl*>λl=>qW x l):=λv i B e F S C=>by
 let#[x,H,i]:=Aw i;let#[l,I,g]:=Aw i;let#[d1,J,L,o,rfl]:=G x H B e F S C;let#[d2,Z,N,E,n,rfl,O]:=hb l I B e _ J (C.grow o);unfold qW at g;split at g
 ·rename_i P
  cases g;let#[c1,c2,c3,Q]:=P;let R:((x.toNat:Nat):Int)=x:=Cn ∅;let#[T,U,X,Y]:=vj W (p:=x.toNat) ∅ (by ext) (λS' k=>C0 (k.at O)) Q (by ext) (ml:=AK a (AK b Ax)) (by rw[R];exact BF L (BF N rfl));exact#[_,T,U,(o.trans E).trans X,_,rfl,(o.trans E).1,Y]
 ·cases g
end
def Tk(i:¬YP)(g:Int):YP:=(atI i g).getD []
theorem ge(m:mv e S=.ok (enc v) S)(ho:mo e S=.ok (.ref n) S)(hi:mi e S=.ok (.int k) S)(g:S[n]?=!oDK enc l)(i:-l < 1000000):Cr mo mi mv e S=.ok (.nx e) (S.set n (oDK enc (Cy l k v))):=by
 let:O3 (.ref n) (.int k) (enc v) S=!S.set n (oDK enc (Cy l k v)):=by
  unfold O3;symm;rw[g];show(if -l.map _ < sizeLine then !S.set n (.dK (Cy (l.map λx=>(Eh x.1,enc x.2)) (Eh k) (enc v)))else none)=_;rw[qX (by rw[AN];exact dS i),N6 UC];rfl
 unfold Cr;ext
abbrev AAy:ME:=ED (En 1 (EO (m2 ixA (AB 0) (AB 3))) (tgN 0) (OC (G6 (m2 Td (m2 aB (AB 2) (AB 0)) (mC (.int 1)))) (mB (m2 (inA true) (AB 0) (AB 5)))) (AB 0))
section
variable{S:Sto}{tN hN sN:Nat}{ξ:¬YP}{bits g:Int}
theorem qZ(C:S[tN]?=!oL (eT D.int) ξ)(E:S[hN]?=!.dK [])(G:S[sN]?=!.dK [])(s:0<=g/\g < -ξ)(H:∀t∈ξ,t.length<=1000/\∀x∈t,0<=x) :
  ∃n o,AAy [sR tN,sI bits,sR hN,sI g,sR sN,none,none] S=.ok (.ref n) o/\Keeps S o/\-S<=n/\o[n]?=!oL D.int ((Tk ξ g).filter (hb bits)):=by
 let V:=Vs.start (n:=7) (as:=[.z (oL (eT D.int) ξ),.v (D.int bits),.z (oDK D.int []),.v (D.int g),.z (oDK D.bl [])]) (ds:=[.ref tN,.int bits,.ref hN,.int g,.ref sN]) #[#[tN,rfl,C],rfl,#[hN,rfl,E],rfl,#[sN,rfl,G],trivial];obtain⟨t,B,-⟩:=WG s.1 s.2;let I:=H t (uV B)
 let m:=DD (El (A:=[.z (oL (eT D.int) ξ),.v (D.int bits),.z (oDK D.int []),.v (D.int g),.z (oDK D.bl []),.u,.u]) (VI.k (Ng (EK (DN (i:=0) rfl) (AL (i:=3) rfl))))
  (λx=>Ud (YG (Od (v4 (AL (i:=2) rfl) (AL (i:=0) rfl)) (Bf (v:=1) rfl))) (Fy (Zt (AL (i:=0) rfl) (DN (i:=5) rfl)))) (λx=>AL (i:=0) rfl))
 simp only[AF]at m;rw[B]at m
 let#[d,o,J,L,n,rfl,N,Q]:=m _ (P3 (P:=hb bits) ∅ λx O=>by
  rw[show wd bits x=!bits / 2 ^ x.toNat from qX (I.2 x O)];show(if hb bits x then !true else !false)=_
  cases hb bits x <;> rfl) S _ _ S V
 refine#[n,o,J,L,N,?_];unfold Tk;ext
abbrev e7(tN:Nat)(bits:Int)(hN:Nat)(g:Int)(sN:Nat)(i m:⇑D):Lo:=[sR tN,sI bits,sR hN,sI g,sR sN,i,m]
theorem ig(W:Wd)(H:S[tN]?=!oL (eT D.int) ξ)(o:S[hN]?=!.dK [])(I:S[sN]?=!.dK [])(J:0<=g/\g < -ξ)(L:∀t∈ξ,t.length<=1000/\∀x∈t,0<=x) :
  ∃A,OH W 1 [.ref tN,.int bits,.ref hN,.int g,.ref sN] S=.ok (.bl ((Tk ξ g).any (hb bits))) A/\-S<=-A/\∀j,j < -S->j≠hN->A[j]?=S[j]?:=by
 let#[wN,S1,N,m,U,C]:=qZ H o I J L;let E:=EL (i:=5) N;let it:EO (AB 5) (e7 tN bits hN g sN (!.ref wN) none) S1=.ok (Hi (.ref wN)) S1:=JX rfl C;let s:=C0 C
 let O:(Tk ξ g).any (hb bits) = not ((Tk ξ g).filter (hb bits)).isEmpty:=by
  induction Tk ξ g with
  | nil=>rfl
  | cons x l P=>
   rw[HN,List.filter_cons,P]
   cases hb bits x <;> rfl
 rw[O]
 cases hw:(Tk ξ g).filter (hb bits)with
 | nil=>
  rw[hw]at s
  let G:∀(h:MG) (b:MS),FG (EO (AB 5)) h b (e7 tN bits hN g sN (!.ref wN) none) S1=.ok (.nx (e7 tN bits hN g sN (!.ref wN) none)) S1:=λh b=>by
   rw[Mx it];unfold Mz;rw[s];rfl
  exact#[S1,EM ((BD E).trans ((BD (G _ _)).trans ((BD (G _ _)).trans rfl))),m.1,λj B z=>m.2 j B]
 | cons x r=>
  rw[hw]at s;let Q:=ge (l:=[]) (mo:=AB 2) (mi:=AB 6) (mv:=AB 3) (e:=e7 tN bits hN g sN (!.ref wN) (!.int x)) rfl rfl rfl (m.at o) (by ext);let R:mB (m2 (inA true) (AB 6) (AB 2)) (e7 tN bits hN g sN (!.ref wN) (!.int x)) S1=.ok true S1:=Jc (Bi rfl rfl (by rw[P1 (seqK (enc:=D.int) (l:=[]) (m.at o)) (vI (enc:=D.int) (l:=[]) (m.at o) x)];rfl));refine#[S1.set hN (oDK D.int (Cy [] x g)),EM ((BD E).trans (Np ((Mx it).trans ?_))),?_,λj B T=>?_]
  ·unfold Mz Dc
   rw[s];show(sIf (mB (m2 (inA true) (AB 6) (AB 2))) (As (Cr (AB 2) (AB 6) (AB 3)) (CO (mC (.bl true)))) sNx (e7 tN bits hN g sN (!.ref wN) (!.int x)) S1).bind _=_;rw[EN R,qX rfl,BD Q];rfl
  ·rw[Fn];exact m.1
  ·rw[Ak (Cc T)];exact m.2 j B
abbrev e5(tN:Nat)(g bits:Int)(hN:Nat)(z:⇑D):Lo:=[sR tN,!.tup [.int g],sI bits,sR hN,z]
abbrev xo:MT:=G6 (m2 Td (m2 aB (AB 2) (AB 4)) (mC (.int 1)))
theorem pK(h:0<=g):xo (e5 tN g bits hN (!.int g)) S=.ok (hb bits g) S:=by
 let i:m2 aB (AB 2) (AB 4) (e5 tN g bits hN (!.int g)) S=.ok (.int (bits / 2 ^ g.toNat)) S:=Bi rfl rfl (qX h);unfold xo G6;rw[Bi i rfl rfl];rfl
theorem t7(hi:it e S=.ok (HQ [d]) S)(i:h d e S=.ok e1 S)(hb:b e1 S=.ok (.nx m) S2):FG it h b e S=.ok (.nx m) S2:=by
 rw[Mx hi];show(h d e S).bind _=_;rw[i];show(b e1 S).bind _=_;rw[hb];rfl
theorem ABK(hi:it e S=.ok (HQ [d]) S)(i:h d e S=.ok e1 S)(hb:b e1 S=.ok (.rt v) S2):FG it h b e S=.ok (.rt v) S2:=by
 rw[Mx hi];show(h d e S).bind _=_;ext
theorem uA(W:Wd)(N:∀t∈ξ,t.length<=1000/\∀x∈t,0<=x)(E:0<=g/\g < -ξ)(O:S[tN]?=!oL (eT D.int) ξ) :
  ∃S',V0 W [.ref tN,.tup [.int g],.int bits] S=.ok (.bl (hb bits g||(Tk ξ g).any (hb bits))) S'/\Keeps S S':=by
 let B:Bb 3 Iu (LK 5 [.ref tN,.tup [.int g],.int bits]) S=.ok (.nx (e5 tN g bits (-S) none)) (S++[.dK []]):=rfl;let C:(S++[Ob.dK []])[S.length]?=!oDK D.int []:=DM _ _;let o:=Keeps.app S [.dK []];generalize S++[Ob.dK []]=i at B C o
 let it:∀z S',EO (AB 1) (e5 tN g bits (-S) z) S'=.ok (HQ [.int g]) S':=λz S'=>Vq rfl
 let s:=pK (tN:=tN) (hN:=-S) (bits:=bits) (S:=i) E.1
 cases c:hb bits g with
 | true=>
  rw[c]at s;let P:=ge (mo:=AB 3) (mi:=AB 4) (mv:=AB 4) (e:=e5 tN g bits (-S) (!.int g)) rfl rfl rfl C (by ext);let H:=pK (tN:=tN) (hN:=-S) (bits:=bits) (S:=i.set (-S) (oDK D.int (Cy [] g g))) E.1;rw[c]at H;refine#[_,EM ((BD B).trans ((BD (t7 (it none i) rfl ((EN s).trans ((qX rfl).trans P)))).trans ((BD (t7 (it _ _) rfl ((EN (ZM (OB H))).trans rfl))).trans rfl))),o.set (AO _) _]
 | false=>
  rw[c]at s;let U:=CF C;let arg:AK (AB 0) (AK (AB 2) (AK (AB 3) (AK (AB 4) (AK Iu Ax)))) (e5 tN g bits (-S) (!.int g)) i=.ok [.ref tN,.int bits,.ref (-S),.int g,.ref (-i)] (i++[.dK []]):=rfl;let A:=Keeps.app i [.dK []];let I:(i++[Ob.dK []])[i.length]?=!.dK []:=DM _ _;generalize i++[Ob.dK []]=X at I A arg;let#[S5,Q,R,T]:=ig W (A.at (o.at O)) (A.at C) I E N
  let m:G6 (Bg 5 (OH W 1) (AK (AB 0) (AK (AB 2) (AK (AB 3) (AK (AB 4) (AK Iu Ax)))))) (e5 tN g bits (-S) (!.int g)) i=.ok ((Tk ξ g).any (hb bits)) S5:=by
   unfold G6;rw[(Fv (n:=5) arg rfl).trans Q];rfl
  let J:Keeps S S5:=#[Ab (Ab o.1 A.1) R,λj G=>by
   rw[T j (AS G (Ab o.1 A.1)) ∅,A.2 j (AS G o.1),o.2 j G]]
  let L:=t7 (it none i) (h:=tgN 4) (b:=sIf xo (Cr (AB 3) (AB 4) (AB 4)) sNx) rfl ((EN s).trans rfl)
  cases q:(Tk ξ g).any (hb bits)with
  | true=>
   rw[q]at m;exact#[S5,EM ((BD B).trans ((BD L).trans ((BD (t7 (it _ _) rfl ((EN ((ZN (OB s)).trans (OB m))).trans rfl))).trans rfl))),J]
  | false=>
   rw[q]at m;exact#[S5,EM ((BD B).trans ((BD L).trans (Np (ABK (it _ _) rfl ((EN ((ZN (OB s)).trans (OB m))).trans rfl))))),J]
end
open Classical in
def VU(i:¬YP)(m:YP)(bits:Int):⇑Bool:=match m with
 | []=>!true
 | [g]=>if (∀t∈i,t.length<=1000/\∀x∈t,0<=x)/\0<=g/\g < -i then !(hb bits g||(Tk i g).any (hb bits))else none
 | _=>none
set_option tactic.hygienic true in
theorem lG(W:Wd)(o:¬YP)(m:YP)(bits:Int):VF (V0 W) [.z (oL (eT D.int) o),.v (eT D.int m),.v (D.int bits)] (rV D.bl) (VU o m bits):=λv i S A B=>by
 match A,B with
 | [d1,d2,d3],#[#[n,C,E],G,H,_]=>
  cases C;cases G;cases H
  match m,i with
  | [],i=>
   cases i;exact#[_,S++[.dK []],rfl,Keeps.app S _,rfl]
  | [g],i=>
   unfold VU at i;dsimp only at i;split at i
   ·rename_i s
    cases i;let#[I,J,L]:=uA W s.1 s.2 E;exact#[_,I,J,L,rfl]
   ·cases i
  | _ :: _ :: _,i=>cases i
noncomputable def oneO:¬g->⇑g
 | [x]=>!x
 | _=>none
theorem AAD(i:VE A a (rO (oL enc)) pl):VE A (mQ Xc (Vf a)) (rV enc) (pl.bind oneO):=λv m o e F S s=>by
 let#[l,B,g]:=Aw m;let#[d,C,E,G,n,rfl,H]:=i l B o e F S s
 match l,g with
 | [x],g=>cases g;exact#[_,C,iz (f:=Xc) (uz E (DO H)) rfl,G,rfl]
theorem bK{m:ME}{e:Lo}{S S1:Sto}{n:Nat}(h:m e S=.ok (.ref n) S1):Hy m e S=SI m e S:=by
 unfold Hy SI;rw[h];rfl
theorem iK{g:Type}{enc:g->D}{A:¬Sl}{i:Nat}{l:¬g}(h:A[i]?=!.y (oL enc l)):VI A (Hy (AB i)) (eP D.int enc) (!DS l):=λz o s e F S m=>by
 let#[x,B,n,rfl,_]:=m.sl i _ h;rw[bK (n:=n) (BA B)];exact YD h _ o s e F S m
theorem kl{m:Type}{enc:m->D}{A:¬Sl}{P:Pq}{C:AW}{x:Str}{i:Nat}{l:¬m}(o:AtO P C x (oL enc l))(h:A[i]?=!.q P):VI A (Hy (CD C x (AB i))) (eP D.int enc) (!DS l):=λz s B e F S g=>by
 let#[d,E,G]:=Vs.qAt g h;let#[q,fs,n,rfl,H,I,J]:=o _ _ G;rw[bK (n:=n) (FT (BA E) (g.fz _ _ (Ms H)) I)];exact qq o h _ s B e F S g
noncomputable def Hn(i:(Nat×¬XP))(g:Int):⇑(Fw Unit Unit):=
 ((if decide ((0:Int)<=g) then !decide (g < (i.1:Int))else !false)*>λm=>!not m)*>λo=>if o=true then none else !.nx ()
def Hq(g:(Nat×¬XP))(i:Int):⇑Unit:=xO (Hn g i)
theorem QX(W:Wd)(g:(Nat×¬XP))(i:Int):VF (IA W) [.z ((Jn W) g),.v (D.int i)] (rV eU) (Hq g i):=by
 refine kn (B:=λG=>[.z ((Jn W) g),.v (D.int i)]) ?_;unfold K0 Hn;exact(G3 (Nh (Fy (Lu Sy gi Bf AL (Ij DN)))) YC (HP (.refl _)))
def dC(g:(Nat×¬XP))(i:Int):⇑(Fw YP Unit):=
 BB (Hq g i*>λz=>!.nx ()) λz=>atI (SA g.1 g.2) i*>λm=>!.rt m
def Ya(g:(Nat×¬XP))(i:Int):⇑YP:=Gu (dC g i)
theorem wK(W:Wd)(g:(Nat×¬XP))(i:Int):VF (dh W) [.z ((Jn W) g),.v (D.int i)] (rV (eT D.int)) (Ya g i):=by
 refine Ec (B:=λG=>[]) ?_;unfold pM dC;exact(Av (qi (CN (Ri DN (C2 AL CT)) (λm=>QX W m.1 m.2.1) (λG=>rfl) E7)) (λG=>(Dx (kz (qr DN) AL))))
def Po(A:(Nat×¬XP)):⇑(Fw (¬YP) Unit):=
 ((!(A.1:Int)).bind Ql*>λg=>FZ g (λi=>!true) (λi=>((!i :: []).bind IS*>λϮ=>Ya A i*>λm=>bI Ϯ m)*>λo=>!Hk o))*>λs=>!.rt s
def Mj(g:(Nat×¬XP)):⇑(¬YP):=Gu (Po g)
theorem cX(W:Wd)(g:(Nat×¬XP)):VF (M0 W) [.z ((Jn W) g)] (rN (oL (eT D.int))) (Mj g):=by
 refine Ec (B:=λG=>[]) ?_;unfold WB Po;exact(Tq (DD (El (VI.k (Fd (Ij DN))) (λi=>Jy) (λi=>(Ii (JS (W8 (fH (YE (Ek AL E6)) (CN (Ri DN (C2 AL CT)) (λϥ=>wK W ϥ.1 ϥ.2.1) (λG=>rfl) E7)))))))))
def Ry(i:YP):⇑(Fw Int Unit):=
 BB (!.nx (0:Int)) λm=>BB (Eu i m λ(o:Int) s=>E9 (λA=>A) (Qb (1:Int) s*>λB=>!.nx (Cp o B))) λg=>!.rt g
def HR(g:YP):⇑Int:=Gu (Ry g)
theorem iO(W:Wd)(g:YP):VF (SN W) [.v ((eT D.int) g)] (rV D.int) (HR g):=by
 refine Ec (B:=λz=>[]) ?_;unfold Xz Ry;exact(Av (DC Bf) (λo=>(Av (Ew (B:=(λ(i:Int)=>[.v ((eT D.int) g),.v (D.int i),.u])) (Ng AL) E2 (.refl _) (λs A=>(Cq (Rf rfl (Pl Bf AL)) (λC=>(.same (.same (.drop .nil))))))) (λm=>(Dx AL)))))
def Rx(o:Int):⇑(Fw YP Unit):=
 BB ((![]).bind IS*>λs=>!.nx s) λA=>BB (!.nx o) λB=>BB (whF (λ(g:YP×Int)=>!g.2 != 0) (λ(g:YP×Int)=>BB (NS g.1 ((Do (BR g.2 ((unop% Neg.neg g.2))):Int) - (1:Int))*>λi=>!.nx i) λC=>E9 (λm=>(C,m)) (!.nx (BR g.2 (g.2 - (1:Int))))) wN (A,B)) λE=>!.rt E.1
def Ir(g:Int):⇑YP:=Gu (Rx g)
theorem Ro(W:Wd)(g:Int):VF (MF W) [.v (D.int g)] (rN (oL D.int)) (Ir g):=by
 refine Ec (B:=λz=>[]) ?_;unfold Xy Rx;exact(Av (FO (DD (D5 E6))) (λs=>(Av (DC AL) (λA=>(Av (Zm (B:=(λ(i:YP×Int)=>[.v (D.int g),.w 1 ((oL D.int) i.1),.v (D.int i.2)])) (.refl _) (λm=>(YG AL)) (λm=>(Av (KD rfl (Rh (rB (Od AL (Uc AL))) Bf) rfl) (λC=>(Cq (Rf rfl (Rh AL Bf)) (λo=>(.refl _))))))) (λE=>(QQ rfl)))))))
def N2(i:YP)(m:Int)(o:Int):⇑(Fw YP Unit):=
 FZ i (λg=>!true) (λg=>if (decide (g=m)) then !o else !g)*>λs=>!.rt s
def Kt(g:YP)(i:Int)(m:Int):⇑YP:=Gu (N2 g i m)
theorem Zx(W:Wd)(g:YP)(i:Int)(m:Int):VF (OG W) [.v ((eT D.int) g),.v (D.int i),.v (D.int m)] (rV (eT D.int)) (Kt g i m):=by
 refine Ec (B:=λz=>[]) ?_;unfold Sz N2;exact(Dx (Ii (JS (DD (El (VI.k (Ng AL)) (λo=>Jy) (λo=>(YF (Fy (QV Ds LP AL AL)) AL AL E7)))))))
def Rw(O:Int)(N:Int):⇑(Fw (¬YP) Unit):=
 BB (((![]).bind IS*>λP=>!P :: []).bind IS*>λQ=>!.nx Q) λR=>BB ((!N).bind Ql*>λg=>Eu g R λ(S:(¬YP)) T=>BB ((![]).bind IS*>λU=>!.nx U) λX=>BB (Eu S X λ(Y:(¬YP)) i=>BB ((if (not i.isEmpty) then(atI i ((unop% Neg.neg (1:Int)))).bind λm=>!m+(1:Int)else !(0:Int))*>λϦ=>!.nx Ϧ) λo=>E9 (λs=>s) (mH o (((O - N)+T)+(1:Int))*>λA=>Eu A Y λ(B:(¬YP)) C=>E9 (λE=>E) (((!C :: []).bind IS*>λG=>bI i G)*>λH=>NS B H*>λI=>!.nx I))) λJ=>E9 (λz=>J) (!.nx ())) λL=>!.rt L
def Of(g:Int)(i:Int):⇑(¬YP):=Gu (Rw g i)
theorem iN(W:Wd)(g:Int)(i:Int):VF (SM W) [.v (D.int g),.v (D.int i)] (rN (oL (eT D.int))) (Of g i):=by
 refine Ec (B:=λz=>[]) ?_;unfold Xx Rw;exact(Av (Jx (DD (D5 (Ek (YE E6) E6)))) (λN=>(Av (Ew (Fd AL) E2 (.refl _) (λs A=>(Av (FO (DD (D5 E6))) (λO=>(Av (Ew (qp rfl) E2 (.refl _) (λP C=>(Av (DC (YF (rE AL) (Ik (kz AL (Uc Bf)) Bf) Bf E7)) (λm=>(Cq (Ew (B:=(λ(o:(¬YP))=>[.v (D.int g),.v (D.int i),.y ((oL (eT D.int)) s),.v (D.int A),.w 4 ((oL (eT D.int)) o),.v ((eT D.int) C),.v (D.int m),.u])) (W6 AL (Ik (Ik (Rh AL AL) AL) Bf)) E2 (.refl _) (λE G=>(Cq (KD rfl (fH AL (YE (Ek AL E6))) rfl) (λH=>(.same (.same (.same (.same (.same (.same (.same (.drop .nil)))))))))))) (λI=>(.same (.same (.same (.same (.same (.drop (.drop (.same .nil)))))))))))))) (λJ=>(Cq (vm 4 rfl rfl (iJ rfl)) (λz=>(.same (.same (.same (.drop (.drop (.same (.same (.same .nil)))))))))))))))) (λL=>(qe rfl)))))
def Im(s:Int)(A:Int):⇑(Fw Int Unit):=
 BB (!.nx (1:Int)) λB=>BB ((!A).bind Ql*>λg=>Eu g B λ(C:Int) o=>E9 (λE=>E) ((dM C (s - o)*>λi=>bF i (o+(1:Int)))*>λϮ=>!.nx Ϯ)) λm=>!.rt m
def Gm(g:Int)(i:Int):⇑Int:=Gu (Im g i)
theorem Rj(W:Wd)(g:Int)(i:Int):VF (Iy W) [.v (D.int g),.v (D.int i)] (rV D.int) (Gm g i):=by
 refine Ec (B:=λz=>[]) ?_;unfold MH Im;exact(Av (DC Bf) (λs=>(Av (Ew (B:=(λ(m:Int)=>[.v (D.int g),.v (D.int i),.v (D.int m),.u])) (Fd AL) E2 (.refl _) (λA C=>(Cq (DC (fG (cT AL (Rh AL AL)) (Ik AL Bf))) (λE=>(.same (.same (.same (.drop .nil)))))))) (λo=>(Dx AL)))))
def Pp(i:(Nat×¬XP))(g:Int):⇑(Fw Int Unit):=
 BB (((if decide ((1:Int)<=g) then !decide (g<=(i.1:Int))else !false)*>λm=>!not m)*>λo=>if o=true then none else !.nx ()) λz=>Gm (i.1:Int) g*>λϮ=>!.rt Ϯ
def Ps(g:(Nat×¬XP))(i:Int):⇑Int:=Gu (Pp g i)
theorem cY(W:Wd)(g:(Nat×¬XP))(i:Int):VF (P0 W) [.z ((Jn W) g),.v (D.int i)] (rV D.int) (Ps g i):=by
 refine Ec (B:=λG=>[]) ?_;unfold WC Pp;exact(Av (G3 (B:=(λ(_:Unit)=>[.z ((Jn W) g),.v (D.int i)])) (Nh (Fy (Lu Sy Sy Bf AL (Ij DN)))) YC (HP (.refl _))) (λG=>(Dx (CN (C2 (Ij DN) (C2 AL CT)) (λϥ=>Rj W ϥ.1 ϥ.2.1) (λG=>rfl) E7))))
def N3(i:(Nat×¬XP))(m:Int):⇑(Fw (¬YP) Unit):=
 BB ((Ps i m*>λo=>!decide ((400:Int) < o))*>λs=>if s=true then none else !.nx ()) λz=>Of (i.1:Int) m*>λg=>!.rt g
def Ku(g:(Nat×¬XP))(i:Int):⇑(¬YP):=Gu (N3 g i)
theorem Zy(W:Wd)(i:(Nat×¬XP))(m:Int):VF (Kx W) [.z ((Jn W) i),.v (D.int m)] (rN (oL (eT D.int))) (Ku i m):=by
 refine Ec (B:=λG=>[]) ?_;unfold S7 N3;exact(Av (G3 (B:=(λ(_:Unit)=>[.z ((Jn W) i),.v (D.int m)])) (Fy (lA (CN (Ri DN (C2 AL CT)) (λo=>cY W o.1 o.2.1) (λG=>rfl) E7) Bf)) YC (HP (.refl _))) (λG=>(Tq (CN (C2 (Ij DN) (C2 AL CT)) (λg=>iN W g.1 g.2.1) (λG=>rfl) N1))))
noncomputable def Io(i:(Nat×¬XP))(m:YP)(g:Int):⇑(Fw Unit Unit):=
 (((if decide ((0:Int)<=g) then !decide (g < (i.1:Int))else !false)*>λo=>!not o)*>λs=>if s=true then !true else !decide (g∈m))*>λA=>if A=true then none else !.nx ()
def Iq(g:(Nat×¬XP))(i:YP)(m:Int):⇑Unit:=xO (Io g i m)
theorem Rn(W:Wd)(g:(Nat×¬XP))(i:YP)(m:Int):VF (FD W) [.z ((Jn W) g),.v ((eT D.int) i),.v (D.int m)] (rV eU) (Iq g i m):=by
 refine kn (B:=λG=>[.z ((Jn W) g),.v ((eT D.int) i),.v (D.int m)]) ?_;unfold MK Io;exact(G3 (W9 (Nh (Fy (Lu Sy gi Bf AL (Ij DN)))) (Fy (k9 Ds AL AL))) YC (HP (.refl _)))
def Rv(i:YP):⇑(Fw Str Unit):=
 (FZ i (λg=>!true) (λg=>(!g).bind KF)*>λm=>PY (" " : Str) m)*>λo=>!.rt o
def R1(g:YP):⇑Str:=Gu (Rv g)
theorem iM(W:Wd)(g:YP):VF (J9 W) [.v ((eT D.int) g)] (rV D.str) (R1 g):=by
 refine Ec (B:=λz=>[]) ?_;unfold Xw Rv;exact(Dx (Zs Bf (JS (DD (El (VI.k (Ng AL)) (λi=>Jy) (λi=>(JG AL)))))))
def N4(g:Str):⇑(Fw (⇑Int) Unit):=
 BB (((((!g).bind Xh*>λC=>if decide ((1:Int)<=C) then !decide (C<=(2:Int))else !false)*>λG=>!not G)*>λH=>if H=true then !true else(((!g).bind Ut*>λI=>FZ I (λE=>!true) (λE=>!NY ("0123456789" : Str) E))*>λJ=>!J.all id).bind λi=>!not i)*>λϮ=>if Ϯ then !.rt none else !.nx ()) λz=>BB ((((!g).bind Xh*>λm=>!decide ((1:Int) < m))*>λo=>if o=true then(np g (0:Int)).bind λs=>!decide (s=("0" : Str))else !false)*>λL=>if L=true then !.rt none else !.nx ()) λz=>((!g).bind a9*>λA=>!(!A))*>λB=>!.rt B
def FK(g:Str):⇑(⇑Int):=Gu (N4 g)
theorem SY(W:Wd)(g:Str):VF (FL W) [.v (D.str g)] (rV (eO D.int)) (FK g):=by
 refine Ec (B:=λz=>[]) ?_;unfold S8 N4;exact(Av (G3 (W9 (Nh (Fy (Lu Sy Sy Bf (fD AL) Bf))) (Nh (Fy (wI (ql (JS (DD (El (VI.k (vq AL)) (λi=>Jy) (λi=>(wD AL Bf)))))))))) (Dx Tr) (HP (.refl _))) (λz=>(Av (G3 (B:=(λ(_:Unit)=>[.v (D.str g)])) (Ud (Fy (lA (fD AL) Bf)) (Fy (QV Kz Ym (wA AL Bf) Bf))) (Dx Tr) (HP (.refl _))) (λz=>(Dx (QT (qy AL)))))))
structure Fp where
 ev:¬YP
 kd:Str
 tk:¬YP
 nu:¬(YP×Int)
 hv:YP
 pb:YP
noncomputable abbrev fdF(a b c h k m:Nat)(g:Str):¬(Str×D):=[("everything",.ref a),("kind",.str g),("takes",.ref b),("numbers",.ref c),("having",.ref h),("place_bits",.ref k),("known",.ref m)]
def ba(W:Wd)(f:Fp)(L:Nat->⇑Ob)(q m:Nat):Prop:=∃a b c h k,L q=!.ins W.Field (fdF a b c h k m f.kd)/\L a=!oL (eT D.int) f.ev/\L b=!oL (eT D.int) f.tk/\L c=!oDR D.int f.nu/\L h=!oL D.int f.hv/\L k=!oL D.int f.pb
def ND(W:Wd)(f:Fp)(L:Nat->⇑Ob)(d:D):Prop:=∃q m,d=.ref q/\ba W f L q m
section
variable{W:Wd}{f:Fp}{P P':Pq}{C:AW}{x:Str}{d:D}{o:Ob}
theorem AtO.of(h:∀L d,P L d->P' L d)(z:AtO P' C x o):AtO P C x o:=λL d q=>z L d (h L d q)
theorem AtN.of(h:∀L d,P L d->P' L d)(z:AtN P' C x):AtN P C x:=λL d q=>z L d (h L d q)
theorem gW:AtV (ND W f) W.Field "kind" (D.str f.kd):=by rintro L d ⟨q,m,e,a,b,c,h,k,g,_⟩;exact #[q,_,e,g,rfl]
theorem Ff:AtO (ND W f) W.Field "everything" (oL (eT D.int) f.ev):=by rintro L d ⟨q,m,e,a,b,c,h,k,g,i,_⟩;exact #[q,_,a,e,g,rfl,i]
theorem RD:AtO (ND W f) W.Field "takes" (oL (eT D.int) f.tk):=λL d #[q,m,e,a,b,c,h,k,g,s,i,_]=>#[q,_,b,e,g,rfl,i]
theorem de:AtO (ND W f) W.Field "numbers" (oDR D.int f.nu):=λL d #[q,m,e,a,b,c,h,k,g,s,A,i,_]=>#[q,_,c,e,g,rfl,i]
theorem jV:AtO (ND W f) W.Field "having" (oL D.int f.hv):=by rintro L d ⟨q,m,e,a,b,c,h,k,g,s,A,B,i,_⟩;exact #[q,_,h,e,g,rfl,i]
theorem PZ:AtO (ND W f) W.Field "place_bits" (oL D.int f.pb):=λL d #[q,m,e,a,b,c,h,k,g,s,A,B,E,i]=>#[q,_,k,e,g,rfl,i]
theorem oS(i:∀a b c h k m s,(fdF a b c h k m s).lookup x=none):AtN (ND W f) W.Field x:=λL d #[q,m,e,a,b,c,h,k,g,_]=>#[q,_,e,g,i ..]
end
def LN(i:Fp)(m:Int):⇑(Fw YP Unit):=
 BB (atI i.ev m*>λo=>!.nx o) λs=>((!(-i.tk:Int)).bind Ql*>λA=>FZ A (λg=>!not (decide (g∈s))) (λg=>!g))*>λB=>!.rt B
def JJ(g:Fp)(i:Int):⇑YP:=Gu (LN g i)
theorem Wb(W:Wd)(g:Fp)(i:Int):VF (LS W) [.q (ND W g),.v (D.int i)] (rN (oL D.int)) (JJ g i):=by
 refine Ec (B:=λz=>[]) ?_;unfold Pc LN;exact(Av (DC (EK (Fs Ff rfl) AL)) (λo=>(Tq (DD (El (VI.k (Fd (QU (Fs RD rfl)))) (λm=>(Fy (fB Ds AL AL))) (λm=>AL))))))
def Fi(i:Fp)(J:Int):⇑(Fw Int Unit):=
 BB (atI i.ev J*>λL=>!.nx L) λm=>BB (!.nx (0:Int)) λN=>BB (Eu m N λ(O:Int) H=>E9 (λo=>o) (atI i.tk H*>λs=>Eu s O λ(g:Int) I=>E9 (λA=>A) (if (not (decide (I∈m))) then E9 (λB=>B) ((((Kt m H I*>λC=>!Hk C)*>λP=>BI i.nu P)*>λE=>Qb (1:Int) E)*>λQ=>!.nx (Cp g Q))else !.nx g))) λG=>!.rt G
def EX(g:Fp)(i:Int):⇑Int:=Gu (Fi g i)
theorem IW(W:Wd)(i:Fp)(m:Int):VF (DQ W) [.q (ND W i),.v (D.int m)] (rV D.int) (EX i m):=by
 refine Ec (B:=λz=>[]) ?_;unfold Ib Fi;exact(Av (DC (EK (Fs Ff rfl) AL)) (λs=>(Av (DC Bf) (λL=>(Av (Ew (Ng AL) E2 (.refl _) (λN A=>(Cq (Ew (Ng (EK (Fs RD rfl) AL)) E2 (.refl _) (λC E=>(Cq (G3 (B:=(λ(o:Int)=>[.q (ND W i),.v (D.int m),.v ((eT D.int) s),.v (D.int o),.v (D.int A),.v (D.int E)])) (Fy (fB Ds AL AL)) (Cq (Rf rfl (Pl Bf (lC (Fs de rfl) (Ii (JS (W8 (CN (C2 AL (C2 AL (C2 AL CT))) (λg=>Zx W g.1 g.2.1 g.2.2.1) (λz=>rfl) E7))))))) (λG=>(.refl _))) (HP (.refl _))) (λH=>(.same (.same (.same (.same (.same (.drop .nil)))))))))) (λI=>(.same (.same (.same (.same (.drop (.same .nil)))))))))) (λJ=>(Dx AL)))))))
def Fj(g:Fp)(C:Int):⇑(Fw Int Unit):=
 BB (atI g.ev C*>λE=>!.nx E) λG=>BB (!.nx (0:Int)) λH=>BB (Eu (DS g.pb) H λ(A:Int) B=>E9 (λi=>i) (VU g.tk G B.2*>λm=>if m=true then E9 (λo=>o) (Qb (1:Int) B.1*>λϦ=>!.nx (Cp A Ϧ))else !.nx A)) λs=>!.rt s
def EY(g:Fp)(i:Int):⇑Int:=Gu (Fj g i)
theorem IX(W:Wd)(i:Fp)(m:Int):VF (DR W) [.q (ND W i),.v (D.int m)] (rV D.int) (EY i m):=by
 refine Ec (B:=λz=>[]) ?_;unfold Ic Fj;exact(Av (DC (EK (Fs Ff rfl) AL)) (λs=>(Av (DC Bf) (λH=>(Av (Ew (kl PZ rfl) QP (.refl _) (λI o=>(Cq (G3 (B:=(λ(A:Int)=>[.q (ND W i),.v (D.int m),.v ((eT D.int) s),.v (D.int A),.v (D.int o.1),.v (D.int o.2)])) (cW (CN (Ri (Fs RD rfl) (C2 AL (C2 AL CT))) (λg=>lG W g.1 g.2.1 g.2.2.1) (λz=>rfl) E7)) (Cq (Rf rfl (Pl Bf AL)) (λC=>(.refl _))) (HP (.refl _))) (λE=>(.same (.same (.same (.same (.drop (.drop .nil)))))))))) (λG=>(Dx AL)))))))
def Ml(f:Fp)(n:Int):⇑Int:=if decide (f.kd = "one") then EX f n else EY f n
def J5(W:Wd)(f:Fp)(L:Nat->⇑Ob)(d:D):Prop:=∃q m g,d=.ref q/\ba W f L q m/\L m=!.mem g/\∀n z:Int,0<=n->n < 1000->Ml f n=!z->g (.inl n)=z
section
variable{W:Wd}{f:Fp}{x:Str}{L L':Nat->⇑Ob}{qn m:Nat}
theorem J5.q:∀L d,J5 W f L d->ND W f L d:=by rintro L d ⟨q,m,g,e,h,_⟩;exact #[q,m,e,h]
theorem Pa:AtO (J5 W f) W.Field "everything" (oL (eT D.int) f.ev):=AtO.of J5.q Ff
theorem jW:AtO (J5 W f) W.Field "having" (oL D.int f.hv):=AtO.of J5.q jV
theorem bC(g:∀a b c h k m i,(fdF a b c h k m i).lookup x=none):AtN (J5 W f) W.Field x:=AtN.of J5.q (oS g)
theorem ba.mono(h:∀n o,L n=!o->L' n=!o):ba W f L qn m->ba W f L' qn m:=by rintro ⟨a,b,c,d,k,g,i,s,A,B,C⟩;exact #[a,b,c,d,k,h _ _ g,h _ _ i,h _ _ s,h _ _ A,h _ _ B,h _ _ C]
end
abbrev dQ(W:Wd):ME:=Yq (mB (m2 (eqD false) (CD W.Field "kind" (AB 0)) (mC (.str "one")))) (E1 W.Field "linked_by_one" 2 (DQ W) (AB 0) (AK (AB 1) Ax)) (E1 W.Field "linked_by_all" 2 (DR W) (AB 0) (AK (AB 1) Ax))
theorem ku(W:Wd)(f:Fp)(n:Int):VE [.q (ND W f),.v (D.int n)] (dQ W) (rV D.int) (Ml f n):=
 YF (Fy (QV Kz Ym (lD gW rfl) Bf))
  (MZ (oS λG G G G G G G=>rfl) (λG G h=>h) rfl (C2 AL CT) (λz=>IW W f z.1) (λG=>rfl) E7)
  (MZ (oS λG G G G G G G=>rfl) (λG G h=>h) rfl (C2 AL CT) (λz=>IX W f z.1) (λG=>rfl) E7) E7
def GY(f:Fp)(n:Int):⇑Int:=if 0<=n/\n < 1000 then Ml f n else none
theorem rH{g i:Type}[DecidableEq g]{l:¬(g×i)}{k:g}{v:i}(h:BI l k=!v):(k,v)∈l:=by
 unfold BI at h
 cases o:l.find? λm=>decide (m.1=k)with
 | none=>ext
 | some x=>
  grind
theorem dU{W:Wd}{f:Fp}{n z:Int}{S:Sto}{q m:Nat}{G:Key->Int}(X:0<=n)(hn1:n < 1000)(hz:Ml f n=!z)(hl:G (.inl n)=z)(hC:ba W f (λk=>S[k]?) q m)(hm:S[m]?=!.mem G):vO (Jq W) [.ref q,.int n] S m G z:=by
 intro g H;let#[a,b,c,h,k,g0,g1,g2,g3,g4,g5]:=hC
 let ne:∀j o,S[j]?=!o->o≠Ob.mem G->j≠m:=λj o A B e=>by
  ext
 let i:(S.set m (.dK g))[m]?=!.dK g:=An (CF hm)
 let s:∀j o,S[j]?=!o->o≠Ob.mem G->(S.set m (.dK g))[j]?=!o:=λj o A B=>by rw[Ak (Cc (ne j o A B))];exact A
 let C:=s q _ g0 (λz=>nomatch z);let C1:ba W f (λk=>(S.set m (.dK g))[k]?) q m:=#[a,b,c,h,k,C,s a _ g1 (λz=>nomatch z),s b _ g2 (λz=>nomatch z),s c _ g3 (λz=>nomatch z),s h _ g4 (λz=>nomatch z),s k _ g5 (λz=>nomatch z)]
 let st:∀j,j < -S->j≠m->(S.set m (.dK g))[j]?=S[j]?:=λj _ P=>Ak (Cc P)
 generalize Y:S.set m (.dK g)=S1 at i C C1 st
 let Q:∀S2:Sto,S2[q]?=!.ins W.Field (fdF a b c h k m f.kd)->CD W.Field "known" (AB 0) [sR q,sI n] S2=.ok (.ref m) S2:=λS2 B=>FT (by rfl) B rfl
 let sq:∀(S2:Sto) l,S2[m]?=!.dK l->GB (.ref m) S2=none:=λS2 l B=>by unfold GB;ext
 let dg:∀(S2:Sto) l,S2[m]?=!.dK l->Kl (.ref m) (.int n) S2=!BI l (.inl n):=λS2 l B=>by unfold Kl;symm;rw[B];try rfl
 let R:mB (m2 (inA true) (AB 1) (CD W.Field "known" (AB 0))) [sR q,sI n] S1=.ok (not (BI g (.inl n)).isSome) S1:=
  Jc (Bi (by rfl) (Q S1 C) (P1 (sq S1 g i) (dg S1 g i) true))
 cases T:BI g (.inl n)with
 | some d=>
  let hd:d=.int z:=by rw[<-hl];exact(H.2 _ (rH T)).2
  subst hd;rw[T]at R;refine#[S1,g,?_,i,H,st];refine _root_.M.EM ?_;unfold Ke;refine G1 (BD (G1 (EN R) rfl)) ?_;exact Ex (Bi (Q S1 C) (by rfl) (Kc (sq S1 g i) (by rw[dg S1 g i,T])))
 | none=>
  rw[T]at R;let hQ:NM S1 [.q (ND W f),.v (D.int n)] [.ref q,.int n]:=#[λL hL=>#[q,m,rfl,C1.mono hL],rfl,trivial];let#[d,S2,hE,Z,rfl]:=ku W f n z hz S1 _ _ S1 (Vs.start (n:=2) hQ);let J:=Z.at i;let N:=Z.at C
  let hlen:-g < sizeLine:=by
   let A:=SD H.1 λx I=>by
    let#[y,U,rfl]:=BN.mp I;exact(H.2 y U).1
   rw[AN]at A
   let B:-ap=1000:=by unfold ap;rw[AN,List.length_range]
   rw[B]at A;exact dS (Bc A (by ext))
  let nk:Eh n∉g.map (·.1):=λI=>by
   let:=(FV g (.inl n)).mpr I
   ext
  let pe:Cy g (.inl n) (D.int z)=g++[(.inl n,D.int z)]:=by
   unfold Cy;rw[qY];intro c;let#[y,U,B]:=NF.mp c;exact nk (BN.mpr #[y,U,of_decide_eq_true B])
  let hk2:ug G (g++[(.inl n,D.int z)]):=by
   refine#[?_,λx I=>?_]
   ·rw[BQ]
    exact Ln.mpr #[H.1,(CA.mpr #[CB,Gr]),λx I y U=>by
     grind]
   ·rcases BO.mp I with A | A
    ·exact H.2 x A
    ·rw[AV.mp A]
     refine#[?_,by rw[hl]];unfold ap;exact BN.mpr #[n.toNat,Ea.mpr (by ext),by show Eh ((n.toNat:Nat):Int)=_;rw[Cn X]]
  let O:Cr (CD W.Field "known" (AB 0)) (AB 1) (dQ W) [sR q,sI n] S1=oN [sR q,sI n] (S2.set m (.dK (g++[(.inl n,D.int z)]))):=by
   unfold Cr;rw[show dQ W [sR q,sI n] S1=.ok (.int z) S2 from hE];dsimp only[Res.lift];rw[Q S2 N];symm;rw[show AB 1 [sR q,sI n] S2=.ok (.int n) S2 from rfl];symm
   rw[show O3 (.ref m) (.int n) (.int z) S2=!S2.set m (.dK (g++[(.inl n,D.int z)])) by
    unfold O3;symm;rw[J];show(if -g < sizeLine then !S2.set m (.dK (Cy g (Eh n) (D.int z)))else none)=_
    ext]
  let E:(S2.set m (.dK (g++[(.inl n,D.int z)])))[m]?=!.dK (g++[(.inl n,D.int z)]):=An (CF J)
  let hq3:(S2.set m (.dK (g++[(.inl n,D.int z)])))[q]?=!.ins W.Field (fdF a b c h k m f.kd):=by
   rw[Ak]
   ·exact N
   ·lia
  let hst:∀j,j < -S->j≠m->(S2.set m (.dK (g++[(.inl n,D.int z)])))[j]?=S[j]?:=λj P Θ=>by
   rw[Ak (Cc Θ),Z.2 j (by rw[<-Y,Fn];exact P)];exact st j P Θ
  refine#[_,g++[(.inl n,D.int z)],?_,E,hk2,hst];refine EM ?_;unfold Ke;refine G1 (BD (G1 (EN R) O)) ?_;refine Ex (Bi (Q _ hq3) (by rfl) (Kc (sq _ _ E) ?_));rw[dg _ _ E,<-pe,Lv,qX rfl]
set_option tactic.hygienic true in
theorem Uj(W:Wd)(f:Fp)(n:Int):VF (IE W) [.q (J5 W f),.v (D.int n)] (rV D.int) (GY f n):=λz g S B C=>by
 match B,C with
 | [d,x],#[E,G,_]=>
  cases G
  let#[q,m,J,rfl,A,hm,o]:=E (λk=>S[k]?) λM M h=>h
  unfold GY at g;split at g
  ·rename_i i
   let s:=dU i.1 i.2 g (o n z i.1 i.2 g) A hm;refine#[.int z,S,?_,Keeps.refl S,rfl];unfold IE ud
   rw[show Xf "known" [.ref q,.int n] S=!m by
    let#[a,b,c,h,k,H,_]:=A;unfold Xf;symm;rw[show S[q]?=_ from H]
    rfl]
   symm;rw[show S[m]?=_ from hm];let#[L,N,O,_]:=s [] #[Gr,λM I=>nomatch I];ext
  ·cases g
def nuS(l:¬(YP×Int))(x:Int×YP):¬(YP×Int):=Cy l x.2 x.1
noncomputable def hvP(k:Int)(h:YP)(p:Int):YP:=h.set p.toNat (Cp (h.getD p.toNat 0) (1 * 2 ^ k.toNat))
def hvS(h:YP)(x:Int×YP):YP:=x.2.foldl (hvP x.1) h
def nuF(ev:¬YP):¬(YP×Int):=(DS ev).foldl nuS []
def hv0(n:Nat):YP:=(GC 0 n).map λz=>0
def hvF(n:Nat)(ev:¬YP):YP:=(DS ev).foldl hvS (hv0 n)
def Gn(w:Nat×¬XP)(g:Int)(m:Str):⇑Fp:=
 Ku w g*>λi=>Mj w*>λo=>FZ i (λz=>!true) HR*>λs=>
  if -i<=1000/\w.1<=1000/\∀r∈i,∀x∈r,0<=x/\x < (w.1:Int)then !#[i,m,o,nuF i,hvF w.1 i,s]else none
structure Fc(W:Wd)(S1:Sto)(fs:¬(Str×D))(T:Sto):Prop where
 kp:Keeps S1 T
 at':T[S1.length]?=!.ins W.Field fs
section
variable{W:Wd}{S1 T T':Sto}{fs:¬(Str×D)}{x:Str}{d:D}{e:Lo}{m:ME}{j:Nat}{o:Ob}
theorem Fc.put(h:Fc W S1 fs T)(k:Keeps T T'):Fc W S1 (LO x d fs) (T'.set (-S1) (.ins W.Field (LO x d fs))):=#[(h.kp.trans k).set (AO _) _,An (CF (k.at h.at'))]
theorem Fc.set(h:Fc W S1 fs T)(g:-S1 < j):Fc W S1 fs (T.set j o):=#[h.kp.set (Na g) _,by rw[Ak (Dk g)];exact h.at']
theorem Fc.step(h:Fc W S1 fs T)(g:e[0]?=!(!.ref (-S1)))(hm:m e T=.ok d T')(k:Keeps T T')(i:-fs < 1000):JV W.Field x (AB 0) m e T=.ok (.nx e) (T'.set (-S1) (.ins W.Field (LO x d fs))):=Me hm (BA g) (k.at h.at') i
theorem Ft(h:T[j]?=!o)(hq:q < j):(T.set q o')[j]?=!o:=by rw[Ak (Ao hq)];exact h
theorem Vs.all(h:∀(i:Nat) (a:Sl),A[i]?=!a->∃x,e[i]?=!x/\a.ok T (MN T) T x):Vs T A e (MN T) T:=by
 refine#[Keeps.refl T,λn o q=>?_,λn i q=>?_,λn g=>by unfold MN;ext,h]
 ·unfold MN at q
  lia
 ·unfold MN at q
  split at q <;> cases q
theorem eQ(h:T[j]?=!o):MN T j=.fz o:=by unfold MN;rw[h]
theorem uS(ho:mo e T=.ok (.ref n) T)(hi:mi e T=.ok (.int p) T)(A:mv e T=.ok (.int y) T)(B:T[n]?=!.lst xs)(C:0<=p)(i:xs[p.toNat]?=!.int z):aG g mo mi mv e T=.ok (.nx e) (T.set n (.lst (xs.set p.toNat (.int (g z y))))):=by
 let s:atL (.ref n) T=!(n,xs):=by unfold atL;symm;rw[B]
 unfold aG;rw[ho];dsimp only[Res.lift];rw[hi];symm;rw[s];symm;rw[qX C,i];rw[A];symm;rw[s];symm;rw[qX (AE.mp i).1]
end
theorem Yw(k:Int):∀(r h:YP),(r.foldl (hvP k) h).length=-h
 | [],h=>rfl
 | p :: r,h=>by
  show(r.foldl (hvP k) (hvP k h p)).length=_;rw[Yw k r];exact Fn
theorem oA:∀(l:¬(Int×YP)) (h:YP),(l.foldl hvS h).length=-h
 | [],h=>rfl
 | x :: l,h=>by
  show(l.foldl hvS (hvS h x)).length=_;rw[oA l];exact Yw _ _ _
theorem nC:∀(l:¬(Int×YP)) (h:¬(YP×Int)),(l.foldl nuS h).length<=-h+-l
 | [],h=>AO _
 | x :: l,h=>by
  let g:=nC l (nuS h x)
  let i:-nuS h x<=-h+1:=by
   unfold nuS Cy;split
   ·simp
   ·ext
  show(l.foldl nuS (nuS h x)).length<=_;rw[Az]
  lia
theorem jc(ev:¬g)(i:Nat):(DS ev)[i]?=(ev[i]?).map λr=>((i:Int),r):=by
 unfold DS;rw[Al,Jt]
 cases ev[i]? <;> simp
abbrev eF7(q wn:Nat)(g:Int)(i:Str)(a b c:⇑D):Lo:=[sR q,sR wn,sI g,!.str i,a,b,c]
abbrev nlA(W:Wd):MS:=aG (λa b=>Cp a b) (CD W.Field "having" (AB 0)) (AB 6) (m2 Rt (mC (.int 1)) (AB 4))
abbrev nlB(W:Wd):MS:=As (Cr (CD W.Field "numbers" (AB 0)) (AB 5) (AB 4)) (FG (EO (AB 5)) (tgN 6) (nlA W))
abbrev nlG:MG:=JT 2 (Cw (tgN 4) (Cw (tgN 5) Ju))
abbrev eF8(q wn:Nat)(g:Int)(m:Str)(i:Nat)(r:YP)(z:⇑D):Lo:=eF7 q wn g m (!.int (i:Int)) (!eT D.int r) z
theorem ae(W:Wd)(hF:Fc W S1 fs T)(fa:fs.lookup ("everything" : Str)=!.ref a) (fc:fs.lookup ("numbers" : Str)=!.ref c) (fh:fs.lookup ("having" : Str)=!.ref h) (ha:-S1 < a) (hac:a < c) (hch:c < h) (Ta:T[a]?=!oL (eT D.int) ev) (Tc:T[c]?=!oDR D.int ([]:¬(YP×Int))) (Th:T[h]?=!oL D.int (hv0 n)) (hev:-ev<=1000) (hr:∀r∈ev,∀x∈r,0<=x/\x < (n:Int)) :
  ∃s e5 m A,FG (Hy (CD W.Field "everything" (AB 0))) nlG (nlB W) (eF7 (-S1) wn g o none none none) T=.ok (.nx (eF7 (-S1) wn g o s e5 m)) A /\
   Fc W S1 fs A/\A[c]?=!oDR D.int (nuF ev)/\A[h]?=!oL D.int (hvF n ev)/\∀j,j≠c->j≠h->A[j]?=T[j]?:=by
 let hi:Hy (CD W.Field "everything" (AB 0)) (eF7 (-S1) wn g o none none none) T=.ok (QS (Hi (.ref a))) T:=by
  unfold Hy;rw[FT (by rfl) hF.at' fa];dsimp only[Res.bind];rw[show Hj (.ref a) T=_ from C0 Ta];rfl
 let B:-hv0 n=n:=by unfold hv0;rw[AN,Ct]
 let#[f,A,E,G]:=Y2 (v:=QS (Hi (.ref a))) (g:=nlG) (b:=nlB W)
  (λi e S=>(∃s e5 m,e=eF7 (-S1) wn g o s e5 m)/\Fc W S1 fs S/\S[c]?=!oDR D.int (((DS ev).take i).foldl nuS [])/\S[h]?=!oL D.int (((DS ev).take i).foldl hvS (hv0 n))/\∀j,j≠c->j≠h->S[j]?=T[j]?)
  (λf S=>∃s e5 m,f=.nx (eF7 (-S1) wn g o s e5 m)/\Fc W S1 fs S/\S[c]?=!oDR D.int (nuF ev)/\S[h]?=!oL D.int (hvF n ev)/\∀j,j≠c->j≠h->S[j]?=T[j]?)
  #[#[_,_,_,rfl],hF,Tc,Th,λM M M=>rfl]
  (λi e S I=>by
   let#[_,_,_,_,h5]:=I;unfold QS;rw[C0 ((h5 a ∅ ∅).trans Ta)]
   exact congrArg some (SQ ev))
  (λi d e S J I=>by
   let#[#[s,e5,m,rfl],Z,L,Sh,So]:=I;rw[Al]at J;let#[#[k,r],hx,rfl]:=FU.mp J;let N:=hx;rw[jc]at N;let#[r0,O,hr2]:=FU.mp N;cases hr2;let hrm:=CH O;let hi1:=(AE.mp O).1
   let tk:(DS ev).take (i+1)=(DS ev).take i++[((i:Int),r)]:=by
    rw[DJ,hx];rfl
   refine#[eF8 (-S1) wn g o i r m,S,rfl,?_]
   let P:Cr (CD W.Field "numbers" (AB 0)) (AB 5) (AB 4) (eF8 (-S1) wn g o i r m) S=.ok (.nx (eF8 (-S1) wn g o i r m)) (S.set c (oDR D.int (Cy (((DS ev).take i).foldl nuS []) r (i:Int)))):=by
    unfold Cr;rw[show AB 4 (eF8 (-S1) wn g o i r m) S=.ok (.int (i:Int)) S from rfl];dsimp only[Res.lift];rw[FT (by rfl) Z.at' fc];symm;rw[show AB 5 (eF8 (-S1) wn g o i r m) S=.ok (eT D.int r) S from rfl];symm
    rw[yx _ r (i:Int) S c L (by
     let:=nC ((DS ev).take i) [];rw[ET]at this;let h0:-([]:¬(YP×Int))=0:=rfl
     lia)]
   let Q:Fc W S1 fs (S.set c (oDR D.int (Cy (((DS ev).take i).foldl nuS []) r (i:Int)))):=Z.set ∅;let C:(S.set c (oDR D.int (Cy (((DS ev).take i).foldl nuS []) r (i:Int))))[h]?=!oL D.int (((DS ev).take i).foldl hvS (hv0 n)):=Ft Sh hch;let R:(S.set c (oDR D.int (Cy (((DS ev).take i).foldl nuS []) r (i:Int))))[c]?=!oDR D.int (Cy (((DS ev).take i).foldl nuS []) r (i:Int)):=An (CF L)
   let U:∀j,j≠c->j≠h->(S.set c (oDR D.int (Cy (((DS ev).take i).foldl nuS []) r (i:Int))))[j]?=T[j]?:=λj E G=>by rw[Ak (Cc E)];exact So j E G
   generalize S.set c (oDR D.int (Cy (((DS ev).take i).foldl nuS []) r (i:Int)))=S2 at P Q C R U;generalize hH:((DS ev).take i).foldl hvS (hv0 n)=H at C
   let hHl:-H=n:=by rw[<-hH,oA,B]
   let#[f,S3,q1,q2]:=Y2 (g:=tgN 6)
    (λj e S=>(∃z,e=eF8 (-S1) wn g o i r z)/\Fc W S1 fs S/\S[h]?=!oL D.int ((r.take j).foldl (hvP (i:Int)) H)/\∀j,j≠h->S[j]?=S2[j]?)
    (λf S=>∃z,f=.nx (eF8 (-S1) wn g o i r z)/\Fc W S1 fs S/\S[h]?=!oL D.int (r.foldl (hvP (i:Int)) H)/\∀j,j≠h->S[j]?=S2[j]?)
    #[#[_,rfl],Q,C,λM M=>rfl] (λM M M M=>rfl)
    (λj d e S J hJ=>by
     let#[#[z,rfl],X,Sh3,So3]:=hJ;rw[Al]at J;let#[p,P,rfl]:=FU.mp J;let hpr:=hr r hrm p (CH P);refine#[eF8 (-S1) wn g o i r (!.int p),S,rfl,?_]
     let hlp:p.toNat < -(r.take j).foldl (hvP (i:Int)) H:=by rw[Yw,hHl];ext
     let hsh:m2 Rt (mC (.int 1)) (AB 4) (eF8 (-S1) wn g o i r (!.int p)) S=.ok (.int (1 * 2 ^ (i:Int).toNat)) S:=by
      refine Bi rfl rfl ?_;unfold Rt L2.intOp;symm;rw[qX (#[by ext,by lia,by decide])]
     let ha:=uS (g:=λa b=>Cp a b) (mo:=CD W.Field "having" (AB 0)) (mi:=AB 6) (z:=((r.take j).foldl (hvP (i:Int)) H).getD p.toNat 0) (FT (by rfl) X.at' fh) (by rfl) hsh Sh3 hpr.1 (by
      ext)
     refine#[_,_,ha,#[_,rfl],X.set ∅,?_,λk hk=>by rw[Ak (Cc hk)];exact So3 k hk];rw[An (CF Sh3),DJ,P];show (!Ob.lst _)=!Ob.lst _;rw[show(!p).toList=[p]from rfl,IU,qJ,W2];unfold hvP
     rw[List.map_set])
    (λe S hJ=>by
     ext)
   let#[z,rfl,hS4,Sh4,Y]:=q2;refine#[_,S3,(BD P).trans (G1 (Mx (by rfl)) q1),#[_,_,_,rfl],hS4,?_,?_,λj E G=>(Y j G).trans (U j E G)]
   ·rw[Y c ∅,R,tk,IU]
    rfl
   ·rw[Sh4,tk,IU,hH]
    rfl)
  (λe S I=>by
   let#[#[s,e5,m,rfl],Z,L,Sh,So]:=I;rw[AN,pZ]at L Sh
   exact#[s,e5,m,rfl,Z,L,Sh,So])
 let#[s,e5,m,rfl,h3]:=G;exact#[s,e5,m,A,(Mx hi).trans E,h3]
abbrev y1(a:Nat):¬(Str×D):=LO "everything" (.ref a) []
abbrev y2(a:Nat)(g:Str):¬(Str×D):=LO "kind" (.str g) (y1 a)
abbrev y3(a:Nat)(g:Str)(b:Nat):¬(Str×D):=LO "takes" (.ref b) (y2 a g)
abbrev y4(a:Nat)(g:Str)(b c:Nat):¬(Str×D):=LO "numbers" (.ref c) (y3 a g b)
abbrev y5(a:Nat)(g:Str)(b c h:Nat):¬(Str×D):=LO "having" (.ref h) (y4 a g b c)
abbrev y6(a:Nat)(g:Str)(b c h k:Nat):¬(Str×D):=LO "place_bits" (.ref k) (y5 a g b c h)
abbrev y7(a:Nat)(g:Str)(b c h k m:Nat):¬(Str×D):=LO "known" (.ref m) (y6 a g b c h k)
abbrev eF9(S1:Sto)(wn:Nat)(g:Int)(i:Str):Lo:=eF7 (-S1) wn g i none none none
set_option tactic.hygienic true in
theorem oZ(W:Wd)(G:Gn w g s=!f)(hw:S1[wn]?=!Jn W w) :
  ∃T,IF W [.ref (-S1),.ref wn,.int g,.str s] (S1++[.ins W.Field []])=.ok .non T/\Keeps S1 T/\∀L:Nat->⇑Ob,(∀n o,S1.length<=n->T[n]?=!o->L n=!o)->J5 W f L (.ref (-S1)):=by
 unfold Gn at G;let#[E,hev,G]:=Aw G;let#[U,htk,G]:=Aw G;let#[pb,hpb,G]:=Aw G;split at G
 case isFalse=>cases G
 rename_i hg;let#[hg1,hg2,hg3]:=hg;cases G;let F0:Fc W S1 [] (S1++[.ins W.Field []]):=#[Keeps.app _ _,DM _ _]
 let l0:-(S1++[Ob.ins W.Field []])=-S1+1:=by rw[Aa];rfl
 generalize S1++[Ob.ins W.Field []]=T0 at F0 l0;let#[d,U1,c1,k1,a,rfl,ha,hA]:=Zy W w g E hev T0 [.ref wn,.int g] #[#[wn,rfl,F0.kp.at hw],rfl,trivial];let m1:Bg 2 (Kx W) (AK (AB 1) (AK (AB 2) Ax)) (eF9 S1 wn g s) T0=.ok (.ref a) U1:=(Fv (S1:=T0) rfl rfl).trans c1;let s1:=F0.step (x:="everything") rfl m1 k1 (by ext);let F1:=F0.put (x:="everything") (d:=.ref a) k1
 let N:-S1 < a:=by lia
 let A1:(U1.set (-S1) (.ins W.Field (y1 a)))[a]?=!oL (eT D.int) E:=Ft hA N;generalize U1.set (-S1) (.ins W.Field (y1 a))=T1 at s1 F1 A1;let s2:=F1.step (x:="kind") (m:=AB 3) (e:=eF9 S1 wn g s) rfl rfl (Keeps.refl T1) (Bc (AO 1) (by ext));let F2:=F1.put (x:="kind") (d:=.str s) (Keeps.refl T1);let A2:(T1.set (-S1) (.ins W.Field (y2 a s)))[a]?=!oL (eT D.int) E:=Ft A1 N;generalize T1.set (-S1) (.ins W.Field (y2 a s))=T2 at s2 F2 A2;let#[d,U3,c3,k3,b,rfl,hb,hB]:=cX W w U htk T2 [.ref wn] #[#[wn,rfl,F2.kp.at hw],trivial];let ab:a < b:=AS (CF A2) hb;let m3:Bg 1 (M0 W) (AK (AB 1) Ax) (eF9 S1 wn g s) T2=.ok (.ref b) U3:=(Fv (S1:=T2) rfl rfl).trans c3;let s3:=F2.step (x:="takes") rfl m3 k3 (Bc (AO 2) (by ext));let F3:=F2.put (x:="takes") (d:=.ref b) k3;let A3:(U3.set (-S1) (.ins W.Field (y3 a s b)))[a]?=!oL (eT D.int) E:=Ft (k3.at A2) N;let B3:(U3.set (-S1) (.ins W.Field (y3 a s b)))[b]?=!oL (eT D.int) U:=Ft hB ∅;generalize U3.set (-S1) (.ins W.Field (y3 a s b))=H at s3 F3 A3 B3;let bc:=CF B3;let m4:SE (eF9 S1 wn g s) H=.ok (.ref (-H)) (H++[oDR D.int ([]:¬(YP×Int))]):=rfl;let X:=Keeps.app H [oDR D.int ([]:¬(YP×Int))];let s4:=F3.step (x:="numbers") (e:=eF9 S1 wn g s) rfl m4 X (Bc (AO 3) (by ext));let Q:=F3.put (x:="numbers") (d:=.ref (-H)) X;let C3:(H++[oDR D.int ([]:¬(YP×Int))])[H.length]?=!oDR D.int ([]:¬(YP×Int)):=DM _ _;generalize hc:-H=c at bc s4 Q C3;generalize H++[oDR D.int ([]:¬(YP×Int))]=U4 at X s4 Q C3;let A4:=Ft (o':=.ins W.Field (y4 a s b c)) (X.at A3) N;let B4:=Ft (o':=.ins W.Field (y4 a s b c)) (X.at B3) (show -S1 < b by lia);let C4:=Ft (o':=.ins W.Field (y4 a s b c)) C3 (show -S1 < c by lia);generalize U4.set (-S1) (.ins W.Field (y4 a s b c))=T4 at s4 Q A4 B4 C4
 let v5:(((!w)*>λx2=>!(x2.1:Int)).bind Ql*>λl=>FZ l (λM=>!true) (λM=>!(0:Int)))=!hv0 w.1:=by
  show(Ql (w.1:Int)*>λl=>FZ l (λM=>!true) (λM=>!(0:Int)))=_;rw[JI (by ext) ∅];show FZ (GC 0 (w.1:Int).toNat) _ _=_;rw[Ap,Gq (f:=λM=>(0:Int)) (by rw[Ct];lia) λM M=>rfl];rfl
 let#[d,U5,m5,Y,h,rfl,hh,hH]:=(DD (El (VI.k (Fd (Ij (DN (A:=[.u,.z (Jn W w),.u,.u,.u,.u,.u]) (i:=1) rfl)))) (λM=>Jy) (λM=>Bf rfl))) _ v5 T4 (eF9 S1 wn g s) _ T4 (Vs.all λi x B=>by
  match i,B with
  | 0,B=>cases B;exact#[_,rfl,trivial]
  | 1,B=>cases B;exact#[_,rfl,wn,rfl,eQ (Q.kp.at hw)]
  | 2,B=>cases B;exact#[_,rfl,trivial]
  | 3,B=>cases B;exact#[_,rfl,trivial]
  | 4,B=>cases B;exact#[_,rfl,trivial]
  | 5,B=>cases B;exact#[_,rfl,trivial]
  | 6,B=>cases B;exact#[_,rfl,trivial]
  | n+7,B=>cases B)
 let s5:=Q.step (x:="having") rfl m5 Y (Bc (AO 4) (by ext));let F5:=Q.put (x:="having") (d:=.ref h) Y;let ch:=AS (CF C4) hh;let A5:=Ft (o':=.ins W.Field (y5 a s b c h)) (Y.at A4) N;let B5:=Ft (o':=.ins W.Field (y5 a s b c h)) (Y.at B4) (show -S1 < b by lia);let C5:=Ft (o':=.ins W.Field (y5 a s b c h)) (Y.at C4) (show -S1 < c by lia);let H5:=Ft (o':=.ins W.Field (y5 a s b c h)) hH (show -S1 < h by lia);generalize U5.set (-S1) (.ins W.Field (y5 a s b c h))=T5 at s5 F5 A5 B5 C5 H5;let#[e4,e5,e6,T6,s6,F6,C6,H6,O6]:=ae W (wn:=wn) F5 rfl rfl rfl N ∅ ch A5 C5 H5 hg1 hg3;let A6:=(O6 a ∅ ∅).trans A5;let B6:=(O6 b ∅ ∅).trans B5;let v7:((!E)*>λl=>FZ l (λM=>!true) (λx=>((!x)*>λx=>(!())*>λy=>!(x,y))*>λz=>HR z.1))=!pb:=hpb
 let#[d,U7,m7,R,k,rfl,hk,hK]:=(DD (El (VI.k (vx (A:=[.q (λL d=>∃q fs n,d=.ref q/\L q=!.ins W.Field fs/\fs.lookup ("everything" : Str)=!.ref n/\L n=!oL (eT D.int) E),.u,.u,.u,.u,.u,.u]) (i:=0) (x:="everything") (λL d h=>h) rfl)) (λM=>Jy) (λx=>CN (C2 (AL (i:=0) rfl) CT) (λz=>iO W z.1) (λM=>rfl) E7))) _ v7 T6 (eF7 (-S1) wn g s e4 e5 e6) _ T6 (Vs.all λi x B=>by
  match i,B with
  | 0,B=>cases B;exact#[_,rfl,.ref (-S1),rfl,λL P=>#[-S1,_,a,rfl,P _ _ (eQ F6.at'),rfl,P _ _ (eQ A6)]]
  | 1,B=>cases B;exact#[_,rfl,trivial]
  | 2,B=>cases B;exact#[_,rfl,trivial]
  | 3,B=>cases B;exact#[_,rfl,trivial]
  | 4,B=>cases B;exact#[_,rfl,trivial]
  | 5,B=>cases B;exact#[_,rfl,trivial]
  | 6,B=>cases B;exact#[_,rfl,trivial]
  | n+7,B=>cases B)
 let s7:=F6.step (x:="place_bits") rfl m7 R (Bc (AO 5) (by ext));let F7:=F6.put (x:="place_bits") (d:=.ref k) R;let Υ:h < k:=AS (CF H6) hk
 let cell:∀{j:Nat} {o:Ob},U7[j]?=!o->-S1 < j->(U7.set (-S1) (.ins W.Field (y6 a s b c h k)))[j]?=!o:=λI Z=>Ft I Z
 let A7:=cell (R.at A6) N;let B7:=cell (R.at B6) ∅;let C7:=cell (R.at C6) ∅;let H7:=cell (R.at H6) ∅;let K7:=cell hK ∅;generalize U7.set (-S1) (.ins W.Field (y6 a s b c h k))=J at s7 F7 A7 B7 C7 H7 K7
 clear cell
 let m8:Iu (eF7 (-S1) wn g s e4 e5 e6) J=.ok (.ref (-J)) (J++[.dK []]):=rfl;let O:=Keeps.app J [Ob.dK []];let s8:=F7.step (x:="known") (e:=eF7 (-S1) wn g s e4 e5 e6) rfl m8 O (Bc (AO 6) (by ext));let F8:=F7.put (x:="known") (d:=.ref (-J)) O;let M7:(J++[Ob.dK []])[J.length]?=!.dK []:=DM _ _;let km:=CF K7;generalize -J=m at s8 F8 M7 km;generalize J++[Ob.dK []]=U8 at O s8 F8 M7
 let cell:∀{j:Nat} {o:Ob},U8[j]?=!o->-S1 < j->(U8.set (-S1) (.ins W.Field (y7 a s b c h k m)))[j]?=!o:=λI Z=>Ft I Z
 let A8:=cell (O.at A7) N;let B8:=cell (O.at B7) ∅;let C8:=cell (O.at C7) ∅;let H8:=cell (O.at H7) ∅;let K8:=cell (O.at K7) ∅;let M8:=cell M7 ∅;generalize U8.set (-S1) (.ins W.Field (y7 a s b c h k m))=T8 at s8 F8 A8 B8 C8 H8 K8 M8
 clear cell
 let Q8:=F8.at'
 let run:LU W [.ref (-S1),.ref wn,.int g,.str s] T0=.ok .non T8:=by
  refine YU (e:=eF7 (-S1) wn g s e4 e5 e6) ?_;unfold RN;show(As _ _) (eF9 S1 wn g s) T0=_;rw[BD s1,BD s2,BD s3,BD s4,BD s5,BD s6,BD s7];exact s8
 let C:ba W #[E,s,U,nuF E,hvF w.1 E,pb] (λk=>T8[k]?) (-S1) m:=#[a,b,c,h,k,Q8,A8,B8,C8,H8,K8]
 let lkOk:∀n z:Int,0<=n->n < 1000->Ml #[E,s,U,nuF E,hvF w.1 E,pb] n=!z->LM W [.ref (-S1),.ref wn,.int g,.str s] T8 (.inl n)=z:=λn z M M S=>by
  let hQ:NM T8 [.q (ND W #[E,s,U,nuF E,hvF w.1 E,pb]),.v (D.int n)] [.ref (-S1),.int n]:=#[λL P=>#[_,m,rfl,C.mono P],rfl,trivial];unfold LM;symm;rw[show ym "kind" (-S1) T8=!s by unfold ym;rw[Q8];rfl];unfold Ml at S;dsimp only at S
  by_cases ck:s = "one"
  ·rw[wX ck,qX rfl]at S
   let#[d,T,I,_,rfl]:=IW W _ n z S T8 _ hQ;rw[qX (congrArg some ck),I];rfl
  ·rw[wY ck,qY AQ]at S
   let#[d,T,I,_,rfl]:=IX W _ n z S T8 _ hQ;rw[qY (λe=>ck (B0 e)),I];rfl
 refine#[T8.set m (.mem (LM W [.ref (-S1),.ref wn,.int g,.str s] T8)),?_,F8.kp.set ∅ _,λL P=>#[-S1,m,_,rfl,?_,P m _ ∅ (An (CF M8)),lkOk]]
 ·unfold IF tD
  rw[run];symm
  rw[show Xf "known" [.ref (-S1),.ref wn,.int g,.str s] T8=!m by
   unfold Xf;symm;rw[Q8]
   rfl]
  symm;rw[M8]
 ·let up:∀{j:Nat} {o:Ob},T8[j]?=!o->-S1<=j->j < m->L j=!o:=λI Z h3=>P _ _ Z (by rw[Ak (Dk h3)];exact I)
  exact#[a,b,c,h,k,up Q8 (AO _) ∅,up A8 ∅ ∅,up B8 ∅ ∅,up C8 ∅ ∅,up H8 ∅ ∅,up K8 ∅ (by ext)]
def KN(g:Fp)(i:Int)(m:Int):⇑(Fw Int Unit):=
 (GY g (i,()).1*>λo=>atI g.hv m*>λs=>!BR o s)*>λA=>!.rt A
def E8(g:Fp)(i:Int)(m:Int):⇑Int:=Gu (KN g i m)
theorem Nj(W:Wd)(g:Fp)(i:Int)(m:Int):VF (IG W) [.q (J5 W g),.v (D.int i),.v (D.int m)] (rV D.int) (E8 g i m):=by
 refine Ec (B:=λz=>[]) ?_;unfold OT KN;exact(Dx (Od (MZ (bC λz z z z z z z=>rfl) (λz z h=>h) rfl (C2 AL CT) (λo=>Uj W g o.1) (λz=>rfl) E7) (EK (Fs jW rfl) AL)))
def LL(H:Fp)(I:Int):⇑(Fw (¬XP) Unit):=
 BB (!.nx []) λN=>BB (Ir I*>λg=>Eu g N λ(J:(¬XP)) i=>BB ((JJ H (i,()).1*>λm=>FZ m (λo=>(((!(i,(o,())))*>λϯ=>E8 H ϯ.1 ϯ.2.1)*>λϦ=>!BR Ϧ I)*>λs=>!decide (s=(0:Int))) (λo=>!o))*>λA=>!.nx A) λL=>E9 (λB=>B) (if (not L.isEmpty) then E9 (λC=>C) (atI L (0:Int)*>λO=>Wg J i O*>λE=>!.nx E)else !.nx J)) λG=>!.rt G
def Ey(g:Fp)(i:Int):⇑(¬XP):=Gu (LL g i)
theorem PJ(W:Wd)(g:Fp)(i:Int):VF (JM W) [.q (J5 W g),.v (D.int i)] (rN (oDK D.int)) (Ey g i):=by
 refine Ec (B:=λz=>[]) ?_;unfold Pb LL;exact(Av (FO Zu) (λJ=>(Av (Ew (Rg (CN (C2 AL CT) (λs=>Ro W s.1) (λz=>rfl) N1)) E2 (.refl _) (λL A=>(Av (Jx (DD (El (VI.k (Rg (MZ (bC λz z z z z z z=>rfl) J5.q rfl (C2 AL CT) (λm=>Wb W g m.1) (λz=>rfl) N1))) (λC=>(Fy (QV Ds LP (Od (MZ (bC λz z z z z z z=>rfl) (λz z h=>h) rfl (C2 AL (C2 AL CT)) (λϯ=>Nj W g ϯ.1 ϯ.2.1) (λz=>rfl) E7) AL) Bf))) (λC=>AL)))) (λE=>(Cq (G3 (B:=(λ(o:(¬XP))=>[.q (J5 W g),.v (D.int i),.w 2 ((oDK D.int) o),.v (D.int A),.y ((oL D.int) E)])) (rF DG) (Cq (Zo rfl AL (EK DG Bf) rfl) (λG=>(.refl _))) (HP (.refl _))) (λH=>(.same (.same (.same (.drop (.drop .nil))))))))))) (λI=>(QQ rfl)))))
def VN(g:Fp):⇑(Fw (¬(Int×XP)) Unit):=
 BB (!.nx []) λP=>BB ((Qb (1:Int) (-g.ev:Int)*>λQ=>!Q - (1:Int))*>λR=>!.nx R) λN=>BB (!.nx (1:Int)) λi=>BB (Ey g N*>λm=>!.nx m) λo=>BB (whF (λ(Ϣ:(¬(Int×XP))×Int×Int×(¬XP))=>!not (Ϣ.2.2.2.isEmpty)) (λ(Ϣ:(¬(Int×XP))×Int×Int×(¬XP))=>BB (Eu (Ϣ.2.2.2.map (·.1)) (Ϣ.1,Ϣ.2.1) λ(O:(¬(Int×XP))×Int) s=>BB ((BI Ϣ.2.2.2 s*>λS=>!(Ϣ.2.2.1,S))*>λA=>Wg O.1 s A*>λB=>!.nx B) λC=>E9 (λE=>(C,E)) (Qb (1:Int) s*>λG=>!.nx (Co O.2 G))) λϧ=>BB (!.nx (Ϣ.2.2.1+(1:Int))) λH=>E9 (λI=>(ϧ.1,ϧ.2,H,I)) (Ey g ϧ.2*>λJ=>!.nx J)) wN (P,N,i,o)) λL=>!.rt L.1
def Hs(g:Fp):⇑(¬(Int×XP)):=Gu (VN g)
theorem lH(W:Wd)(s:Fp):VF (OI W) [.q (J5 W s)] (rN (oDK (eP D.int D.int))) (Hs s):=by
 refine Ec (B:=λz=>[]) ?_;unfold bT VN;exact(Av (FO Zu) (λL=>(Av (DC (Rh (Pl Bf (QU (Fs Pa rfl))) Bf)) (λN=>(Av (DC Bf) (λA=>(Av (FO (CN (va_p (λz z h=>h) rfl (C2 AL CT)) (λi=>PJ W i.1 i.2.1) (λz=>rfl) N1)) (λC=>(Av (Zm (B:=(λ(g:(¬(Int×XP))×Int×Int×(¬XP))=>[.q (J5 W s),.w 1 ((oDK (eP D.int D.int)) g.1),.v (D.int g.2.1),.v (D.int g.2.2.1),.w 4 ((oDK D.int) g.2.2.2),.u])) (.refl _) (λϢ=>(lE JF)) (λϢ=>(Av (AAC 4 rfl rfl (Ew (B:=(λ(m:(¬(Int×XP))×Int)=>[.q (J5 W s),.w 1 ((oDK (eP D.int D.int)) m.1),.v (D.int m.2),.v (D.int Ϣ.2.2.1),.y ((oFK D.int) Ϣ.2.2.2),.u])) (vt rfl) E2 (.refl _) (λO P=>(Av (Zo rfl AL (Ko AL (iL DG AL)) rfl) (λE=>(Cq (Rf rfl (Pl Bf AL)) (λG=>(.same (.same (.same (.same (.same (.drop .nil))))))))))))) (λϧ=>(Av (Rf rfl Bf) (λH=>(Cq (FO (CN (va_p (λz z h=>h) rfl (C2 AL CT)) (λo=>PJ W o.1 o.2.1) (λz=>rfl) N1)) (λI=>(.refl _))))))))) (λJ=>(QQ rfl)))))))))))
def KJ(i:Fp)(m:(¬(Int×XP))):⇑(Fw Int Unit):=
 (((!(-i.ev:Int)).bind Ql*>λo=>FZ o (λg=>!not (BI m g).isSome) (λg=>Qb (1:Int) g))*>λs=>!YL s)*>λA=>!.rt A
def Hr(g:Fp)(i:(¬(Int×XP))):⇑Int:=Gu (KJ g i)
theorem Ug(W:Wd)(g:Fp)(i:(¬(Int×XP))):VF (IC W) [.q (J5 W g),.z ((oDK (eP D.int D.int)) i)] (rV D.int) (Hr g i):=by
 refine Ec (B:=λG=>[]) ?_;unfold OQ KJ;exact(Dx (vz (JS (DD (El (VI.k (Fd (QU (Fs Pa rfl)))) (λm=>(Fy (Zt AL DN))) (λm=>(Pl Bf AL)))))))
end M
namespace L4
theorem cP{ρ g:Type}{c:g->⇑Bool}{q:g->⇑(Fw ρ g)}(I:g->Prop)(i:g->Nat)(h:∀s,I s->c s=!false∨(c s=!true/\∃s',q s=!.nx s'/\I s'/\i s' < i s)) :
  ∀(n:Nat) (s:g),I s->i s < n->∃s',whF c q n s=!.nx s'/\I s'/\c s'=!false
 | 0,s,_,m=>zX m (WU _)
 | n+1,s,A,m=>by
  unfold whF
  rcases h s A with o | ⟨o,s',B,C,E⟩
  ·ext
  ·rw[o]
   rw[B];exact cP I i h n s' C ∅
end L4
namespace M
open L2 L4
theorem K5(a b:Nat):BR (a:Int) (b:Int)=((a &&& b:Nat):Int):=by
 rfl
theorem VV(a b:Nat):Cp (a:Int) (b:Int)=((a ||| b:Nat):Int):=by
 unfold Cp BR kX;rw[wY ∅,wY ∅];rw[show((unop% Neg.neg ((unop% Neg.neg (a:Int)) - 1)) - 1).toNat=a by lia,show((unop% Neg.neg ((unop% Neg.neg (b:Int)) - 1)) - 1).toNat=b by lia]
 lia
theorem mw:∀a b:Nat,(a ||| b)=(a ^^^ b)+(a &&& b):=by
 intro a
 induction a using uq with
 | ind a m=>
  intro b
  by_cases h:a=0
  ·ext
  ·let e:=m (a / 2) ∅ (b / 2)
   let o:=Nat.or_div_two (a:=a) (b:=b);let s:=Nat.xor_div_two (a:=a) (b:=b);let A:=WV (a:=a) (b:=b);let g:=Nat.or_mod_two_pow (a:=a) (b:=b) (n:=1);let m2:(a ^^^ b) % 2=(a % 2 ^^^ b % 2):=Nat.xor_mod_two_pow (n:=1);let m3:=QI (a:=a) (b:=b) (n:=1)
   rcases LF a with i | i <;> rcases LF b with hb | hb <;> rw[i,hb]at g m2 m3 <;> simp only[Nat.reduceOr,Nat.reduceXor,Nat.reduceAnd]at g m2 m3 <;> lia
theorem fA(a b:Nat):Co (a:Int) (b:Int)=((a ^^^ b:Nat):Int):=by
 unfold Co;rw[VV,K5,mw]
 ext
theorem tJ:∀b:Nat,0 < b->∃i:Nat,b.testBit i/\(∀j,j < i->b.testBit j=false)/\b=(b &&& (b - 1))+2 ^ i/\∀j,(b &&& (b - 1)).testBit j=(b.testBit j&&not (decide (i=j))):=by
 intro b
 induction b using uq with
 | ind b m=>
  intro hb
  rcases LF b with h | h
  ·let#[i,A,o,B,s]:=m (b / 2) ∅ ∅
   let d:=WV (a:=b) (b:=b - 1);rw[show(b - 1) / 2=b / 2 - 1 by grind]at d;let m3:(b &&& (b - 1)) % 2=(b % 2 &&& (b - 1) % 2):=QI (n:=1);rw[h]at m3;simp at m3;refine#[i+1,by grind,λj g=>?_,?_,λj=>?_]
   ·cases j with
    | zero=>rw[UO];lia
    | succ j=>rw[Ji];exact o j ∅
   ·rw[cI];lia
   ·cases j with
    | zero=>
     rw[UO,UO,wY ∅,wY ∅];rfl
    | succ j=>
     rw[Ji,Ji,d,s j]
     simp
  ·let d:=WV (a:=b) (b:=b - 1)
   rw[show(b - 1) / 2=b / 2 by grind,zp]at d;let m3:(b &&& (b - 1)) % 2=(b % 2 &&& (b - 1) % 2):=QI (n:=1);rw[h,show(b - 1) % 2=0 by grind]at m3;simp at m3;refine#[0,by ext,λj g=>zX g (WU _),by rw[Nat.pow_zero];lia,λj=>?_]
   cases j with
   | zero=>
    ext
   | succ j=>
    rw[Ji,Ji,d];simp
theorem jC{b i:Nat}(h:b=(b &&& (b - 1))+2 ^ i)(hb:0 < b):BR (b:Int) ((unop% Neg.neg (b:Int)))=((2 ^ i:Nat):Int):=by
 unfold BR kX;rw[wX (Int.natCast_nonneg b),wY ∅];rw[show((unop% Neg.neg (unop% Neg.neg (b:Int))) - 1).toNat=b - 1 by simp,Ap]
 lia
theorem pJ(i:Nat):Do ((2 ^ i:Nat):Int)=i+1:=by
 unfold Do;let h:=Dk (WT i);rw[qY (by rw[beq_iff_eq];lia),Int.natAbs_natCast,Nat.log2_two_pow]
def Bm(b:Nat)(l:YP):Prop:=l.Pairwise (· < ·)/\∀x:Int,x∈l↔0<=x/\b.testBit x.toNat=true
theorem Xe{b N:Nat}(hb:b < 2 ^ N)(hN:N<=1000):Ok (Ir (b:Int)) (Bm b):=by
 unfold Ir Rx;simp only[AF,df,Bw]
 let#[#[t,l],e,P,A]:=cP (c:=λs:YP×Int=>!s.2 != 0) (q:=λs:YP×Int=>BB (NS s.1 ((Do (BR s.2 ((unop% Neg.neg s.2))):Int) - 1)*>λl=>!.nx l) λv=>E9 (λw=>(v,w)) (!.nx (BR s.2 (s.2 - 1))))
  (λs=>∃c:Nat,s.2=c/\s.1.Pairwise (· < ·)/\(∀x∈s.1,0<=x/\x < N/\b.testBit x.toNat/\∀j:Nat,c.testBit j->x < j)/\(∀j:Nat,b.testBit j->(j:Int)∈s.1∨c.testBit j=true)/\(∀j:Nat,c.testBit j->b.testBit j=true))
  (λs=>N - -s.1) (by
   rintro s ⟨c,A,B,m,J,E⟩
   by_cases L:c=0
   ·left
    ext
   ·right
    let#[i,C,q2,Q,R]:=tJ c ∅
    let hi:i < N:=by
     let:=E i C
     refine qF λG=>?_
     let S:=cH (AS hb (hX (by decide) G));rw[S]at this;cases this
    let O:-s.1 < N:=by
     let H:(s.1++[(i:Int)]).Nodup:=by
      refine Ln.mpr #[B.imp λh=>by lia,by simp,λx g y I=>?_];rw[AV.mp I];let:=(m x g).2.2.2 i C
      lia
     let:=SD (k:=GC 0 N) H λx g=>by
      rw[G5]
      rcases BO.mp g with g | g
      ·let:=m x g;grind
      ·rw[AV.mp g];grind
     rw[Ct,Aa,Ay]at this;exact this
    refine#[by rw[A];exact congrArg some (bne_iff_ne.mpr ∅),(s.1++[(i:Int)],((c &&& (c - 1):Nat):Int)),?_,#[_,rfl,?_,λx g=>?_,λj o=>?_,λj o=>?_],?_]
    ·rw[A,jC Q ∅,pJ,JN ∅,show(c:Int) - 1=((c - 1:Nat):Int) by lia,K5]
     simp only[AF,Bw,tE];rw[show((i+1:Nat):Int) - 1=(i:Int) by simp]
    ·refine Ba.mpr #[B,Zf _ _,λx g y I=>?_]
     rw[AV.mp I];exact(m x g).2.2.2 i C
    ·rcases BO.mp g with g | g
     ·let#[T,U,X,Y]:=m x g
      refine#[T,U,X,λj o=>Y j ?_]
      grind
     ·rw[AV.mp g]
      refine#[by lia,by lia,by rw[Ap];exact E i C,λj o=>?_];rw[R j,Bo]at o
      let Θ:i≠j:=by simpa using o.2
      let:Not (j < i):=λz=>by grind
      lia
    ·grind
    ·grind
    ·rw[Aa,Ay]
     grind) wN ([],(b:Int)) #[b,rfl,.nil,λz h=>(nomatch h),λj o=>.inr o,λz h=>h] (by show N - 0 < wN;lia)
 refine#[t,?_,?_]
 ·rw[e]
  rfl
 ·let#[c,Ϩ,B,m,J,E]:=P
  let L:c=0:=by
   let A:=B0 A
   let:(c:Int)=0:=by rw[<-Ϩ];simpa using A
   ext
  subst L;refine#[B,λx=>#[λg=>#[(m x g).1,(m x g).2.2.1],λ#[Z,g]=>?_]]
  rcases J x.toNat g with h | h
  ·rwa [Cn Z]at h
  ·simp at h
open L2 L4
open Srt (ltL)
def nr(ts:¬XP)(x:Nat):YP:=Hk (Ee ts x)
theorem dJ:z∈nr ts x↔((x:Int),z)∈ts∨(z,(x:Int))∈ts:=by
 unfold nr;rw[(HH _).mem_iff];unfold Ee
 grind
theorem nF{o:Nat}{us:¬XP}{g:Int}(i:0<=g)(m:g < o):atI (SA o us) g=!nr us g.toNat:=by
 refine JA i ?_;unfold SA;rw[Al,DL (by ext)];rfl
theorem xm{o:Nat}{us:¬XP}{g:Int}(i:0<=g)(m:g < o):Ya (o,us) g=!nr us g.toNat:=by
 unfold Ya dC Hq Hn;rw[wX i,qX rfl,wX m];rw[nF i m];rfl
theorem XJ:x∈Hk l↔x∈l:=(HH l).mem_iff
theorem eI{b n:Nat}{P:Nat->Prop}(hb:∀j,b.testBit j=true↔P j)(j:Nat):(b ||| 2 ^ n).testBit j=true↔P j∨n=j:=by
 grind
theorem Md{n:Nat}(h:n<=1000000):Qb 1 (n:Int)=!((2 ^ n:Nat):Int):=by
 unfold Qb;rw[qX #[by ext,by lia,by decide],Ap,Int.one_mul]
 norm_cast
theorem yO(n:Nat)(h:0<=x):hb (n:Int) x=n.testBit x.toNat:=by
 unfold hb
 let e:(n:Int) / 2 ^ x.toNat=((n / 2 ^ x.toNat:Nat):Int):=by norm_cast
 rw[e,show(1:Int)=((1:Nat):Int)from rfl,K5,Nat.testBit_eq_decide_div_mod_eq,Nat.and_one_is_mod];let:n / 2 ^ x.toNat % 2 < 2:=kH _ (by ext);generalize n / 2 ^ x.toNat % 2=q at this
 match q,this with
 | 0,_=>rfl
 | 1,_=>rfl
 | q+2,h=>lia
theorem zB{l}(h:∀x∈l,0<=x/\x < 100):∃n:Nat,HR l=!(n:Int)/\∀y:Nat,n.testBit y=true↔(y:Int)∈l:=by
 let:Ok (HR l) λv=>∃n:Nat,v=n/\∀y:Nat,n.testBit y=true↔(y:Int)∈l:=by
  unfold HR Ry;simp only[AF,Bw];refine OkF.out (OkF.seq (OkF.for (λg (s:Int)=>∃n:Nat,s=n/\∀y:Nat,n.testBit y=true↔(y:Int)∈g) #[0,rfl,λy=>by simp] ?_) λs h=>.rt h);rintro g x s o A ⟨n,rfl,i⟩;let m:=h x o;let#[k,rfl]:=bo m.1;rw[Md ∅];simp only[AF];rw[VV];refine .nx #[_,rfl,λy=>(eI i y).trans ?_];rw[BO,AV];exact or_congr Iff.rfl #[λe=>by rw[e],λe=>by lia]
 let#[v,e,n,rfl,i]:=this;exact#[n,e,i]
def Tg(us:¬XP)(g:Int):YP:=Hk ([g]++nr us g.toNat)
def tkl(o:Nat)(us:¬XP):¬YP:=(GC 0 o).map (Tg us)
theorem lM{o:Nat}{us:¬XP}{g:Int}(i:0<=g)(m:g < o):atI (tkl o us) g=!Tg us g:=by
 refine JA i ?_;unfold tkl GC;rw[Al,Al,DL (by ext)];show (!Tg us (0+(g.toNat:Int)))=_;rw[show(0:Int)+(g.toNat:Int)=g by lia]
structure O5(o:Nat)(us:¬XP):Prop where
 sm:o<=60
 len:∀g:Int,0<=g->g < o->-nr us g.toNat<=60
 rg:∀g:Int,0<=g->g < o->∀x∈nr us g.toNat,0<=x/\x < o/\x≠g
 nd:∀g:Int,0<=g->g < o->(nr us g.toNat).Nodup
section
variable{o:Nat}{us:¬XP}
theorem pQ:x∈Tg us g↔x=g∨x∈nr us g.toNat:=by
 unfold Tg;rw[XJ];simp
theorem O5.tg(h:O5 o us){g:Int}(i:0<=g)(m:g < o):-Tg us g<=61/\(∀x∈Tg us g,0<=x/\x < o)/\(Tg us g).Pairwise (· < ·):=by
 refine#[?_,λx s=>?_,?_]
 ·unfold Tg
  rw[(HH _).length_eq,Aa,Ay];let:=h.len g i m
  lia
 ·rcases pQ.mp s with rfl | s
  ·trivial
  ·exact#[(h.rg g i m x s).1,(h.rg g i m x s).2.1]
 ·let A:(Tg us g).Nodup:=by
   unfold Tg;rw[(HH _).nodup_iff];show(g :: nr us g.toNat).Nodup;rw[CA];exact#[λz=>(h.rg g i m g z).2.2 rfl,h.nd g i m]
  let:=(Z9 ([g]++nr us g.toNat))
  exact(zu this A).imp λ#[a,b]=>by lia
theorem rL(h:O5 o us):Mj (o,us)=!tkl o us:=by
 unfold Mj Po;simp only[AF];rw[JI (by ext) (by let:=h.sm;lia),Ap];simp only[AF]
 rw[Gq (by rw[Ct];let:=h.sm;lia) λx i=>by
  let#[g,s]:=G5.mp i;rw[xm g (by ext),yo];simp only[AF];let m:=h.len x g ∅;rw[Y4 (by rw[Ay];lia)]
  rfl]
 rfl
end
theorem aJ:∀{l k:YP},l.Pairwise (· < ·)->k.Pairwise (· < ·)->(∀x,x∈l↔x∈k)->l=k
 | [],[],_,_,_=>rfl
 | [],y :: k,_,_,h=>zX ((h y).mpr (Aj ..)) CB
 | x :: l,[],_,_,h=>zX ((h x).mp (Aj ..)) CB
 | x :: l,y :: k,o,s,h=>by
  let g:=Hf.mp o;let m:=Hf.mp s
  let e:x=y:=by
   rcases Am.mp ((h x).mp (Aj ..))with a | a
   ·exact a
   ·rcases Am.mp ((h y).mpr (Aj ..))with b | b
    ·exact b.symm
    ·let:=m.1 x a
     let:=g.1 y b
     lia
  subst e
  congr 1
  refine aJ g.2 m.2 λz=>#[λi=>?_,λi=>?_]
  ·rcases Am.mp ((h z).mp (AY _ i))with a | a
   ·let:=g.1 z i;lia
   ·exact a
  grind
theorem Xp(h:ev[i]?=!r):(DS ev).take (i+1)=(DS ev).take i++[((i:Int),r)]:=by
 rw[DJ]
 congr 1
 unfold DS;ext
theorem nD{ev:¬YP}(A:ev.Nodup){i:Nat}{r:YP}(h:ev[i]?=!r):BI (nuF ev) r=!(i:Int):=by
 let g:∀k:Nat,k<=-ev->∀(j:Nat) (s:YP),j < k->ev[j]?=!s->BI (((DS ev).take k).foldl nuS []) s=!(j:Int):=by
  intro k
  induction k with
  | zero=>simp
  | succ k B=>
   intro G j s H o;let C:ev[k]?=!ev[k]'∅:=BX ∅;rw[Xp C,IU];show BI (Cy _ _ _) s=_;rw[Lv]
   by_cases e:j=k
   ·ext
   ·rw[qY,B ∅ j s ∅ o]
    intro c;let#[m,E]:=AE.mp o;rw[<-E]at c;exact La.mp A j k m ∅ ∅ c
 let:=g (-ev) (AO _) i r (AE.mp h).1 h;rwa [CI (by unfold DS;simp)]at this
def Hb(H:YP)(n:Nat)(P:Nat->Nat->Prop):Prop:=-H=n/\∀p:Nat,p < n->∃h:Nat,H[p]?=!(h:Int)/\∀j,h.testBit j=true↔P p j
theorem oB{n k:Nat}:∀(r:YP) {H:YP} {P:Nat->Nat->Prop},(∀x∈r,0<=x/\x < (n:Int))->Hb H n P->Hb (r.foldl (hvP (k:Int)) H) n (λp j=>P p j∨((p:Int)∈r/\j=k))
 | [],H,P,_,h=>#[h.1,λp g=>by
  let#[b,i,m]:=h.2 p g
  exact#[b,i,λj=>by rw[m];simp]]
 | x :: r,H,P,o,h=>by
  let#[C,E]:=o x (Aj ..)
  let i:Hb (hvP (k:Int) H x) n (λp j=>P p j∨((p:Int)=x/\j=k)):=by
   refine#[by unfold hvP;rw[Fn];exact h.1,λp g=>?_];let#[b,s,A]:=h.2 p g;unfold hvP;rw[E0]
   by_cases c:x.toNat=p
   ·rw[qX c,qX (by rw[h.1];ext)]
    refine#[b ||| 2 ^ k,?_,λj=>?_]
    ·rw[List.getD_eq_getElem?_getD,c,s,jz,Ap,show(1:Int) * 2 ^ k=((2 ^ k:Nat):Int) by rw[Int.one_mul];norm_cast,VV]
    ·rw[vZ,WN,A,EC]
     rw[decide_eq_true_eq]
     let:(p:Int)=x:=by lia
     exact or_congr_right #[λe=>#[this,e.symm],λe=>e.2.symm]
   ·rw[qY c]
    refine#[b,s,λj=>?_];rw[A]
    let:Not ((p:Int)=x):=by lia
    exact#[.inl,λz=>z.elim id λz=>zX z.1 this]
  let m:=oB (k:=k) r (λy B=>o y (AY _ B)) i
  grind
theorem ABF{n:Nat}{ev:¬YP}(B:∀r∈ev,∀x∈r,0<=x/\x < (n:Int)):Hb (hvF n ev) n (λp j=>∃r,ev[j]?=!r/\(p:Int)∈r):=by
 let m:∀k:Nat,k<=-ev->Hb (((DS ev).take k).foldl hvS (hv0 n)) n (λp j=>j < k/\∃r,ev[j]?=!r/\(p:Int)∈r):=by
  intro k
  induction k with
  | zero=>
   intro _;refine#[by unfold hv0;rw[ur,W2,AN,Ct],λp g=>#[0,?_,λj=>by simp]];unfold hv0;rw[ur,W2,Al,BX (by rw[Ct];exact g)];rfl
  | succ k C=>
   intro I;let A:ev[k]?=!ev[k]'∅:=BX ∅;rw[Xp A,IU];let i:=oB (k:=k) ev[k] (B _ (List.getElem_mem _)) (C ∅);refine#[i.1,λp g=>?_];let#[b,o,s]:=i.2 p g;refine#[b,o,λj=>(s j).trans ?_]
   constructor
   ·rintro(⟨a,q⟩ | ⟨a,rfl⟩)
    ·exact#[by lia,q]
    ·exact#[by lia,_,A,a]
   ·rintro⟨a,r,E,G⟩
    by_cases e:j=k
    ·lia
    ·exact .inl #[by lia,r,E,G]
 let:=m (-ev) (AO _);rw[CI (by unfold DS;simp)]at this;refine#[this.1,λp g=>?_];let#[b,o,s]:=this.2 p g;refine#[b,o,λj=>(s j).trans ?_];exact#[λh=>h.2,λ#[r,i,H]=>#[(AE.mp i).1,r,i,H]]
open L2 L4
theorem pN:atI (l++[x]) (-1)=!x:=by
 unfold atI ixN;simp;rw[qX ∅,show(-1+((-l:Int)+1)).toNat=-l by lia];simp
theorem fg(h:-1000000<=y)(g:y<=1000000):dM x y=!x * y:=qX (u8 h g)
theorem bE(h:0 < y)(g:y<=1000000):bF x y=!x / y:=qX #[h,by lia]
theorem Kf{g:Type}{l:¬g}{i:Nat}{x:g}(h:l[i]?=!x):atI l (i:Int)=!x:=JA ∅ (by assumption)
theorem rT(b:Int):Hk [b]=[b]:=iB.mp (HH [b])
section
variable{o:Nat}{us:¬XP}{kd:Str}{f:Fp}{m:Nat}
def sts(o:Nat):¬YP:=(GC 0 o).map λi=>[i]
theorem fM:-sts o=o:=by unfold sts;rw[AN,Ct]
theorem Jk:(sts o)[i]?=!r↔i < o/\r=[(i:Int)]:=by
 unfold sts GC;rw[Al,Al]
 by_cases c:i < o
 ·rw[DL c]
  show (![(0:Int)+i])=_↔_;rw[zw];exact#[λe=>#[c,(B0 e).symm],λe=>by rw[e.2]]
 ·rw[JQ ∅]
  exact#[λe=>(nomatch e),λe=>zX e.1 c]
theorem cp:(sts o).Nodup:=by
 unfold sts List.Nodup;rw[D2]
 exact(YX 0 o).imp λh e=>by cases e;ext
theorem lT(h:r∈sts o):∃i:Nat,i < o/\r=[(i:Int)]:=by
 let#[i,g]:=List.getElem?_of_mem h;exact#[i,Jk.mp g]
theorem Y3(h:OkF (q s x) N R):OkF (Eu [x] s q) N R:=by
 unfold Eu
 rcases h with⟨g,e,z⟩ | ⟨r,e,z⟩ <;> rw[e]
 ·exact .nx z
 ·exact .rt z
theorem iV(I:1<=o)(ho:o<=60):Ku (o,us) 1=!sts o:=by
 let C:Gm (o:Int) 1=!(o:Int):=by
  unfold Gm Im;simp only[AF,Bw];rw[JI (by ext) (by ext),show GC 0 (1:Int).toNat=[0]from rfl];simp only[AF];refine Ok.is (OkF.out (OkF.seq (N:=λs=>s=(o:Int)) (Y3 ?_) λs g=>.rt g));rw[fg (by ext) ∅];simp only[AF];rw[bE (by decide) (by decide)];exact .nx (by ext)
 let E:Of (o:Int) 1=!sts o:=by
  unfold Of Rw;simp only[AF,df,yo,Bw];rw[JI ∅ ∅,show GC 0 (1:Int).toNat=[0]from rfl];simp only[AF];refine Ok.is (OkF.out (OkF.seq (N:=λs=>s=sts o) (Y3 (OkF.seq (N:=λs=>s=sts o) (Y3 ?_) λs g=>.nx g)) λs g=>.rt g));simp only[List.isEmpty_nil,QO,C9,if_false,AF,Bw];rw[fP (by ext) (by ext) (by ext) ∅,show((o:Int) - 1+0+1 - 0).toNat=o by ext];simp only[AF]
  refine OkF.map (OkF.for (λA s=>s=A.map λi=>[i]) rfl λA x s J G B=>?_) λs g=>g
  let H:=G.length_le;rw[Aa,Ct]at H;rw[Y4 ∅];simp only[AF];rw[JN (by rw[B,AN];lia)];refine .nx ?_;rw[B,BQ];rfl
 unfold Ku N3 Ps Pp;rw[C,E,wX (Gs 1),qX rfl,wX (by lia:(1:Int)<=(o:Int))];show Gu (BB (if (decide ((400:Int) < (o:Int))) then none else !.nx ()) _)=_;rw[wY (by lia:Not ((400:Int) < (o:Int)))];rfl
structure Fk(o:Nat)(us:¬XP)(kd:Str)(f:Fp):Prop where
 ev:f.ev=sts o
 kd:f.kd=kd
 tk:f.tk=tkl o us
 nu:f.nu=nuF (sts o)
 hv:f.hv=hvF o (sts o)
 pl:-f.pb=o
 pb:∀i:Nat,i < o->f.pb[i]?=!((2 ^ i:Nat):Int)
theorem aQ(h:∀y:Nat,n.testBit y=true↔y=c):n=2 ^ c:=iA λy=>by
 grind
theorem uB(h:O5 o us)(B:1<=o):Ok (Gn (o,us) 1 kd) (Fk o us kd):=by
 let C:=h.sm;let E:=fM (o:=o)
 let G:∀r∈sts o,∀x∈r,0<=x/\x < (o:Int):=λr s x A=>by
  let#[i,g,rfl]:=lT s;let:=AV.mp A
  ext
 let H:∀i:Nat,i < o->HR [(i:Int)]=!((2 ^ i:Nat):Int):=λi g=>by
  let#[n,e,I]:=zB (l:=[(i:Int)]) λx A=>by let:=AV.mp A;lia
  rw[e,aQ (n:=n) (c:=i) λy=>by rw[I,AV];lia]
 unfold Gn;rw[iV B C,rL h];simp only[AF]
 rw[Gq (f:=λr=>(HR r).getD 0) ∅ λr s=>by
  let#[i,g,rfl]:=lT s;rw[H i g]
  rfl]
 simp only[AF];rw[qX #[by lia,by show o<=1000;lia,G]];refine#[_,rfl,rfl,rfl,rfl,rfl,rfl,(AN _).trans E,λi g=>?_];rw[Al,Jk.mpr #[g,rfl]];ext
def Nr(us:¬XP)(m c:Nat):Prop:=(c:Int)∈nr us m
theorem pP{m j:Nat}:(j:Int)∈Tg us m↔j=m∨Nr us m j:=by
 rw[pQ,Ap];exact#[λh=>h.imp (λe=>by exact_mod_cast e) id,λh=>h.imp (λe=>by ext) id]
theorem ja{i:Type}{ev:¬i}{g:¬(Int×i)}{x:Int×i}(h:g++[x] <+: DS ev):∃r,ev[g.length]?=!r/\x=((-g:Int),r):=by
 let#[t,A]:=h
 let s:(DS ev)[g.length]?=!x:=by rw[<-A,BM];simp
 unfold DS at s;rw[Al,Jt]at s
 cases B:ev[g.length]? with
 | none=>ext
 | some r=>ext
def Lb(o:Nat)(us:¬XP)(m:Nat)(v:Int):Prop:=∃l:Nat,v=l/\∀j,j≠m->(l.testBit j=true↔j < o/\Nr us m j)
theorem AAt(h:O5 o us)(F:Fk o us kd f)(hm:m < o):Ok (EX f m) (Lb o us m):=by
 let H:=h.sm;let tg:=h.tg (g:=(m:Int)) ∅ (by ext);unfold EX Fi;rw[F.ev,Kf (Jk.mpr #[hm,rfl])];simp only[AF,Bw];refine OkF.out (OkF.seq (Y3 ?_) λs B=>.rt B);rw[F.tk,lM ∅ ∅]
 refine OkF.map (OkF.imp (OkF.for (λi (s:Int)=>∃l:Nat,s=l/\∀j,l.testBit j=true↔(j:Int)∈i/\j≠m) #[0,rfl,λj=>by simp] ?_) (λs #[l,e,A]=>#[l,e,λj C=>?_]) λM h=>h) λs B=>B
 ·rintro i b s hb I ⟨l,rfl,A⟩
  let J:=tg.2.1 b hb
  obtain⟨k,rfl⟩:∃k:Nat,b=k:=#[b.toNat,by lia]
  by_cases c:k=m
  ·subst c
   rw[wX (FH _)];refine .nx #[l,rfl,λj=>(A j).trans (and_congr_left λC=>?_)]
   grind
  ·rw[wY (by rw[AV];lia)]
   let E:Kt [(m:Int)] m k=![(k:Int)]:=by
    unfold Kt N2;rw[Gq ∅ λx G=>by rw[wX (AV.mp G),qX rfl]];rfl
   rw[E];simp only[AF];rw[rT,F.nu,nD cp (Jk.mpr #[by lia,rfl])];simp only[AF];rw[Md ∅];simp only[AF];rw[VV];refine .nx #[_,rfl,λj=>(eI A j).trans ?_];rw[BO,AV]
   constructor
   ·rintro(⟨a,b⟩ | rfl)
    ·exact#[.inl a,b]
    ·exact#[.inr rfl,c]
   lia
 ·rw[A j]
  exact#[λz=>#[by let:=tg.2.1 _ z.1;lia,(pP.mp z.1).resolve_left C],λz=>#[pP.mpr (.inr z.2),C]]
theorem yn(h:O5 o us)(hm:m < o)(j:Nat):VU (tkl o us) [(m:Int)] ((2 ^ j:Nat):Int)=!decide ((j:Int)∈Tg us m):=by
 let I:=h.sm;let tg:=h.tg (g:=(m:Int)) (by ext) (by ext)
 let B:∀t∈tkl o us,t.length<=1000/\∀x∈t,0<=x:=λt i=>by
  let#[g,C,rfl]:=BN.mp i;let#[E,J]:=G5.mp C;let:=h.tg E (by ext);exact#[by omega,λx s=>(this.2.1 x s).1]
 let A:(-tkl o us:Int)=o:=by unfold tkl;rw[AN,Ct]
 show(if _ then _ else _)=_;rw[qX #[B,by lia,by ext]];unfold Tk;rw[lM ∅ ∅]
 let G:∀x∈Tg us m,hb ((2 ^ j:Nat):Int) x=true↔x=j:=λx s=>by
  let:=tg.2.1 x s;rw[yO _ this.1,EC,decide_eq_true_iff]
  lia
 let H:=(pP (us:=us) (j:=m)).mpr (.inl rfl)
 grind
theorem ABW(h:O5 o us)(F:Fk o us kd f)(hm:m < o):Ok (EY f m) (Lb o us m):=by
 let G:=h.sm;let tg:=h.tg (g:=(m:Int)) (by ext) (by ext);unfold EY Fj;rw[F.ev,Kf (Jk.mpr #[hm,rfl])];simp only[AF,Bw];refine OkF.out (OkF.seq (OkF.for (λi (s:Int)=>∃l:Nat,s=l/\∀j,l.testBit j=true↔j < -i/\(j:Int)∈Tg us m) #[0,rfl,λj=>by simp] ?_) ?_)
 ·rintro i x s H C ⟨l,rfl,A⟩
  let#[I,B,rfl]:=ja C
  let E:-i < o:=by rw[<-F.pl];exact(AE.mp B).1
  rw[F.pb _ E]at B;cases B;rw[F.tk,yn h hm];simp only[AF]
  by_cases c:((-i:Nat):Int)∈Tg us m
  ·rw[wX c,qX rfl,Md ∅]
   simp only[AF];rw[VV];refine .nx #[_,rfl,λj=>?_];rw[eI (λM=>Iff.rfl) j,A j,Aa,Ay]
   constructor
   ·rintro(⟨a,b⟩ | rfl)
    ·exact#[by lia,b]
    ·exact#[by ext,c]
   lia
  ·rw[wY c,qY AQ]
   refine .nx #[l,rfl,λj=>?_];rw[A j,Aa,Ay];refine#[λz=>#[by lia,z.2],λz=>#[?_,z.2]]
   by_cases q:j=-i
   ·ext
   ·lia
 ·rintro s ⟨l,e,A⟩
  refine .rt #[l,e,λj J=>?_];rw[A j,pP];unfold DS;rw[AN,List.length_zipIdx,F.pl];ext
theorem bR(h:O5 o us)(F:Fk o us kd f)(hm:m < o){c:Nat}(g:c < o)(s:c≠m):Ok (E8 f m c) λv=>∃l:Nat,v=l/\∀j,l.testBit j=true↔j=c/\Nr us m c:=by
 let L:=h.sm
 let A:Ok (GY f m) (Lb o us m):=by
  unfold GY Ml;rw[qX #[by lia,by lia],F.kd];split
  ·exact AAt h F hm
  ·exact ABW h F hm
 let#[v,e,l,rfl,B]:=A
 obtain⟨-,C⟩:=ABF (n:=o) (ev:=sts o) λr E x N=>by
  let#[i,O,rfl]:=lT E;ext
 let#[b,G,H]:=C c g;unfold E8 KN;rw[e,F.hv,Kf G];simp only[AF];rw[K5];refine#[_,rfl,_,rfl,λj=>?_];rw[Nat.testBit_and,Bo,H]
 constructor
 ·rintro⟨P,r,I,J⟩
  obtain⟨-,rfl⟩:=Jk.mp I
  let:c=j:=by let:=AV.mp J;lia
  ext
 ·rintro⟨rfl,a⟩
  exact#[(B j s).mpr #[g,a],_,Jk.mpr #[g,rfl],FH _]
end
structure Dl(f:Fp)(N:Nat)(cl:Nat->YP)(B:Nat->Int->Nat->Prop):Prop where
 ln:-f.ev=N
 sm:N<=400
 cs:∀n,n < N->JJ f n=!cl n/\-cl n<=1000/\(cl n).Pairwise (· < ·)
 bh:∀n,n < N->∀c∈cl n,Ok (E8 f n c) λv=>∃l:Nat,v=l/\∀j,l.testBit j=true↔B n c j
 rg:∀n c j,B n c j->j < N
abbrev TL:=¬(Int×XP)
structure Fa(N:Nat)(cl:Nat->YP)(B:Nat->Int->Nat->Prop)(T:TL):Prop where
 nd:(T.map (·.1)).Nodup
 rg:∀n∈T.map (·.1),0<=n/\n < (N:Int)
 ok:∀(m:Nat) z,BI T (m:Int)=!z->1<=z.1/\z.2∈cl m/\(∀j,B m z.2 j->∃y,BI T (j:Int)=!y/\y.1 < z.1)/\(∀c∈cl m,c < z.2->∃j,B m c j/\∀y,BI T (j:Int)=!y->z.1<=y.1)/\(2<=z.1->∀c∈cl m,∃j,B m c j/\∀y,BI T (j:Int)=!y->z.1<=y.1+1)
 no:∀m:Nat,m < N->BI T (m:Int)=none->∀c∈cl m,∃j,B m c j/\BI T (j:Int)=none
 hi:∀(m:Nat) z,BI T (m:Int)=!z->z.1<=N
section
variable{f:Fp}{N:Nat}{cl:Nat->YP}{B:Nat->Int->Nat->Prop}{b:Nat}
def Ww(B:Nat->Int->Nat->Prop)(b m:Nat)(c:Int):Prop:=∀j,B m c j->b.testBit j=false
def Fst(cl:Nat->YP)(B:Nat->Int->Nat->Prop)(b m:Nat)(c:Int):Prop:=c∈cl m/\Ww B b m c/\∀g∈cl m,g < c->Not (Ww B b m g)
theorem Vc(h:Not (Ww B b m c)):∃j,B m c j/\b.testBit j:=EZ λz=>h λj g=>by
 ext
theorem bX:(a &&& b)=0↔∀j,a.testBit j->b.testBit j=false:=by
 constructor
 ·intro h j g
  let:Nat.testBit (a &&& b) j=Nat.testBit 0 j:=by rw[h]
  grind
 ·intro h
  refine iA λj=>?_
  ext
def FN(cl:Nat->YP)(B:Nat->Int->Nat->Prop)(b:Nat)(K:¬XP):Prop:=(K.map (·.1)).Nodup/\(∀n∈K.map (·.1),0<=n/\b.testBit n.toNat=true)/\∀(m:Nat) c,BI K (m:Int)=!c↔b.testBit m/\Fst cl B b m c
theorem eJ(hb:b < 2 ^ N)(h:b.testBit i):i < N:=qF λg=>by
 let m:=cH (AS hb (hX (by decide) g))
 ext
theorem Q3{g:Type}{K:¬(Int×g)}(i:(K.map (·.1)).Nodup)(m:∀n∈K.map (·.1),0<=n/\n < (N:Int)):-K<=N:=by
 let:=SD (k:=GC 0 N) i λx o=>by rw[G5];let:=m x o;ext
 rwa [Ct,AN]at this
open Classical in
theorem Xo(D:Dl f N cl B)(hb:b < 2 ^ N):Ok (Ey f (b:Int)) (FN cl B b):=by
 let#[l,e,X,J]:=Xe hb (by let:=D.sm;lia)
 let L:∀x∈l,0<=x/\x < (N:Int):=λx o=>by
  let#[Y,o]:=(J x).mp o;let:=eJ hb o
  ext
 unfold Ey LL;rw[e];simp only[AF,Bw];refine OkF.out (OkF.seq (OkF.for (λpre (s:¬XP)=>(s.map (·.1)).Nodup/\(∀n∈s.map (·.1),n∈pre)/\∀(m:Nat) c,BI s (m:Int)=!c↔(m:Int)∈pre/\Fst cl B b m c) #[by simp,λM h=>h,λm c=>#[λh=>(nomatch h),λh=>(nomatch h.1)]] ?_) ?_)
 ·rintro pre x s o S ⟨G,H,O⟩
  let#[Y,A]:=(J x).mp o
  obtain⟨m,rfl⟩:∃m:Nat,x=m:=#[x.toNat,by lia]
  rw[Ap]at A;let hm:=eJ hb A;let#[Z,c2,c3]:=D.cs m hm
  let hxp:(m:Int)∉pre:=by
   let:=X.sublist S.sublist;rw[Ba]at this;intro z;let:=this.2.2 _ z _ (FH _)
   lia
  rw[Z];simp only[AF]
  rw[P3 (P:=λc=>decide (Ww B b m c)) ∅ λc hc=>by
   let#[v,e1,q,rfl,hq]:=D.bh m hm c hc;rw[e1];simp only[AF];rw[K5]
   congr 1
   refine decide_eq_decide.mpr ?_;rw[show((q &&& b:Nat):Int)=0↔(q &&& b)=0 by lia,bX]
   exact forall_congr' λj=>imp_congr_left (hq j)]
  simp only[AF,Bw]
  let I:∀c,c∈(cl m).filter (λc=>decide (Ww B b m c))↔c∈cl m/\Ww B b m c:=λc=>by ext
  let T:((cl m).filter λc=>decide (Ww B b m c)).Pairwise (· < ·):=c3.filter _;generalize (cl m).filter (λc=>decide (Ww B b m c))=g at I T
  cases g with
  | nil=>
   let nf:∀c,Not (Fst cl B b m c):=λc #[C,E,_]=>nomatch (I c).mpr #[C,E]
   refine .nx #[G,λn i=>Js _ (H n i),λk c=>(O k c).trans #[λ#[a,q]=>#[Js _ a,q],λ#[a,q]=>#[?_,q]]]
   rcases BO.mp a with a | a
   ·exact a
   ·let e:k=m:=by let:=AV.mp a;lia
    grind
  | cons c0 g=>
   let Q:Fst cl B b m c0:=by
    let#[C,E]:=(I c0).mp (Aj ..);refine#[C,E,λU R h4 h5=>?_]
    rcases Am.mp ((I U).mpr #[R,h5])with h | h
    ·lia
    ·let:=(Hf.mp T).1 U h;lia
   let f1:∀c,Fst cl B b m c↔c=c0:=λc=>#[by
    rintro ⟨C,E,R⟩
    rcases Int.lt_trichotomy c c0 with h | h | h
    ·exact zX E (Q.2.2 c C h)
    ·exact h
    ·exact zX Q.2.1 (R c0 Q.1 h),λh=>by lia]
   let hsl:=Q3 G λn i=>L n ((ZX pre [(m:Int)]).trans S.sublist |>.subset (H n i))
   let hN:=D.sm;rw[show(not (c0 :: g).isEmpty)=true from rfl,qX rfl,show atI (c0 :: g) 0=!c0 from JA ∅ rfl];simp only[AF];rw[show Wg s (m:Int) c0=!Cy s (m:Int) c0 from qX ∅];refine .nx #[?_,λn i=>?_,λk c=>?_]
   ·rw[Q2]
    grind
   ·rw[Q2]at i
    grind
   ·rw[Lv]
    by_cases e:(k:Int)=m
    ·let e':k=m:=by lia
     subst e';rw[qX rfl,f1];exact#[λh=>#[by simp,(B0 h).symm],λh=>by rw[h.2]]
    ext
 ·rintro s ⟨G,H,O⟩
  refine .rt #[G,λn i=>(J n).mp (H n i),λm c=>(O m c).trans (and_congr_left λM=>?_)];ext
structure Rnd(N:Nat)(cl:Nat->YP)(B:Nat->Int->Nat->Prop)(s:TL×Int×Int×¬XP)(b:Nat):Prop where
 lf:s.2.1=b
 lt:b < 2 ^ N
 bt:∀j,b.testBit j=true↔j < N/\BI s.1 (j:Int)=none
 st:1<=s.2.2.1
 nd:(s.1.map (·.1)).Nodup
 rg:∀n∈s.1.map (·.1),0<=n/\n < (N:Int)
 ok:∀(m:Nat) z,BI s.1 (m:Int)=!z->z.1 < s.2.2.1/\1<=z.1/\z.2∈cl m/\(∀j,B m z.2 j->∃y,BI s.1 (j:Int)=!y/\y.1 < z.1)/\(∀c∈cl m,c < z.2->∃j,B m c j/\∀y,BI s.1 (j:Int)=!y->z.1<=y.1)/\(2<=z.1->∀c∈cl m,∃j,B m c j/\∀y,BI s.1 (j:Int)=!y->z.1<=y.1+1)
 mn:2<=s.2.2.1->∀m:Nat,m < N->BI s.1 (m:Int)=none->∀c∈cl m,∃j,B m c j/\∀y,BI s.1 (j:Int)=!y->s.2.2.1<=y.1+1
 fn:FN cl B b s.2.2.2
 sl:s.2.2.1<=-s.1+1
theorem ax{l:YP}{P:Int->Prop}(h:∃c∈l,P c):∃c∈l,P c/\∀c'∈l,c' < c->Not (P c'):=by
 induction l with
 | nil=>ext
 | cons x l A=>
  by_cases C:∃c∈l,P c
  ·let#[c,E,G,m]:=A C
   by_cases o:P x/\x < c
   ·exact#[x,Aj ..,o.1,λc' i s g=>by
     rcases Am.mp i with h | h
     ·ext
     ·exact m c' h ∅ g]
   ·exact#[c,AY _ E,G,λc' i s g=>by
     rcases Am.mp i with h | h
     ·exact o #[by rw[<-h];exact g,by ext]
     ·exact m c' h s g]
  ext
set_option tactic.hygienic true in
theorem rh(D:Dl f N cl B)(h:Rnd N cl B s b)(Θ:s.2.2.2≠[]) :
  ∃s' E,BB (Eu (s.2.2.2.map (·.1)) (s.1,s.2.1) λ(ω:TL×Int) Q=>BB ((BI s.2.2.2 Q*>λϘ=>!(s.2.2.1,Ϙ))*>λR=>Wg ω.1 Q R*>λS=>!.nx S) λU=>E9 (λX=>(U,X)) (Qb (1:Int) Q*>λY=>!.nx (Co ω.2 Y))) (λϧ=>BB (!.nx (s.2.2.1+(1:Int))) λv40=>E9 (λv42=>(ϧ.1,ϧ.2,v40,v42)) (Ey f ϧ.2*>λx48=>!.nx x48))=!.nx (ρ:=TL) s'/\Rnd N cl B s' E/\-s.1 < -s'.1:=by
 let#[T,left,J,K]:=s;let#[lf,lt,Z,st,nd,rg,ok,mn,fn,sl]:=h;dsimp only at lf Z st nd rg ok mn fn Θ sl ⊢;subst lf;let hN:=D.sm;let#[k1,k2,k3]:=fn
 let kN:∀n∈K.map (·.1),0<=n/\n < (N:Int):=λn L=>by
  let#[a,q]:=k2 n L;let:=eJ lt q
  lia
 let kT:∀n∈K.map (·.1),BI T n=none:=λn L=>by
  let#[a,q]:=k2 n L;let:=((Z _).mp q).2;rwa [Cn a]at this
 let#[#[G,left'],e,t1,t2,t3,E,rfl,b1,b2]:=t6 (s0:=(T,(b:Int))) (q:=λ(ω:TL×Int) Q=>BB ((BI K Q*>λϘ=>!(J,Ϙ))*>λR=>Wg ω.1 Q R*>λS=>!.nx S) λU=>E9 (λX=>(U,X)) (Qb (1:Int) Q*>λY=>!.nx (Co ω.2 Y)))
  (λpre s=>(s.1.map (·.1)).Nodup/\(∀n∈s.1.map (·.1),0<=n/\n < (N:Int))/\(∀n,BI s.1 n=if n∈pre then(BI K n).map λc=>(J,c)else BI T n)/\∃E:Nat,s.2=E/\E < 2 ^ N/\∀j:Nat,E.testBit j=true↔b.testBit j/\(j:Int)∉pre)
  #[nd,rg,λn=>by simp,b,rfl,lt,λj=>by simp] (by
   rintro pre x ⟨G,left'⟩ hx hp ⟨t1,t2,t3,E,rfl,b1,b2⟩;dsimp only at t1 t2 t3 ⊢;let#[x0,xN]:=kN x hx;obtain⟨-,xb⟩:=k2 x hx
   let xp:x∉pre:=by
    let:=k1.sublist hp.sublist;unfold List.Nodup at this;rw[Ba]at this
    exact λz=>this.2.2 _ z _ (FH _) rfl
   let#[c,g]:=Dd.mp ((FV K x).mpr hx);let hl:=Q3 t1 t2;rw[g];simp only[AF];rw[show Wg G x (J,c)=!Cy G x (J,c)from qX ∅];rw[show x=((x.toNat:Nat):Int) by lia,Md (by grind)];simp only[AF];rw[fA,<-show x=((x.toNat:Nat):Int) by lia];refine#[_,rfl,?_,λn L=>?_,λn=>?_,_,rfl,Nat.xor_lt_two_pow b1 (hV (by ext) (by ext)),λj=>?_]
   ·rw[Q2]
    split
    ·exact t1
    ·rename_i hk
     exact Ln.mpr #[t1,by simp,λy C z i=>by rw[AV.mp i];lia]
   ·rw[Q2]at L
    split at L
    ·exact t2 n L
    ·rcases BO.mp L with h | h
     ·exact t2 n h
     ·rw[AV.mp h];exact#[x0,xN]
   ·rw[Lv]
    by_cases e:n=x
    ·subst e
     rw[qX rfl,qX ∅,g];rfl
    ·rw[qY e,t3]
     let:n∈pre++[x]↔n∈pre:=by rw[BO,AV];exact#[λz=>z.elim id λz=>zX z e,.inl]
     ext
   ·rw[Nat.testBit_xor,EC,bne_iff_ne,ne_eq,BO,AV]
    let ϐ:=b2 j
    by_cases e:x.toNat=j
    ·subst e
     rw[wX rfl];let:E.testBit x.toNat:=(b2 _).mpr #[xb,by rw[Cn x0];exact xp];rw[this];refine#[λz=>zX rfl z,λz=>zX (.inr ∅) z.2]
    ·rw[wY e]
     let:Not ((j:Int)=x):=by grind
     ext)
 rw[e];simp only[Bw];let#[K',eK,hK]:=Xo D b1;rw[eK]
 let tv:∀n,BI G n=match BI K n with | some c=>!(J,c) | none=>BI T n:=λn=>by
  rw[t3]
  by_cases h:n∈K.map (·.1)
  ·rw[qX h]
   let#[c,g]:=Dd.mp ((FV K n).mpr h);rw[g];rfl
  ·rw[qY h]
   cases g:BI K n with
   | none=>rfl
   | some c=>exact zX ((FV K n).mp (by rw[g];rfl)) h
 let H:∀n z,BI T n=!z->BI G n=!z:=λn z i=>by
  grind
 let o:∀n z,BI G n=!z->BI T n=!z∨(BI T n=none/\z.1=J):=λn z i=>by
  rw[tv]at i
  cases g:BI K n with
  | none=>rw[g]at i;exact .inl i
  | some c=>
   rw[g]at i;cases i;exact .inr #[kT n ((FV K n).mp (by rw[g];rfl)),rfl]
 let bt':∀j,E.testBit j=true↔j < N/\BI G (j:Int)=none:=λj=>by
  rw[b2,Z,tv]
  constructor
  ·rintro⟨⟨I,A⟩,h3⟩
   refine#[I,?_]
   cases g:BI K (j:Int)with
   | none=>exact A
   | some c=>exact zX ((FV K _).mp (by rw[g];rfl)) h3
  ·rintro⟨I,A⟩
   cases g:BI K (j:Int)with
   | none=>rw[g]at A;exact#[#[I,A],λz=>by let:=(FV K _).mpr z;ext]
   | some c=>rw[g]at A;cases A
 let up:∀(j:Nat) (r:Int),r<=J->(∀y,BI T (j:Int)=!y->r<=y.1)->∀y,BI G (j:Int)=!y->r<=y.1:=λj r hr h y C=>by
  rcases o _ _ C with I | ⟨_,A⟩
  ·exact h y I
  ·ext
 let hlen:-T < -G:=by
  cases K with
  | nil=>trivial
  | cons x K=>
   let hx:=kT x.1 (Aj ..);let L:=CA.mpr #[λz=>AQ (by let:=(FV T _).mpr z;rw[hx]at this;exact this),nd]
   let:=SD L λy C=>by
    rw[<-FV]
    rcases Am.mp C with h | h
    ·subst h
     rw[tv];let#[c,g]:=Dd.mp ((FV (x :: K) x.1).mpr (Aj ..));rw[g];rfl
    ·let#[z,i]:=Dd.mp ((FV T y).mpr h)
     rw[H _ _ i];rfl
   rw[Az,AN,AN]at this
   trivial
 refine#[(G,(E:Int),J+1,K'),E,rfl,#[rfl,b1,bt',by show 1<=J+1;lia,t1,t2,λm z i=>?_,λM m hm i c g=>?_,hK,by show J+1<=(-G:Int)+1;lia],hlen]
 ·dsimp only at i ⊢
  rcases o _ _ i with I | ⟨I,A⟩
  ·let#[o1,o2,o3,o4,o5,o6]:=ok m z I
   refine#[by lia,o2,o3,λj hj=>?_,λc g My=>?_,λA c g=>?_]
   ·let#[y,y1,y2]:=o4 j hj
    exact#[y,H _ _ y1,y2]
   ·let#[j,O,P]:=o5 c g My
    exact#[j,O,up j z.1 ∅ P]
   ·let#[j,O,P]:=o6 A c g
    refine#[j,O,λy C=>?_];let:=up j (z.1 - 1) ∅ (λy C=>by let:=P y C;lia) y C
    lia
  ·let#[r,c]:=z
   let g:BI K (m:Int)=!c:=by
    let:=tv (m:Int);rw[i]at this
    cases g:BI K (m:Int)with
    | none=>ext
    | some c'=>ext
   subst A;let#[f0,f1,f2,f3]:=(k3 m c).mp g;refine#[by symm;lia,st,f1,λj hj=>?_,λc' Ϩ My=>?_,λA c' Ϩ=>?_]
   ·let hjN:=D.rg _ _ _ hj
    cases hv:BI T (j:Int)with
    | none=>
     let:=(Z j).mpr #[hjN,hv];rw[f2 j hj]at this;cases this
    | some y=>exact#[y,H _ _ hv,(ok j y hv).1]
   ·let#[j,O,P]:=Vc (f3 c' Ϩ My)
    refine#[j,O,λy C=>?_]
    rcases o _ _ C with q | ⟨_,q⟩
    ·rw[((Z j).mp P).2]at q;cases q
    ·symm;ext
   ·let#[j,O,P]:=mn A m ((Z m).mp f0).1 I c' Ϩ
    refine#[j,O,λy C=>?_]
    rcases o _ _ C with q | ⟨_,q⟩
    ·exact P y q
    ·symm;lia
 ·dsimp only at i ⊢
  let#[I,A]:=(b2 m).mp ((bt' m).mpr #[hm,i])
  let nl:Not (Ww B b m c):=λhl=>by
   let#[c0,q1,q2,q3]:=ax #[c,g,hl];let:=(k3 m c0).mpr #[I,q1,q2,q3];exact A ((FV K _).mp (by rw[this];rfl))
  let#[j,O,P]:=Vc nl;refine#[j,O,λy C=>?_]
  rcases o _ _ C with q | ⟨_,q⟩
  ·rw[((Z j).mp P).2]at q;cases q
  ·ext
theorem oi(D:Dl f N cl B):Ok (Hs f) (Fa N cl B):=by
 let hN:=D.sm;unfold Hs VN;rw[D.ln,Md ∅];simp only[AF,Bw];let hp:=WT N;rw[show((2 ^ N:Nat):Int) - 1=((2 ^ N - 1:Nat):Int) by omega]
 let lt:2 ^ N - 1 < 2 ^ N:=by omega
 let#[K,Y,Z]:=Xo D lt;rw[Y];simp only[AF,Bw];let R0:Rnd N cl B ([],((2 ^ N - 1:Nat):Int),1,K) (2 ^ N - 1):=#[rfl,lt,λj=>by rw[Nat.testBit_two_pow_sub_one,decide_eq_true_eq];exact#[λh=>#[h,rfl],λh=>h.1],Gs 1,Gr,λM h=>(nomatch h),λm z h=>(nomatch h),λh=>zX (show(2:Int)<=1 from h) (by decide),Z,Gs 1]
 let#[g,e,#[b,h],A]:=cP (c:=λ(Ϣ:TL×Int×Int×(¬XP))=>!not (Ϣ.2.2.2.isEmpty)) (q:=λ(s:TL×Int×Int×(¬XP))=>BB (Eu (s.2.2.2.map (·.1)) (s.1,s.2.1) λ(R:TL×Int) C=>BB ((BI s.2.2.2 C*>λϘ=>!(s.2.2.1,Ϙ))*>λE=>Wg R.1 C E*>λG=>!.nx G) λH=>E9 (λI=>(H,I)) (Qb (1:Int) C*>λJ=>!.nx (Co R.2 J))) (λϧ=>BB (!.nx (s.2.2.1+(1:Int))) λL=>E9 (λO=>(ϧ.1,ϧ.2,L,O)) (Ey f ϧ.2*>λP=>!.nx P))) (λs=>∃b,Rnd N cl B s b) (λs=>N - -s.1) (by
   rintro s ⟨b,h⟩
   cases o:s.2.2.2 with
   | nil=>left;rfl
   | cons x K=>
    right
    let#[g,b',S,Q,e3]:=rh D h (by ext);rw[o]at S;refine#[rfl,g,S,#[b',Q],?_];let:=Q3 Q.nd Q.rg
    grind) wN _ #[_,R0] (by show N - 0 < wN;lia)
 simp only[Bw]at e;rw[e];refine#[g.1,rfl,?_]
 let o:g.2.2.2=[]:=by
  let:=B0 A
  cases o:g.2.2.2 with
  | nil=>rfl
  | cons x K=>ext
 let#[lf,lt,T,st,U,X,ok,mn,fn,sl]:=h;refine#[U,X,λm z i=>(ok m z i).2,λm hm i c A=>?_,λm z i=>by let:=(ok m z i).1;let:=Q3 U X;lia];let hb:=(T m).mpr #[hm,i]
 let nl:Not (Ww B b m c):=λhl=>by
  let#[c0,q1,q2,q3]:=ax #[c,A,hl];let:=(fn.2.2 m c0).mpr #[hb,q1,q2,q3];rw[o]at this;cases this
 let#[j,j1,j2]:=Vc nl;exact#[j,j1,((T j).mp j2).2]
end
theorem iU(l:YP)(x:Int):YL (l++[x])=YL l+x:=by
 rw[YK,YK,List.sum_append];simp
theorem rR(P:Int->Bool):∀n:Nat,∃b:Nat,YL (((GC 0 n).filter P).map λx=>((2 ^ x.toNat:Nat):Int))=b/\b < 2 ^ n/\∀j,b.testBit j=true↔j < n/\P (j:Int):=by
 intro n
 induction n with
 | zero=>exact#[0,rfl,by decide,λj=>by simp]
 | succ n s=>
  let#[b,g,A,i]:=s
  let e:GC 0 (n+1)=GC 0 n++[(n:Int)]:=by
   unfold GC;rw[Nb,BQ];simp
  rw[e,bD]
  by_cases m:P (n:Int)=true
  ·rw[qX m,BQ,List.map_singleton,iU,g,Ap]
   refine#[b+2 ^ n,by rfl,by rw[cI];lia,λj=>?_];let o:=Nat.two_pow_add_eq_or_of_lt A 1;rw[Nat.mul_one]at o;rw[zr,o,vZ,EC,WN,decide_eq_true_eq,i]
   constructor
   ·rintro(rfl | ⟨a,q⟩)
    ·ext
    ·exact#[by lia,q]
   ·rintro⟨a,q⟩
    by_cases e:n=j
    ·exact .inl e
    ·exact .inr #[by lia,q]
  ·rw[qY m]
   refine#[b,g,by rw[cI];lia,λj=>(i j).trans #[by rintro ⟨a,q⟩;exact #[by lia,q],λ#[a,q]=>#[?_,q]]]
   grind
section
variable{f:Fp}{N:Nat}{cl:Nat->YP}{B:Nat->Int->Nat->Prop}{T:TL}
theorem jr(D:Dl f N cl B):∃b:Nat,Hr f T=!(b:Int)/\b < 2 ^ N/\∀j,b.testBit j=true↔j < N/\BI T (j:Int)=none:=by
 let s:=D.sm;let#[b,g,i,m]:=rR (λx=>not (BI T x).isSome) N;refine#[b,?_,i,λj=>(m j).trans (and_congr_right λz=>by ext)];unfold Hr KJ;rw[D.ln];simp only[AF];rw[JI (by ext) ∅,Ap];simp only[AF]
 rw[RJ (by rw[Ct];lia) (λz z=>rfl) λx o z=>by
  let#[A,C]:=G5.mp o
  conv=>lhs;rw[show x=((x.toNat:Nat):Int) by lia]
  exact Md ∅]
 simp only[AF];rw[g];rfl
end
section
variable{o:Nat}{nr:Nat->Nat->Prop}{F:Nat->⇑XP}
structure One(o:Nat)(nr:Nat->Nat->Prop)(F:Nat->⇑XP):Prop where
 ok:∀(m:Nat) z,m < o->F m=!z->1<=z.1/\(∃c:Nat,z.2=c/\c < o/\c≠m)/\(∀j:Nat,z.2=j->nr m j->∃y,F j=!y/\y.1 < z.1)/\(∀c:Nat,c < o->c≠m->(c:Int) < z.2->nr m c/\∀y,F c=!y->z.1<=y.1)/\(2<=z.1->∀c:Nat,c < o->c≠m->nr m c/\∀y,F c=!y->z.1<=y.1+1)
 no:∀m:Nat,m < o->F m=none->∀c:Nat,c < o->c≠m->nr m c/\F c=none
def Far(o:Nat)(nr:Nat->Nat->Prop)(m:Nat):Prop:=∃c,c < o/\c≠m/\Not (nr m c)
def bZ(P:Nat->Prop)(c:Nat):Prop:=P c/\∀d,d < c->Not (P d)
theorem XV(h:One o nr F)(hm:m < o)(e:F m=!z)(E:z.1=1):∃c:Nat,z.2=c/\bZ (λc=>c < o/\c≠m/\Not (nr m c)) c:=by
 let#[a,#[c,g,i,s],b,d,_]:=h.ok m z hm e;refine#[c,g,#[i,s,λn=>?_],λx G #[A,B,C]=>C (d x A B (by ext)).1];let#[y,y1,y2]:=b c g n;let:=(h.ok c y i y1).1;lia
theorem Tu(h:One o nr F)(hm:m < o)(hf:Far o nr m):∃c:Nat,F m=!(1,(c:Int))/\bZ (λc=>c < o/\c≠m/\Not (nr m c)) c:=by
 let#[g,i,s,A]:=hf
 cases e:F m with
 | none=>exact zX (h.no m hm e g i s).1 A
 | some z=>
  let k:=h.ok m z hm e
  let B:z.1=1:=by
   let:=k.1
   by_cases c:2<=z.1
   ·ext
   ·omega
  let#[c,E,C]:=XV h hm e B;exact#[c,by grind,C]
theorem oh(h:One o nr F)(hm:m < o)(e:F m=!z)(g:z.1=1):Far o nr m:=by
 let#[c,_,i,_]:=XV h hm e g;exact#[c,i]
theorem fW(h:One o nr F)(hm:m < o)(B:Not (Far o nr m))(hf:∃c,c < o/\c≠m/\Far o nr c):∃c:Nat,F m=!(2,(c:Int))/\bZ (λc=>c < o/\c≠m/\Far o nr c) c:=by
 let#[C,s,E,I]:=hf;let#[Q,J,_]:=Tu h s I
 cases e:F m with
 | none=>let:=(h.no m hm e C s E).2;ext
 | some z=>
  let#[a,#[c,G,g,H],b,d,t]:=h.ok m z hm e
  let near:∀x,x < o->x≠m->nr m x:=λx i A=>EZ λy=>B #[x,i,A,y]
  let L:2<=z.1:=by
   by_cases q:z.1=1
   ·exact zX (oh h hm e q) B
   ·lia
  let N:z.1=2:=by
   let:=(t L C s E).2 _ J;dsimp only at this;lia
  let#[y,y1,y2]:=b c G (near c g H);let:=(h.ok c y g y1).1;refine#[c,by rw[<-N,<-G],#[g,H,oh h g y1 ∅],λx R #[i,A,O]=>?_];let#[u,P,_]:=Tu h i O;let:=(d x i A (by ext)).2 _ P;ext
theorem aU(h:One o nr F)(hm:m < o)(G:Not (Far o nr m))(hf:Not (∃c,c < o/\c≠m/\Far o nr c)):F m=none:=by
 let all:∀x,x < o->Not (Far o nr x):=λx g f=>by
  by_cases c:x=m
  ·ext
  ·exact hf #[x,g,c,f]
 let i:∀(k:Nat) (x:Nat) (z:Int×Int),x < o->F x=!z->z.1.toNat<=k->False:=λk=>by
  induction k with
  | zero=>intro x z g e A;let:=(h.ok x z g e).1;lia
  | succ k B=>
   intro x z g e A;let#[a,#[c,C,s,E],b,_,_]:=h.ok x z g e
   let n:nr x c:=EZ λy=>all x g #[c,s,E,y]
   let#[y,y1,y2]:=b c C n;let:=(h.ok c y s y1).1;exact B c y s y1 (by grind)
 cases e:F m with
 | none=>rfl
 | some z=>exact(i _ m z hm e (AO _)).elim
end
section
variable{o:Nat}{us:¬XP}{kd:Str}{f:Fp}{T:TL}
def cl1(o m:Nat):YP:=(GC 0 o).filter λc=>not (decide (c∈[(m:Int)]))
def B1(o:Nat)(us:¬XP)(m:Nat)(c:Int)(j:Nat):Prop:=c=j/\j < o/\j≠m/\Nr us m j
theorem pG:c∈cl1 o m↔∃j:Nat,c=j/\j < o/\j≠m:=by
 unfold cl1;rw[Hc,G5]
 constructor
 ·rintro⟨⟨a,b⟩,d⟩
  refine#[c.toNat,by lia,by ext,λe=>?_];rw[show c=m by lia,wX (FH _)]at d;cases d
 ·rintro⟨j,rfl,a,b⟩
  exact#[#[by lia,by ext],by grind]
theorem dl_1(h:O5 o us)(F:Fk o us kd f):Dl f o (cl1 o) (B1 o us):=by
 let B:=h.sm;refine#[by rw[F.ev,fM],by lia,λn g=>#[?_,?_,(YX 0 o).filter _],λn g c s=>?_,λn c j z=>z.2.1]
 ·unfold JJ LN
  rw[F.ev,Kf (Jk.mpr #[g,rfl]),F.tk,show(tkl o us).length=o by unfold tkl;rw[AN,Ct]];simp only[AF,Bw];rw[JI ∅ ∅,Ap];simp only[AF];rw[P3 (by rw[Ct];lia) λG G=>rfl];rfl
 ·let:=cM (λc=>not (decide (c∈[(n:Int)]))) (GC 0 o)
  rw[Ct]at this;unfold cl1;lia
 ·let#[k,rfl,i,m]:=pG.mp s
  let#[v,e,l,rfl,A]:=bR h F g i m;refine#[_,e,l,rfl,λj=>(A j).trans #[?_,?_]]
  ·rintro⟨rfl,z⟩
   exact#[rfl,i,m,z]
  ·rintro⟨a,-,-,z⟩
   let:k=j:=by lia
   ext
theorem xc(F:Fa o (cl1 o) (B1 o us) T):One o (Nr us) (λn=>BI T (n:Int)):=by
 refine#[λm z hm e=>?_,λm hm e c I A=>?_]
 ·let#[a,b,c,d,t]:=F.ok m z e
  let#[c0,C,E,G]:=pG.mp b;refine#[a,#[c0,C,E,G],λj O J=>?_,λx B g L=>?_,λN x B g=>?_]
  ·let:j=c0:=by grind
   subst this;exact c j #[C,E,G,J]
  ·obtain⟨j,⟨H,-,-,i⟩,s⟩:=d x (pG.mpr #[x,rfl,B,g]) L
   let:x=j:=by lia
   subst this;exact#[i,s]
  ·obtain⟨j,⟨H,-,-,i⟩,s⟩:=t N x (pG.mpr #[x,rfl,B,g])
   let:x=j:=by omega
   subst this;exact#[i,s]
 ·obtain⟨j,⟨H,-,-,i⟩,s⟩:=F.no m hm e c (pG.mpr #[c,rfl,I,A])
  let:c=j:=by lia
  ext
end
def KX(r u:Nat)(S g:Sto):Prop:=-S<=-g/\∀n,n < -S->n≠r->n≠u->g[n]?=S[n]?
theorem KX.refl(r u:Nat)(S:Sto):KX r u S S:=#[AO _,λz z z z=>rfl]
theorem KX.trans(a:KX r u S S1)(b:KX r u S1 S2):KX r u S S2:=#[Ab a.1 b.1,λn h g i=>(b.2 n (AS h a.1) g i).trans (a.2 n h g i)]
theorem KX.of{r u:Nat}{S S':Sto}(k:Keeps S S'):KX r u S S':=#[k.1,λn h z z=>k.2 n h]
theorem KX.at(k:KX r u S g)(h:S[n]?=!o)(i:n≠r)(m:n≠u):g[n]?=!o:=(k.2 n (AE.mp h).1 i m).trans h
theorem KX.setu(o:Ob):KX r u S (S.set u o):=#[by ext,λn z z h=>Ak λe=>h e.symm]
theorem KX.setr(o:Ob):KX r u S (S.set r o):=#[by ext,λn z h z=>Ak λe=>h e.symm]
noncomputable def lkX(r u:Nat)(S:Sto)(n:Nat):⇑Ob:=if n=r∨n=u then none else S[n]?
def MonP(P:Pq):Prop:=∀L g:Nat->⇑Ob,(∀n o,L n=!o->g n=!o)->∀d,P L d->P g d
set_option tactic.hygienic true in
theorem Xg(k:KX r u S g):∀n o,lkX r u S n=!o->lkX r u g n=!o:=λn o h=>by
 unfold lkX at h ⊢;split at h
 ·cases h
 ·rename_i c
  rw[qY c]
  exact k.at h (λe=>c (.inl e)) λe=>c (.inr e)
structure O9 where
 P:Str->Int->Pq
 fl:Str->Int->¬(Int×Int×Int)
 mono:∀k g,MonP (P k g)
section
variable{W:Wd}{wo:Ob}{Du:O9}{ok:Str->Int->Prop}
abbrev oFl(l:¬(Int×Int×Int)):Ob:=oDK (eP D.int D.int) l
noncomputable def kDu(x:Str×Int):¬Key:=[.inr x.1,.inl x.2]
theorem gC(x y:Str×Int)(h:kDu x=kDu y):x=y:=by
 unfold kDu at h
 grind
def pT(Du:O9)(r u:Nat)(S:Sto)(e:(Str×Int)×Nat×Nat):Prop:=Du.P e.1.1 e.1.2 (lkX r u S) (.ref e.2.1)/\lkX r u S e.2.2=!oFl (Du.fl e.1.1 e.1.2)
def encD(es:¬((Str×Int)×Nat×Nat)):¬(¬Key×D):=es.map λe=>(kDu e.1,.tup [.ref e.2.1,.ref e.2.2])
structure Dsk(W:Wd)(wo:Ob)(Du:O9)(a wn r u:Nat)(S:Sto)(es:¬((Str×Int)×Nat×Nat)):Prop where
 desk:S[a]?=!.ins W.Desk [("web",.ref wn),("replies",.ref r),("duels",.ref u)]
 web:S[wn]?=!wo
 du:S[u]?=!.dT (encD es)
 all:∀e∈es,pT Du r u S e
 few:-es<=1000
 ne:a≠r/\a≠u/\wn≠r/\wn≠u/\r≠u
 lt:r < -S
variable{a wn r u:Nat}{S S':Sto}{es:¬((Str×Int)×Nat×Nat)}
theorem pT.keep(k:KX r u S S')(h:pT Du r u S e):pT Du r u S' e:=#[Du.mono _ _ _ _ (Xg k) _ h.1,Xg k _ _ h.2]
theorem Dsk.keep(h:Dsk W wo Du a wn r u S es)(k:KX r u S S')(g:S'[u]?=S[u]?):Dsk W wo Du a wn r u S' es:=
 #[k.at h.desk h.ne.1 h.ne.2.1,k.at h.web h.ne.2.2.1 h.ne.2.2.2.1,g.trans h.du,λe i=>(h.all e i).keep k,h.few,h.ne,AS h.lt k.1]
theorem Dsk.keeps(h:Dsk W wo Du a wn r u S es)(k:Keeps S S'):Dsk W wo Du a wn r u S' es:=h.keep (.of k) (k.2 u (AE.mp h.du).1)
theorem Dsk.fld(h:Dsk W wo Du a wn r u S es)(g:e[0]?=!(!.ref a)):CD W.Desk "duels" (AB 0) e S=.ok (.ref u) S/\CD W.Desk "web" (AB 0) e S=.ok (.ref wn) S/\CD W.Desk "replies" (AB 0) e S=.ok (.ref r) S:=
 #[FT (BA g) h.desk rfl,FT (BA g) h.desk rfl,FT (BA g) h.desk rfl]
theorem dw(h:S[u]?=!.dT (encD es))(k:Str)(g:Int):Kl (.ref u) (.tup [.str k,.int g]) S=!((BI es (k,g)).map λq=>.tup [.ref q.1,.ref q.2]):=by
 unfold Kl;symm;rw[h];exact congrArg some (Lw gC (λq:Nat×Nat=>D.tup [.ref q.1,.ref q.2]) es (k,g))
theorem dv(h:S[u]?=!.dT (encD es)):GB (.ref u) S=none:=by unfold GB;ext
theorem yw(h:S[u]?=!.dT (encD es))(i:-es<=1000)(k:Str)(g:Int)(q:Nat×Nat):O3 (.ref u) (.tup [.str k,.int g]) (.tup [.ref q.1,.ref q.2]) S=!S.set u (.dT (encD (Cy es (k,g) q))):=by
 unfold O3;symm;rw[h];show(if -encD es < sizeLine then !S.set u (.dT (Cy (encD es) (kDu (k,g)) _))else none)=_;rw[qX (by unfold encD;rw[AN];exact Bc i ∅)];exact congrArg (λz=>!S.set u (.dT z)) (N6 gC (λq:Nat×Nat=>D.tup [.ref q.1,.ref q.2]) es (k,g) q)
theorem Zw{g i:Type}[DecidableEq g]{l:¬(g×i)}{k:g}{v:i}(h:BI l k=!v):(k,v)∈l:=by
 unfold BI at h;let#[m,o,s]:=FU.mp h
 grind
theorem aP{g i:Type}[DecidableEq g]{l:¬(g×i)}{k:g}{v:i}{p:g×i}(h:p∈Cy l k v):p∈l∨p=(k,v):=by
 unfold Cy at h
 grind
theorem YY[DecidableEq g](l:¬(g×i))(k:g)(v:i):-Cy l k v<=-l+1:=by
 unfold Cy;split
 ·rw[AN];exact IM _
 ext
structure Mk(W:Wd)(wo:Ob)(Du:O9)(k:Str)(g:Int):Prop where
 field:∀(S:Sto) (wn:Nat) (e:Lo) (ml:ML) (S1:Sto),S1[wn]?=!wo->ml e S=.ok [.ref wn,.int g,.str k] S1->Keeps S S1->∃q S2,PU W.Field 4 (IF W) ml e S=.ok (.ref q) S2/\Keeps S S2/\∀L:Nat->⇑Ob,(∀n o,S.length<=n->S2[n]?=!o->L n=!o)->Du.P k g L (.ref q)
 falls:∀(S:Sto) (q:Nat),Du.P k g (λn=>S[n]?) (.ref q)->∃d S2,OI W [.ref q] S=.ok (.ref d) S2/\Keeps S S2/\-S<=d/\S2[d]?=!oFl (Du.fl k g)
theorem ox{k:Str}{g:Int}(mk:Mk W wo Du k g)(h:Dsk W wo Du a wn r u S es)(R:-es < 1000):∃q d S' J,HV W [.ref a,.str k,.int g] S=.ok (.tup [.ref q,.ref d]) S'/\Dsk W wo Du a wn r u S' J/\-J<=-es+1/\KX r u S S'/\S'[r]?=S[r]?/\pT Du r u S' ((k,g),q,d):=by
 let m:∀(e:Lo) (S:Sto),e[1]?=!(!.str k)->e[2]?=!(!.int g)->Hd (AK (AB 1) (AK (AB 2) Ax)) e S=.ok (.tup [.str k,.int g]) S:=λe S T U=>Uk (BF (BA T) (BF (BA U) rfl)) (Jd rfl)
 let C:mB (m2 (inA true) (Hd (AK (AB 1) (AK (AB 2) Ax))) (CD W.Desk "duels" (AB 0))) [sR a,!.str k,sI g,none] S=.ok (not ((BI es (k,g)).map λq=>D.tup [.ref q.1,.ref q.2]).isSome) S:=Jc (Bi (m _ _ rfl rfl) (h.fld rfl).1 (P1 (dv h.du) (dw h.du k g) true))
 cases E:BI es (k,g)with
 | some q=>
  let#[q,d]:=q;rw[E]at C;refine#[q,d,S,es,EM ?_,h,IM _,.refl _ _ _,rfl,h.all _ (Zw E)];show Ja W [sR a,!.str k,sI g,none] S=_;unfold Ja;rw[BD (by rw[EN C];rfl)];exact Ex (Bi (h.fld rfl).1 (m _ _ rfl rfl) (Kc (dv h.du) (by rw[dw h.du,E];rfl)))
 | none=>
  rw[E]at C;let#[q,G,X,A,L]:=mk.field S wn [sR a,!.str k,sI g,none] (AK (CD W.Desk "web" (AB 0)) (AK (AB 2) (AK (AB 1) Ax))) S h.web (BF (h.fld rfl).2.1 (BF (BA rfl) (BF (BA rfl) rfl))) (.refl S);let N:=(AE.mp h.du).1
  let O:Du.P k g (lkX r u G) (.ref q):=L _ λn o hn H=>by
   unfold lkX;let:=h.lt;rw[qY (by grind)];exact H
  let#[d,S3,Y,B,g3,g4]:=mk.falls G q (L _ λn o z H=>H);let i:=(h.keeps A).keeps B
  let nd:d≠r/\d≠u:=by let:=A.1;let:=h.lt;grind
  refine#[q,d,S3.set u (.dT (encD (Cy es (k,g) (q,d)))),Cy es (k,g) (q,d),EM ?_,?_,YY _ _ _,((KX.of A).trans (.of B)).trans (.setu _),?_,?_]
  ·show Ja W [sR a,!.str k,sI g,none] S=_
   unfold Ja
   rw[BD (by
    rw[EN C];rw[BD (EL X)];let Z:Hd (AK (AB 3) (AK (Bg 1 (OI W) (AK (AB 3) Ax)) Ax)) [sR a,!.str k,sI g,sR q] G=.ok (.tup [.ref q,.ref d]) S3:=Uk (BF (BA rfl) (BF ((Fv (BF (BA rfl) rfl) rfl).trans Y) rfl)) (Jd rfl);show Cr _ _ _ [sR a,!.str k,sI g,sR q] G=_;unfold Cr;rw[Z];dsimp only[Res.lift];rw[(i.fld rfl).1];symm;rw[m _ _ rfl rfl];symm
    rw[yw i.du i.few k g (q,d)])]
   let Q:(S3.set u (.dT (encD (Cy es (k,g) (q,d)))))[u]?=!.dT (encD (Cy es (k,g) (q,d))):=An (AS N (Ab A.1 B.1));refine Ex (Bi ?_ (m _ _ rfl rfl) (Kc (dv Q) (by rw[dw Q,Lv,qX rfl];rfl)));exact FT (BA rfl) ((KX.setu _).at i.desk i.ne.1 i.ne.2.1) rfl
  ·let s:KX r u S3 (S3.set u (.dT (encD (Cy es (k,g) (q,d))))):=.setu _
   refine#[s.at i.desk i.ne.1 i.ne.2.1,s.at i.web i.ne.2.2.1 i.ne.2.2.2.1,An (AS N (Ab A.1 B.1)),λe I=>?_,Ab (YY _ _ _) R,i.ne,by rw[Fn];exact i.lt]
   rcases aP I with I | rfl
   ·exact(i.all e I).keep s
   ·refine#[Du.mono k g _ _ (Xg ((KX.of B).trans s)) _ O,Xg s _ _ ?_]
    unfold lkX
    ext
  ·rw[Ak (λe=>h.ne.2.2.2.2 e.symm),B.2 r (AS h.lt A.1),A.2 r h.lt]
  ·let s:KX r u S3 (S3.set u (.dT (encD (Cy es (k,g) (q,d))))):=.setu _
   refine#[Du.mono k g _ _ (Xg ((KX.of B).trans s)) _ O,Xg s _ _ ?_];unfold lkX
   lia
end
section
variable{W:Wd}{wo:Ob}{Du:O9}{a wn r u:Nat}{S S':Sto}{es:¬((Str×Int)×Nat×Nat)}
noncomputable def jD(g:Str):⇑Str:=if -g<=sizeLine then !g else none
theorem yC(h:jD g=!t):dY g e S=.ok t S:=by
 unfold jD at h;unfold dY
 lia
theorem UA(hm:∀y,p=!y->m e S=.ok (.str y) S)(i:∀g t,q g=!t->mj g e S=.ok t S)(h:KG p q g=!t):L8 m mj g e S=.ok t S:=by
 unfold KG at h;let#[y,o,s]:=Aw h;unfold L8;ext
theorem oW(h:m e S=.ok (.int i) S)(y:Str)(g:Wq i=!y):av m e S=.ok (.str y) S:=by
 unfold av;rw[h];unfold Wq at g;ext
theorem oX(h:S[d]?=!oFl l)(n:Int):Kl (.ref d) (.int n) S=!(BI l n).map (eP D.int D.int)/\GB (.ref d) S=none:=by
 constructor
 ·unfold Kl
  symm;rw[h];exact congrArg some (Lw (λz z e=>Eh.inj e) (eP D.int D.int) l n)
 ·unfold GB;symm;rw[h];rfl
def bG(o:⇑XP):⇑Str:=match o with
 | none=>!"lasts"
 | some (s,c)=>KG (!("falls in round " : Str)) (KG (Wq s) (KG (!(" at " : Str)) (KG (Wq c) jD))) NP
theorem Q0(h:lkX r u S n=!o):S[n]?=!o:=by
 unfold lkX at h
 ext
theorem ABJ(x y:Str)(o:e[5]?=!(!.int s))(A:e[6]?=!(!.int c))(B:KG (!x) (KG (Wq s) (KG (!y) (KG (Wq c) jD))) NP=!t) :
  fo (L8 (mC (.str x)) (L8 (av (AB 5)) (L8 (mC (.str y)) (L8 (av (AB 6)) dY)))) e S=.ok (.str t) S:=by
 let h:=UA (S:=S) (m:=mC (.str x)) (λz g=>by cases g;rfl) (λi t h=>UA (mj:=L8 (mC (.str y)) (L8 (av (AB 6)) dY)) (λz g=>oW (BA o) z g) (λi t h=>UA (λz g=>by cases g;rfl) (λi t h=>UA (λz g=>oW (BA A) z g) (λi t h=>yC h) h) h) h) B;unfold fo;rw[h];rfl
theorem yp(mk:Mk W wo Du k g)(A:AtO (Du.P k g) W.Field "numbers" (oDR D.int Q)) (R:g=(-i:Int)) (T:BI Q i=!n) (m:bG (BI (Du.fl k g) n)=!t) (h:Dsk W wo Du a wn r u S es) (U:-es < 1000) :
  ∃S' H,OK W [.ref a,.str k,eT D.int i] S=.ok (.str t) S'/\Dsk W wo Du a wn r u S' H/\-H<=-es+1/\KX r u S S'/\S'[r]?=S[r]?:=by
 let#[q,d,S1,B,e1,X,Y,Z,r1,a1,a2]:=ox mk h U;refine#[S1,B,EM ?_,X,Y,Z,r1];let#[q',fs,nn,C,c1,c2,I]:=A _ _ a1;cases C;let dd:=Q0 a2;let#[E,J]:=oX dd n;show OU W [sR a,!.str k,!eT D.int i,none,none,none,none] S=_
 let s3:Bb 3 (E1 W.Desk "duel" 3 (HV W) (AB 0) (AK (AB 1) (AK (JW (AB 2)) Ax))) [sR a,!.str k,!eT D.int i,none,none,none,none] S=.ok (.nx [sR a,!.str k,!eT D.int i,!.tup [.ref q,.ref d],none,none,none]) S1:=EL (by
  unfold E1;rw[BA rfl];dsimp only[Res.bind];rw[h.desk];symm;rw[qX #[rfl,rfl],show AK (AB 1) (AK (JW (AB 2)) Ax) [sR a,!.str k,!eT D.int i,none,none,none,none] S=.ok [.str k,.int g] S from BF (BA rfl) (BF (by rw[Vj (BA rfl) rfl,AN,R]) rfl)]
  assumption)
 let G:∀e:Lo,e[3]?=!(!.tup [.ref q,.ref d])->m2 ixA (AB 3) (mC (.int 0)) e S1=.ok (.ref q) S1/\m2 ixA (AB 3) (mC (.int 1)) e S1=.ok (.ref d) S1:=λe L=>#[Bi (BA L) rfl (Hx rfl (by ext) rfl),Bi (BA L) rfl (Hx rfl (by ext) rfl)]
 let s4:Bb 4 (m2 ixA (CD W.Field "numbers" (m2 ixA (AB 3) (mC (.int 0)))) (AB 2)) [sR a,!.str k,!eT D.int i,!.tup [.ref q,.ref d],none,none,none] S1=.ok (.nx [sR a,!.str k,!eT D.int i,!.tup [.ref q,.ref d],sI n,none,none]) S1:=
  EL (Bi (FT (G _ rfl).1 (Q0 c1) c2) (BA rfl) (Kc (wf (Q0 I)) (by rw[pC (Q0 I),T];rfl)))
 unfold OU;rw[BD s3,BD s4];let o:mB (m2 (inA true) (AB 4) (m2 ixA (AB 3) (mC (.int 1)))) [sR a,!.str k,!eT D.int i,!.tup [.ref q,.ref d],sI n,none,none] S1=.ok (not ((BI (Du.fl k g) n).map (eP D.int D.int)).isSome) S1:=Jc (Bi (BA rfl) (G _ rfl).2 (P1 J E true))
 cases N:BI (Du.fl k g) n with
 | none=>
  rw[N]at o m;cases m;exact Np (by rw[EN o];rfl)
 | some x=>
  let#[s,c]:=x;rw[N]at o m E;rw[BD (by rw[EN o];rfl)]
  let O:∀e:Lo,e[3]?=!(!.tup [.ref q,.ref d])->e[4]?=!(!.int n)->m2 ixA (m2 ixA (AB 3) (mC (.int 1))) (AB 4) e S1=.ok (.tup [.int s,.int c]) S1:=λe h3 h4=>Bi (G e h3).2 (BA h4) (Kc J E)
  rw[BD (EL (Bi (O _ rfl rfl) rfl (Hx rfl ∅ rfl))),
   BD (EL (Bi (O _ rfl rfl) rfl (Hx rfl ∅ rfl)))]
  exact Ex (ABJ _ _ rfl rfl m)
theorem Qw(h:S[a]?=!.ins W.Desk [("web",.ref wn),("replies",.ref r),("duels",.ref u)]) (g:e[0]?=!(!.ref a)) (hm:([("web",.ref wn),("replies",.ref r),("duels",.ref u)]:¬(Str×D)).lookup m=none) (i:ml e S=.ok ds S1) (o:-ds+1=n) (hf:f (.ref a :: ds) S1=x):E1 W.Desk m n f (AB 0) ml e S=x:=by
 unfold E1;rw[BA g];dsimp only[Res.bind];rw[h];symm;rw[qX #[rfl,hm],i];ext
structure Ans(W:Wd)(wo:Ob)(Du:O9)(k:Str)(g:Int)(sx:YP)(n call:Int)(t:Str):Prop where
 may:∀(S:Sto) (wn:Nat),S[wn]?=!wo->∃S',FD W [.ref wn,eT D.int sx,.int call] S=.ok .non S'/\Keeps S S'
 told:BI (Du.fl k g) n=none->∃(lb:Int) (ans:YP),(∀(S:Sto) (q d:Nat),Du.P k g (λn=>S[n]?) (.ref q)->S[d]?=!oFl (Du.fl k g)->∃S',IC W [.ref q,.ref d] S=.ok (.int lb) S'/\Keeps S S') /\
  (∀(S:Sto) (q:Nat),Du.P k g (λn=>S[n]?) (.ref q)->∃S',Ge W [.ref q,.int n,.int call,.int lb] S=.ok (eT D.int ans) S'/\Keeps S S')/\∀S:Sto,∃S',J9 W [eT D.int ans] S=.ok (.str t) S'/\Keeps S S'
 beat:(BI (Du.fl k g) n).isSome->t = "beaten"
theorem xw(n:Nat)(o:Ob)(h:lkX r u S n=!o):S[n]?=!o:=Q0 h
theorem pO{k}{g}{i}{O}{n call}{t}(mk:Mk W wo Du k g)(G:AtO (Du.P k g) W.Field "numbers" (oDR D.int O)) (hg:g=(-i:Int)) (hn:BI O i=!n) (H:Ans W wo Du k g i n call t) (h:Dsk W wo Du a wn r u S es) (hl:-es < 1000) :
  ∃S' Q,Iz W [.ref a,.str k,.int call,eT D.int i] S=.ok (.str t) S'/\Dsk W wo Du a wn r u S' Q/\-Q<=-es+1/\KX r u S S'/\S'[r]?=S[r]?:=by
 let#[S0,q1,I]:=H.may S wn h.web;let R:=h.keeps I;let#[q,d,S1,m,e1,J,T,k1,r1,U,a2]:=ox mk R hl;let#[q',fs,nn,L,c1,c2,X]:=G _ _ U;cases L;let Y:=Q0 a2;let#[g1,g2]:=oX Y n;let s:=(KX.of I).trans k1;let A:=r1.trans (I.2 r h.lt)
 let Z:FJ (Bg 3 (FD W) (AK (CD W.Desk "web" (AB 0)) (AK (AB 3) (AK (AB 2) Ax)))) [sR a,!.str k,sI call,!eT D.int i,none,none] S=oN [sR a,!.str k,sI call,!eT D.int i,none,none] S0:=
  Om ((Fv (BF (h.fld rfl).2.1 (BF (BA rfl) (BF (BA rfl) rfl))) rfl).trans q1)
 let s4:Bb 4 (E1 W.Desk "duel" 3 (HV W) (AB 0) (AK (AB 1) (AK (JW (AB 3)) Ax))) [sR a,!.str k,sI call,!eT D.int i,none,none] S0=.ok (.nx [sR a,!.str k,sI call,!eT D.int i,!.tup [.ref q,.ref d],none]) S1:=
  EL (Qw R.desk rfl rfl (BF (BA rfl) (BF (by rw[Vj (BA rfl) rfl,AN,hg]) rfl)) rfl e1)
 let B:∀(e:Lo) (S:Sto),e[4]?=!(!.tup [.ref q,.ref d])->m2 ixA (AB 4) (mC (.int 0)) e S=.ok (.ref q) S/\m2 ixA (AB 4) (mC (.int 1)) e S=.ok (.ref d) S:=λe S he=>#[Bi (BA he) rfl (Hx rfl (by ext) rfl),Bi (BA he) rfl (Hx rfl (by ext) rfl)]
 let s5:Bb 5 (m2 ixA (CD W.Field "numbers" (m2 ixA (AB 4) (mC (.int 0)))) (AB 3)) [sR a,!.str k,sI call,!eT D.int i,!.tup [.ref q,.ref d],none] S1=.ok (.nx [sR a,!.str k,sI call,!eT D.int i,!.tup [.ref q,.ref d],sI n]) S1:=
  EL (Bi (FT (B _ _ rfl).1 (Q0 c1) c2) (BA rfl) (Kc (wf (Q0 X)) (by rw[pC (Q0 X),hn];rfl)))
 let C:mB (m2 (inA false) (AB 5) (m2 ixA (AB 4) (mC (.int 1)))) [sR a,!.str k,sI call,!eT D.int i,!.tup [.ref q,.ref d],sI n] S1=.ok ((BI (Du.fl k g) n).map (eP D.int D.int)).isSome S1:=Jc (Bi (BA rfl) (B _ _ rfl).2 (P1 g2 g1 false))
 cases E:BI (Du.fl k g) n with
 | some x=>
  rw[E]at C;let ht:=H.beat (by rw[E];rfl);refine#[S1,m,EM ?_,J,T,s,A];show FF W [sR a,!.str k,sI call,!eT D.int i,none,none] S=_;unfold FF;rw[BD Z,BD s4,BD s5,ht];exact Np (by rw[EN C];rfl)
 | none=>
  rw[E]at C;let#[lb,ans,b1,b2,b3]:=H.told E;let pq:=Du.mono k g _ _ (xw) _ U;let#[S2,f1,f2]:=b1 S1 q d pq Y;let#[S3,f3,f4]:=b2 S2 q (Du.mono k g _ _ (λn o h=>f2.at h) _ pq);let#[S4,f5,f6]:=b3 S3;let N:=(f2.trans f4).trans f6;refine#[S4,m,EM ?_,J.keeps N,T,s.trans (.of N),(N.2 r J.lt).trans A];show FF W [sR a,!.str k,sI call,!eT D.int i,none,none] S=_;unfold FF;rw[BD Z,BD s4,BD s5,BD (by rw[EN C];rfl)];exact Ex ((Fv (BF ((Fv (BF (B _ _ rfl).1 (BF (BA rfl) (BF (BA rfl) (BF ((Fv (BF (B _ _ rfl).1 (BF (B _ _ rfl).2 rfl)) rfl).trans f1) rfl)))) rfl).trans f3) rfl) rfl).trans f5)
end
section
variable{W:Wd}{wo:Ob}{Du:O9}{a wn r u l:Nat}{S S':Sto}{es:¬((Str×Int)×Nat×Nat)}{w0 k:Str}{rest:¬Str}
theorem nW(g:k = "one"∨k = "all"):inV (.str k) ((["one", "all"]:¬Str).map V.str):=by
 rcases g with rfl | rfl <;> kernel_rfl
theorem eqS(x y:Str)(S:Sto):eqD false (.str x) (.str y) S=.ok (.bl (decide (x=y))) S:=dj Kz (λz z=>rfl) false x y S
theorem Tp(h:S[l]?=!.lst ((w0 :: k :: rest).map D.str))(g:e[1]?=!(!.ref l)):m2 ixA (AB 1) (mC (.int 0)) e S=.ok (.str w0) S/\m2 ixA (AB 1) (mC (.int 1)) e S=.ok (.str k) S/\JW (AB 1) e S=.ok (.int ((-rest+2:Nat):Int)) S:=
 #[Bi (BA g) rfl (Hx (DO h) ∅ rfl),Bi (BA g) rfl (Hx (DO h) ∅ rfl),by rw[Vj (BA g) (DO h),AN];rfl]
theorem u6(h:S[l]?=!.lst ((w0 :: k :: rest).map D.str))(s:k = "one"∨k = "all") (N:1<=-rest) (A:w0≠"fewest") (B:MS):∃S1,Keeps S S1/\(∀g i m:MS,As (sIf (mB (m2 (eqD false) (AB 1) (ED (Dg (AK (mC (.str "five")) Ax))))) g sNx)
  (As (sIf (mOr (mB (m2 ltD (JW (AB 1)) (mC (.int 2)))) (mB (nL true ["one", "all"] (m2 ixA (AB 1) (mC (.int 1)))))) i sNx)
  (As (sIf (OC (mB (m2 (eqD false) (m2 ixA (AB 1) (mC (.int 0))) (mC (.str "fewest")))) (mB (m2 (eqD false) (JW (AB 1)) (mC (.int 2))))) m sNx) B)) [sR a,sR l,none] S=B [sR a,sR l,none] S1):=by
 let C:=(AE.mp h).1;refine#[S++[.lst (([("five" : Str)]).map D.str)],Keeps.app _ _,λg i m=>?_]
 let o:(S++[Ob.lst (([("five" : Str)]).map D.str)])[l]?=!.lst ((w0 :: k :: rest).map D.str):=by rw[Ah C];exact h
 let E:mB (m2 (eqD false) (AB 1) (ED (Dg (AK (mC (.str "five")) Ax)))) [sR a,sR l,none] S=.ok false (S++[.lst (([("five" : Str)]).map D.str)]):=by
  refine Jc (Bi (BA rfl) (R9 (ds:=([("five" : Str)]).map D.str) rfl) ?_);rw[Oo Kz false o (DM _ _),qY AQ,wY (λe=>by ext)]
 let#[G,H,I]:=Tp (e:=[sR a,sR l,none]) o rfl
 let J:mOr (mB (m2 ltD (JW (AB 1)) (mC (.int 2)))) (mB (nL true ["one", "all"] (m2 ixA (AB 1) (mC (.int 1))))) [sR a,sR l,none] (S++[.lst (([("five" : Str)]).map D.str)])=.ok false (S++[.lst (([("five" : Str)]).map D.str)]):=by
  rw[Pt (Jc (Bi I rfl (nO (wY ∅))))];refine Jc ?_;unfold nL;rw[H];dsimp only[Res.bind];rw[nW s];rfl
 let L:OC (mB (m2 (eqD false) (m2 ixA (AB 1) (mC (.int 0))) (mC (.str "fewest")))) (mB (m2 (eqD false) (JW (AB 1)) (mC (.int 2)))) [sR a,sR l,none] (S++[.lst (([("five" : Str)]).map D.str)])=.ok false (S++[.lst (([("five" : Str)]).map D.str)]):=
  ZM (Jc (Bi G rfl (by rw[eqS,wY A])))
 rw[BD (by rw[EN E];rfl),BD (by rw[EN J];rfl),BD (by rw[EN L];rfl)]
def Stn(W:Wd)(wo:Ob)(rest:¬Str)(g:YP):Prop:=∀(S:Sto) (wn l:Nat),S[wn]?=!wo->S[l]?=!.lst (rest.map D.str)->∃S',Fg W [.ref wn,.ref l] S=.ok (eT D.int g) S'/\Keeps S S'
theorem YN(hw:S[wn]?=!wo)(o:S[a]?=!.ins W.Desk [("web",.ref wn),("replies",.ref r),("duels",.ref u)]) (h:S[l]?=!.lst (m.map D.str)) (s:e[0]?=!(!.ref a)) (A:e[1]?=!(!.ref l)) (g:∀S,lq e S=.ok x S) (i:∀S,hq e S=.ok y S) (B:HK m x y=ws') (C:Stn W wo ws' E) :
  ∃S',Bg 2 (Fg W) (AK (CD W.Desk "web" (AB 0)) (AK (FA (AB 1) lq hq) Ax)) e S=.ok (eT D.int E) S'/\Keeps S S':=by
 let sl:FA (AB 1) lq hq e S=.ok (.ref (-S)) (S++[.lst (ws'.map D.str)]):=by
  unfold FA;rw[BA A];dsimp only[Res.bind];rw[g];symm;rw[i];unfold Mc;symm;rw[show O0 (.ref l) S=!m.map D.str by unfold O0;ext];symm;rw[V6,B];rfl
 let#[S',G,H]:=C (S++[.lst (ws'.map D.str)]) wn (-S) ((Keeps.app _ _).at hw) (DM _ _);exact#[S',(Fv (BF (FT (BA s) o rfl) (BF sl rfl)) rfl).trans G,(Keeps.app _ _).trans H]
theorem tL(mk:Mk W wo Du k g)(o:AtO (Du.P k g) W.Field "numbers" (oDR D.int H)) (I:g=(-B:Int)) (J:BI H B=!n) (L:bG (BI (Du.fl k g) n)=!t) (N:k = "one"∨k = "all") (O:1<=-rest) (Q:Stn W wo rest B) (hw:S[l]?=!.lst ((("lasts" : Str) :: k :: rest).map D.str)) (h:Dsk W wo Du a wn r u S es) (R:-es < 1000) :
  ∃S' C,ER W [.ref a,.ref l] S=.ok (.str t) S'/\Dsk W wo Du a wn r u S' C/\-C<=-es+1/\KX r u S S'/\S'[r]?=S[r]?:=by
 let#[S1,s,T]:=u6 hw N O ∅ _;let i:=s.at hw;let m:=h.keeps s;let#[U,X,i2]:=Tp (e:=[sR a,sR l,none]) i rfl;let#[S2,Y,E]:=YN (e:=[sR a,sR l,none]) (lq:=Gb (mC (.int 2))) (hq:=Ia) m.web m.desk i rfl rfl (λz=>rfl) (λz=>rfl) (ws':=rest) (by unfold HK;rw[show(2:Int)=((2:Nat):Int)from rfl,HT.Tt,HT.Qi,OX ∅,CI ∅];rfl) Q;let#[Z,A,f1,f2,f3,f4,f5]:=yp mk o I J L (m.keeps E) R;let G:=s.trans E;refine#[Z,A,EM ?_,f2,f3,(KX.of G).trans f4,f5.trans (G.2 r h.lt)];show ES W [sR a,sR l,none] S=_;unfold ES;rw[T];refine Np ?_;rw[EN (Jc (Bi U rfl (eqS _ _ _))),wX rfl,qX rfl];exact Ex (Qw m.desk rfl rfl (BF X (BF Y rfl)) rfl f1)
theorem zA(mk:Mk W wo Du k g)(s:AtO (Du.P k g) W.Field "numbers" (oDR D.int N)) (O:g=(-A:Int)) (Q:BI N A=!n) (R:Ans W wo Du k g A n c t) (T:k = "one"∨k = "all") (U:Stn W wo [cw] [c]) (X:Stn W wo rest A) (hw:S[l]?=!.lst ((("call" : Str) :: k :: cw :: rest).map D.str)) (h:Dsk W wo Du a wn r u S es) (Y:-es < 1000) :
  ∃S' H,ER W [.ref a,.ref l] S=.ok (.str t) S'/\Dsk W wo Du a wn r u S' H/\-H<=-es+1/\KX r u S S'/\S'[r]?=S[r]?:=by
 let#[S1,B,Z]:=u6 hw T ∅ ∅ _;let i:=B.at hw;let C:=h.keeps B;let#[I,i1,i2]:=Tp (e:=[sR a,sR l,none]) i rfl;let#[S2,s1,E]:=YN (e:=[sR a,sR l,none]) (lq:=Gb (mC (.int 2))) (hq:=Gb (mC (.int 3))) C.web C.desk i rfl rfl (λz=>rfl) (λz=>rfl) (ws':=[cw]) (by rfl) U;let o:=C.keeps E;let m:=E.at i;let#[j0,j1,j2]:=Tp (e:=[sR a,sR l,sI c]) m rfl;let#[S3,s3,J]:=YN (e:=[sR a,sR l,sI c]) (lq:=Gb (mC (.int 3))) (hq:=Ia) o.web o.desk m rfl rfl (λz=>rfl) (λz=>rfl) (ws':=rest) (by unfold HK;rw[show(3:Int)=((3:Nat):Int)from rfl,HT.Tt,HT.Qi,OX ∅,CI ∅];rfl) X;let#[S4,G,f1,f2,f3,f4,f5]:=pO mk s O Q R (o.keeps J) Y;let L:=(B.trans E).trans J;refine#[S4,G,EM ?_,f2,f3,(KX.of L).trans f4,f5.trans (L.2 r h.lt)];show ES W [sR a,sR l,none] S=_;unfold ES
 rw[Z,BD (by
  rw[EN (Jc (Bi I rfl (eqS _ _ _))),wY ∅,qY AQ]
  rfl)]
 refine Np ?_;rw[EN (Jc (Bi I rfl (eqS _ _ _))),wX rfl,qX rfl];rw[BD (EL (Bi s1 rfl (Hx rfl ∅ rfl)))];exact Ex (Qw o.desk rfl rfl (BF j1 (BF (BA rfl) (BF s3 rfl))) rfl f1)
end
noncomputable def SR(g:¬(Str×Str)):¬(Key×D):=g.map λp=>(.inr p.1,.str p.2)
section
variable{W:Wd}{wo:Ob}{Du:O9}{a wn r u v:Nat}{S S':Sto}{es:¬((Str×Int)×Nat×Nat)}{rs:¬(Str×Str)}{T:Str×Str->Prop}{p:Str×Str}{m:Nat}
theorem Y7(h:S[n]?=!.dK (SR rs))(x:Str):Kl (.ref n) (.str x) S=!(BI rs x).map D.str:=by
 unfold Kl;symm;rw[h];exact congrArg some (Lw (λz z e=>uo e) D.str rs x)
theorem cz(h:S[n]?=!.dK (SR rs)):GB (.ref n) S=none:=by unfold GB;ext
theorem uI(h:S[n]?=!.dK (SR rs))(g:-rs < 1000000)(x y:Str):O3 (.ref n) (.str x) (.str y) S=!S.set n (.dK (SR (Cy rs x y))):=by
 unfold O3;symm;rw[h];show(if -SR rs < sizeLine then !S.set n (.dK (Cy (SR rs) (.inr x) (.str y)))else none)=_;rw[qX (by unfold SR;rw[AN];exact cJ g ∅)];exact congrArg (λz=>!S.set n (.dK z)) (N6 (λG G e=>uo e) D.str rs x y)
def OW(W:Wd)(wo:Ob)(Du:O9)(p:Str×Str):Prop:=JH p.1 " " = true/\∀(a wn r u l:Nat) (S:Sto) (es:¬((Str×Int)×Nat×Nat)),Dsk W wo Du a wn r u S es->-es < 1000->S[l]?=!.lst ((D6 p.1 " ").map D.str) ->
 ∃S' g,ER W [.ref a,.ref l] S=.ok (.str p.2) S'/\Dsk W wo Du a wn r u S' g/\-g<=-es+1/\KX r u S S'/\S'[r]?=S[r]?
def pU(W:Wd)(wo:Ob)(Du:O9)(T:Str×Str->Prop)(a wn r u m:Nat)(S:Sto):Prop:=∃es rs,Dsk W wo Du a wn r u S es/\-es<=m/\S[r]?=!.dK (SR rs)/\(∀q∈rs,T q)/\-rs<=m
theorem rj(P:∀p q,T p->T q->p.1=q.1->p.2=q.2)(Q:T p)(I:OW W wo Du p)(hm:m < 900)(h:pU W wo Du T a wn r u m S):∃S',II W [.ref a,.str p.1] S=.ok (.str p.2) S'/\pU W wo Du T a wn r u (m+1) S'/\KX r u S S':=by
 let#[es,rs,h,R,g,B,i]:=h;let J:=(h.fld (e:=[sR a,!.str p.1]) rfl).2.2;let s:mB (m2 (inA true) (AB 1) (CD W.Desk "replies" (AB 0))) [sR a,!.str p.1] S=.ok (not ((BI rs p.1).map D.str).isSome) S:=Jc (Bi (BA rfl) J (P1 (cz g) (Y7 g p.1) true))
 cases A:BI rs p.1 with
 | some x=>
  refine#[S,EM ?_,#[es,rs,h,TK R,g,B,TK i],.refl _ _ _];let U:=P _ _ (B _ (Zw A)) Q rfl;subst U;rw[A]at s;show IK W [sR a,!.str p.1] S=_;unfold IK;rw[BD (by rw[EN s];rfl)];exact Ex (Bi J (BA rfl) (Kc (cz g) (by rw[Y7 g,A];rfl)))
 | none=>
  rw[A]at s;let L:Dsk W wo Du a wn r u (S++[.lst ((D6 p.1 " ").map D.str)]) es:=h.keeps (Keeps.app _ _);let#[S3,C,X,E,l3,Y,Z]:=I.2 a wn r u (-S) _ es L ∅ (DM _ _);let kk:=(KX.of (Keeps.app _ _)).trans Y
  let d2:S3[r]?=!.dK (SR rs):=by rw[Z,Ah h.lt];exact g
  let N:KX r u S3 (S3.set r (.dK (SR (Cy rs p.1 p.2)))):=.setr _;let O:=E.keep N (Ak h.ne.2.2.2.2);let G:(S3.set r (.dK (SR (Cy rs p.1 p.2))))[r]?=!.dK (SR (Cy rs p.1 p.2)):=An E.lt;refine#[S3.set r (.dK (SR (Cy rs p.1 p.2))),EM ?_,#[C,Cy rs p.1 p.2,O,by lia,G,λq H=>?_,?_],kk.trans N]
  ·show IK W [sR a,!.str p.1] S=_
   unfold IK
   rw[BD (by
    rw[EN s]
    let sp:AK (Hu (AB 1) (mC (.str " "))) Ax [sR a,!.str p.1] S=.ok [.ref (-S)] (S++[.lst ((D6 p.1 " ").map D.str)]):=by
     refine BF ?_ rfl;unfold Hu;rw[BA rfl];show(if JH p.1 " " = true then _ else _)=_;rw[qX I.1]
    let an:IH W [.ref a,.ref (-S)] (S++[.lst ((D6 p.1 " ").map D.str)])=.ok (.str p.2) S3:=by
     refine EM ?_;exact Ex (Qw L.desk rfl rfl (BF (BA rfl) rfl) rfl X)
    let o:=Qw (n:=2) (m:="reply_anew") h.desk rfl rfl sp rfl an;show Cr _ _ _ _ _=_;unfold Cr;rw[o];dsimp only[Res.lift];rw[(E.fld rfl).2.2];symm;rw[BA rfl];symm
    rw[uI d2 ∅])]
   exact Ex (Bi (O.fld rfl).2.2 (BA rfl) (Kc (cz G) (by rw[Y7 G,Lv,qX rfl];rfl)))
  ·rcases aP H with h | h
   ·exact B q h
   ext
  ·exact Ab (YY _ _ _) (Nat.succ_le_succ i)
theorem uX(N:∀p q,T p->T q->p.1=q.1->p.2=q.2){e:Lo}{s:¬(Str×Str)}(O:∀p∈s,T p/\OW W wo Du p)(hn:-s<=100)(P:S[v]?=!.lst ((s.map (·.1)).map D.str))(B:v≠r/\v≠u)(Q:pU W wo Du T a wn r u 0 S)(R:e[3]?=!(!.ref a)) :
  ∃S',Gh (Hi (.ref v)) (tgN 0) HA (E1 W.Desk "reply" 2 (II W) (AB 4) (AK (AB 0) Ax)) (Dc (Hi (.ref v)) S) 0 (BU 1 none++e) S []=.ok ((s.map (·.2)).map D.str) S'/\KX r u S S':=by
 let#[y,S',h1,e',h2]:=ZB (g:=tgN 0) (c:=HA) (m:=E1 W.Desk "reply" 2 (II W) (AB 4) (AK (AB 0) Ax)) (e:=BU 1 none++e)
  (λi G o A=>(∃x,G=x :: e)/\o[v]?=!.lst ((s.map (·.1)).map D.str)/\pU W wo Du T a wn r u i o/\A=((s.take i).map (·.2)).map D.str/\KX r u S o)
  #[#[none,rfl],P,Q,rfl,.refl _ _ _] (λi G o A h=>C0 h.2.1)<|by
   rintro i d G o A C ⟨⟨x,H⟩,U,I,J,X⟩
   subst H;rw[Al,Al]at C
   cases E:s[i]? with
   | none=>rw[E]at C;cases C
   | some p=>
    rw[E]at C;cases C;let hi:=(AE.mp E).1;let#[Y,Z]:=O p (CH E);let#[S2,r1,r2,L]:=rj N Y Z ∅ I;refine#[?_,(!.str p.1) :: e,o,rfl,true,o,rfl,.inl #[rfl,.str p.2,S2,?_,#[_,rfl],L.at U B.1 B.2,r2,?_,X.trans L]]
    ·rw[J,AN,AN,ET]
     let:100 < sizeLine:=by decide
     grind
    ·let#[es,rs,hs,_]:=I
     unfold E1;rw[BA (show((!D.str p.1) :: e)[4]?=_ from R)];dsimp only[Res.bind];rw[hs.desk];symm;rw[qX #[rfl,rfl],show AK (AB 0) Ax ((!D.str p.1) :: e) o=.ok [.str p.1] o from rfl];exact(qX rfl).trans r1
    ·rw[J,DJ,E,BQ,BQ]
     rfl
 ext
end
theorem Op(l:¬g)(i:0<=k):HK l (!k) none=l.drop k.toNat:=by
 unfold HK;rw[show(k:Int)=((k.toNat:Nat):Int) by lia,HT.Tt,HT.Qi,Ap]
 by_cases c:k.toNat<=-l
 ·rw[OX c,CI ∅]
 ·rw[Nat.min_eq_right ∅,bn (AO _),bn ∅]
  simp
theorem YR(S:¬g)(x y:g)(T:¬g):(S++x :: T).set (-S) y=S++y :: T:=by
 ext
section
variable{W:Wd}{wo:Ob}{Du:O9}{T:Str×Str->Prop}{ps:¬(Str×Str)}{hd:¬Str}{t wt:Str}
theorem yJ(S:Sto)(w:Nat):Ky W [.ref (-S),.ref w] (S++[.ins W.Desk []])=.ok .non (S++[.ins W.Desk [("web",.ref w),("replies",.ref (-S+1)),("duels",.ref (-S+2))],.dK [],.dT []]):=by
 refine YU (e:=[sR (-S),sR w]) ?_
 let g:∀(x:Ob) (T:Sto),(S++x :: T)[S.length]?=!x:=λx T=>by ext
 unfold TB;rw[BD (Me (BA rfl) (BA rfl) (g _ []) (by ext)),YR]
 rw[BD (Me (by
  unfold Iu;rw[Aa,BM]
  rfl) (BA rfl) (g _ _) (Jd rfl)),YR]
 rw[Me (by
  unfold SE;rw[Aa,BM]
  rfl) (BA rfl) (g _ _) (Jd rfl),YR]
 rfl
theorem yK(i:∀x∈hd,x≠("" : Str)) (g:¬Str):(hd++("" : Str) :: g).findIdx? (·==("" : Str))=!hd.length:=by
 grind
theorem eN(S:Sto)(J:HG t "\n" = !hd++("" : Str) :: ps.map (·.1)) (Θ:∀x∈hd,x≠("" : Str)) (m:PY "\n" hd=!wt)
  (hW:∀S:Sto,∃(n:Nat) (s:Sto),MD W [.str wt] S=.ok (.ref n) s/\Keeps S s/\s[n]?=!wo)
  (fn:∀p q,T p->T q->p.1=q.1->p.2=q.2) (ht:∀p∈ps,T p/\OW W wo Du p) (hn:-ps<=100) :
  ∃(s:Sto) (n:Nat),Ka W [.str t] S=.ok (.ref n) s/\Keeps S s/\-S<=n/\s[n]?=!.lst ((ps.map (·.2)).map D.str):=by
 let hok:JH t "\n" = true/\D6 t "\n" = hd++("" : Str) :: ps.map (·.1):=by
  unfold HG at J;split at J
  ·ext
  ·cases J
 let C:vb "\n" hd/\X2 "\n" hd=wt:=by
  unfold PY at m;split at m
  ·ext
  ·cases m
 let R:Bb 1 (Hu (AB 0) (mC (.str "\n"))) [!.str t,none,none,none] S=oN [!.str t,sR (-S),none,none] (S++[.lst ((hd++("" : Str) :: ps.map (·.1)).map D.str)]):=EL (by
  unfold Hu;rw[BA rfl];show(if JH t "\n" = true then _ else _)=_
  ext)
 let H:=Keeps.app S [.lst ((hd++("" : Str) :: ps.map (·.1)).map D.str)];let E:(S++[Ob.lst ((hd++("" : Str) :: ps.map (·.1)).map D.str)])[S.length]?=!.lst ((hd++("" : Str) :: ps.map (·.1)).map D.str):=DM _ _;generalize S++[Ob.lst ((hd++("" : Str) :: ps.map (·.1)).map D.str)]=S1 at R H E;let#[B,g,c2,kp,U]:=hW (S1++[.lst (hd.map D.str)]);let L:=(Keeps.app S1 [.lst (hd.map D.str)]).trans kp;let z3:=L.at E;let N:=DO E
 let hC:Bb 2 (Tx (AB 1) (mC (.str ""))) [!.str t,sR (-S),none,none] S1=oN [!.str t,sR (-S),sI (-hd:Int),none] S1:=EL (by
  unfold Tx;rw[BA rfl];dsimp only[Res.bind];rw[show atL (.ref (-S)) S1=!(-S,(hd++("" : Str) :: ps.map (·.1)).map D.str) by unfold atL;symm;rw[E]];dsimp only[mC];rw[show atL (.ref (-S)) S1=!(-S,(hd++("" : Str) :: ps.map (·.1)).map D.str) by unfold atL;symm;rw[E]]
  show(match Nl ((hd++("" : Str) :: ps.map (·.1)).map D.str)with
   | some zs=>(match zs.findIdx? (·==("" : Str))with
    | some j=>Res.ok (D.int j) _
    | none=>.bad)
   | none=>.bad)=_
  rw[QZ];symm
  rw[yK Θ])
 let O:FA (AB 1) Ia (Gb (AB 2)) [!.str t,sR (-S),sI (-hd:Int),none] S1=.ok (.ref (-S1)) (S1++[.lst (hd.map D.str)]):=by
  show okR (Mc (.ref (-S)) none (!(-hd:Int)) S1)=_;unfold Mc;rw[show O0 (.ref (-S)) S1=!(hd++("" : Str) :: ps.map (·.1)).map D.str by assumption];symm;rw[y9 _ ∅,BQ,List.take_append_of_le_length ∅,CI ∅];rfl
 let I:AK (Mr (mC (.str "\n")) (FA (AB 1) Ia (Gb (AB 2)))) Ax [!.str t,sR (-S),sI (-hd:Int),none] S1=.ok [.str wt] (S1++[.lst (hd.map D.str)]):=by
  refine BF ?_ rfl;unfold Mr;rw[show ∀e S,mC (.str "\n") e S=.ok (.str "\n") S from λz z=>rfl];dsimp only[Res.bind];rw[O];symm;rw[show atL (.ref (-S1)) (S1++[.lst (hd.map D.str)])=!(-S1,hd.map D.str) by unfold atL;symm;rw[DM]];symm;rw[QZ];symm;rw[qX C.1,C.2]
 let X:Bb 3 (PU W.Desk 2 (Ky W) (AK (Bg 1 (MD W) (AK (Mr (mC (.str "\n")) (FA (AB 1) Ia (Gb (AB 2)))) Ax)) Ax)) [!.str t,sR (-S),sI (-hd:Int),none] S1 =
   oN [!.str t,sR (-S),sI (-hd:Int),sR (-g)] (g++[.ins W.Desk [("web",.ref B),("replies",.ref (-g+1)),("duels",.ref (-g+2))],.dK [],.dT []]):=
  EL (Yo (BF ((Fv I rfl).trans c2) rfl) rfl (yJ g B))
 let Y:=L.trans (Keeps.app g [.ins W.Desk [("web",.ref B),("replies",.ref (-g+1)),("duels",.ref (-g+2))],.dK [],.dT []]);generalize A:g++[.ins W.Desk [("web",.ref B),("replies",.ref (-g+1)),("duels",.ref (-g+2))],.dK [],.dT []]=i at X Y
 let Z:-i=-g+3:=by rw[<-A,Aa];rfl
 let lo:∀{n:Nat} {o:Ob},g[n]?=!o->i[n]?=!o:=λ{n o} e=>by rw[<-A,Ah (AE.mp e).1];exact e
 let P:∀j:Nat,i[g.length+j]?=[Ob.ins W.Desk [("web",.ref B),("replies",.ref (-g+1)),("duels",.ref (-g+2))],.dK [],.dT []][j]?:=λj=>by
  rw[<-A,BE (by ext),show -g+j - -g=j by ext]
 let hE:FA (AB 1) (Gb (m2 JB (AB 2) (mC (.int 1)))) Ia [!.str t,sR (-S),sI (-hd:Int),sR (-g)] i=.ok (.ref (-g+3)) (i++[.lst ((ps.map (·.1)).map D.str)]):=by
  show okR (Mc (.ref (-S)) (!(-hd:Int)+1) none i)=_;unfold Mc;rw[show O0 (.ref (-S)) i=!(hd++("" : Str) :: ps.map (·.1)).map D.str by unfold O0;symm;rw[lo z3]];symm;rw[Op _ ∅,Z,show((-hd:Int)+1).toNat=-hd+1 by rfl,BQ,<-PF,qL (by ext)];rfl
 let Q:=Y.trans (Keeps.app i [.lst ((ps.map (·.1)).map D.str)])
 let up:∀{n:Nat} {o:Ob},i[n]?=!o->(i++[Ob.lst ((ps.map (·.1)).map D.str)])[n]?=!o:=λ{n o} e=>by rw[Ah (AE.mp e).1];exact e
 let G:(i++[Ob.lst ((ps.map (·.1)).map D.str)])[g.length+3]?=!.lst ((ps.map (·.1)).map D.str):=by rw[<-Z];exact DM _ _
 let wl:=(AE.mp U).1
 let dk:pU W wo Du T (-g) B (-g+1) (-g+2) 0 (i++[.lst ((ps.map (·.1)).map D.str)]):=
  #[[],[],#[up (P 0),up (lo U),up (P 2),λe he=>(nomatch he),DV _,#[by ext,by ext,by lia,by lia,by ext],by ext],AO _,up (P 1),λq N=>(nomatch N),AO _]
 let#[S6,q1,q2]:=uX (e:=[!.str t,sR (-S),sI (-hd:Int),sR (-g)]) fn ht hn G #[by ext,by ext] dk rfl
 let k7:Keeps S S6:=#[Ab H.1 (Ab Q.1 q2.1),λj I=>by
  let a1:=AS I H.1;let a3:=L.1
  rw[q2.2 j (AS a1 Q.1) ∅ ∅,Q.2 j a1,H.2 j I]]
 refine#[S6++[.lst ((ps.map (·.2)).map D.str)],S6.length,EM ?_,k7.trans (Keeps.app _ _),k7.1,DM _ _];show P4 W [!.str t,none,none,none] S=_;unfold P4
 rw[BD R,BD (by
  rw[EN (c:=false) (Jc (Bi rfl (BA rfl) (by
   rw[SH Kz true ("" : Str) N,qX rfl,wX (Bt _ Aj)]
   rfl)))]
  rfl),BD hC,BD X]
 refine Ex (R9 ?_);rw[RI (JX hE G)];exact q1
end
theorem AAU(I:fs.lookup ("places" : Str)=!D.int o) (hN:∀S:Sto,∃C,FL W [.str z] S=.ok (.int x) C/\Keeps S C) (P:x < o) :
  Stn W (.ins W.Web fs) [z] [x]:=λS g l hw i=>by
 let#[S1,J,A]:=hN S
 let E:ED (En 1 (EO (AB 1)) (tgN 0) HA (Bg 1 (FL W) (AK (AB 0) Ax))) [sR g,sR l,none] S=.ok (.ref (-S1)) (S1++[.lst [.int x]]):=R9 (by
  rw[RI (JX (BA rfl) i)];unfold Dc Gh;rw[C0 i];show(if -([]:¬D) < sizeLine then(okR (Bg 1 (FL W) (AK (AB 0) Ax) [!.str z,sR g,sR l,none] S)).bind _ else Res.bad)=_;rw[qX (show([]:¬D).length < sizeLine by decide),show Bg 1 (FL W) (AK (AB 0) Ax) [!.str z,sR g,sR l,none] S=.ok (.int x) S1 from(Fv (BF (BA rfl) rfl) rfl).trans J];show Gh _ _ _ _ 0 1 _ S1 [.int x]=_;unfold Gh;rw[C0 (A.at i)]
  rfl)
 let m:(S1++[Ob.lst [.int x]])[S1.length]?=!.lst [.int x]:=DM _ _;let s:=(Keeps.app (S1++[Ob.lst [.int x]]) [.lst [.int x]]).at m;let G:=((Keeps.app S1 [.lst [.int x]]).trans (Keeps.app _ [.lst [.int x]])).at (A.at hw);let H:=A.trans ((Keeps.app S1 [.lst [.int x]]).trans (Keeps.app _ [.lst [.int x]]))
 let B:mB (m2 (eqD true) (AB 2) (Yp (AB 2))) [sR g,sR l,sR (-S1)] (S1++[.lst [.int x]])=.ok false (S1++[.lst [.int x]]++[.lst [.int x]]):=Jc (Bi (y:=.ref (-(S1++[Ob.lst [.int x]]))) (BA rfl) (by
   unfold Yp;rw[BA (d:=.ref (-S1)) rfl];dsimp only[Res.bind]
   rw[show atL (.ref (-S1)) (S1++[.lst [.int x]])=!(-S1,[.int x]) by unfold atL;symm;rw[m]]) (by
   rw[Oo (enc:=D.int) (l:=[x]) (k:=[x]) Ds true s (DM _ _),qX rfl,wX rfl]
   rfl))
 generalize S1++[.lst [.int x]]++[.lst [.int x]]=S3 at s G H B;generalize S1++[.lst [.int x]]=S2 at E m B
 let L:NR (G6 (AB 2)) [sR g,sR l,sR (-S1)] S2=.ok false S2:=OB (b:=true) (by
  unfold G6;rw[BA (d:=.ref (-S1)) rfl];dsimp only[Res.bind];unfold Qy
  ext)
 let N:mB (m2 (inA false) (mC .non) (AB 2)) [sR g,sR l,sR (-S1)] S2=.ok false S2:=Jc (Bi (x:=.non) rfl (BA rfl) (SH (enc:=eO D.int) (l:=[!x]) bJ false none (DO m)))
 let O:mB (m2 geD (m2 ixA (AB 2) (Wn (mC (.int 1)))) (CD W.Web "places" (AB 0))) [sR g,sR l,sR (-S1)] S3=.ok false S3:=
  Jc (Bi (Bi (BA rfl) (y:=.int (-1)) rfl (Yv (enc:=D.int) (l:=[x]) (DO s) rfl)) (FT (BA rfl) G I) (oQ (wY (by ext))))
 refine#[S3,EM ?_,H];show LX W [sR g,sR l,none] S=_;unfold LX;rw[BD (EL E)];show As _ _ [sR g,sR l,sR (-S1)] _=_
 rw[BD (e1:=[sR g,sR l,sR (-S1)]) (S1:=S3) (by
  rw[EN (c:=false) (by rw[Pt L,Pt N,Pt B];exact O)]
  rfl)]
 exact Ex (Nk (BA rfl) (DO s))
theorem Z7{t:Str}{l:¬Str}(h:HG t " " = !l):JH t " " = true/\D6 t " " = l:=by
 unfold HG at h
 ext
section
variable{W:Wd}{wo:Ob}{Du:O9}{k:Str}{g:Int}{sx:YP}{nu:¬(YP×Int)}{n:Int}{p:Str×Str}{rest:¬Str}
theorem iq(i:HG p.1 " " = !("lasts" : Str) :: k :: rest) (mk:Mk W wo Du k g) (m:AtO (Du.P k g) W.Field "numbers" (oDR D.int nu)) (o:g=(-sx:Int)) (s:BI nu sx=!n) (A:bG (BI (Du.fl k g) n)=!p.2) (B:k = "one"∨k = "all") (C:1<=-rest) (E:Stn W wo rest sx):OW W wo Du p:=by
 let#[G,H]:=Z7 i;refine#[G,λa J r u l S L h I hw=>?_];rw[H]at hw;exact tL mk m o s A B C E hw h I
theorem mE(i:HG p.1 " " = !("call" : Str) :: k :: cw :: rest) (mk:Mk W wo Du k g) (m:AtO (Du.P k g) W.Field "numbers" (oDR D.int nu)) (o:g=(-sx:Int)) (s:BI nu sx=!n) (A:Ans W wo Du k g sx n c p.2) (B:k = "one"∨k = "all") (C:Stn W wo [cw] [c]) (E:Stn W wo rest sx):OW W wo Du p:=by
 let#[G,H]:=Z7 i;refine#[G,λa J r u l S L h I hw=>?_];rw[H]at hw;exact zA mk m o s A B C E hw h I
end
section
variable{W:Wd}{w:Nat×¬XP}{f:Fp}{k:Str}{g:Int}{T:TL}
theorem Xn(f:Fp):MonP (J5 W f):=by rintro L H i d ⟨q,m,o,e,⟨a,b,c,h,k,s,A,B,C,E,G⟩,y,z⟩;exact #[q,m,o,e,#[a,b,c,h,k,i _ _ s,i _ _ A,i _ _ B,i _ _ C,i _ _ E,i _ _ G],i _ _ y,z]
def duW(W:Wd)(w:Nat×¬XP):O9:=#[λk g L d=>∃f,Gn w g k=!f/\J5 W f L d,λk g=>((Gn w g k).bind Hs).getD [],λk g L i m d #[f,e,h]=>#[f,e,Xn f L i m d h]]
theorem Y5(hf:Gn w g k=!f)(i:Hs f=!T):(duW W w).fl k g=T:=by
 show((Gn w g k).bind Hs).getD []=T
 ext
theorem gd(hf:Gn w g k=!f):AtO ((duW W w).P k g) W.Field "numbers" (oDR D.int f.nu):=by
 rintro L d ⟨A,e,q,m,B,i,⟨a,b,c,h,k,o,C,E,s,G,H⟩,_⟩
 rw[hf]at e;cases e;exact#[q,_,c,i,o,rfl,s]
theorem Y6(hf:Gn w g k=!f)(h:(duW W w).P k g (λn=>S[n]?) d):Ar.ok S (.q (J5 W f)) d:=by
 let#[m,e,h]:=h;rw[hf]at e;cases e
 exact λL i=>Xn f _ _ (λn o q=>i n o q) _ h
theorem oy(hf:Gn w g k=!f)(A:Hs f=!T):Mk W (Jn W w) (duW W w) k g where
 field S wn e ml S1 hw hm hk:=by
  let#[i,B,C,E]:=oZ W hf hw;exact#[_,i,Yo hm rfl B,hk.trans C,λL G=>#[f,hf,E L λn o m s=>G n o (Ab hk.1 m) s]]
 falls S q h:=by
  let#[d,i,e,kp,n,rfl,m,s]:=lH W f T A S [.ref q] #[Y6 hf h,trivial];refine#[n,i,e,kp,m,?_];rw[Y5 hf A];exact s
theorem uH{A:YP}{n call:Int}{t:Str}(hf:Gn w g k=!f)(C:Hs f=!T)(G:Iq w A call=!())(H:(BI T n).isSome->t = "beaten")
  (I:BI T n=none->∃(o:Int) (i:YP),Hr f T=!o/\(∀(S:Sto) (d:D),Ar.ok S (.q (J5 W f)) d->∃m,Ge W [d,.int n,.int call,.int o] S=.ok (eT D.int i) m/\Keeps S m)/\R1 i=!t):Ans W (Jn W w) (duW W w) k g A n call t:=by
 refine#[λS E hw=>?_,λs=>?_,λs=>?_]
 ·let#[d,m,e,kp,rfl]:=Rn W w A call () G S [.ref E,eT D.int A,.int call] #[#[E,rfl,hw],rfl,rfl,trivial]
  exact#[m,e,kp]
 ·rw[Y5 hf C]at s ⊢
  let#[o,i,J,L,N]:=I s;refine#[o,i,λS q d B O=>?_,λS q B=>L S _ (Y6 hf B),λS=>?_]
  ·let#[P,m,e,kp,rfl]:=Ug W f T o J S [.ref q,.ref d] #[Y6 hf B,#[d,rfl,O],trivial]
   exact#[m,e,kp]
  ·let#[P,m,e,kp,rfl]:=iM W i t N S [eT D.int i] #[rfl,trivial]
   exact#[m,e,kp]
 ·rw[Y5 hf C]at s
  exact H s
end
def Mf(s:(¬YP))(E:Int)(G:YP)(H:YP):⇑(Fw (⇑(Int×YP)) Unit):=
 BB (atI s E*>λg=>Eu g () λ(_:Unit) A=>BB (Qb (1:Int) A*>λI=>!.nx I) λB=>BB (FZ H (λi=>!(BR i B) != 0) (λi=>!Co i B)*>λm=>!.nx m) λC=>E9 (λz=>()) (Eu (DS C) () λ(_:Unit) Ϧ=>E9 (λz=>()) (VU s G Ϧ.2*>λo=>if o=true then !.rt (!(A,(HK C (some Ϧ.1) none)))else !.nx ()))) λz=>!.rt none
def J1(g:(¬YP))(i:Int)(m:YP)(o:YP):⇑(⇑(Int×YP)):=Gu (Mf g i m o)
theorem YH(W:Wd)(i:(¬YP))(m:Int)(o:YP)(s:YP):VF (M1 W) [.z ((oL (eT D.int)) i),.v (D.int m),.v ((eT D.int) o),.z ((oL D.int) s)] (rOP D.int (oL D.int)) (J1 i m o s):=by
 refine Ec (B:=λG=>[]) ?_;unfold RK Mf;exact(Av (Ew (B:=(λ(_:Unit)=>[.z ((oL (eT D.int)) i),.v (D.int m),.v ((eT D.int) o),.z ((oL D.int) s),.u,.u,.u,.u,.u])) (Ng (EK DN AL)) E2 (.refl _) (λG C=>(Av (DC (Pl Bf AL)) (λE=>(Av (Jx (DD (El (VI.k (vn rfl)) (λA=>(YG (Od AL AL))) (λA=>(rA AL AL))))) (λG=>(Cq (Ew (iK rfl) QP (.refl _) (λG Ϧ=>(Cq (G3 (cW (CN (Ri DN (C2 AL (C2 AL CT))) (λg=>lG W g.1 g.2.1 g.2.2.1) (λG=>rfl) E7)) (qf AL (QW DG (Oa AL) Oc)) (HP (.refl _))) (λG=>(.same (.same (.same (.same (.same (.same (.same (.drop (.drop .nil))))))))))))) (λG=>(.same (.same (.same (.same (.drop (.drop (.drop (.same (.same .nil))))))))))))))))) (λG=>qg))
def Mg(E:(¬YP))(A:YP)(G:YP):⇑(Fw (⇑YP) Unit):=
 BB ((![]).bind IS*>λH=>!.nx H) λI=>BB (!.nx ()) λz=>BB (Eu (V2 A) (I,G) λ(B:YP×YP) C=>E9 (λg=>(g.1,g.2)) (((!(E,(C.2,((HK A (!C.1) none),(B.2,())))))*>λϯ=>J1 ϯ.1 ϯ.2.1 ϯ.2.2.1 ϯ.2.2.2.1)*>λϦ=>match Ϧ with | none=>!.rt none | some i=>NS B.1 i.1*>λm=>!.nx (m,i.2))) λo=>((!o.1)*>λs=>!(!s))*>λJ=>!.rt J
def J2(g:(¬YP))(i:YP)(m:YP):⇑(⇑YP):=Gu (Mg g i m)
theorem YI(W:Wd)(i:(¬YP))(m:YP)(o:YP):VF (M2 W) [.z ((oL (eT D.int)) i),.v ((eT D.int) m),.z ((oL D.int) o)] (rV (eO (eT D.int))) (J2 i m o):=by
 refine Ec (B:=λI=>[]) ?_;unfold RL Mg;exact(Av (FO (DD (D5 E6))) (λC=>(Av (kf rfl) (λI=>(Av (Ew (B:=(λ(g:YP×YP)=>[.z ((oL (eT D.int)) i),.v ((eT D.int) m),.z ((oL D.int) o),.w 3 ((oL D.int) g.1),.z ((oL D.int) g.2),.u,.u,.u])) (kj AL) QP (.refl _) (λE G=>(Cq (qd rfl rfl (by decide) (by decide) (by decide) (CN (Ri DN (C2 AL (C2 (qz AL (Oa AL) Oc) (Ri DN CT)))) (λϯ=>YH W ϯ.1 ϯ.2.1 ϯ.2.2.1 ϯ.2.2.2.1) (λI=>rfl) wk) rfl) (λs=>(.same (.same (.same (.same (.same (.drop (.drop (.same .nil)))))))))))) (λA=>(Dx (QT (Ii JF)))))))))
def GV(m:Fp)(Z:Int)(Ci:Int)(U:Int):⇑(Fw (⇑YP) Unit):=
 BB (atI m.ev Z*>λx4=>!.nx x4) λX=>BB (if (decide (m.kd=("all" : Str))) then(((((Ir U*>λo=>FZ o (λY=>!true) (λY=>atI m.pb Y))*>λs=>!(s,()))*>λA=>!(X,A))*>λB=>!(m.tk,B))*>λg=>J2 g.1 g.2.1 g.2.2.1).bind λC=>!.rt C else !.nx ()) λz=>BB ((![]).bind IS*>λE=>!.nx E) λG=>BB (Ir U*>λH=>Eu H G λ(I:(¬YP)) J=>E9 (λL=>L) (FZ X (λi=>!true) (λi=>(atI m.ev J*>λN=>!decide (i∈N))*>λO=>if O=true then !i else !Ci)*>λP=>NS I P*>λQ=>!.nx Q)) λR=>((!R).bind oneO*>λS=>!(!S))*>λT=>!.rt T
def Em(g:Fp)(i:Int)(m:Int)(o:Int):⇑(⇑YP):=Gu (GV g i m o)
theorem Ni(W:Wd)(i:Fp)(m:Int)(o:Int)(s:Int):VF (Gf W) [.q (ND W i),.v (D.int m),.v (D.int o),.v (D.int s)] (rV (eO (eT D.int))) (Em i m o s):=by
 refine Ec (B:=λz=>[]) ?_;unfold JZ GV;exact(Av (DC (EK (Fs Ff rfl) AL)) (λG=>(Av (G3 (B:=(λ(_:Unit)=>[.q (ND W i),.v (D.int m),.v (D.int o),.v (D.int s),.v ((eT D.int) G),.u,.u])) (Fy (QV Kz Ym (lD gW rfl) Bf)) (Dx (CN (Ri (Fs RD rfl) (C2 AL (Ri (JS (DD (El (VI.k (Rg (CN (C2 AL CT) (λH=>Ro W H.1) (λz=>rfl) N1))) (λI=>Jy) (λI=>(EK (Fs PZ rfl) AL))))) CT))) (λg=>YI W g.1 g.2.1 g.2.2.1) (λz=>rfl) E7)) (HP (.refl _))) (λz=>(Av (FO (DD (D5 E6))) (λJ=>(Av (Ew (B:=(λ(A:(¬YP))=>[.q (ND W i),.v (D.int m),.v (D.int o),.v (D.int s),.v ((eT D.int) G),.w 5 ((oL (eT D.int)) A),.u])) (Rg (CN (C2 AL CT) (λC=>Ro W C.1) (λz=>rfl) N1)) E2 (.refl _) (λL N=>(Cq (KD rfl (Ii (JS (DD (El (VI.k (Ng AL)) (λE=>Jy) (λE=>(YF (Fy (k9 Ds AL (EK (Fs Ff rfl) AL))) AL AL E7)))))) rfl) (λO=>(.same (.same (.same (.same (.same (.same (.drop .nil))))))))))) (λP=>(Dx (QT (AAD JF)))))))))))
def KL(i:Fp)(m:Int)(o:Int)(A:Int):⇑(Fw (⇑YP) Unit):=
 (((((((!(m,(o,())))*>λs=>E8 i s.1 s.2.1)*>λB=>!BR B A)*>λC=>!(C,()))*>λE=>!(o,E))*>λg=>!(m,g))*>λϥ=>Em i ϥ.1 ϥ.2.1 ϥ.2.2.1)*>λϮ=>!.rt Ϯ
def KP(g:Fp)(i:Int)(m:Int)(o:Int):⇑(⇑YP):=Gu (KL g i m o)
theorem Uh(W:Wd)(g:Fp)(i:Int)(m:Int)(o:Int):VF (Ge W) [.q (J5 W g),.v (D.int i),.v (D.int m),.v (D.int o)] (rV (eO (eT D.int))) (KP g i m o):=by
 refine Ec (B:=λz=>[]) ?_;unfold OR KL;exact(Dx (MZ (bC λz z z z z z z=>rfl) J5.q rfl (C2 AL (C2 AL (C2 (Od (MZ (bC λz z z z z z z=>rfl) (λz z h=>h) rfl (C2 AL (C2 AL CT)) (λs=>Nj W g s.1 s.2.1) (λz=>rfl) E7) AL) CT))) (λϥ=>Ni W g ϥ.1 ϥ.2.1 ϥ.2.2.1) (λz=>rfl) E7))
section
variable{o:Nat}{us:¬XP}{kd:Str}{f:Fp}
theorem am{c:Nat}(m:c < 60):Ir ((2 ^ c:Nat):Int)=![(c:Int)]:=by
 let#[l,e,g,i]:=Xe (hV (by ext) (DE c)) ∅
 rw[e,aJ g (Zf _ (c:Int)) λx=>by
  rw[i,AV,EC,decide_eq_true_iff]
  lia]
theorem lV(h:O5 o us){m c:Nat}(hm:m < o)(C:(c:Int)∈Tg us m):J1 (tkl o us) m [] [((2 ^ c:Nat):Int)]=!(!((c:Int),[0])):=by
 let I:=h.sm;let tg:=h.tg (g:=(m:Int)) ∅ ∅;unfold J1 Mf;rw[lM ∅ ∅];refine Ok.is (OkF.out (OkF.seq (OkF.for (λi M=>(c:Int)∉i) ∅ ?_) λM s=>zX C s));intro i x u E J L;let O:=tg.2.1 x E
 obtain⟨k,rfl⟩:∃k:Nat,x=k:=#[x.toNat,by lia]
 rw[Md ∅];simp only[AF,Bw];rw[RJ ∅ (λM M=>rfl) λM M M=>rfl]
 by_cases q:k=c
 ·subst q
  rw[show([((2 ^ k:Nat):Int)].filter λz:Int=>BR z ((2 ^ k:Nat):Int) != 0)=[((2 ^ k:Nat):Int)] by
   rw[Zh (by rw[K5,zp,bne_iff_ne];let:=WT k;lia)]
   rfl]
  rw[At,IT,fA,Nat.xor_self];simp only[AF,Bw]
  refine OkF.map (N:=λM=>False) (OkF.imp (OkF.for (λB M=>B=[]) rfl ?_) (λM s=>(nomatch s)) λM h=>h) λM s=>s.elim
  intro B y _ A G e;subst e;let A:=AV.mp A;subst A;exact .rt rfl
 ·rw[show([((2 ^ c:Nat):Int)].filter λz:Int=>BR z ((2 ^ k:Nat):Int) != 0)=[] by
   rw[Zi]
   ·rfl
   ·rw[K5,bX.mpr λj H=>by
     rw[EC,decide_eq_true_iff]at H;rw[EC]
     exact wY (by ext)]
    decide]
  refine .nx λhm=>?_
  grind
theorem ny(h:O5 o us){m c:Nat}(hm:m < o)(g:(c:Int)∈Tg us m):J2 (tkl o us) [(m:Int)] [((2 ^ c:Nat):Int)]=!(![(c:Int)]):=by
 unfold J2 Mg;simp only[Bw,df,AF];rw[show V2 [(m:Int)]=[(1,(m:Int))]from rfl]
 let e:HK [(m:Int)] (!1) none=[]:=by rw[Op _ (by ext)];rfl
 unfold Eu;symm;rw[e,lV h hm g];rfl
theorem jY(h:O5 o us)(F:Fk o us kd f)(hm:m < o)(i:c < o/\c≠m)(A:Nr us m c):Em f m c ((2 ^ c:Nat):Int)=!(![(c:Int)]):=by
 let B:=h.sm;unfold Em GV;rw[F.ev,Kf (Jk.mpr #[hm,rfl]),am ∅,F.kd,F.tk];simp only[AF,Bw]
 by_cases s:kd = "all"
 ·rw[wX s,qX rfl]
  rw[Gq (f:=λz=>((2 ^ c:Nat):Int)) ∅ λx g=>by rw[AV.mp g];exact Kf (F.pb c i.1)];simp only[AF];rw[At,IT,ny h hm (pP.mpr (.inr A))];rfl
 ·rw[wY s,qY AQ]
  unfold Eu;symm
  rw[Gq (f:=λz=>(c:Int)) ∅ λx g=>by
   rw[AV.mp g,Kf (Jk.mpr #[i.1,rfl])]
   ext]
  rfl
theorem jQ(h:O5 o us)(F:Fk o us kd f){m c b:Nat}(hm:m < o)(g:c < o/\c≠m)(i:Nr us m c)(hb:b.testBit c):KP f m c b=!(![(c:Int)]):=by
 let#[v,e,l,rfl,s]:=bR h F hm g.1 g.2
 let:l &&& b=2 ^ c:=aQ λy=>by
  ext
 unfold KP KL;simp only[AF];rw[e];simp only[AF];rw[K5,this,jY h F hm g i];rfl
end
def Ho(O:Str)(P:Str)(Q:Int):⇑(Fw (⇑(¬⇑Int)) Unit):=
 BB (((!O)*>λR=>(!(" " : Str))*>λS=>HG R S)*>λT=>!.nx T) λL=>BB ((((!L)*>λU=>((!(1:Int))*>λX=>!(!X))*>λY=>(!none)*>λZ=>!HK U Y Z)*>λg=>FZ g (λN=>!true) (λN=>((!N)*>λi=>(!())*>λϝ=>!(i,ϝ))*>λm=>FK m.1))*>λϮ=>!.nx Ϯ) λo=>BB (((((!L)*>λs=>(!(0:Int))*>λA=>atI s A)*>λB=>(!P)*>λC=>!not (decide (B=C)))*>λE=>if E=true then !true else(((!o)*>λG=>!(-G:Int))*>λϦ=>(!Q)*>λH=>!not (decide (Ϧ=H))).bind λI=>if I=true then !true else(!none).bind λJ=>(!o)*>λν=>!inG J ν)*>λϘ=>if Ϙ then !.rt none else !.nx ()) λz=>!.rt (!o)
def Ht(g:Str)(i:Str)(m:Int):⇑(⇑(¬⇑Int)):=Gu (Ho g i m)
theorem QY(W:Wd)(g:Str)(i:Str)(m:Int):VF (FE W) [.v (D.str g),.v (D.str i),.v (D.int m)] (rOL (oL (eO D.int))) (Ht g i m):=by
 refine Ec (B:=λz=>[]) ?_;unfold MM Ho;exact(Av (Jx (W7 AL Bf)) (λs=>(Av (Jx (DD (El (VI.k (Rg (QW DG (Oa Bf) Oc))) (λA=>Jy) (λA=>(CN (C2 AL CT) (λo=>SY W o.1) (λz=>rfl) E7))))) (λC=>(Av (G3 (B:=(λ(_:Unit)=>[.v (D.str g),.v (D.str i),.v (D.int m),.y ((oL D.str) s),.y ((oL (eO D.int)) C)])) (W9 (Fy (Zr Kz Ym (EK DG Bf) AL)) (W9 (Fy (Zr Ds LP (QU DG) AL)) (Fy (wE bJ Tr DG)))) kc (HP (.refl _))) (λz=>(ke rfl)))))))
def DX(i first:Str)(g:Int):⇑(⇑YP):=(Ht i first g).bind vL
theorem Lx(W:Wd)(i first:Str)(g:Int):VF (FE W) [.v (D.str i),.v (D.str first),.v (D.int g)] (rOL (oL D.int)) (DX i first g):=(QY W i first g).all
def VM(P5:Str):⇑(Fw (Nat×¬XP) Unit):=
 BB (((!P5)*>λl2=>(!("\n" : Str))*>λx3=>HG l2 x3)*>λx4=>!.nx x4) λv1=>((((!v1)*>λl5=>(!(0:Int))*>λx6=>atI l5 x6)*>λx7=>((!("places" : Str))*>λx8=>((!(1:Int))*>λx9=>(!())*>λΞ=>!(x9,Ξ))*>λA=>!(x8,A))*>λϝ=>!(x7,ϝ))*>λi=>DX i.1 i.2.1 i.2.2.1)*>λB=>B*>λm=>(((!(1:Int))*>λC=>((!m)*>λE=>(!(0:Int))*>λG=>atI E G)*>λϦ=>if decide (C<=Ϧ) then(!(60:Int)).bind λH=>!decide (Ϧ<=H)else !false)*>λI=>!not I)*>λJ=>if J=true then none else BB (((((!(1:Int))*>λν=>!((unop% Neg.neg ν)))*>λϘ=>(((!(1:Int))*>λL=>!((unop% Neg.neg L)))*>λN=>(![])*>λO=>!N :: O)*>λP=>!Ϙ :: P).bind IS*>λQ=>(![])*>λR=>!Q :: R).bind IS*>λS=>!.nx S) λT=>BB ((((!v1)*>λU=>((!(1:Int))*>λX=>!(!X))*>λY=>(!none)*>λZ=>!HK U Y Z)*>λx37=>!M6 x37)*>λl70=>Eu l70 T λ(ϧ:(¬YP)) x39=>(((!x39.2)*>λx40=>((!("tie" : Str))*>λx41=>((!(2:Int))*>λx42=>(!())*>λx43=>!(x42,x43))*>λx44=>!(x41,x44))*>λx45=>!(x40,x45))*>λo=>DX o.1 o.2.1 o.2.2.1)*>λx47=>x47*>λg=>(((((!g)*>λl50=>(!(0:Int))*>λx51=>atI l50 x51)*>λx56=>((!g)*>λl52=>(!(1:Int))*>λx53=>atI l52 x53)*>λs=>if decide (x56 < s) then((!m)*>λl54=>(!(0:Int))*>λx55=>atI l54 x55).bind λx58=>!decide (s < x58)else !false)*>λx59=>!not x59)*>λx66=>if x66=true then !true else((some ϧ*>λl63=>((!(1:Int))*>λx62=>!((unop% Neg.neg x62)))*>λx64=>atI l63 x64)*>λx60=>(!g)*>λx61=>!HT.lexLt x60 x61).bind λx65=>!not x65)*>λx49=>if x49=true then none else E9 (λv67=>v67) ((!g)*>λx68=>NS ϧ x68*>λl69=>!.nx l69)) λs71=>(((!m)*>λl73=>(!(0:Int))*>λx74=>atI l73 x74)*>λx79=>((!s71)*>λl76=>((!(1:Int))*>λx75=>!(!x75))*>λx77=>(!none)*>λx78=>!HK l76 x77 x78).bind N7*>λx80=>qW x79 x80)*>λx81=>!.rt x81
def VR(g:Str):⇑(Nat×¬XP):=Gu (VM g)
theorem lF(W:Wd)(o:Str):VF (MD W) [.v (D.str o)] (rN (Jn W)) (VR o):=by
 refine Ec (B:=λz=>[]) ?_;unfold bS VM;exact(Av (Jx (W7 AL Bf)) (λC=>(Zn rfl (CN (C2 (EK DG Bf) (C2 Bf (C2 Bf CT))) (λg=>Lx W g.1 g.2.1 g.2.2.1) (λz=>rfl) mJ) (λm=>(Nh (Fy (Lu Sy Sy Bf (EK DG Bf) Bf)))) (λm=>(Av (FO (DD (D5 (Ek (YE (Ek (Uc Bf) (Ek (Uc Bf) E6))) E6)))) (λE=>(Av (Ew (B:=(λ(s:(¬YP))=>[.v (D.str o),.y ((oL D.str) C),.y ((oL D.int) m),.w 3 ((oL (eT D.int)) s),.u,.u,.u])) (kh (QW DG (Oa Bf) Oc)) QP (.refl _) (λϧ G=>(Zn rfl (CN (C2 AL (C2 Bf (C2 Bf CT))) (λi=>Lx W i.1 i.2.1 i.2.2.1) (λz=>rfl) mJ) (λA=>(W9 (Nh (Fy (Lu gi gi (EK DG Bf) (EK DG Bf) (EK DG Bf)))) (Nh (Fy (v6 (EK JF (Uc Bf)) (Ii DG)))))) (λA=>(Cq (KD rfl (Ii DG) rfl) (λH=>(.same (.same (.same (.same (.drop (.drop (.drop .nil))))))))))))) (λI=>(Tq (vy (EK DG Bf) (ko (JS (QW JF (Oa Bf) Oc)))))))))))))
noncomputable def jn(c:Nat):¬¬Nat->¬Nat
 | []=>[]
 | [x]=>x
 | x :: r=>x++c :: jn c r
theorem gl:∀{x y a b:¬Nat},c∉x->c∉y->x++c :: a=y++c :: b->x=y/\a=b
 | [],[],a,b,_,_,h=>#[rfl,(UR h).2]
 | [],y :: m,a,b,_,g,h=>zX ∅ g
 | x :: o,[],a,b,i,_,h=>zX ∅ i
 | x :: o,y :: m,a,b,i,g,h=>by
  let#[A,s]:=UR h;let#[B,C]:=gl (λz=>i (AY _ z)) (λz=>g (AY _ z)) s
  ext
theorem nh:∀{xs g:¬¬Nat},xs≠[]->g≠[]->(∀x∈xs,c∉x)->(∀y∈g,c∉y)->jn c xs=jn c g->xs=g
 | [],_,h,_,_,_,_=>zX rfl h
 | _,[],_,h,_,_,_=>zX rfl h
 | [x],[y],_,_,_,_,h=>by rw[show x=y from h]
 | [x],y :: A :: r,_,_,m,_,h=>by
  let h:x=y++c :: jn c (A :: r):=h;ext
 | x :: B :: r,[y],_,_,_,i,h=>by
  let h:x++c :: jn c (B :: r)=y:=h;exact zX (by grind) (i y Aj)
 | x :: B :: r,y :: A :: s,_,_,m,i,h=>by
  let#[C,E]:=gl (m x Aj) (i y Aj) h;rw[C,nh (by ext) ∅ (λz o=>m z (AY _ o)) (λz o=>i z (AY _ o)) E]
theorem L7(c:Nat):∀g:¬Str,(Cj #[[c].toArray] g).cps.toList=jn c (g.map (·.cps.toList))
 | []=>rfl
 | [x]=>rfl
 | x :: y :: r=>by
  show((x++#[[c].toArray]++Cj #[[c].toArray] (y :: r)).cps).toList=_;rw[vX,vX,DK,DK,L7 c (y :: r)];show x.cps.toList++[c]++_=x.cps.toList++c :: _;simp
theorem cr(i:ps≠[])(h:∀p∈ps,c∉p.cps.toList):D6 (Cj #[[c].toArray] ps) #[[c].toArray]=ps:=by
 let g:=StrLaws.join_split (Cj #[[c].toArray] ps) #[[c].toArray];let m:=StrLaws.split_free (Cj #[[c].toArray] ps) c;let o:=PyProof.Rows.split_pos (Cj #[[c].toArray] ps) #[[c].toArray];generalize D6 (Cj #[[c].toArray] ps) #[[c].toArray]=s at g m o
 let A:jn c (s.map (·.cps.toList))=jn c (ps.map (·.cps.toList)):=by rw[<-L7,<-L7,g]
 let B:=nh (by simp;intro e;ext) (by simpa using i) (λx C=>by
  grind) (λx C=>by
  grind) A
 let inj:∀{as bs:¬Str},as.map (λx:Str=>x.cps.toList)=bs.map (λx:Str=>x.cps.toList)->as=bs:=λ{as}=>by
  induction as with
  | nil=>simp
  | cons a as E=>
   intro bs e
   cases bs with
   | nil=>cases e
   | cons b bs=>
    let#[G,H]:=UR e;rw[E H,Str.ext' (Array.toList_inj.mp G)]
 exact inj B
theorem Kp(g:ps≠[])(h:∀p∈ps,c∉p.cps.toList)(i:-Cj #[[c].toArray] ps<=100000):HG (Cj #[[c].toArray] ps) #[[c].toArray]=!ps:=by
 let m:=PyProof.Rows.split_le (Cj #[[c].toArray] ps) #[[c].toArray];let o:=StrLaws.occ_length_le (Cj #[[c].toArray] ps) #[[c].toArray] 0 (-Cj #[[c].toArray] ps) (-Cj #[[c].toArray] ps+1);unfold HG JH;rw[qX,cr g h];rw[PyProof.Rows.len_partsBetween];simp only[Bo,GP,decide_eq_true_eq];exact#[#[#[rfl,by lia],by lia],by lia]
theorem L6(g:Str)(k:Nat):∀i:¬Str,(∀p∈i,p.length<=k)->-Cj g i<=-i * (k+-g)
 | [],_=>DV _
 | [x],h=>by
  let:=h x Aj;show -x<=1 * _;lia
 | x :: y :: r,h=>by
  let o:=h x Aj
  let s:=L6 g k (y :: r) λp m=>h p (AY _ m)
  show(x++g++Cj g (y :: r)).length<=_;rw[TF,TF,Az,Nat.add_mul];lia
theorem joinOk_of(h:∀p∈i,p.length<=k)(A:-i * (k+-g)<=100000):PY g i=!Cj g i:=by
 let m:∀(i:¬Str) (a:Nat),(∀p∈i,p.length<=k)->i.foldl (λa p=>a+-p+-g) a<=a+-i * (k+-g):=by
  intro i
  induction i with
  | nil=>intro a _;simp
  | cons x r o=>
   intro a h;let B:=h x Aj
   let C:=o (a+-x+-g) λp s=>h p (AY _ s)
   rw[qJ,Az,Nat.add_mul];omega
 unfold PY;rw[qX,show X2 g i=Cj g i from StrLaws.glued_eq_join g i];unfold vb Builtin.Str.tooLong;let:=m i 0 h;rw[List.foldl_toArray];simp only[GP,decide_eq_false_iff_not]
 let E:100000<=sizeLine:=by decide
 grind
noncomputable abbrev tS(n:Nat):Str:=cG (toString (n:Int))
noncomputable def dg(m:Nat):¬Nat:=(Nat.toDigits 10 m).map Char.toNat
theorem yz:∀m∈Ca 61,(1<=-dg m/\-dg m<=2)/\(∀c∈dg m,48<=c/\c<=57)/\(1 < -dg m->(dg m)[0]?≠!48):=by decide +kernel
theorem Um(m:Nat):(tS m).cps.toList=dg m:=PySem.W.KIN.signs_num m
theorem lP(m:Nat):-tS m=-dg m:=by
 rw[<-Um,CW];rfl
theorem Og(h:m < 61):1<=-tS m/\-tS m<=2:=by rw[lP];exact(yz m (Ea.mpr h)).1
theorem Yj(h:m < 61)(g:c < 48):c∉(tS m).cps.toList:=by
 rw[Um];intro hm;let:=(yz m (Ea.mpr h)).2.1 c hm;lia
theorem figs:(("0123456789" : Str)).cps.toList=[48,49,50,51,52,53,54,55,56,57]:=by rfl
theorem vg:("0" : Str)=#[[48].toArray]:=by rfl
theorem Va(h:m < 61):FK (tS m)=!(!(m:Int)):=by
 let#[#[L,N],s,A]:=yz m (Ea.mpr h);let g:=lP m
 let O:2<=sizeLine:=by decide
 let B:Xh (tS m)=!(-dg m:Int):=by
  unfold Xh;rw[qX ∅,g]
 let C:Ut (tS m)=!((dg m).map λc=>#[[c].toArray]):=by
  unfold Ut;rw[qX,L4.signs,Um];rw[<-Array.all_toList,Um,FI];intro c i;let:=s c i;exact wX ∅
 let E:FZ ((dg m).map λc=>(#[[c].toArray]:Str)) (λz=>!true) (λG=>!NY ("0123456789" : Str) G)=!(((dg m).map λc=>(#[[c].toArray]:Str)).map λz=>true):=by
  refine Gq (by rw[AN];lia) λx o=>?_
  let#[c,i,rfl]:=BN.mp o;let P:=s c i;unfold NY;rw[StrLaws.found_one,figs,wX]
  let:c=48∨c=49∨c=50∨c=51∨c=52∨c=53∨c=54∨c=55∨c=56∨c=57:=by lia
  rcases this with rfl | rfl | rfl | rfl | rfl | rfl | rfl | rfl | rfl | rfl <;> simp
 let H:a9 (tS m)=!(m:Int):=by
  unfold a9;rw[qX ∅];exact PySem.W.KIN.num_reads ∅ (zx (show(m:Int) < 61 by lia) (by ext))
 unfold FK N4;simp only[AF];rw[B];simp only[AF];rw[wX (by lia:(1:Int)<=(-dg m:Int)),qX rfl,wX (by lia:(-dg m:Int)<=2)];rw[C];simp only[AF];rw[E]
 let I:((((dg m).map λc=>(#[[c].toArray]:Str)).map λz=>true).all id):=by
  rw[FI];intro b hb;let#[_,_,rfl]:=BN.mp hb;rfl
 simp only[AF];rw[I];rw[H]
 by_cases c:(1:Int) < (-dg m:Int)
 ·rw[wX c,qX rfl]
  obtain⟨x,o⟩:∃x,(dg m)[0]?=!x:=#[_,BX (by trivial)]
  let e5:np (tS m) 0=!#[[x].toArray]:=by
   unfold np;rw[qX (by grind),Um,JA (Gs _) o];rfl
  let J:=A ∅;rw[e5];simp only[AF]
  rw[wY (λe=>J (by
   rw[vg]at e
   ext))]
  rfl
 ·rw[wY c,qY AQ]
  rfl
theorem lX:(" " : Str)=#[[32].toArray]:=by rfl
theorem ss:("\n" : Str)=#[[10].toArray]:=by rfl
def VD(first:Str)(g:¬Nat):Str:=Cj #[[32].toArray] (first :: g.map tS)
theorem VC(hf:-first<=6)(m:-g<=2)(h:∀n∈g,n < 61):-VD first g<=21:=by
 let:=L6 #[[32].toArray] 6 (first :: g.map tS) λp i=>by
  rcases Am.mp i with rfl | i
  ·exact hf
  ·let#[n,m,rfl]:=BN.mp i
   let:=(Og (h n m)).2;lia
 rw[Az,AN]at this;let o:-(#[[32].toArray]:Str)=1:=rfl;rw[o]at this;unfold VD
 let:(-g+1) * 7<=21:=by lia
 lia
theorem XY(hf:32∉first.cps.toList)(s:-first<=6)(i:-g<=2)(h:∀n∈g,n < 61):DX (VD first g) first (-g)=!(!(g.map λn:Nat=>(n:Int))):=by
 let m:=VC s i h
 let A:HG (VD first g) (" " : Str)=!first :: g.map tS:=by
  rw[lX];refine Kp (by ext) (λp o=>?_) (by unfold VD at m;lia)
  rcases Am.mp o with rfl | o
  ·exact hf
  ·let#[n,i,rfl]:=BN.mp o
   exact Yj (h n i) (by ext)
 let B:FZ (g.map tS) (λz=>!true) (λx=>FK x)=!((g.map tS).map λx=>(FK x).getD none):=by
  refine Gq (by rw[AN];lia) λx C=>?_
  let#[n,i,rfl]:=BN.mp C;rw[Va (h n i)];rfl
 let E:((g.map tS).map λx=>(FK x).getD none)=g.map λn:Nat=>!(n:Int):=by
  rw[BC]
  refine Ck λn i=>?_
  show(FK (tS n)).getD none=_;rw[Va (h n i)];rfl
 let G:∀l:¬Nat,Wu (l.map λn:Nat=>!(n:Int))=!(l.map λn:Nat=>(n:Int)):=λl=>by
  induction l with
  | nil=>rfl
  | cons a l H=>
   show(Wu (l.map λn:Nat=>!(n:Int))).map ((a:Int) :: ·)=_;ext
 unfold DX Ht Ho;simp only[AF];rw[A];simp only[AF,Bw];rw[Op _ ∅,show(1:Int).toNat=1 from rfl,iE,ut,B,E];simp only[AF,Bw];rw[JA (Gs _) rfl];simp only[AF,decide_true,QO,C9,if_false];rw[AN,wX rfl]
 let e5:inG none (g.map λn:Nat=>!(n:Int))=false:=by
  cases I:inG none (g.map λn:Nat=>!(n:Int))with
  | false=>rfl
  | true=>
   ext
 rw[e5];show(Wu (g.map λn:Nat=>!(n:Int))).map some=_;rw[G];rfl
open L2 L4
open Srt (ltL)
def Tz(p:Int)(ts:¬XP):Prop:=(∀t∈ts,0<=t.1/\t.1 < t.2/\t.2 < p)/\ts.Nodup
theorem Yk(h:x.1 < x.2):nrm x=x:=by
 unfold nrm;rw[qY ∅,qX (by omega)]
theorem Tz.nrm(h:Tz p ts):ts.map M.nrm=ts:=by
 conv=>rhs;rw[<-UQ ts]
 exact Ck λt g=>Yk (h.1 t g).2.1
theorem Tz.fit(h:Tz p ts):HM p ts:=by
 refine#[λt g=>?_,by rw[h.nrm];exact h.2];let:=h.1 t g;unfold Fit;rw[Yk this.2.1];lia
theorem Tz.perm(h:Tz p ts)(g:us.Perm ts):Tz p us:=#[λt i=>h.1 t (g.mem_iff.mp i),g.nodup_iff.mpr h.2]
theorem Tz.ts{p}{ts}(h:Tz p ts):Tz p (F9 ts):=h.perm (by let:=J7 ts;rwa [h.nrm]at this)
theorem AAG(h:HM p g):Tz p (F9 g):=by
 let i:=J7 g;refine#[λt m=>?_,i.nodup_iff.mpr h.2];let#[x,o,rfl]:=Z1 m;let:=h.1 x o;unfold Fit at this
 let:(nrm x).1<=(nrm x).2:=by
  unfold nrm
  split <;> split <;> ext
 lia
theorem iR(h:(g.map nrm).Perm (qs.map nrm)):F9 g=F9 qs:=by
 unfold F9 LJ
 let:(g.map λx=>VH (nrm x)).Perm (qs.map λx=>VH (nrm x)):=by
  let:=h.map VH;rwa [BC,BC]at this
 rw[XI ((Il _).trans (this.trans (Il _).symm)) (Qa _) (Qa _)]
theorem aA(h:Tz p ts):Ur ts=F9 ts:=by
 unfold Ur F9 LJ;rw[show(ts.map λx=>VH (nrm x))=ts.map λx=>[x.1,x.2]from Ck λt g=>by rw[Yk (h.1 t g).2.1];rfl];rfl
theorem nQ(g:¬XP):-F9 g=-g:=by
 let:=(J7 g).length_eq
 ext
theorem AAH(h:HM p g):(F9 g).Pairwise λa b=>ltL [a.1,a.2] [b.1,b.2]:=by
 let i:((F9 g).map VH).Pairwise λa b=>ltL b a=false:=by
  rw[XC];exact Qa _
 rw[D2]at i;let m:=(AAG h).2
 refine(i.and m).imp λ{a b} #[o,s]=>?_
 cases c:ltL [a.1,a.2] [b.1,b.2]with
 | true=>rfl
 | false=>
  let:=Srt.Yr _ _ c o
  grind
theorem bsP(x:g)(f:g->⇑i):(!x).bind f=f x:=G1 rfl (Eq.refl _)
theorem bnP(s:g)(q:g->⇑(Fw ρ i)):BB (!.nx s) q=q s:=G1 rfl (Eq.refl _)
def rowH(p:Nat):Str:=VD "places" [p]
def YW(t:Int×Int):Str:=VD "tie" [t.1.toNat,t.2.toNat]
def Hl(p:Nat)(ts:¬XP):¬Str:=rowH p :: ts.map YW
def fI(p:Nat)(ts:¬XP):Str:=Cj #[[10].toArray] (Hl p ts)
theorem nE(g:c≠d):∀{xs:¬¬Nat},(∀x∈xs,c∉x)->c∉jn d xs
 | [],_=>CB
 | [x],h=>h x Aj
 | x :: y :: r,h=>by
  intro hm
  rcases BO.mp hm with hm | hm
  ·exact h x Aj hm
  ·rcases Am.mp hm with hm | hm
   ·exact g hm
   ·exact nE g (λz i=>h z (AY _ i)) hm
theorem fO(hf:10∉first.cps.toList)(h:∀n∈i,n < 61):10∉(VD first i).cps.toList:=by
 unfold VD;rw[L7]
 refine nE (by decide) λx m=>?_
 let#[p,g,rfl]:=BN.mp m
 rcases Am.mp g with rfl | g
 ·exact hf
 ·let#[n,o,rfl]:=BN.mp g
  exact Yj (h n o) (by ext)
section
variable{p:Nat}{ts:¬XP}
theorem lO(o:p<=60)(i:Tz p ts)(m:t∈ts):∀n∈[t.1.toNat,t.2.toNat],n < 61:=λn g=>by
 let:=i.1 t m;simp only[Am,CB,or_false]at g
 rcases g with rfl | rfl <;> lia
theorem YV(i:p<=60)(m:Tz p ts)(g:r∈Hl p ts):-r<=21/\10∉r.cps.toList:=by
 unfold Hl at g
 rcases Am.mp g with rfl | g
 ·let h:∀n∈[p],n < 61:=λn o=>by rw[AV.mp o];lia
  exact#[VC ∅ ∅ h,fO ∅ h]
 ·let#[t,s,rfl]:=BN.mp g
  let h:=lO i m s;exact#[VC ∅ ∅ h,fO ∅ h]
theorem Qj:-Hl p ts=-ts+1:=by unfold Hl;simp
theorem iS(g:p<=60)(i:Tz p ts)(o:-ts<=1000):PY ("\n" : Str) (Hl p ts)=!fI p ts:=by
 rw[ss];refine joinOk_of (λr m=>(YV g i m).1) ?_;rw[Qj];show(-ts+1) * 22<=_;lia
theorem cm(i:p<=60)(m:Tz p ts)(o:-ts<=1000):HG (fI p ts) ("\n" : Str)=!Hl p ts:=by
 rw[ss];refine Kp (by unfold Hl;simp) (λr g=>(YV i m g).2) ?_
 let:=L6 #[[10].toArray] 21 (Hl p ts) λr g=>(YV i m g).1
 rw[Qj]at this
 let s:(-ts+1) * (21+-(#[[10].toArray]:Str))<=100000:=by
  show(-ts+1) * 22<=_;lia
 grind
theorem yN(i:p<=60):DX (rowH p) ("places" : Str) 1=!(![(p:Int)]):=XY ∅ ∅ ∅ λn g=>by rw[AV.mp g];omega
theorem AAI(m:p<=60)(g:Tz p ts)(i:t∈ts):DX (YW t) ("tie" : Str) 2=!(![t.1,t.2]):=by
 let:=XY (first:="tie") ∅ ∅ ∅ (lO m g i);let h:=g.1 t i
 rw[show([t.1.toNat,t.2.toNat].map λn:Nat=>(n:Int))=[t.1,t.2] by
  simp only[At,IT]
  rw[Cn h.1,Cn ∅]]at this
 exact this
theorem XS:∀l:¬XP,N7 (l.map λt=>[t.1,t.2])=!l
 | []=>rfl
 | t :: l=>by
  show(N7 (l.map λt=>[t.1,t.2])).map ((t.1,t.2) :: ·)=_;rw[XS l];rfl
theorem ka(Q:1<=p)(E:p<=60)(C:Tz p ts)(R:-ts<=1000)(G:ts.Pairwise λa b=>ltL [a.1,a.2] [b.1,b.2]=true):VR (fI p ts)=!(p,F9 ts):=by
 unfold VR VM;simp only[AF];rw[cm E C R];simp only[AF,Bw];rw[show atI (Hl p ts) 0=!rowH p from JA (Gs _) rfl];simp only[AF];rw[yN E];simp only[AF];rw[show atI [(p:Int)] 0=!(p:Int)from JA (Gs _) rfl];simp only[AF];rw[wX (by lia:(1:Int)<=p),qX rfl,wX (by lia:(p:Int)<=60)];rw[Op _ ∅,show(1:Int).toNat=1 from rfl,show(Hl p ts).drop 1=ts.map YW from rfl]
 let H:∀(i:Nat) (x:Int×Str),(M6 (ts.map YW))[i]?=!x->∃t,ts[i]?=!t/\x.2=YW t:=λi x A=>by
  unfold M6 at A;rw[Al,Jt,Al]at A
  cases o:ts[i]? with
  | none=>ext
  | some t=>rw[o]at A;cases A;ext
 let I:-M6 (ts.map YW)=-ts:=by unfold M6;simp
 refine Ok.is (OkF.out (OkF.seq (OkF.for (λ(g:¬(Int×Str)) (s:¬YP)=>s=[-1,-1] :: (ts.take (-g)).map λt=>[t.1,t.2]) (by rfl) (λg x s A S J=>?_)) λs L=>?_))
 ·let#[r,T]:=S
  let U:(M6 (ts.map YW))[g.length]?=!x:=by
   rw[<-T];simp
  let#[t,o,ex]:=H _ x U;let B:=CH o;let N:=C.1 t B;rw[ex,AAI E C B];simp only[AF];rw[show atI [t.1,t.2] 0=!t.1 from JA (Gs _) rfl,show atI [t.1,t.2] 1=!t.2 from JA ∅ rfl];simp only[AF];rw[wX N.2.1,qX rfl,wX N.2.2];let O:=(AE.mp o).1
  let m:∃y,atI s (-1)=!y/\ltL y [t.1,t.2]:=by
   subst J
   cases X:-g with
   | zero=>
    refine#[[-1,-1],?_,?_]
    ·rfl
    ·unfold ltL
     rw[qY (by omega)];exact wX (by omega)
   | succ k=>
    rw[X]at O o
    let P:k < -ts:=by lia
    refine#[[ts[k].1,ts[k].2],?_,?_]
    ·rw[DJ,BX P,BQ,<-List.cons_append]
     exact pN
    ·let:=La.mp G k (k+1) P O (by ext)
     ext
  let#[y,Y,Z]:=m;rw[Y];simp only[AF];rw[fw,Z]
  let hsl:-s<=1001:=by rw[J];simp;grind
  rw[JN ∅];refine OkF.nx ?_;rw[J,Aa,Ay,DJ,o,BQ];rfl
 ·rw[I,pZ]at L
  subst L;rw[Op _ ∅,show(1:Int).toNat=1 from rfl,iE,ut,XS ts];simp only[AF];unfold qW;rw[qX #[by omega,by omega,C.fit,by lia],Ap];exact OkF.rt rfl
end
theorem lU{n:Int}(h:0<=n):(cG (toString n))=tS n.toNat:=by
 unfold tS;rw[Cn h]
theorem pl_s:("places " : Str)=("places" : Str)++#[[32].toArray]:=by rfl
theorem ti_s:("tie " : Str)=("tie" : Str)++#[[32].toArray]:=by rfl
theorem rf(p:Nat):rowH p=("places " : Str)++tS p:=by
 rfl
theorem re(t:Int×Int):YW t=("tie " : Str)++tS t.1.toNat++(" " : Str)++tS t.2.toNat:=by
 rw[ti_s,lX];show("tie" : Str)++#[[32].toArray]++(tS t.1.toNat++#[[32].toArray]++tS t.2.toNat)=_;rw[Ch,Ch,Ch,Ch,Ch]
theorem big:1000<=sizeLine:=by decide
theorem oV{n:Int}(h:0<=n)(g:n < 61):Wq n=!tS n.toNat:=by
 unfold Wq;rw[qX,lU h];let#[m,rfl]:=bo h
 let:m < 61:=by lia
 exact(show ∀m∈Ca 61,((m:Nat):Int).natAbs.log2 < 1920 by decide +kernel) m (Ea.mpr this)
theorem YM{n:Int}(h:0<=n)(g:n < 61):KF n=!tS n.toNat:=by
 unfold KF;rw[qX (by rw[qY (by ext)];lia),lU h]
theorem IR(a b:Str):-(a++b)=-a+-b:=TF a b
def gn(W:Wd)(t:Str)(r:¬Str):Prop:=∀S:Sto,∃(g:Sto) (n:Nat),Ka W [.str t] S=.ok (.ref n) g/\Keeps S g/\-S<=n/\g[n]?=!.lst (r.map D.str)
open Classical in
def KQ(t:Str):⇑(¬Str):=if h:∃r,∀W,gn W t r then !h.choose else none
theorem bW(W:Wd)(h:∀W,gn W t r):KQ t=!r:=by
 let m:∃r,∀W,gn W t r:=#[r,h]
 unfold KQ;rw[dif_pos m];obtain⟨S,n,e,-,-,q⟩:=m.choose_spec W [];obtain⟨A,B,o,-,-,g⟩:=h W [];rw[e]at o
 injection o with i s
 injection i with i
 subst i s;rw[q]at g
 injection g with g
 injection g with g
 exact congrArg some ((List.map_inj_right λz z e=>D.str.inj e).mp g)
set_option tactic.hygienic true in
theorem cZ(W:Wd)(t:Str):VF (Ka W) [.v (D.str t)] (rN (oL D.str)) (KQ t):=λv g S i m=>by
 unfold KQ at g;split at g
 ·rename_i h
  match i,m with
  | [d],#[e,_]=>
   cases e;cases g;let#[C,n,o,s,A,B]:=h.choose_spec W S;exact#[_,C,o,s,n,rfl,A,B]
 ·cases g
section
variable{W:Wd}{wo:Ob}{Du:O9}{p q:Str×Str}
theorem wj(i:OW W wo Du p)(hq:OW W wo Du q)(e:p.1=q.1):p.2=q.2:=by
 let g:Dsk W wo Du 1 0 2 3 [wo,.ins W.Desk [("web",.ref 0),("replies",.ref 2),("duels",.ref 3)],.dK [],.dT [],.lst ((D6 p.1 " ").map D.str)] []:=
  #[rfl,rfl,rfl,λe m=>(nomatch m),DV _,#[by decide,by decide,by decide,by decide,by decide],by show 2 < 5;decide]
 let#[o,_,s,_]:=i.2 1 0 2 3 4 _ [] g (by ext) rfl;let#[A,_,B,_]:=hq.2 1 0 2 3 4 _ [] g (by ext) (by rw[<-e];rfl)
 ext
end
section
variable{W:Wd}{o:Nat}{us:¬XP}{Du:Wd->O9}{ps:¬(Str×Str)}
def aZ(r:Str):Prop:=-r<=60/\10∉r.cps.toList
theorem ZL(N:1<=o)(m:o<=60)(C:Tz o us)(X:-us<=400)(E:us.Pairwise λa b=>ltL [a.1,a.2] [b.1,b.2]=true)(G:F9 us=us)(L:-ps<=100)
  (H:∀p∈ps,aZ p.1/\∀W,OW W (Jn W (o,us)) (Du W) p):∃t,PY "\n" (Hl o us++("" : Str) :: ps.map (·.1))=!t/\∀W,gn W t (ps.map (·.2)):=by
 let I:∀r∈Hl o us++("" : Str) :: ps.map (·.1),r.length<=60/\10∉r.cps.toList:=λr hm=>by
  rcases BO.mp hm with hm | hm
  ·let:=YV m C hm
   exact#[by lia,this.2]
  ·rcases Am.mp hm with rfl | hm
   ·exact#[by decide +kernel,by decide +kernel]
   ·let#[p,g,rfl]:=BN.mp hm
    exact(H p g).1
 let Y:-(Hl o us++("" : Str) :: ps.map (·.1))<=600:=by
  rw[Aa,Qj,Az,AN];lia
 let O:∀x∈Hl o us,x≠("" : Str):=λx i e=>by
  subst e;unfold Hl at i
  let B:∀(first:Str) (A:¬Nat),A≠[]->VD first A≠("" : Str):=λfirst A J e=>by
   let:=congrArg (λs:Str=>s.cps.toList) e;unfold VD at this;rw[L7]at this
   cases A with
   | nil=>exact J rfl
   | cons n A=>
    let h:first.cps.toList++32 :: jn 32 (((n :: A).map tS).map (·.cps.toList))=(("" : Str)).cps.toList:=this
    rw[show(("" : Str)).cps.toList=[] by rfl]at h;simp at h
  rcases Am.mp i with i | i
  ·exact B _ _ (by ext) i.symm
  ·let#[t,_,i]:=BN.mp i
   exact B _ _ (by ext) i
 refine#[Cj #[[10].toArray] (Hl o us++("" : Str) :: ps.map (·.1)),?_,λW=>?_]
 ·rw[ss]
  refine joinOk_of (λr hm=>(I r hm).1) ?_;show _ * 61<=_;lia
 ·refine λS=>eN S ?_ O (iS m C ∅) (λS=>?_) (λp q g P e=>wj g P e) (λp g=>#[(H p g).2 W,(H p g).2 W]) L
  ·rw[ss]
   refine Kp ∅ (λp g=>(I p g).2) (Ab (L6 _ 60 _ λp g=>(I p g).1) ?_);show _ * 61<=_;omega
  ·let e:=ka N m C ∅ E
   rw[G]at e;let#[d,Q,R,T,n,rfl,L,U]:=lF W _ _ e S [.str (fI o us)] #[rfl,trivial];exact#[n,Q,R,T,U]
end
open L2 L4
section
variable{o:Nat}{us:¬XP}{kd:Str}
theorem Ve:z∈Ee us x↔((x:Int),z)∈us∨(z,(x:Int))∈us:=by
 rw[<-dJ];exact XJ.symm
theorem Xa:∀{us:¬XP},us.Nodup->(∀t∈us,t.1 < t.2)->(Ee us x).Nodup
 | [],_,_=>Gr
 | t :: us,h,g=>by
  let i:=Xa (x:=x) (CA.mp h).2 λs C=>g s (AY _ C)
  let B:=(CA.mp h).1;let lt:=g t Aj
  let e:Ee (t :: us) x=((if t.1=(x:Int)then[t.2]else[])++(if t.2=(x:Int)then[t.1]else[]))++Ee us x:=by
   unfold Ee;rw[kL]
  rw[e]
  let lt':∀a b:Int,(a,b)∈us->a < b:=λa b hm=>g _ (AY _ hm)
  by_cases m:t.1=(x:Int)
  ·rw[qX m,qY (by grind),CQ]
   show(t.2 :: Ee us x).Nodup;rw[CA];refine#[λz=>?_,i]
   rcases Ve.mp z with z | z
   ·rw[<-m]at z;exact B z
   ·let:=lt' _ _ z;lia
  ·rw[qY m,qH]
   by_cases A:t.2=(x:Int)
   ·rw[qX A]
    show(t.1 :: Ee us x).Nodup;rw[CA];refine#[λz=>?_,i]
    rcases Ve.mp z with z | z
    ·let:=lt' _ _ z;lia
    ·rw[<-A]at z;exact B z
   ·rw[qY A];exact i
theorem Tz.ties(h:Tz o us)(ho:o<=60):O5 o us:=by
 let A:∀g:Int,0<=g->g < o->∀x∈nr us g.toNat,0<=x/\x < o/\x≠g:=λg m s x i=>by
  rw[dJ,Cn m]at i
  rcases i with i | i
  ·let:0<=g/\g < x/\x < o:=h.1 _ i;grind
  ·let:0<=x/\x < g/\g < o:=h.1 _ i;lia
 let B:∀g:Int,0<=g->g < o->(nr us g.toNat).Nodup:=λg G G=>(HH _).nodup_iff.mpr (Xa h.2 λt C=>(h.1 t C).2.1)
 refine#[ho,λg m s=>?_,A,B];let E:=CA.mpr #[λz=>(A g m s g z).2.2 rfl,B g m s]
 let:=SD (k:=GC 0 o) E λx i=>by
  rw[G5]
  rcases Am.mp i with rfl | i
  ·ext
  ·let:=A g m s x i;ext
 rw[Ct,Az]at this;lia
structure D1G(o:Nat)(us:¬XP)(kd:Str)(f:Fp)(T:TL):Prop where
 fe:Gn (o,us) 1 kd=!f
 fk:Fk o us kd f
 te:Hs f=!T
 one:One o (Nr us) (λn=>BI T (n:Int))
 dl:Dl f o (cl1 o) (B1 o us)
theorem ABO(g:O5 o us)(i:1<=o)(kd:Str):∃f T,D1G o us kd f T:=by
 let#[f,e,F]:=uB g i;let d:=dl_1 g F;let#[T,m,s]:=oi d;exact#[f,T,e,F,m,xc s,d]
theorem XH(g:ws≠[])(i:-ws<=6)(h:∀w∈ws,w.length<=10/\32∉w.cps.toList)(e:c=Cj #[[32].toArray] ws):HG c " " = !ws:=by
 subst e;rw[lX];refine Kp g (λw hw=>(h w hw).2) (Ab (L6 _ 10 _ λw hw=>(h w hw).1) ?_);show _ * 11<=_;lia
theorem VX(s:-g<=5)(h:∀w∈g,w.length<=10/\10∉w.cps.toList):aZ (Cj #[[32].toArray] g):=by
 refine#[Ab (L6 _ 10 _ λw hw=>(h w hw).1) ?_,?_]
 ·show _ * 11<=_
  lia
 ·rw[L7]
  refine nE (by decide) λx i=>?_
  let#[p,m,rfl]:=BN.mp i;exact(h p m).2
abbrev Kd(k:Str):Prop:=k = "one"∨k = "all"
theorem yB(h:Kd k):-k<=10/\32∉k.cps.toList/\10∉k.cps.toList:=by
 rcases h with rfl | rfl <;> exact#[by decide +kernel,by decide +kernel,by decide +kernel]
theorem Sn(h:m < 61):-tS m<=10/\32∉(tS m).cps.toList/\10∉(tS m).cps.toList:=#[by let:=(Og h).2;lia,Yj h (by ext),Yj h (by ext)]
theorem la_w:-("lasts" : Str)<=10/\32∉("lasts" : Str).cps.toList/\10∉("lasts" : Str).cps.toList:=#[by decide +kernel,by decide +kernel,by decide +kernel]
theorem ca_w:-("call" : Str)<=10/\32∉("call" : Str).cps.toList/\10∉("call" : Str).cps.toList:=#[by decide +kernel,by decide +kernel,by decide +kernel]
theorem wa(hm:m < o)(ho:o<=60):Stn W (Jn W (o,us)) [tS m] [(m:Int)]:=by
 refine AAU (W:=W) (o:=(o:Int)) rfl (λS=>?_) ∅;let#[d,g,e,kp,rfl]:=SY W _ _ (Va (m:=m) ∅) S [.str (tS m)] #[rfl,trivial];exact#[g,e,kp]
def SF(k:Str)(m:Nat):Str:=Cj #[[32].toArray] ["lasts",k,tS m]
def gj(k:Str)(c m:Nat):Str:=Cj #[[32].toArray] ["call",k,tS c,tS m]
def gY(s c:Nat):Str:=("falls in round " : Str)++tS s++(" at " : Str)++tS c
theorem uC{s c:Nat}(m:s < 61)(A:c < 61):bG (!((s:Int),(c:Int)))=!gY s c:=by
 let g:=oV (n:=(s:Int)) ∅ ∅;let i:=oV (n:=(c:Int)) ∅ ∅;rw[Ap]at g i;let B:=(Og m).2;let C:=(Og A).2
 let E:-("falls in round " : Str)=15:=by decide +kernel
 let G:-(" at " : Str)=4:=by decide +kernel
 let hb:=big;show KG (!("falls in round " : Str)) (KG (Wq (s:Int)) (KG (!(" at " : Str)) (KG (Wq (c:Int)) jD))) NP=_;unfold KG;rw[g,i];simp only[bsP];rw[Str.empty_append,qX (by decide),qX (by rw[IR];lia),qX (by rw[IR,IR];lia),qX (by rw[IR,IR,IR];lia)];unfold jD;rw[qX (by rw[IR,IR,IR];omega)];rfl
theorem gX(D:D1G o us kd f T)(ho:o<=60)(hm:m < o)(e:BI T (m:Int)=!x):∃s c:Nat,x=((s:Int),(c:Int))/\s < 61/\c < 61:=by
 by_cases g:Far o (Nr us) m
 ·let#[c,q,l]:=Tu D.one hm g
  rw[e]at q;exact#[1,c,B0 q,by decide,by let:=l.1.1;lia]
 ·by_cases i:∃c,c < o/\c≠m/\Far o (Nr us) c
  ·let#[c,q,l]:=fW D.one hm g i
   rw[e]at q;exact#[2,c,B0 q,by decide,by let:=l.1.1;lia]
  ·let q:=aU D.one hm g i
   rw[e]at q;cases q
def dueL(v:⇑XP):Str:=match v with
 | none=>"lasts"
 | some z=>gY z.1.toNat z.2.toNat
theorem dA{f:Fp}{T:TL}(D:D1G o us kd f T)(i:Kd kd)(ho:o<=60){m:Nat}(hm:m < o):aZ (SF kd m)/\∀W,OW W (Jn W (o,us)) (duW W (o,us)) (SF kd m,dueL (BI T (m:Int))):=by
 let hw:=Sn (m:=m) ∅
 let g:∀w∈[("lasts" : Str),kd,tS m],w.length<=10/\32∉w.cps.toList/\10∉w.cps.toList:=λw h=>by
  simp only[Am,CB,or_false]at h
  rcases h with rfl | rfl | rfl
  ·exact la_w
  ·exact yB i
  ·exact hw
 refine#[VX ∅ λw h=>#[(g w h).1,(g w h).2.2],λW=>?_];refine iq (n:=(m:Int)) (XH (by ext) ∅ (λw h=>#[(g w h).1,(g w h).2.1]) rfl) (oy D.fe D.te) (gd D.fe) rfl ?_ ?_ i ∅ (wa hm ho)
 ·rw[D.fk.nu]
  exact nD cp (Jk.mpr #[hm,rfl])
 ·rw[Y5 D.fe D.te]
  cases e:BI T (m:Int)with
  | none=>rfl
  | some x=>
   let#[s,c,rfl,A,B]:=gX D ho hm e;show bG (!((s:Int),(c:Int)))=!gY (s:Int).toNat (c:Int).toNat;rw[Ap,Ap];exact uC A B
def uG(v:⇑XP)(c:Nat):Str:=if v.isSome then "beaten" else tS c
theorem ir(B:O5 o us)(D:D1G o us kd f T)(C:Kd kd)(hm:m < o)(s:c < o)(g:c≠m):aZ (gj kd c m)/\∀W,OW W (Jn W (o,us)) (duW W (o,us)) (gj kd c m,uG (BI T (m:Int)) c):=by
 let E:=B.sm;let hw:=Sn (m:=m) ∅;let i:=Sn (m:=c) ∅
 let A:∀w∈[("call" : Str),kd,tS c,tS m],w.length<=10/\32∉w.cps.toList/\10∉w.cps.toList:=λw h=>by
  simp only[Am,CB,or_false]at h
  rcases h with rfl | rfl | rfl | rfl
  ·exact ca_w
  ·exact yB C
  ·exact i
  ·exact hw
 refine#[VX ∅ λw h=>#[(A w h).1,(A w h).2.2],λW=>?_]
 let Q:1<=o:=by lia
 refine mE (n:=(m:Int)) (XH (by ext) ∅ (λw h=>#[(A w h).1,(A w h).2.1]) rfl) (oy D.fe D.te) (gd D.fe) rfl ?_ ?_ C (wa s E) (wa hm E)
 ·rw[D.fk.nu]
  exact nD cp (Jk.mpr #[hm,rfl])
 ·refine uH D.fe D.te ?_ (λh=>?_) λh=>?_
  ·unfold Iq Io
   rw[wX (by lia:(0:Int)<=c),qX rfl,wX (by lia:(c:Int) < o)];rw[wY (by rw[AV];lia)];rfl
  ·unfold uG
   rw[qX h]
  ·let G:=D.one.no m hm h c s g
   let#[b,H,R,I]:=jr D.dl;refine#[b,[(c:Int)],H,λS d J=>?_,?_]
   ·let e:=jQ B D.fk hm #[s,g] G.1 ((I c).mpr #[s,G.2])
    let#[U,L,N,kp,rfl]:=Uh W f m c b _ e S [d,.int m,.int c,.int b] #[J,rfl,rfl,rfl,trivial];exact#[L,N,kp]
   ·unfold uG
    rw[h,qY ∅];unfold R1 Rv
    rw[Gq (f:=λx:Int=>tS x.toNat) ∅ λx O=>by
     rw[AV.mp O]
     exact(bsP _ _).trans (YM ∅ ∅)]
    simp only[bsP];rw[At,IT,Ap,joinOk_of (λp P=>by rw[AV.mp P];exact i.1) (by show 1 * (10+-(" " : Str))<=_;rw[show(" " : Str).length=1 by decide +kernel];decide)];rfl
end
def KM(g:YP)(i:Int):⇑(Fw Int Unit):=
 BB (if (decide (i < (-g:Int))) then(atI g i).bind λm=>!.rt m else !.nx ()) λz=>!.rt (0:Int)
def Df(g:YP)(i:Int):⇑Int:=Gu (KM g i)
theorem GU(W:Wd)(g:YP)(i:Int):VF (EQ W) [.v (eF g),.v (D.int i)] (rV D.int) (Df g i):=by
 refine Ec (B:=λz=>[]) ?_;unfold OS KM;exact(Av (G3 (B:=(λ(_:Unit)=>[.v (eF g),.v (D.int i)])) (Fy (kt AL (fE AL))) (Dx (wB AL AL)) (HP (.refl _))) (λz=>(Dx Bf)))
def Mh(O:YP)(A0:Int):⇑(Fw (¬XP) Unit):=
 BB ((Df O (1:Int)*>λP=>!(if P < 0 then (unop% Neg.neg P) else P))*>λx8=>!.nx x8) λv1=>BB (((Df O (0:Int)*>λϮ=>!Ϯ / 80)*>λQ=>!Q % 4)*>λR=>!.nx R) λv9=>BB ((![]).bind IS*>λS=>!.nx S) λT=>BB ((![]).bind IS*>λU=>!.nx U) λX=>BB (mH (1:Int) A0*>λY=>Eu Y (v1,T,X) λ(s:Int×(¬XP)×(¬XP)) i=>E9 (λA=>(A.1,A.2.1,A.2.2)) ((!i).bind Ql*>λZ=>Eu Z (s.1,s.2.1,s.2.2) λ(g:Int×(¬XP)×(¬XP)) m=>BB ((((((((!(O,((((2:Int)+m)+i),())))*>λB=>Df B.1 B.2.1)*>λx38=>!x38 % 1000000007)*>λx41=>dM (31:Int) m*>λx42=>!x41+x42)*>λx43=>!x43+i)*>λx45=>!x45 * 48271)*>λx46=>!x46 % 2147483629)*>λx47=>!.nx x47) λC=>BB ((((dM C C*>λx51=>!x51 % 2147483629)*>λx52=>!x52 / 8)*>λx53=>!x53 % 4)*>λx54=>!.nx x54) λE=>BB (((!(decide ((g.1 % 2)=(1:Int))) :: ((decide (E < (1:Int))) :: ((decide (E < (3:Int))) :: ((not (decide ((g.1 % 64)=(37:Int)))) :: [])))).bind IS*>λl74=>atI l74 v9)*>λx76=>!.nx x76) λv55=>BB (!.nx (g.1 / 2)) λv77=>E9 (λG=>(v77,G.1,G.2)) (if v55=true then E9 (λv80=>(v80,g.2.2)) (NS g.2.1 (m,i)*>λl82=>!.nx l82)else E9 (λv85=>(g.2.1,v85)) (NS g.2.2 (m,i)*>λl87=>!.nx l87)))) λo=>BB ((if (decide (v9=(3:Int))) then !decide ((2:Int) < (-o.2.2:Int))else !false)*>λH=>if H=true then E9 (λI=>I) ((bI o.2.1 (HK o.2.2 (!(2:Int)) none)*>λJ=>!Ur J)*>λL=>!.nx L)else !.nx o.2.1) λN=>!.rt N
def J3(g:YP)(i:Int):⇑(¬XP):=Gu (Mh g i)
theorem YJ(W:Wd)(o:YP)(s:Int):VF (M3 W) [.v (eF o),.v (D.int s)] (rN (oL (eP D.int D.int))) (J3 o s):=by
 refine Ec (B:=λz=>[]) ?_;unfold RM Mh;exact(Av (DC (wJ (CN (C2 (AL rfl) (C2 (Bf rfl) CT)) (λA=>GU W A.1 A.2.1) (λz=>rfl) E7))) (λZ=>(Av (DC (Fq rfl (GR rfl (CN (C2 (AL rfl) (C2 (Bf rfl) CT)) (λϥ=>GU W ϥ.1 ϥ.2.1) (λz=>rfl) E7)))) (λG=>(Av (FO (DD (D5 E6))) (λH=>(Av (FO (DD (D5 E6))) (λI=>(Av (Ew (W6 (Bf rfl) (AL rfl)) E2 (.refl _) (λJ L=>(Cq (Ew (Fd (AL rfl)) E2 (.refl _) (λN O=>(Av (DC (Fq rfl (qv rfl (Ik (Ik (Fq rfl (CN (C2 (AL rfl) (C2 (Ik (Ik (Bf rfl) (AL rfl)) (AL rfl)) CT)) (λg=>GU W g.1 g.2.1) (λz=>rfl) E7)) (cT (Bf rfl) (AL rfl))) (AL rfl))))) (λP=>(Av (DC (Fq rfl (GR rfl (Fq rfl (cT (AL rfl) (AL rfl)))))) (λQ=>(Av (DC (EK (JS (DD (D5 (Ek (QV Ds LP (Fq rfl (AL rfl)) (Bf rfl)) (Ek (kt (AL rfl) (Bf rfl)) (Ek (kt (AL rfl) (Bf rfl)) (Ek (Zr Ds LP (Fq rfl (AL rfl)) (Bf rfl)) E6))))))) (AL rfl))) (λR=>(Av (DC (GR rfl (AL rfl))) (λS=>(Cq (G3 (cW (AL rfl)) (Cq (KD rfl (Ko (AL rfl) (AL rfl)) rfl) (λT=>(.refl _))) (Cq (KD rfl (Ko (AL rfl) (AL rfl)) rfl) (λU=>(.refl _)))) (λX=>(.same (.same (.same (.same (.same (.same (.same (.drop (.drop (.drop .nil)))))))))))))))))))))) (λY=>(.same (.same (.same (.same (.same (.same (.drop (.same (.same (.same .nil)))))))))))))) (λi=>(Av (G3 (B:=(λ(m:(¬XP))=>[.v (eF o),.v (D.int s),.v (D.int i.1),.v (D.int G),.w 4 ((oL (eP D.int D.int)) m),.w 5 ((oL (eP D.int D.int)) i.2.2),.u,.u,.u,.u])) (Ud (Fy (QV Ds LP (AL rfl) (Bf rfl))) (Fy (lA (QU (JF rfl)) (Bf rfl)))) (Cq (FO (Zq (JS (q9 (JF rfl) (JS (QW (JF rfl) (Oa (Bf rfl)) Oc)))))) (λC=>(.refl _))) (HP (.refl _))) (λE=>(QQ rfl)))))))))))))
def Pr(C:Int)(E:(¬XP))(i:Int):⇑(Fw YP Unit):=
 BB ((![]).bind IS*>λG=>!.nx G) λH=>BB ((!C).bind Ql*>λm=>Eu m H λ(B:YP) g=>E9 (λϢ=>Ϣ) ((if (not (decide (g=i))) then !not (inG ((if g < i then g else i),(if g > i then g else i)) E)else !false)*>λo=>if o=true then E9 (λs=>s) (NS B g*>λA=>!.nx A)else !.nx B)) λI=>!.rt I
def KR(g:Int)(i:(¬XP))(m:Int):⇑YP:=Gu (Pr g i m)
theorem Ui(W:Wd)(g:Int)(i:(¬XP))(m:Int):VF (M4 W) [.v (D.int g),.z ((oL (eP D.int D.int)) i),.v (D.int m)] (rN (oL D.int)) (KR g i m):=by
 refine Ec (B:=λG=>[]) ?_;unfold WE Pr;exact(Av (FO (DD (D5 E6))) (λC=>(Av (Ew (Fd AL) E2 (.refl _) (λE s=>(Cq (G3 (B:=(λ(o:YP)=>[.v (D.int g),.z ((oL (eP D.int D.int)) i),.v (D.int m),.w 3 ((oL D.int) o),.v (D.int s)])) (Ud (Fy (Zr Ds LP AL AL)) (Fy (qu (oq Ds Ds) (Ko (fC AL AL) (qw AL AL)) DN))) (Cq (KD rfl AL rfl) (λA=>(.refl _))) (HP (.refl _))) (λϢ=>(.same (.same (.same (.same (.drop .nil))))))))) (λG=>(QQ rfl)))))
def N5(i:Int)(J:(¬XP))(L:Int):⇑(Fw (⇑XP) Unit):=
 BB (KR i J L*>λO=>!.nx O) λN=>BB (((![]).bind IS*>λm=>!not (decide (N=m)))*>λo=>if o=true then((atI N (0:Int)*>λϮ=>!((1:Int),Ϯ))*>λs=>!(!s)).bind λA=>!.rt A else !.nx ()) λz=>BB ((!i).bind Ql*>λB=>Eu B () λ(_:Unit) g=>E9 (λz=>()) ((if (not (decide (g=L))) then(KR i J g).bind λC=>(![]).bind IS*>λE=>!not (decide (C=E))else !false)*>λG=>if G=true then((!((2:Int),g))*>λH=>!(!H)).bind λI=>!.rt I else !.nx ())) λz=>!.rt none
def Kv(g:Int)(i:(¬XP))(m:Int):⇑(⇑XP):=Gu (N5 g i m)
theorem Zz(W:Wd)(i:Int)(m:(¬XP))(o:Int):VF (OJ W) [.v (D.int i),.z ((oL (eP D.int D.int)) m),.v (D.int o)] (rV (eO (eP D.int D.int))) (Kv i m o):=by
 refine Ec (B:=λG=>[]) ?_;unfold S9 N5;exact(Av (Jx (CN (C2 AL (Ri DN (C2 AL CT))) (λs=>Ui W s.1 s.2.1 s.2.2.1) (λG=>rfl) N1)) (λA=>(Av (G3 (Fy (kr Ds DG (JS (DD (D5 E6))))) (Dx (QT (Ko Bf (EK DG Bf)))) (HP (.refl _))) (λG=>(Av (Ew (B:=(λ(_:Unit)=>[.v (D.int i),.z ((oL (eP D.int D.int)) m),.v (D.int o),.y ((oL D.int) A),.u])) (Fd AL) E2 (.refl _) (λG C=>(Cq (G3 (Ud (Fy (Zr Ds LP AL AL)) (Fy (kr Ds (JS (CN (C2 AL (Ri DN (C2 AL CT))) (λg=>Ui W g.1 g.2.1 g.2.2.1) (λG=>rfl) N1)) (JS (DD (D5 E6)))))) (Dx (QT (Ko Bf AL))) (HP (.refl _))) (λG=>(.same (.same (.same (.same (.drop .nil))))))))) (λG=>(Dx Tr)))))))
def Jm(m:Int)(DA:(¬XP))(A:Int):⇑(Fw (Str×Str) Unit):=
 BB (((!("one" : Str) :: (("all" : Str) :: [])).bind IS*>λl7=>atI l7 (A % 2))*>λx9=>!.nx x9) λv1=>BB (jF (A / 4) m*>λB=>!.nx B) λg=>BB (Kv m DA g*>λC=>!.nx C) λi=>BB ((if (decide (((A / 2) % 2)=(0:Int))) then !true else !decide (m=(1:Int)))*>λE=>if E=true then BB (!.nx ("lasts" : Str)) λG=>BB (if i.isSome then E9 (λH=>H) (((((i*>λI=>!I.1).bind KF*>λJ=>Ie ("falls in round " : Str) J)*>λL=>Ie L (" at " : Str))*>λN=>(i*>λO=>!O.2).bind KF*>λP=>Ie N P)*>λQ=>!.nx Q)else !.nx G) λR=>(((Ie ("lasts " : Str) v1*>λS=>Ie S (" " : Str))*>λT=>(!g).bind KF*>λU=>Ie T U)*>λX=>!(X,R))*>λY=>!.rt Y else !.nx ()) λz=>BB ((((bF (A / 4) m*>λZ=>jF Z (m - (1:Int)))*>λx75=>!(g+(1:Int))+x75)*>λx76=>jF x76 m)*>λx78=>!.nx x78) λo=>BB ((!o).bind KF*>λx80=>!.nx x80) λv79=>BB (if i.isSome then E9 (λv83=>v83) (!.nx ("beaten" : Str))else !.nx v79) λs86=>(((((Ie ("call " : Str) v1*>λx90=>Ie x90 (" " : Str))*>λx92=>(!o).bind KF*>λx93=>Ie x92 x93)*>λx94=>Ie x94 (" " : Str))*>λx96=>(!g).bind KF*>λx97=>Ie x96 x97)*>λx98=>!(x98,s86))*>λs=>!.rt s
def HB(g:Int)(i:(¬XP))(m:Int):⇑(Str×Str):=Gu (Jm g i m)
theorem TR(W:Wd)(i:Int)(m:(¬XP))(o:Int):VF (Jp W) [.v (D.int i),.z ((oL (eP D.int D.int)) m),.v (D.int o)] (rV (eP D.str D.str)) (HB i m o):=by
 refine Ec (B:=λG=>[]) ?_;unfold NJ Jm;exact(Av (DC (EK (JS (DD (D5 (Ek Bf (Ek Bf E6))))) (Fq rfl AL))) (λC=>(Av (DC (cU (GR rfl AL) AL)) (λs=>(Av (DC (CN (C2 AL (Ri DN (C2 AL CT))) (λg=>Zz W g.1 g.2.1 g.2.2.1) (λG=>rfl) E7)) (λA=>(Av (G3 (B:=(λ(_:Unit)=>[.v (D.int i),.z ((oL (eP D.int D.int)) m),.v (D.int o),.v (D.str C),.v (D.int s),.v ((eO (eP D.int D.int)) A),.u,.u])) (W9 (Fy (QV Ds LP (Fq rfl (GR rfl AL)) Bf)) (Fy (QV Ds LP AL Bf))) (Av (DC Bf) (λE=>(Av (G3 (Fy (uv fb AL)) (Cq (DC (FP (FP (FP Bf (JG (wG (lB AL)))) Bf) (JG (v0 (lB AL))))) (λG=>(.refl _))) (HP (.refl _))) (λH=>(Dx (Ko (FP (FP (FP Bf AL) Bf) (JG AL)) AL)))))) (HP (.refl _))) (λG=>(Av (DC (cU (Ik (Ik AL Bf) (cU (fG (GR rfl AL) AL) (Rh AL Bf))) AL)) (λI=>(Av (DC (JG AL)) (λJ=>(Av (G3 (Fy (uv fb AL)) (Cq (DC Bf) (λL=>(.refl _))) (HP (.refl _))) (λN=>(Dx (Ko (FP (FP (FP (FP (FP Bf AL) Bf) (JG AL)) Bf) (JG AL)) AL))))))))))))))))
def mL(L:YP):⇑(Fw Bool Unit):=
 BB (Df L (0:Int)*>λx7=>!.nx x7) λi=>BB ((((!((i / 4) % 9) :: (((i / 4) % 9) :: (((i / 4) % 9) :: (((i / 4) % 20) :: [])))).bind IS*>λN=>atI N (i % 4))*>λO=>!(1:Int)+O)*>λP=>!.nx P) λQ=>BB (J3 L Q*>λR=>!.nx R) λm=>BB ((((!Q).bind KF*>λS=>Ie ("places " : Str) S)*>λT=>!T :: []).bind IS*>λU=>!.nx U) λX=>BB (Eu (Ur m) X λ(Y:(¬Str)) o=>E9 (λZ=>Z) (((((!o.1).bind KF*>λx51=>Ie ("tie " : Str) x51)*>λx52=>Ie x52 (" " : Str))*>λx54=>(!o.2).bind KF*>λx55=>Ie x54 x55)*>λx48=>NS Y x48*>λl49=>!.nx l49)) λs57=>BB (NS s57 ("" : Str)*>λl61=>!.nx l61) λv59=>BB ((![]).bind IS*>λx63=>!.nx x63) λv62=>BB (((!(1:Int)+(-L:Int))*>λs=>!(if s < (3:Int)then s else(3:Int))).bind Ql*>λl94=>Eu l94 (v59,v62) λ(A:(¬Str)×(¬Str)) B=>BB (((((((Df L B*>λx76=>!x76 / 3)*>λx77=>!x77+B)*>λx81=>!(x81,()))*>λx83=>!(m,x83))*>λx84=>!(Q,x84))*>λg=>HB g.1 g.2.1 g.2.2.1)*>λx87=>!.nx x87) λC=>BB (NS A.1 C.1*>λl90=>!.nx l90) λv88=>E9 (λv91=>(v88,v91)) (NS A.2 C.2*>λl93=>!.nx l93)) λE=>BB (((PY ("\n" : Str) E.1*>λG=>!(G,()))*>λH=>KQ H.1)*>λI=>!.nx I) λv97=>(if true=true then !decide (v97=E.2)else !false)*>λJ=>!.rt J
def mf(g:YP):⇑Bool:=Gu (mL g)
theorem AAF(W:Wd)(C:YP):VF (gZ W) [.v (eF C)] (rV D.bl) (mf C):=by
 refine Ec (B:=λz=>[]) ?_;unfold vJ mL;exact(Av (DC (CN (C2 AL (C2 Bf CT)) (λG=>GU W G.1 G.2.1) (λz=>rfl) E7)) (λH=>(Av (DC (Ik Bf (EK (JS (DD (D5 (Ek (Fq rfl (GR rfl AL)) (Ek (Fq rfl (GR rfl AL)) (Ek (Fq rfl (GR rfl AL)) (Ek (Fq rfl (GR rfl AL)) E6))))))) (Fq rfl AL)))) (λI=>(Av (Jx (CN (C2 AL (C2 AL CT)) (λi=>YJ W i.1 i.2.1) (λz=>rfl) N1)) (λm=>(Av (FO (DD (D5 (Ek (FP Bf (JG AL)) E6)))) (λJ=>(Av (Ew (B:=(λ(E:(¬Str))=>[.v (eF C),.v (D.int H),.v (D.int I),.y ((oL (eP D.int D.int)) m),.w 4 ((oL D.str) E),.u,.u,.u,.u,.u,.u,.u])) (Rg (Zq DG)) QP (.refl _) (λL N=>(Cq (KD rfl (FP (FP (FP Bf (JG AL)) Bf) (JG AL)) rfl) (λO=>(.same (.same (.same (.same (.same (.drop (.drop (.same (.same (.same (.same (.same .nil)))))))))))))))) (λP=>(Av (KD rfl Bf rfl) (λQ=>(Av (FO (DD (D5 E6))) (λR=>(Av (Ew (B:=(λ(o:(¬Str)×(¬Str))=>[.v (eF C),.v (D.int H),.v (D.int I),.y ((oL (eP D.int D.int)) m),.w 4 ((oL D.str) o.1),.u,.u,.w 7 ((oL D.str) o.2),.u,.u,.u,.u])) (Fd (fC Bf (Ik Bf (fE AL)))) E2 (.refl _) (λS T=>(Av (qk (CN (C2 AL (Ri DG (C2 (Ik (GR rfl (CN (C2 AL (C2 AL CT)) (λs=>GU W s.1 s.2.1) (λz=>rfl) E7)) AL) CT))) (λg=>TR W g.1 g.2.1 g.2.2.1) (λz=>rfl) E7)) (λU=>(Av (KD rfl AL rfl) (λX=>(Cq (KD rfl AL rfl) (λY=>(.same (.same (.same (.same (.same (.same (.same (.same (.drop (.drop (.drop (.same .nil)))))))))))))))))))) (λZ=>(Av (Jx (CN (C2 (Zs Bf JF) CT) (λA=>cZ W A.1) (λz=>rfl) N1)) (λv97=>(Dx (rC (wC (r:=true) DG (by rfl)) (wH Kz DG JF)))))))))))))))))))))
open L2 L4
open Srt (ltL)
theorem WA(g:YP){k:Int}(i:0<=k):Ok (Df g k) (λz=>True):=by
 unfold Df KM
 by_cases c:k < -g
 ·let#[x,m,_]:=WG i c
  rw[wX c,qX rfl,m];exact#[x,rfl,trivial]
 ·rw[wY c,qY AQ]
  exact#[0,rfl,trivial]
structure PL(o:Int)(B:Int×Int->Prop)(n:Nat)(ps ls:¬XP):Prop where
 nd:(ps++ls).Nodup
 rg:∀t∈ps++ls,(0<=t.1/\t.1 < t.2/\t.2 < o)/\B t
 ln:-ps+-ls<=n
section
variable{o:Int}{B B':Int×Int->Prop}{n n':Nat}{ps ls:¬XP}{t:Int×Int}
theorem PL.mono(h:PL o B n ps ls)(i:∀t,B t->B' t)(m:n<=n'):PL o B' n' ps ls:=#[h.nd,λt g=>#[(h.rg t g).1,i t (h.rg t g).2],Ab h.ln m]
theorem PL.of{g ks:¬XP}(h:PL o B n ps ls)(i:(g++ks).Perm (t :: (ps++ls)))(G:-g+-ks=-ps+-ls+1)(m:0<=t.1/\t.1 < t.2/\t.2 < o)(A:Not (B t))(C:∀s,B s->B' s)(hb:B' t):PL o B' (n+1) g ks:=
 #[i.nodup_iff.mpr (CA.mpr #[λz=>A (h.rg t z).2,h.nd]),λs E=>by
  rcases Am.mp (i.mem_iff.mp E)with rfl | z
  ·exact#[m,hb]
  ·exact#[(h.rg s z).1,C s (h.rg s z).2],by let:=h.ln;ext]
theorem PL.p(h:PL o B n ps ls)(g:0<=t.1/\t.1 < t.2/\t.2 < o)(i:Not (B t))(m:∀s,B s->B' s)(hb:B' t):PL o B' (n+1) (ps++[t]) ls:=
 h.of (by rw[BM];exact List.perm_middle) (by rw[Aa,Ay];lia) g i m hb
theorem PL.l(h:PL o B n ps ls)(g:0<=t.1/\t.1 < t.2/\t.2 < o)(i:Not (B t))(m:∀s,B s->B' s)(hb:B' t):PL o B' (n+1) ps (ls++[t]):=
 h.of (by rw[<-BM];exact List.perm_append_singleton _ _) (by rw[Aa,Ay];rfl) g i m hb
end
theorem AAV{v:Int}(g:0<=v)(i:v < 2147483629):dM v v=!v * v:=qX (.inr #[kU (by ext) g,zx i (by ext)])
theorem sZ{o:Nat}(h1:1<=o)(ho:o<=20)(B:YP):Ok (J3 B o) λg=>Tz o g/\-g<=400:=by
 obtain⟨c1,Y,-⟩:=WA B (k:=1) (by ext);obtain⟨I,Z,-⟩:=WA B (k:=0) (by ext);unfold J3 Mh;rw[Y,Z];simp only[AF,Bw,df];let N:=OZ (I / 80) (show(4:Int)≠0 by decide);let s1:=LH (I / 80) (show(0:Int) < 4 by decide);generalize I / 80 % 4=st at N s1 ⊢;rw[fP (by ext) (by ext) (by ext) ∅];refine OkF.out (OkF.seq (OkF.for (λi (s:Int×¬XP×¬XP)=>PL o (λt=>t.2 < 1+-i) (20 * -i) s.2.1 s.2.2) #[by simp,by simp,by simp] ?_) ?_)
 ·rintro i x ⟨H,g,C⟩ hx hp E
  let#[hx1,My]:=Qk hp
  let hxo:1<=x/\x < o:=by lia
  rw[JI (by grind) (by grind)]
  refine OkF.map (OkF.imp (OkF.for (λA (s:Int×¬XP×¬XP)=>PL o (λt=>t.2 < x∨(t.2=x/\t.1 < -A)) (20 * -i+-A) s.2.1 s.2.2) ?_ ?_) ?_ λz h=>h) λs m=>m
  ·exact E.mono (λt G=>.inl (by ext)) (by ext)
  ·rintro A y ⟨H,g,C⟩ hy J E
   let#[hy1,O]:=Qk J;obtain⟨v,e,-⟩:=WA B (k:=2+y+x) ∅;dsimp only at E ⊢;rw[e,fg (by ext) (by grind)];simp only[AF,Bw];let w0:=OZ ((v % 1000000007+31 * y+x) * 48271) (show(2147483629:Int)≠0 by decide);let P:=LH ((v % 1000000007+31 * y+x) * 48271) (show(0:Int) < 2147483629 by decide);generalize (v % 1000000007+31 * y+x) * 48271 % 2147483629=w at w0 P ⊢;rw[AAV w0 P];simp only[AF,Bw,few4];generalize w * w % 2147483629 / 8 % 4=u;obtain⟨b,e5,-⟩:=WG (l:=[decide (H % 2=1),decide (u < 1),decide (u < 3),not (decide (H % 64=37))]) N (by simp;omega);rw[e5];simp only[AF,Bw];let L:=E.ln
   let hb:(-i:Int) < 20/\(-A:Int) < 20:=by grind
   let Q:0<=((y,x):Int×Int).1/\((y,x):Int×Int).1 < ((y,x):Int×Int).2/\((y,x):Int×Int).2 < (o:Int):=#[by show 0<=y;ext,by show y < x;ext,by show x < _;ext]
   let R:Not (((y,x):Int×Int).2 < x∨(((y,x):Int×Int).2=x/\((y,x):Int×Int).1 < -A)):=by show Not (x < x∨(x=x/\y < -A));ext
   let up:∀t:Int×Int,t.2 < x∨(t.2=x/\t.1 < -A)->t.2 < x∨(t.2=x/\t.1 < -(A++[y])):=λt G=>by rw[Aa,Ay];grind
   let un:((y,x):Int×Int).2 < x∨(((y,x):Int×Int).2=x/\((y,x):Int×Int).1 < -(A++[y])):=.inr #[rfl,by show y < _;rw[Aa,Ay];lia]
   let S:20 * -i+-(A++[y])=20 * -i+-A+1:=by rw[Aa,Ay];rfl
   cases b with
   | true=>
    rw[qX rfl,JN (by grind)];refine .nx ?_;rw[S];exact E.p Q R up un
   | false=>
    rw[qY AQ,JN (by grind)];refine .nx ?_;rw[S];exact E.l Q R up un
  ·intro s m
   rw[Ct]at m;refine m.mono (λt G=>?_) (by rw[Aa,Ay];grind);rw[Aa,Ay];omega
 ·rintro⟨H,g,C⟩ m
  rw[Ct]at m;dsimp only at m ⊢;let L:=m.ln;let T:Tz o (g++C):=#[λt G=>(m.rg t G).1,m.nd]
  let sub:∀ks:¬XP,List.Sublist ks (g++C)->Tz o ks:=λks h=>#[λt G=>T.1 t (h.subset G),T.2.sublist h]
  let tp:=sub g (ZX _ _)
  let B:OkF (!.nx g:⇑(Fw (¬XP) (¬XP))) (λg=>Tz o g/\-g<=400) λg=>Tz o g/\-g<=400:=.nx #[tp,by lia]
  refine OkF.seq ?_ λs m=>.rt m
  by_cases c:st=3
  ·rw[wX c,qX rfl]
   simp only[AF]
   by_cases U:(2:Int) < -C
   ·let X:=sub (g++C.drop 2) ((List.Sublist.refl g).append (kM 2 C))
    rw[wX U,qX rfl,Op _ (by ext),show(2:Int).toNat=2 from rfl,Y4 (by rw[G0];lia)];refine .nx ?_;rw[aA X];refine#[X.ts,?_];rw[nQ,Aa,G0];lia
   ·rw[wY U,qY AQ]
    exact B
  ·rw[wY c,qY AQ]
   simp only[AF];rw[qY AQ];exact B
section
variable{o:Nat}{ps:¬XP}
def bH(ps:¬XP)(m c:Int):Bool:=not (decide (c=m))&&not (inG ((if c < m then c else m),(if c > m then c else m)) ps)
def uD(o:Nat)(ps:¬XP)(m:Int):YP:=(GC 0 o).filter (bH ps m)
theorem vH(ho:o<=20)(m:Int):KR o ps m=!uD o ps m:=by
 unfold KR Pr;simp only[AF,df,Bw];rw[JI (by ext) ∅,Ap];refine Ok.is (OkF.out (OkF.seq (OkF.for (λg (s:YP)=>s=g.filter (bH ps m)) rfl (λg x s E B i=>?_)) λs A=>OkF.rt A));let C:=B.length_le;rw[Aa,Ay,Ct]at C
 rw[show(if (not (decide (x=m))) then !not (inG ((if x < m then x else m),(if x > m then x else m)) ps)else !false)=!bH ps m x by
  unfold bH
  cases not (decide (x=m)) <;> rfl]
 simp only[AF]
 let A:-s<=-g:=by rw[i];exact cM _ _
 cases c:bH ps m x with
 | true=>
  rw[qX rfl,JN ∅];refine .nx ?_;rw[i,j8,Zh c,qK]
 | false=>
  rw[qY AQ];refine .nx ?_;rw[i,j8,Zi (by rw[c];exact AQ),qK,CQ]
theorem lL(g:Tz o ps){t:Int×Int}:t∈F9 ps↔t∈ps:=by
 let:=J7 ps;rw[g.nrm]at this;exact this.mem_iff
theorem RG(g:Tz o ps){m c:Nat}:bH ps m c=true↔c≠m/\Not (Nr (F9 ps) m c):=by
 unfold bH Nr;rw[Bo,GP,GP,decide_eq_false_iff_not,dJ,lL g,lL g]
 let i:inG ((if (c:Int) < m then(c:Int)else m),(if (c:Int) > m then(c:Int)else m)) ps=false↔((if (c:Int) < m then(c:Int)else m),(if (c:Int) > m then(c:Int)else m))∉ps:=by
  rw[<-Bool.not_eq_true,tP]
 rw[i]
 constructor
 ·rintro⟨a,b⟩
  refine#[by lia,λz=>b ?_]
  rcases z with z | z
  ·let:=g.1 _ z
   rw[qY (by omega),qX (by ext)];exact z
  ·let:=g.1 _ z
   rw[qX (by ext),qY (by omega)];exact z
 ·rintro⟨a,b⟩
  refine#[by lia,λz=>b ?_]
  by_cases q:(c:Int) < m
  ·rw[qX q,qY ∅]at z
   exact .inr z
  ·rw[qY q,qX ∅]at z
   exact .inl z
theorem Sv{P:Int->Bool}{c:Int}{l:YP}(h:(GC 0 o).filter P=c :: l):∃n:Nat,c=n/\n < o/\P n/\∀d:Nat,d < n->P d=false:=by
 let g:c∈(GC 0 o).filter P:=by rw[h];exact Aj
 let#[i,m]:=Hc.mp g;rw[G5]at i
 obtain⟨n,rfl⟩:∃n:Nat,c=n:=#[c.toNat,by lia]
 refine#[n,rfl,by ext,m,λd s=>?_]
 cases q:P d with
 | false=>rfl
 | true=>
  let up:=(YX 0 o).filter P;rw[h,Hf]at up;let:(d:Int)∈(GC 0 o).filter P:=Hc.mpr #[G5.mpr #[by lia,by lia],q];rw[h]at this
  rcases Am.mp this with z | z
  ·lia
  ·let:=up.1 _ z
   lia
theorem RF(i:Tz o ps){m:Nat}:uD o ps m≠[]↔Far o (Nr (F9 ps)) m:=by
 unfold uD Far
 constructor
 ·intro h
  let#[c,l,e]:=W3 h;obtain⟨n,-,s,g,-⟩:=Sv e;exact#[n,s,(RG i).mp g]
 ·rintro⟨c,s,g⟩ e
  let:(c:Int)∈(GC 0 o).filter (bH ps m):=Hc.mpr #[G5.mpr #[by lia,by ext],(RG i).mpr g];rw[e]at this;exact nomatch this
theorem ay{P:Nat->Prop}{a b:Nat}(g:bZ P a)(hb:bZ P b):a=b:=by
 by_cases c:a < b
 ·exact zX g.1 (hb.2 a c)
 ·by_cases d:b < a
  ·exact zX hb.1 (g.2 b d)
  ·lia
theorem yq(ho:o<=20)(i:Tz o ps){F:Nat->⇑XP}(E:One o (Nr (F9 ps)) F){m:Nat}(hm:m < o):Kv o ps m=!F m:=by
 unfold Kv N5;rw[vH ho];simp only[AF,df,Bw]
 by_cases A:Far o (Nr (F9 ps)) m
 ·let h:=(RF i).mpr A
  rw[wY h];let#[c,l,e]:=W3 h;rw[e,JA (Gs _) rfl];let#[n,rfl,O,P,Q]:=Sv e;let#[I,G,H]:=Tu E hm A
  let:I=n:=ay H #[#[O,(RG i).mp P],by
   rintro d B ⟨_,z⟩
   let:=Q d B;rw[(RG i).mpr z]at this
   cases this]
  rw[G,this];rfl
 ·let h:=EZ λz=>A ((RF i).mp z)
  rw[wX h];simp only[QO,C9,if_false,Bw];rw[JI ∅ ∅,Ap];refine Ok.is (OkF.out (OkF.seq (OkF.for (λg M=>∀d:Nat,d < -g->Not (d < o/\d≠m/\Far o (Nr (F9 ps)) d)) (λd B=>(nomatch B)) (λg x s T R J=>?_)) λs L=>OkF.rt ?_))
  ·let#[C,N]:=Qk R
   rw[zw]at C;subst C;rw[vH ho];simp only[AF]
   by_cases c:-g≠m/\Far o (Nr (F9 ps)) (-g)
   ·rw[wY (by lia:Not ((-g:Int)=m))]
    rw[wY ((RF i).mpr c.2)];refine .rt ?_;let#[I,G,H]:=fW E hm A #[-g,N,c];rw[G,ay H #[#[N,c],J]]
   ·let e:(if (not (decide ((-g:Int)=m))) then !not (decide (uD o ps (-g:Int)=[]))else !false)=!false:=by
     by_cases S:-g=m
     ·rw[wX (by simp_all:(-g:Int)=m)]
      rfl
     ·rw[wY (by lia:Not ((-g:Int)=m)),wX (EZ λz=>c #[S,(RF i).mp z])]
      rfl
    rw[e]
    refine .nx λd B z=>?_
    rw[Aa,Ay]at B
    by_cases q:d=-g
    ·subst q;exact c z.2
    ·exact J d ∅ z
  ·rw[Ct]at L
   exact(aU E hm A (by rintro ⟨c,z⟩;exact L c z.1 z)).symm
end
theorem adS(h:-a+-b<=1000):Ie a b=!a++b:=qX (Ab h big)
theorem AA7:("lasts " : Str)=("lasts" : Str)++#[[32].toArray]:=by decide +kernel
theorem ABT:("call " : Str)=("call" : Str)++#[[32].toArray]:=by decide +kernel
theorem nU(k:Str)(m:Nat):("lasts " : Str)++k++(" " : Str)++tS m=SF k m:=by
 rw[AA7,lX];show _=("lasts" : Str)++#[[32].toArray]++(k++#[[32].toArray]++tS m);rw[Ch,Ch,Ch,Ch,Ch]
theorem uO(k:Str)(c m:Nat):("call " : Str)++k++(" " : Str)++tS c++(" " : Str)++tS m=gj k c m:=by
 rw[ABT,lX];show _=("call" : Str)++#[[32].toArray]++(k++#[[32].toArray]++(tS c++#[[32].toArray]++tS m));simp only[Ch]
theorem nV:-("lasts " : Str)=6:=by decide +kernel
theorem bQ:-("call " : Str)=5:=by decide +kernel
theorem Z8:-(" " : Str)=1:=by decide +kernel
theorem oj:-("falls in round " : Str)=15:=by decide +kernel
theorem at_l:-(" at " : Str)=4:=by decide +kernel
theorem strN{m:Nat}(h:m < 61):KF (m:Int)=!tS m:=by
 let:=YM (n:=(m:Int)) ∅ ∅;rwa [Ap]at this
theorem wO{o m q:Int}(h:0<=m/\m < o)(hq:0<=q/\q < o - 1):0<=(m+1+q) % o/\(m+1+q) % o < o/\(m+1+q) % o≠m:=by
 by_cases c:m+1+q < o
 ·rw[pf ∅ c]
  omega
 ·let:(m+1+q) % o=m+1+q - o:=by
   rw[<-pf (a:=m+1+q - o) (b:=o) (by ext) ∅];exact(Int.sub_emod_right _ _).symm
  omega
section
variable{o:Nat}{ps:¬XP}
abbrev RowG(o:Nat)(ps:¬XP)(p:Str×Str):Prop:=aZ p.1/\∀W,OW W (Jn W (o,F9 ps)) (duW W (o,F9 ps)) p
theorem dB(H:1<=o)(ho:o<=20)(B:Tz o ps)(cell:Int):Ok (HB o ps cell) (RowG o ps):=by
 let C:=B.ts.ties ∅
 obtain⟨k,I,A⟩:∃k,atI [("one" : Str), "all"] (cell % 2)=!k/\Kd k:=by
  let#[k,e,A]:=WG (l:=[("one" : Str), "all"]) (i:=cell % 2) ∅ (by simp;lia);refine#[k,e,?_];let:=CH A;simp only[Am,CB,or_false]at this;exact this
 let#[f,T,D]:=ABO C H k;let R:=OZ (cell / 4) (show(o:Int)≠0 by lia);let S:=LH (cell / 4) (show(0:Int) < o by lia)
 obtain⟨m,hm⟩:∃m:Nat,cell / 4 % (o:Int)=m:=#[(cell / 4 % (o:Int)).toNat,by lia]
 let g:m < o:=by ext
 let U:=(yB A).1;let X:=(Sn (m:=m) ∅).1;unfold HB Jm;simp only[few2,bsP,bnP];rw[I];rw[Yn ∅,hm];simp only[bsP,bnP];rw[yq ho B D.one g];simp only[bsP,bnP];rw[strN ∅]
 by_cases c:cell / 2 % 2=0∨(o:Int)=1
 ·let e:(if decide (cell / 2 % 2=0) then !true else !decide ((o:Int)=1))=!true:=by
   rcases c with c | c
   ·rw[wX c,qX rfl]
   ·rw[wX c]
    split <;> rfl
  rw[e];simp only[bsP];rw[qX trivial];rw[adS (by rw[nV];lia)];simp only[bsP];rw[adS (by rw[IR,nV,Z8];lia)];simp only[bsP];rw[adS (by rw[IR,IR,nV,Z8];lia),nU];refine#[(SF k m,dueL (BI T (m:Int))),?_,dA D A ∅ g]
  cases J:BI T (m:Int)with
  | none=>rfl
  | some x=>
   let#[s,c,rfl,E,G]:=gX D ∅ g J;let Y:=(Sn E).1;let L:=(Sn G).1;simp only[bsP];rw[strN E,strN G];simp only[bsP];rw[adS (by rw[oj];lia)];simp only[bsP];rw[adS (by rw[IR,oj,at_l];lia)];simp only[bsP];rw[adS (by rw[IR,IR,oj,at_l];lia)];show (!(SF k m,("falls in round " : Str)++tS s++(" at " : Str)++tS c))=!(SF k m,gY (s:Int).toNat (c:Int).toNat);rw[Ap,Ap];rfl
 ·let e:(if decide (cell / 2 % 2=0) then !true else !decide ((o:Int)=1))=!false:=by
   rw[wY (λz=>c (.inl z)),qY AQ,wY (λz=>c (.inr z))]
  rw[e];simp only[bsP,C9];rw[qY not_false]
  let N:2<=o:=by
   let:Not ((o:Int)=1):=λz=>c (.inr z)
   lia
  rw[bE ∅ ∅];simp only[bsP];rw[Yn (by grind)];simp only[bsP];rw[Yn ∅];let O:=OZ (cell / 4 / (o:Int)) (show(o:Int) - 1≠0 by lia);let P:=LH (cell / 4 / (o:Int)) (show(0:Int) < (o:Int) - 1 by lia);let Q:=wO (m:=(m:Int)) #[by ext,by ext] #[O,P];generalize ((m:Int)+1+cell / 4 / (o:Int) % ((o:Int) - 1)) % (o:Int)=r at Q
  obtain⟨cc,rfl⟩:∃cc:Nat,r=cc:=#[r.toNat,by lia]
  let L:=(Sn (m:=cc) ∅).1;simp only[bsP,bnP];rw[strN ∅];rw[adS (by rw[bQ];lia)];simp only[bsP];rw[adS (by rw[IR,bQ,Z8];lia)];simp only[bsP];rw[adS (by rw[IR,IR,bQ,Z8];lia)];simp only[bsP];rw[adS (by rw[IR,IR,IR,bQ,Z8];lia)];simp only[bsP];rw[adS (by rw[IR,IR,IR,IR,bQ,Z8];lia),uO];refine#[(gj k cc m,uG (BI T (m:Int)) cc),?_,ir C D A g (by ext) ∅]
  cases BI T (m:Int) <;> rfl
theorem AA6(W:Wd)(Q:-A<=63):mf A=!true:=by
 obtain⟨v,R,-⟩:=WA A (k:=0) ∅;let#[x,ex,C]:=WG (l:=[v / 4 % 9,v / 4 % 9,v / 4 % 9,v / 4 % 20]) (i:=v % 4) ∅ (by simp;lia)
 obtain⟨o,E⟩:∃o:Nat,1+x=o/\1<=o/\o<=20:=by
  let C:=CH C;simp only[Am,CB,or_false]at C
  refine#[(1+x).toNat,?_,?_,?_] <;> rcases C with rfl | rfl | rfl | rfl <;> omega
 let#[ps,S,H,T]:=sZ E.2.1 E.2.2 A;let J:=H.ts
 let U:-F9 ps<=400:=by rw[nQ];exact T
 unfold mf mL;rw[R];simp only[bsP,bnP,few4];rw[ex];simp only[bsP,bnP];rw[E.1,S];rw[strN ∅];simp only[bsP];let lo:=(Sn (m:=o) ∅).1;rw[adS (by rw[show("places " : Str).length=7 by decide +kernel];lia),<-rf];simp only[bsP,yo,bnP];rw[aA H];refine Ok.is (OkF.out (OkF.seq (OkF.for (λ(g:¬XP) (s:¬Str)=>s=rowH o :: g.map YW) rfl (λg t s hm X I=>?_)) λs G=>?_))
 ·let hz:=J.1 t hm
  let Y:=YM (n:=t.1) (by ext) ∅;let Z:=YM (n:=t.2) ∅ ∅;let b1:=(Og (m:=t.1.toNat) ∅).2;let b2:=(Og (m:=t.2.toNat) ∅).2
  let b3:-("tie " : Str)=4:=by decide +kernel
  rw[Y,Z];simp only[bsP];rw[adS ∅];simp only[bsP];rw[adS (by rw[IR,Z8];lia)];simp only[bsP];rw[adS (by rw[IR,IR,Z8];lia),<-re];simp only[bsP];let L:=X.length_le;rw[Aa]at L;rw[JN (by rw[I];simp;lia)];refine OkF.nx ?_;rw[I,BQ];rfl
 ·let G:s=Hl o (F9 ps):=G
  subst G;let rl:=Qj (p:=o) (ts:=F9 ps);rw[JN ∅];simp only[bsP,df,bnP]
  let bd:-1000000<=(if (1:Int)+-A < 3 then(1:Int)+-A else 3)/\(if (1:Int)+-A < 3 then(1:Int)+-A else 3)<=3:=by split <;> lia
  rw[JI bd.1 ∅]
  refine OkF.seq (OkF.for (λ(g:YP) (s:¬Str×¬Str)=>∃B:¬(Str×Str),s=(Hl o (F9 ps)++("" : Str) :: B.map (·.1),B.map (·.2))/\-B=-g/\∀p∈B,RowG o ps p) #[[],rfl,rfl,λz h=>(nomatch h)] (λg k s hk N I=>?_)) λs G=>?_
  ·let#[B,rfl,O,P]:=I
   let#[hk1,hk2]:=Qk N;obtain⟨w,ew,-⟩:=WA A (k:=k) (by ext);rw[ew];simp only[bsP];let#[p,e,N]:=dB E.2.1 E.2.2 H (w / 3+k);rw[e];simp only[bsP,bnP];rw[JN (by rw[Aa,Az,AN];lia)];rw[JN (by rw[AN];lia)];refine .nx #[B++[p],?_,by rw[Aa,Aa,O];rfl,λx C=>?_]
   ·rw[BQ,BQ,BM]
    rfl
   ·rcases BO.mp C with h | h
    ·exact P x h
    ·rw[AV.mp h];exact N
  ·let#[B,rfl,O,P]:=G
   rw[Ct]at O;let#[t,t1,t2]:=ZL E.2.1 ∅ J U (AAH H.fit) (iR (by rw[J.nrm];exact J7 ps)) (by grind) P;rw[t1];simp only[bsP];rw[bW W t2];simp only[bsP,bnP];rw[qX trivial,wX trivial];exact .rt rfl
end
theorem good(W:Wd)(m:W.excs.Nodup)(g:YP)(i:-g<=63):∃S',gZ W [.fro (g.map D.int)] []=.ok (.bl true) S':=by
 refine VF.law ?_;let:=AAF W g;rwa [AA6 W i]at this
end M
structure PySem.W.Fast:Prop where(tw12655395938569017503 tw11040571380748293016 tw13657095264249584963 tw2886466111275411876 tw14957560107038164726 tw4995013957030624829 tw14912603606047499353 tw9597388556278771892 tw13454795064589238548 tw3409590229193279074 tw4845747787040092016 tw15125386996550988969 tw7760092075447923463 tw12229581864935744838 tw18044393087327259846 tw16930278963132001602 tw1233442406454179962 tw2903400444860334253 tw3737667749288220558 tw3872989654045704727 tw6035274018182317467 tw14645479322568341942 tw2883476557068850654 tw13557642370833478177 tw5796057028072248166 tw12083813115379488315 tw10753745686591386836 tw17006548381310731329 tw12139024309693052717 tw2751895003984677160 tw3137559028960623044 tw5714749156624144936 tw8230870246918209293 tw4289239396745305632 tw7487983308906487769 tw9067468199836163484 tw2085397664119386851 tw363875281729936120 tw16575082962389881337 tw3693425846007235448 tw4204480608814777675 tw6706928180598332682 tw10040316739734720746 tw6887066828573792126 tw3097118183350835422 tw2121666902818816518 tw347705712095140155 tw17431533804889795073 tw10670616924139015466 tw13041387403163560049 tw7958166833342382121 tw3820498592553709734 tw4437557992896114366 tw14044673777710046390 tw1004281013309933495 tw3799857596805906935 tw6251463703191533654 tw15662297684469383112 tw10810120094713536628 tw6257458484230377442 tw14498268867402647333 tw11020873279075515007 tw17616056815345628377 tw9678457744599699427 tw5889148584521920180 tw466976703530785837 tw8583589666060803162 tw4559786784761882659 tw7092415998114200831 tw15873552934720302628 tw11192954062287974301 tw2026764891394163408 tw17468641641073771457 tw5588375690871009985 tw13299961122268313068 tw139896453713906357 tw14614967241664476911 tw370982480656165408 tw9501900241555044959 tw7073687839184413359 tw1917167348310262609 tw6966141813762078251 tw6341768787691080139 tw7431618246748512664 tw4183039381655954258 tw14894101661665658861 tw13795899488258953558 tw10192609394900718623 tw12241750339784537141 tw1011373129094943808 tw12610749048785947916 tw1288304874172188730 tw5034031750307879942 tw10432446933704688267 tw11084923455708874914 tw94672817182183742 tw18426953872089703 tw2682629589094657662 tw12172535678238215354 tw9691135924370677352 tw3352173283010454638 tw12584584949431883532 tw9953902000835568140 tw6894753828357595538 tw4120623226510869695 tw16645096768852995125 tw12504052096819272072 tw10651835864632355292 tw11257784022613233111 tw10648831378680340507 tw9214035874976604624 tw5106480011463966393 tw1496586668355744925 tw8078381180862871391 tw11146332467239363893 tw5429053744910821188 tw9518947353682944481 tw2965825017088552903 tw4387943307833006790 tw1585518176008126676 tw2536746849119330395 tw10064872023609698234 tw17481351804338268677 tw5568625312506953869 tw12321588509193131155 tw14815321739989250441 tw16662821082107449544 tw15429046922069356699 tw9284975411169843027 tw11750194013434781400 tw14267251250008340351 tw15735193179288032507 tw18156382805414305438 tw4811245504109495964 tw14996308614107905879 tw13934688348921882044 tw8465058980099177357 tw16705000246350858776 tw10855205663129934336 tw5807215185887300943 tw14609488150316321597 tw7053514776067052060 tw6854763993257554578 tw11215579442425955166 tw3877022974150111003 tw7072465502483650267 tw3296221994312222762 tw585837607779558959 tw6884698107952249773 tw7930321814978359419 tw15004202777842052297 tw2122955200880199145 tw11190758362690043693 tw10630588015497678623 tw4008244717495074839 tw13066970331661230644 tw16454770419271730863 tw300093459651567239 tw16580823527342985192 tw15533903838592189864 tw15423576549730554551 tw17428306509047592282 tw9813763629101492352 tw3352040950026644104 tw4664772345866307587 tw441353202676914479 tw9759344920323444023 tw7603434832443303448 tw2061474321744207240 tw9080266040681640101 tw2902085172497032266 tw3509672682512115836 tw9412757541158310686 tw2907909986402006284 tw16510736096544815674 tw2645295838747446204 tw6731864607377286683 tw17564832633746484901 tw15715167295476193924 tw8082601713211421525:True)
namespace M
open L2 PySem.W
theorem XF{K:Frag}{a:AW}{cs:¬Str}{o:Obj}(h:K.lookup a=!o)(i:(match o.data with
  | .seq g _=>if o.cls==.type "tuple"&&decide (g.size<=100)then Rr g.toList else none
  | _=>none)=!cs):Pn K a=!cs:=by
 unfold Pn;rw[h];exact i
theorem zF{l:OpenLaw}{w:Bx}{K:Frag}{h:Cb}{A:Str->⇑AH}{fa:AW}(X:K.In h)(G:h.Ns A9 A)(B:A "law" = !.ref fa)
  {f1 f2 f3 f4 f5 f6 f7 f8 f9 C E H I J L N O P Q R S U Y Z f25 f26 f27 f28 f29 f30 f31 f32 f33 f34 f35 f36 f37 f38 f39 f40 f41 f42 f43 f44 f45 f46 f47 o g i m ϙ:AW} {Ι W' J' Gd ε Η η:Tok}
  (o_Web:ClsAt K "Web" g)
  (o_Field:ClsAt K "Field" i)
  (o_Desk:ClsAt K "Desk" m)
  (d1:Dt K "checked_ties" Nv f1)
  (d2:Dt K "near_sets_of" Nq f2)
  (d4:Dt K "sets_of" XN f4)
  (d5:Dt K "ways_to_choose" Lz f5)
  (d6:Dt K "how_many" Uy f6)
  (d7:Dt K "standings" Sa f7)
  (d8:Dt K "refuse_no_place" Kq f8)
  (d9:Dt K "near" lw f9)
  (d10:Dt K "takes_of" Uw C)
  (d11:Dt K "bits_of" XQ E)
  (d12:Dt K "with_step" SZ H)
  (d14:Dt K "settle" Ux J)
  (d15:Dt K "fits" lz L)
  (d19:Dt K "members" XO Q)
  (d20:Dt K "first_step" Qc R)
  (d21:Dt K "first_into" Qd S)
  (d22:Dt K "refuse_no_call" L0 U)
  (d27:Dt K "falling_now" PN f27)
  (d28:Dt K "fallen" aF f28)
  (d29:Dt K "lasting_bits" Nt f29)
  (d30:Dt K "guide_answer" Nu f30)
  (d31:Dt K "number_in" Sb f31)
  (d32:Dt K "numbers_behind" L1 f32)
  (d33:Dt K "web_of" aE f33)
  (d34:Dt K "written" XM f34)
  (d38:Dt K "standing_in" PM f38)
  (d42:Dt K "answered" Uz f42)
  (d43:Dt K "_law_cell_at" Nx f43)
  (d44:Dt K "_law_pairs" Qe f44)
  (d45:Dt K "_law_far" U0 f45)
  (d46:Dt K "_law_fall" Sd f46)
  (d47:Dt K "_law_question" NG f47)
  (d48:Dt K "law" ly o)
  (d3:Ig K g "__init__" "Web.__init__" U2 f3)
  (d13:Ig K i "linked_by_one" "Field.linked_by_one" IY I)
  (d16:Ig K i "linked_by_all" "Field.linked_by_all" IZ N)
  (d17:Ig K i "__init__" "Field.__init__" Qg O)
  (d18:Ig K m "__init__" "Desk.__init__" Se P)
  (d23:Ig K i "calls" "Field.calls" PP Y)
  (d24:Ig K i "linked" "Field.linked" Ny Z)
  (d25:Ig K i "behind" "Field.behind" Nz f25)
  (d26:Ig K i "first_answer" "Field.first_answer" JU f26)
  (d35:Ig K m "duel" "Desk.duel" Sg f35)
  (d36:Ig K m "fate" "Desk.fate" Sf f36)
  (d37:Ig K m "answer_to" "Desk.answer_to" L3 f37)
  (d39:Ig K m "right_reply" "Desk.right_reply" KH f39)
  (d40:Ig K m "reply_anew" "Desk.reply_anew" Kr f40)
  (d41:Ig K m "reply" "Desk.reply" Qh f41)
  (BT:findIn K (.ref g) "places" = !none)
  (aai:findIn K (.ref g) "ties" = !none)
  (aaj:findIn K (.ref g) "near_sets" = !none)
  (on:findIn K (.ref i) "everything" = !none)
  (aac:findIn K (.ref i) "kind" = !none)
  (LT:findIn K (.ref i) "takes" = !none)
  (ST:findIn K (.ref i) "numbers" = !none)
  (aad:findIn K (.ref i) "having" = !none)
  (aae:findIn K (.ref i) "place_bits" = !none)
  (Tm:findIn K (.ref i) "known" = !none)
  (IO:findIn K (.ref m) "web" = !none)
  (Ty:findIn K (.ref m) "replies" = !none)
  (XL:findIn K (.ref m) "duels" = !none)
  (z_abs:Li K A9 "abs" = !none)
  (z_all:Li K A9 "all" = !none)
  (z_enumerate:Li K A9 "enumerate" = !none)
  (z_int:Li K A9 "int" = !none)
  (z_isinstance:Li K A9 "isinstance" = !none)
  (z_len:Li K A9 "len" = !none)
  (z_list:Li K A9 "list" = !none)
  (z_max:Li K A9 "max" = !none)
  (z_min:Li K A9 "min" = !none)
  (z_range:Li K A9 "range" = !none)
  (z_set:Li K A9 "set" = !none)
  (z_sorted:Li K A9 "sorted" = !none)
  (z_str:Li K A9 "str" = !none)
  (z_sum:Li K A9 "sum" = !none)
  (z_tuple:Li K A9 "tuple" = !none)
  (aak:Li K A9 "MOST_PLACES" = !(!.int 60 Ι))
  (aas:Li K A9 "MOST_STANDINGS" = !(!.int 400 W'))
  (aaN:Li K A9 "MOST_PLACES_TRIED" = !(!.int 12 J'))
  (aaO:Li K A9 "MOST_PLACES_GUARDED" = !(!.int 8 Gd))
  (aat:Li K A9 "FIGURES" = !(!.str "0123456789" ε))
  (aau:Li K A9 "MOST_FIGURES" = !(!.int 2 Η))
  (aal:Li K A9 "REFUSED" = !(!.str "refused" η))
  (ga_KINDS:Li K A9 "KINDS" = !(!.ref ϙ))
  (gs_KINDS:Pn K ϙ=!(["one", "all"]:¬Str))
  : ∃(W:Wd) (T:Txt K A W),fa=T.aab.f/\W.excs.Nodup/\∀(s:AM) (v:AH),bq s T.aab.fd #[[v],[]] [("script",v)]:=by
 let#[zl,_,_,_,_,_,_,_,_,_,l,c,k]:=d48;let F:=oR (st:=ly) l c k
 letI W:Wd:=#[g,i,m]
 letI T:Txt K A W:={
  aaP:=mkD X G d1 bd2
  aaQ:=mkD X G d2 bd2
  aav:=mkM d3 bd3
  aaR:=mkD X G d4 bd2
  aaS:=mkD X G d5 bd2
  aaT:=mkD X G d6 bd2
  aaU:=mkD X G d7 bd2
  aaV:=mkD X G d8 bd2
  aaW:=mkD X G d9 bd2
  aaX:=mkD X G d10 bd1
  aaY:=mkD X G d11 bd1
  aaZ:=mkD X G d12 bd3
  aaw:=mkM d13 bd2
  LE:=mkD X G d14 bd5
  aax:=mkD X G d15 bd3
  aay:=mkM d16 bd2
  aag:=mkM d17 bd4
  aaz:=mkM d18 bd2
  aam:=mkD X G d19 bd1
  aa0:=mkD X G d20 bd4
  aa1:=mkD X G d21 bd3
  aa2:=mkD X G d22 bd3
  aaA:=mkM d23 bd2
  aah:=mkM d24 bd2
  aan:=mkM d25 bd3
  aaB:=mkM d26 bd4
  aaC:=mkD X G d27 bd2
  aa3:=mkD X G d28 bd1
  aa4:=mkD X G d29 bd2
  aa5:=mkD X G d30 bd4
  aaD:=mkD X G d31 bd1
  aaE:=mkD X G d32 bd3
  aaF:=mkD X G d33 bd1
  aao:=mkD X G d34 bd1
  aap:=mkM d35 bd3
  aaG:=mkM d36 bd3
  aaH:=mkM d37 bd4
  aaq:=mkD X G d38 bd2
  aaI:=mkM d39 bd2
  aaJ:=mkM d40 bd2
  aaK:=mkM d41 bd2
  aa6:=mkD X G d42 bd1
  aaa:=mkD X G d43 bd2
  aa7:=mkD X G d44 bd2
  aaL:=mkD X G d45 bd3
  aa8:=mkD X G d46 bd3
  aa9:=mkD X G d47 bd3
  aab:=#[o,_,F,F.binds ((bd1 λz z z z z z z z z=>rfl) _ _),Tf X G zl]
  mt:=mkO X G o_Web d3
  BT:=BT
  aai:=aai
  aaj:=aaj
  ad:=mkO X G o_Field d17
  on:=on
  aac:=aac
  LT:=LT
  ST:=ST
  aad:=aad
  aae:=aae
  Tm:=Tm
  abe:=mkE d13
  abf:=mkE d16
  abg:=mkE d23
  abh:=mkE d24
  aba:=mkE d25
  abi:=mkE d26
  ld:=mkO X G o_Desk d18
  IO:=IO
  Ty:=Ty
  XL:=XL
  abb:=mkE d35
  abj:=mkE d36
  abk:=mkE d37
  abl:=mkE d39
  abm:=mkE d40
  abn:=mkE d41
  abo:=Dw X G z_abs
  abp:=Dw X G z_all
  aar:=Dw X G z_enumerate
  abq:=Dw X G z_int
  abr:=Dw X G z_isinstance
  Cl:=Dw X G z_len
  abt:=Dw X G z_list
  abc:=Dw X G z_max
  aaM:=Dw X G z_min
  Fr:=Dw X G z_range
  abu:=Dw X G z_set
  aaf:=Dw X G z_sorted
  KK:=Dw X G z_str
  abv:=Dw X G z_sum
  Id:=Dw X G z_tuple
  aak:=#[Ι,Tf X G aak]
  aas:=#[W',Tf X G aas]
  aaN:=#[J',Tf X G aaN]
  aaO:=#[Gd,Tf X G aaO]
  aat:=#[ε,Tf X G aat]
  aau:=#[Η,Tf X G aau]
  aal:=#[η,Tf X G aal]
  abd:=#[ϙ,Tf X G ga_KINDS,gs_KINDS] }
 refine#[W,T,?_,Gr,λs v=>.of_eq rfl];let e:=B.symm.trans (Tf X G zl);cases e;rfl
theorem walk{l:OpenLaw}{q:BP}{g:¬Str}{I:(Str->⇑AH)->Cb->Prop}{C:Bx->Cb->Prop}{d:DefRec}{K:Params->Frag}(J:l.most=!63)(A:d.params.defaults=[])
  (L:∀(w:Bx) (h:Cb),C w h->(K w.params).In h)
  (F:∀(w:Bx) (i:Str->⇑AH) (m:AW) (h:Cb),(K w.params).In h->h.Ns A9 i->i d.name=!.ref m ->
   ∃(W:Wd) (T:Txt (K w.params) i W),m=T.aab.f/\W.excs.Nodup/\∀(s:AM) (v:AH),bq s T.aab.fd #[[v],[]] [("script",v)])
  (good:∀(W:Wd),W.excs.Nodup->∀o:YP,o.length<=63->∃N,gZ W [.fro (o.map D.int)] []=.ok (.bl true) N) :
  WalkO q g I C l.row.toRowW d [] (λf vs=>g9 f vs):=
 L2.qc (n:=63) (k:=15) (x:="script") (CX:=λw=>CXG l.prog w) (sp:=λw=>lY (K w.params)) J ∅ A #[rfl,by decide,by decide] L
  (λw i m h KX G B=>by
   let#[W,T,e,O,hb]:=F w i m h KX G B;subst e
   exact#[T.aab.fd,hb,λE M M=>nS (xf T) (good W O)])
  (λM M a o P Q R=>#[a,o,rfl,yi Q R,P,λM=>rfl]) (λw H s e S z=>y8 z)
end M
end
open PySem.W
set_option maxRecDepth 100000 in
set_option maxHeartbeats 0 in
theorem PySem.Challenge.cw_guardround_k70_one_guard_asked_holds : PySem.Challenge.rw_guardround_k70_one_guard_asked.Holds := by
 w_on;o_law;k_head;(case hw=>w_witness2)
 k_fill
 refine M.walk (l:=JD) rfl rfl (λw h Y=>by first | exact kIn_of Y | exact km_in_of Y) ?F M.good
 case F=>
  intro w mg fa h KX G hmg;refine' M.zF (l:=JD) (w:=w) KX G hmg ?o_Web ?o_Field ?o_Desk ?d1 ?d2 ?d4 ?d5 ?d6 ?d7 ?d8 ?d9 ?d10 ?d11 ?d12 ?d14 ?d15 ?d19 ?d20 ?d21 ?d22 ?d27 ?d28 ?d29 ?d30 ?d31 ?d32 ?d33 ?d34 ?d38 ?d42 ?d43 ?d44 ?d45 ?d46 ?d47 ?d48 ?d3 ?d13 ?d16 ?d17 ?d18 ?d23 ?d24 ?d25 ?d26 ?d35 ?d36 ?d37 ?d39 ?d40 ?d41 ?BT ?aai ?aaj ?on ?aac ?LT ?ST ?aad ?aae ?Tm ?IO ?Ty ?XL ?z_abs ?z_all ?z_enumerate ?z_int ?z_isinstance ?z_len ?z_list ?z_max ?z_min ?z_range ?z_set ?z_sorted ?z_str ?z_sum ?z_tuple ?aak ?aas ?aaN ?aaO ?aat ?aau ?aal ?ga_KINDS ?gs_KINDS
  (case o_Web | o_Field | o_Desk=>exact⟨by k_is,by k_is,by k_is,by k_is,by k_is,by k_is,by k_is⟩)
  (case d1 | d2 | d4 | d5 | d6 | d7 | d8 | d9 | d10 | d11 | d12 | d14 | d15 | d19 | d20 | d21 | d22 | d27 | d28 | d29 | d30 | d31 | d32 | d33 | d34 | d38 | d42 | d43 | d44 | d45 | d46 | d47 | d48=>exact⟨by k_is,_,_,_,_,_,_,_,_,_,by k_is,by k_is,by k_is⟩)
  (case d3 | d13 | d16 | d17 | d18 | d23 | d24 | d25 | d26 | d35 | d36 | d37 | d39 | d40 | d41=>exact⟨by k_is,by k_is,_,_,_,_,_,_,_,_,_,by k_is,by k_is,by k_is⟩)
  (case BT | aai | aaj | on | aac | LT | ST | aad | aae | Tm | IO | Ty | XL | z_abs | z_all | z_enumerate | z_int | z_isinstance | z_len | z_list | z_max | z_min | z_range | z_set | z_sorted | z_str | z_sum | z_tuple | aak | aas | aaN | aaO | aat | aau | aal | ga_KINDS=>k_is)
  (case gs_KINDS=>first | (refine' M.XF ?a ?b;(case a=>k_is);(case b=>first | rfl | kernel_rfl)) | exact M.XF (by k_is) (by first | rfl | kernel_rfl) | kernel_rfl | rfl)
#print axioms PySem.Challenge.cw_guardround_k70_one_guard_asked_holds
