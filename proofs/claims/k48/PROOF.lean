import PyProof.Rows.All
import Wide.All
import OpenK.AllK
import Wide.FinOn
import Lean
import PyProof.EqAt
import PyProof.EqKinds
import PyProof.TupleCall
import PyProof.ExcBaseAll.ValueError
import PyProof.NsDelKeeps
import PyProof.NeKinds
import PyProof.Rows.SortShell
import PyProof.Rows.FStr
import PyProof.FString
import PyProof.ExcAttrAll.ValueError
import PyProof.ExcArgsOwn
import PyProof.Rows.SortRuns
import PyProof.TupleIter
import PyProof.Dict
import KE.KDictSum
import PyProof.Rows.SetFrom
import PyProof.SetRoads
import PyProof.Rows.Range3
import PyProof.WalksMore
import PyProof.Rows.SortRev
import PyProof.Rows.RuleB_bool
import PyProof.TupleOfSeq
import PyProof.EnumMake
import PyProof.SliceList
import PyProof.MinMaxWalk
import PyProof.Rows.EnumRows
import PyProof.WalkInts
import PyProof.Rows.SeqCalls
import KE.KRevIter
import PyProof.CollectIter
import PyProof.TupleOfGen
import PyProof.Rows.FactsT2
import PyProof.ListRange
import PyProof.Rows.CallKwBuiltin
import PyProof.ZipIter
import PyProof.Rows.ZipGen
import PyProof.Rows.RuleM_int
import PyProof.Rows.AssignMoreSeq
import KE.KIntText
import PyProof.Rows.StrKeys3
import PyProof.StrBlock
import PyProof.StrCalls2
import PyProof.StrWalks
import PyProof.Rows.RuleN_abs
import PyProof.CollectWalk
import PyProof.AttrMissHeap
import PyProof.FactsAll.zip_1
import KE.KDictOf
import PySem.Challenge.RW_guardround_k48_colonies_answer
set_option Elab.async false
set_option linter.all false
set_option compiler.extract_closed false
set_option bootstrap.genMatcherCode false
set_option genSizeOf false
set_option maxRecDepth 100000
set_option maxHeartbeats 8000000
abbrev ZLi:=List Int
abbrev ZPi:=Int×Int
theorem qX{c:Prop}{h:Decidable c}(g:c){j:Sort u}{t e:j}:ite c t e=t:=if_pos g
theorem qY{c:Prop}{h:Decidable c}(g:Not c){j:Sort u}{t e:j}:ite c t e=e:=if_neg g
theorem wX{p:Prop}[i:Decidable p](h:p):decide p=true:=decide_eq_true h
theorem wY{p:Prop}[i:Decidable p](h:Not p):decide p=false:=decide_eq_false h
theorem zX{a b:Prop}(h:a)(n:Not a):b:=absurd h n
noncomputable section
open Array renaming append_assoc->Zn,ext'->qi,forIn_toList->Zm,getD_eq_getD_getElem?->Dj,getElem?_eq_getElem->D2,getElem?_eq_some_iff->FH,getElem?_setIfInBounds_ne->PJ,getElem?_toList->Wq,length_toList->B1,mem_extract_iff_getElem->Py,mem_of_getElem?->DB,mem_toList_iff->Bj,perm_iff_toList_perm->FG,toList->l8,toList_append->BO,toList_map->KO,toList_modify->YS,toList_push->Js,toList_reverse->FF,toList_setIfInBounds->R3
open Array.Perm renaming refl->OQ
open Bool renaming and_eq_true->CF,and_false->kx,eq_iff_iff->Ri,false_eq_true->BW,false_ne_true->Ac,false_or->lw,not_eq_true'->Jy,not_false->SZ,not_true->GF,true_and->lv
open Classical renaming byContradiction->Ca
open Eq renaming trans->IT
open False renaming elim->EE
open ForInStep renaming yield->HZ
open Function renaming comp->bq
open Int renaming emod_lt_of_pos->C0,emod_nonneg->Cu,le_antisymm->R0,le_refl->Rh,lt_of_le_of_lt->JX,lt_of_lt_of_le->JW,mul_one->tL,toNat_natCast->Ak,toNat_of_nonneg->CN,zero_add->LZ
open List renaming all_cons->ls,all_eq_true->K9,all_map->qG,any_cons->Hn,any_eq_false->bn,any_eq_true->Hj,any_toArray->K8,append_assoc->A8,append_nil->A3,drop_drop->SY,drop_eq_getElem_cons->Jq,drop_eq_nil_of_le->G0,drop_nil->lr,drop_sublist->bj,drop_zero->ko,ext_getElem->gk,ext_getElem?->PH,extract->PF,filterMap_cons->NV,filter_append->OP,filter_congr->bi,filter_cons_of_neg->VC,filter_cons_of_pos->U9,filter_eq_nil_iff->Wm,find?_cons->Bo,flatMap_append->NU,flatMap_cons->bh,foldl_append->Jx,foldl_cons->GX,forIn_cons->GV,forIn_nil->Gz,getD_eq_getElem?_getD->BN,getElem?_append_left->Aa,getElem?_append_right->A4,getElem?_drop->Gb,getElem?_eq_getElem->AZ,getElem?_eq_none->CM,getElem?_eq_none_iff->Fg,getElem?_eq_some_iff->AD,getElem?_map->Ah,getElem?_of_mem->Hz,getElem?_range->CH,getElem?_replicate->Da,getElem?_set->Jw,getElem?_set_ne->A1,getElem?_set_self->BH,getElem?_set_self'->U8,getElem?_take_of_lt->GD,getElem?_toArray->W9,getElem?_zip_eq_some->TQ,getElem_inj->gj,getElem_of_mem->Zk,getElem_toArray->YN,length->EB,length_append->AK,length_cons->A0,length_drop->CD,length_erase_of_mem->Uy,length_filter_le->MN,length_map->AF,length_nil->GU,length_pos_iff->NT,length_pos_of_mem->Wj,length_replicate->MM,length_set->Ek,length_singleton->Al,length_take->Bk,lookup->Hy,lookup_cons->BX,map->JC,mapM_toArray->bg,map_append->BG,map_congr_left->Ci,map_cons->BB,map_id->Ms,map_id'->qF,map_map->Bc,map_nil->LR,map_take->lq,mem_append->Au,mem_append_left->As,mem_append_right->Aw,mem_cons->Aq,mem_cons_of_mem->AT,mem_cons_self->Ao,mem_filter->BF,mem_filterMap->bT,mem_flatMap->Hi,mem_iff_getElem->YM,mem_map->Ap,mem_of_getElem?->An,mem_range->DM,mem_reverse->gi,mem_singleton->AS,mergeSort_perm->Zj,nil_append->hU,nodup_append->BP,nodup_cons->Ct,nodup_nil->FQ,not_mem_nil->BL,of_mem_zip->Rg,pairwise_append->Bv,pairwise_cons->bS,pairwise_iff_getElem->Jp,pairwise_lt_range->Wi,pairwise_map->B3,pairwise_mergeSort->U7,pairwise_reverse->MK,pairwise_singleton->U6,perm_append_comm->W8,perm_ext_iff_of_nodup->JB,range->BM,range'->qV,range_succ->IS,range_succ_eq_map->Wh,replicate->Bd,singleton_append->Es,size_toArray->AQ,take_add_one->Ey,take_append_drop->Dx,take_length->ER,take_of_length_le->Bg,take_sublist->Gy,zipIdx_cons->gh,zipIdx_nil->g9,zip_cons_cons->OO
open List.Pairwise renaming imp_of_mem->qZ,nil->qW
open List.Perm renaming append_left->KN,append_right->Rz,of_eq->YO
open Nat renaming add_le_add_left->DA,add_zero->W7,le_of_eq->W6,le_of_lt->LY,le_of_not_lt->LK,le_of_succ_le->Pk,le_refl->AN,le_succ->Rf,le_succ_of_le->gf,le_trans->Av,lt_irrefl->DL,lt_of_le_of_lt->A5,lt_of_lt_of_le->Ae,lt_succ_of_lt->FD,lt_succ_self->CG,lt_trans->qU,lt_trichotomy->Pj,min_eq_left->IZ,min_eq_right->QO,min_le_right->QN,ne_of_gt->ED,ne_of_lt->Ax,not_lt->JV,not_lt_zero->Ep,sub_self->Pi,zero_add->LX,zero_le->CZ
open Nat.succ renaming inj->NS
open Ne renaming symm->CY
open Option renaming bind_eq_some_iff->TN,bind_some->AC,getD_none->PD,getD_some->PB,isSome_iff_exists->SX,isSome_map->JU,isSome_some->YL,map->qE,map_eq_some_iff->Ux
open Option.some renaming inj->Ch
open Or renaming inl->Uw,inr->Re
open Prod renaming ext->K7,fst->SW,snd->kn
open PyProof.Rows renaming AllBare->Iv,IntsAre->tK,IsTup->qH,Keyed->BK,SetOf_congr->tJ,SortKind->OU,SortSt->BD,Subscript_->lg,arrOf->AY,boot_bool->tI,boot_dict->tH,boot_int->tG,boot_isinstance->tF,boot_list->tE,boot_max->QM,boot_min->QK,boot_set->tD,boot_sorted->sw,boot_tuple->Ph,boot_zip->sv,bubble->lf,callWith_builtin1->Mr,callWith_type1->B7,codeAny_set_update_loopS->ss,elem'_eq->gx,envOfC->M1,failedOf->Ix,firstMet->EQ,firstMet_succ->sr,firstOfTuple'->Zg,general'->Wz,listUpdate_at->Zf,ltAt'->p9,mirror->KL,mirror_perm->Uu,pairsOf->LP,pendingOf->Ab,reverseSlice'->Px,reverseSlice'_eq->Me,seqEpoch_at->gu,seqObj->JR,setObjOf_fresh->sk,slot_tuple_getitem->GC,sortedHeap->lY,step_dedup->sj,subscriptTail->Zd,subscriptTail_builtinR->bX,tuples'->p0,wpS_bind->Ai,wpS_forRange->DY,wpS_get->Hk,wpS_modify->Dm,wpS_mono->Gw,wpS_pure->Aj
open PyProof.Rows.IntsAre renaming int_at->bR
open PyProof.Rows.IsTup renaming new->bo
open PyProof.Rows.SortSt renaming mk'->HH
open PySem renaming Addr->AV,Around->Bn,BindsTo->Wp,DictEntry->bV,FuncData->Iy,Heap->CS,IsEnum->bp,IsPair->TU,IsPart->TR,Keyword->Fe,Model->Ry,NameKind->OW,Paired->G2,PassesOwn->O9,Program->Bb,Result->lh,Scope->Ru,Shared->AL,Stmt->D6,Value->AH,Within->U5,World->By,ZipApart->Rs,again->g7,argBest->Hl,assign->QF,assignEach->Ew,atKey->W1,attributeBase->DZ,backTo->Cp,backToKw->Mf,behindInMarks->EU,binaryOp->Du,bindArgs->gz,bindC->bN,bindL->bM,bootBuiltins->Ev,boot_len->g8,builtinLookup_eq_fast->gd,builtinsNs->W0,cLine->Ej,call->Zh,call_meets->M3,callerA->Rr,cellsFrom->CA,checkBuiltinCall->qP,codeAny->LQ,codeAny_builtin->U3,codeAny_call_builtin->gy,codeAny_mono->Ju,compareOp->B4,concat_meets->bb,eval->Bt,field->Uv,firstArgMember->OT,foldedSetIterable->Fb,getAttr?->gw,getItem->O8,getattributeRaised->lc,holding->qA,intKind->bZ,isSubtype->bL,isSubtype_stop->Wy,isTrue->Wx,keywordEach->HG,letOwnedTupleGo->NR,mainGlobals->BJ,mem_of_lookup->Dc,model->Am,newFunctionEnv->Ww,noFill_tuple_add->TH,noteFrame->bK,pushCells->Ei,pushCells_keeps->U2,pyIter->lZ,pyNext->JS,rawInt->EG,relabel->Jt,scanBound->TF,seq_tuple_add->Ze,setField->Wv,sizeLine_eq->OS,sliceBounds->Iw,slot_list_getitem->p8,spliced->bY,standAt->p7,starEach->AO,stored->lX,subscripted->Ut,swapsWith->GR,sysModules->Do,truthy->lW,tupleKind->O7,tupleKind_room_in1->G1,typeLookup->Wu,typeLookup_type->sg,valueAt->Rq,wpAny->Af,wpAny_Call_Name_kw->DR,wpAny_Call_method_late->bW,wpAny_Dict_empty->qO,wpAny_Name->lV,wpAny_assign_Name->pr,wpAny_attempt->FP,wpAny_bind->AA,wpAny_call->QE,wpAny_callSpecial?_slot->Cc,wpAny_call_entry->Cm,wpAny_comprehension_free->Zc,wpAny_dictEntries->Rp,wpAny_dictEpoch->U1,wpAny_eqBool_int->qN,wpAny_execs_cons->qM,wpAny_execs_nil->JQ,wpAny_field->B9,wpAny_fieldsOf->OR,wpAny_holding->Cz,wpAny_isInstance->TD,wpAny_isOneOf_keyiter->NW,wpAny_isTrue_Compare1->gc,wpAny_loadPart->Wt,wpAny_mono->Eu,wpAny_newObj_type->CU,wpAny_nextOf_list_end->gb,wpAny_nextOf_list_item->M0,wpAny_notOrdered_dict->gZ,wpAny_of_eq->gt,wpAny_passesOwn->FE,wpAny_pure->AI,wpAny_pyIter_enum->pq,wpAny_pyIter_list->Ro,wpAny_pyIter_slot->pp,wpAny_pyIter_tuple->D5,wpAny_rule->Ws,wpAny_seqItems->KJ,wpAny_setField->F0,wpAny_truthy_bool->Dl,wpAny_typeNameOfWhole_keyiter->Er,wpAny_typeNameOf_keyiter->Gx,wpAny_typeOf->Rj
open PySem.Around renaming under->U0,under_plainId->Wr
open PySem.AutoSeq1 renaming wpAny_loadPart'->Cj
open PySem.Builtin.Dict renaming dictSlotNone->tO,pairItems->tN,selfAndRest->tM,showsAll->QP,updateFrom->Pl
open PySem.Builtin.Dict_items renaming ownsTuple->LS
open PySem.Builtin.Frozenset renaming updateFrom->hW
open PySem.Builtin.List renaming listItems->JD,listTooLong->Dv
open PySem.Builtin.ObjectAttr renaming bindTo->gq
open PySem.Builtin.Range renaming rangeSize->qh
open PySem.Builtin.Slice renaming sliceAdjust->Hq,sliceApplied->NZ,sliceFields->qg,slicePartIndex->qf,slicePlaces->El
open PySem.Builtin.SmallTypes renaming nextOf->B0,ownedTupleIsFree->DD
open PySem.Builtin.Tuple renaming tupleExact->Ez,tupleItemsOf->qe
open PySem.Calls renaming Name_function_global->R1,callWith_builtin->LL,evalArgs_plain->Ho,spliced_cons->GY,spliced_nil->Jr
open PySem.Challenge renaming pw_guardround_k48_colonies_answer->lm,rw_guardround_k48_colonies_answer->HJ
open PySem.CmpOf renaming ints_gt->ku,ints_lt->kt
open PySem.Code renaming frames->qd,isFrame->Wo
open PySem.Data renaming fields->qc
open PySem.EntryCells renaming newEntry->TX
open PySem.F renaming args_dict_get_3->SV,args_dict_keyiterator_next_1->Mg,args_list_extend_2->br,args_tuple_add_2->JT,args_tuple_iterator_next_1->TW,args_zip_next_1->kr,called_set->F3,entry_dict_get->TM,entry_dict_keyiterator_next->Mq,entry_list_extend->gm,entry_tuple_add->Jv,entry_tuple_iterator_next->Uz,entry_zip_next->lu,excAttr_ValueError->QJ,plainAttrs_list->GB,slot_dict_get->LJ,slot_dict_iter->TL,slot_dict_keyiterator_next->Cq,slot_enumerate_next->bU,slot_list_extend->Rx,slot_list_extend->hV,slot_tuple_add->KM,slot_tuple_index->Rw,slot_tuple_iterator_next->Fh,slot_zip_getattribute->La,slot_zip_iter->qJ,slot_zip_next->Iz,type_list_extend->Rv
open PySem.Heap renaming ExtBut->YR,SameBut->EC,get?_none_of_le->YQ,get?_push_of_some->AJ,get?_push_size->Ag,get?_update_ne->Zl,get?_update_other->Ef,get?_update_self->Et,lt_size->AX,size_push->CV
open PySem.Heap.DictOf renaming new->Wn
open PySem.Heap.IsSliceOf renaming new->qI
open PySem.Heap.SameBut renaming refl->TV,update->G3
open PySem.NameKind renaming cell->C2,free->Fc
open PySem.Obj renaming cls_mapFields->KI,data_mapFields->CW,isFreed_of_fields->Ex,mapFields->DK,mapSeq->Hm
open PySem.Paired renaming length->EA,snoc->Wg
open PySem.SeqAt.RcAt renaming tuples->qR
open PySem.Str renaming ofString->Ff
open PySem.Value renaming bool->Rt,builtin->TJ,bytes->qD,float->W3,int->Pc,isInt->qC,isStrOf->kh,none->Be,ref->A7,str->Pb,type->Ea
open PySem.W renaming Frag->AG,InstAt->bd,Looks->HI,callWith_K->W5,cellsFrom_some->TK,clsIn->Ee,codeIn->QI,emptyDict->C5,excIn->ge,findIn->C4,findObj->bQ,fnOf->IC,handedIn->Zi,hasDictIn->NY,hideAll->K6,hideAll_get->Wf,hideAll_none->LW,instObj->D0,kdu_collect->We,keepIn->Gc,kia_one->CT,kitOne->Bm,kitx_dict->YK,kitx_list->YJ,lookIn->QH,looks_findIn->LV,looks_subIn->Wc,makesIn->bP,methodObj->NX,mg_none_of->DT,mg_of->gv,mroIn->Mp,nsOkIn->QG,of_hideAll->M4,plainGet->OV,plainOver->YI,specialIn->YH,subIn->Mo,tail_of_in->W4,takerIn->Pe,takesIn->bO,typeIn->LU
open PySem.W.Looks renaming here->qT,ld->qS
open PySem.W.WData renaming int->sh
open PySem.W.WShape renaming has->qB
open PySem.Walks renaming list->qQ,tuple->W2
open PySem.Within renaming cons->si
open Std.Legacy.Range renaming forIn_eq_forIn_range'->km,size->kj
open Sum renaming inl->CQ,inr->Pd
open Sum.inl renaming inj->U4
open True renaming intro->Db
open PySem PySem.Spec PyProof.Rows
namespace L2
abbrev Key:=Sum Int Str
def Ss:Key->AH->Bool
 | .inl k,v=>qC k v
 | .inr x,v=>kh x v
def keyH(w:By):Key->Int
 | .inl k=>hashInt k
 | .inr x=>hashStr w x
theorem Di:∀{k:Key} {v:AH},Ss k v=true->(∃i t,k=CQ i/\v=Pc i t)∨(∃x t,k=Pd x/\v=Pb x t)
 | .inl i,v,h=>by
  obtain⟨t,e⟩:=AH.isInt_shape (k:=i) (v:=v) h;exact .inl ⟨i,t,rfl,e⟩
 | .inr x,v,h=>by
  obtain⟨t,e⟩:=AH.isStrOf_shape (x:=x) (v:=v) h;exact .inr ⟨x,t,rfl,e⟩
theorem aU(i:Int)(t:Tok):Ss (.inl i) (.int i t)=true:=by simp[Ss,qC]
theorem aT(x:Str)(t:Tok):Ss (.inr x) (.str x t)=true:=by simp[Ss,kh]
theorem oq(a b:Int):decide ((CQ a:Key)=CQ b)=(a==b):=by
 by_cases e:a=b
 ·subst e;simp
 ·have h:¬(CQ a:Key)=CQ b:=λq=>e (U4 q)
  rw[wY h];exact(beq_eq_false_iff_ne.mpr e).symm
theorem oj(a b:Str):decide ((Pd a:Key)=Pd b)=decide (a=b):=by
 by_cases e:a=b
 ·subst e;simp
 ·have h:¬(Pd a:Key)=Pd b:=λq=>e (Pd.inj q)
  rw[wY h,wY e]
theorem oo(a:Int)(b:Str):decide ((CQ a:Key)=Pd b)=false:=wY (λq=>nomatch q)
theorem om(a:Str)(b:Int):decide ((Pd a:Key)=CQ b)=false:=wY (λq=>nomatch q)
def DN(prog:Bb)(w:By):PySem.KeyKind prog w Key where
 is:=Ss
 hash:=keyH w
 inj:=λv a b m hb=>by
  rcases Di m with⟨i,t,rfl,rfl⟩ | ⟨x,t,rfl,rfl⟩
  ·rcases Di hb with⟨j,u,rfl,e⟩ | ⟨y,u,rfl,e⟩
   ·injection e with g _;rw[g]
   ·exact nomatch e
  ·rcases Di hb with⟨j,u,rfl,e⟩ | ⟨y,u,rfl,e⟩
   ·exact nomatch e
   ·injection e with g _;rw[g]
 byValue:=λk v h=>by
  rcases Di h with⟨i,t,rfl,rfl⟩ | ⟨x,t,rfl,rfl⟩ <;> rfl
 pyHash:=λl h=>by
  rcases Di l with⟨i,t,rfl,rfl⟩ | ⟨x,t,rfl,rfl⟩
  ·exact wpAny_pyHash_int h
  ·exact wpAny_pyHash_str h
 eqBool:=λo l h=>by
  rcases Di o with⟨i,t,rfl,rfl⟩ | ⟨x,t,rfl,rfl⟩
  ·rcases Di l with⟨j,u,rfl,rfl⟩ | ⟨y,u,rfl,rfl⟩
   ·rw[oq]at h;exact qN h
   ·rw[oo]at h;exact SeqAt.EqAt.int_str i t y u _ _ _ _ h
  ·rcases Di l with⟨j,u,rfl,rfl⟩ | ⟨y,u,rfl,rfl⟩
   ·rw[om]at h;exact SeqAt.EqAt.str_int x t j u _ _ _ _ h
   ·rw[oj]at h;exact wpAny_eqBool_str h
 «strs»:=λk x t v h=>by
  rcases Di h with⟨i,u,rfl,e⟩ | ⟨y,u,rfl,e⟩
  ·exact nomatch e
  ·injection e with g _
   subst g
   cases v <;> rfl
theorem V5(prog:Bb)(w:By)(i:Int)(t:Tok):(DN prog w).is (.inl i) (.int i t)=true:=aU i t
theorem V4(prog:Bb)(w:By)(x:Str)(t:Tok):(DN prog w).is (.inr x) (.str x t)=true:=aT x t
inductive V where
 | non | bl (b:Bool) | int (i:Int) | str (x:Str) | byt (b:Array UInt8) | flt (b:UInt64) | ref (a:AV) | ty (n:String)
 deriving DecidableEq
def RelV:V->AH->Prop
 | .non,u=>u=Be
 | .bl b,u=>u=Rt b
 | .int i,u=>∃t,u=Pc i t
 | .str x,u=>∃t,u=Pb x t
 | .byt b,u=>∃t,u=qD b t
 | .flt b,u=>∃t,u=W3 b t
 | .ref a,u=>u=A7 a
 | .ty n,u=>u=Ea n
abbrev B6:List V->List AH->Prop:=G2 RelV
theorem B6.length(r:B6 xs g):xs.length=g.length:=EA r
theorem B6.get:∀{xs:List V} {g:List AH} {i:Nat} {x:V},B6 xs g->xs[i]?=some x->∃u,g[i]?=some u/\RelV x u
 | _,_,_,_,.nil,e=>by simp at e
 | _,_,0,_,.cons r _,e=>by simp at e;subst e;exact⟨_,rfl,r⟩
 | _,_,i+1,x,.cons _ t,e=>by
  obtain⟨u,j,l⟩:=B6.get (i:=i) (x:=x) t (by simpa using e);exact⟨u,by simpa using j,l⟩
theorem B6.append:∀{xs ys:List V} {g j:List AH},B6 xs g->B6 ys j->B6 (xs++ys) (g++j)
 | _,_,_,_,.nil,s=>s
 | _,_,_,_,.cons r t,s=>.cons r (B6.append t s)
theorem B6.take:∀{xs:List V} {g:List AH} (n:Nat),B6 xs g->B6 (xs.take n) (g.take n)
 | _,_,0,_=>.nil
 | _,_,_+1,.nil=>.nil
 | _,_,n+1,.cons r t=>.cons r (B6.take n t)
theorem B6.drop:∀{xs:List V} {g:List AH} (n:Nat),B6 xs g->B6 (xs.drop n) (g.drop n)
 | _,_,0,r=>r
 | _,_,_+1,.nil=>.nil
 | _,_,n+1,.cons _ t=>B6.drop n t
def NN:Option V->Option AH->Prop
 | some v,some u=>RelV v u
 | none,none=>True
 | _,_=>False
def KV{g:Type}:List (g×V)->List (g×AH)->Prop:=G2 λ(p:g×V) (q:g×AH)=>p.1=q.1/\RelV p.2 q.2
def kV:Key->V
 | .inl i=>.int i
 | .inr x=>.str x
inductive HO where
 | lst (xs:List V)
 | tup (xs:List V)
 | dK (j':List (Key×V)) | dT (j':List (List Key×V))
 | set (S:Int->Bool) (n:Nat)
 | ins (C dx:AV) (fs:List (Str×V))
 | own (x:AV)
 | xd (fs:List (Str×V))
 | met (f x:AV)
 | rng (lo hi:Int)
 | frz (o:Obj) (u:HO)
 | tbl (ps:Array AH)
 | ext (φ:CS->Prop)
abbrev Hp:=AV->Option HO
def upd(H:Hp)(a:AV)(o:HO):Hp:=λb=>if b=a then some o else H b
theorem Bq:upd H a o a=some o:=by unfold upd;rw[qX rfl]
theorem Bh(h:b≠a):upd H a o b=H b:=by unfold upd;rw[qY h]
theorem rh{H:Hp}{a b:AV}{o u:HO}(h:H a=some o)(h':H b=some u)(d:o≠u):a≠b:=by
 intro e;subst e;rw[h]at h';exact d (Ch h')
theorem Bx{H:Hp}{a b:AV}{o:HO}(h:H a=some o)(h':H b=none):a≠b:=by
 intro e;subst e;rw[h]at h';cases h'
section
variable(P:Bb)(w:By)
def C7(H:Hp)(h:CS)(a:AV):HO->Prop
 | .lst g=>g.length<=sizeLine/\∃(l:List AH) (n:Nat),B6 g l/\h.get? a=some { cls:=.type "list",data:=.seq l.toArray n }
 | .tup g=>(g.length<=sizeLine/\∃o,h.get? a=some o/\o.dict=none)/\∃l:List AH,B6 g l/\qH h a l.toArray
 | .dK m=>m.length<=sizeLine/\(a==Do)=false/\∃B,KV m B/\h.DictOf (DN P w) a B
 | .dT m=>m.length<=sizeLine/\(a==Do)=false/\∃g:List (List Key×AV×AH),
   G2 (λ(p:List Key×V) (q:List Key×AV×AH)=>p.1=q.1/\H q.2.1=some (.tup (p.1.map kV))/\RelV p.2 q.2.2) m g /\
   ∃o E J,h.get? a=some o/\o.ExactDict/\o.data=.dict E J/\E.toList=g.map (entryOfKey (O7 (DN P w)))/\(g.map (·.1)).Nodup
 | .set S n=>h.SetOf (bZ P w) a S n
 | .ins C s fs=>H s=some (.own a)/\fs.length<=1000/\s≠a/\h.get? a=some (D0 C s) /\
   ∃j,h.Ns1 s j/\(∀f,NN (fs.lookup f) (j f))/\U5 j (fs.map (·.1))
 | .own _=>∃o,h.get? a=some o
 | .xd fs=>∃j,h.Ns1 a j/\∀f,NN (fs.lookup f) (j f)
 | .rng lo L=>∃t u v,h.get? a=some { cls:=.type "range",data:=.fields #[.int lo t,.int L u,.int 1 v] }
 | .frz o u=>h.get? a=some o/\C7 H h a u
 | .tbl N=>h.get? a=some { cls:=.none,data:=.fields N }
 | .met f x=>h.get? a=some (NX (.ref f) (.ref x))
 | .ext A=>A h/\(∃o,h.get? a=some o)/\∀G I:CS,A G->(∀o,G.get? a=some o->I.get? a=some o)->A I
def HOk(H:Hp)(h:CS):Prop:=∀a o,H a=some o->C7 P w H h a o
end
section
variable{P:Bb}{w:By}{H H':Hp}{h h':CS}{a:AV}{o:HO}
theorem C7.lt(x:C7 P w H h a o):a < h.objs.size:=by
 cases o with
 | lst g=>obtain⟨_,_,_,_,e⟩:=x;exact AX e
 | tup g=>obtain⟨_,_,_,p⟩:=x;exact p.lt
 | dK j=>obtain⟨_,_,_,_,o,_,_,e,_⟩:=x;exact AX e
 | dT j=>obtain⟨_,_,_,_,o,_,_,e,_⟩:=x;exact AX e
 | set S n=>obtain⟨o,_,_,_,e,_⟩:=x;exact AX e
 | ins C l fs=>obtain⟨_,_,_,e,_⟩:=x;exact AX e
 | own y=>obtain⟨_,e⟩:=x;exact AX e
 | xd fs=>obtain⟨_,⟨_,_,_,e,_⟩,_⟩:=x;exact AX e
 | rng lo m=>obtain⟨_,_,_,e⟩:=x;exact AX e
 | frz s u=>obtain⟨e,_⟩:=x;exact AX e
 | tbl A=>exact AX (show h.get? a=some _ from x)
 | met f y=>exact AX (show h.get? a=some _ from x)
 | ext B=>obtain⟨_,⟨_,e⟩,_⟩:=x;exact AX e
theorem G2.mapP{j l:Type}{F G:j->l->Prop}:∀{l₁:List j} {g:List l},G2 F l₁ g->(∀a b,F a b->G a b)->G2 G l₁ g
 | _,_,.nil,_=>.nil
 | _,_,.cons r t,f=>.cons (f _ _ r) (G2.mapP t f)
theorem C7.stay(x:C7 P w H h a o)(k:∀b u,(b=a∨H b=some (.own a))->h.get? b=some u->h'.get? b=some u)
  (ho:∀b,H b=some (.own a)->H' b=some (.own a)) (G:∀b xs,H b=some (.tup xs)->H' b=some (.tup xs)):C7 P w H' h' a o:=by
 induction o with
 | lst xs=>obtain⟨z,m,n,r,e⟩:=x;exact⟨z,m,n,r,k _ _ (.inl rfl) e⟩
 | tup xs=>obtain⟨⟨z,I,s,J⟩,m,r,g,e,c⟩:=x;exact⟨⟨z,I,k _ _ (.inl rfl) s,J⟩,m,r,g,k _ _ (.inl rfl) e,c⟩
 | dK L=>obtain⟨z,y,N,r,g,j,l,e,c⟩:=x;exact⟨z,y,N,r,g,j,l,k _ _ (.inl rfl) e,c⟩
 | dT L=>
  obtain⟨z,y,xs,r,g,j,l,e,c⟩:=x;exact⟨z,y,xs,G2.mapP r λp q z=>⟨z.1,G _ _ z.2.1,z.2.2⟩,g,j,l,k _ _ (.inl rfl) e,c⟩
 | set S n=>obtain⟨g,j,l,t,e,c⟩:=x;exact⟨g,j,l,t,k _ _ (.inl rfl) e,c⟩
 | ins C R fs=>
  obtain⟨d,z,O,e,A,⟨B,j,l,s,c⟩,r⟩:=x;exact⟨ho _ d,z,O,k _ _ (.inl rfl) e,A,⟨B,j,l,k _ _ (.inr d) s,c⟩,r⟩
 | own y=>obtain⟨g,e⟩:=x;exact⟨g,k _ _ (.inl rfl) e⟩
 | xd fs=>obtain⟨A,⟨B,j,l,e,c⟩,r⟩:=x;exact⟨A,⟨B,j,l,k _ _ (.inl rfl) e,c⟩,r⟩
 | rng lo T=>obtain⟨t,u,v,e⟩:=x;exact⟨t,u,v,k _ _ (.inl rfl) e⟩
 | frz g u Q=>obtain⟨e,q⟩:=x;exact⟨k _ _ (.inl rfl) e,Q q⟩
 | tbl E=>
  have e:h.get? a=some { cls:=.none,data:=.fields E }:=x;show h'.get? a=some { cls:=.none,data:=.fields E };exact k a _ (.inl rfl) e
 | met f y=>
  have e:h.get? a=some (NX (.ref f) (.ref y)):=x;show h'.get? a=some (NX (.ref f) (.ref y));exact k a _ (.inl rfl) e
 | ext U=>obtain⟨p,⟨o,e⟩,st⟩:=x;exact⟨st _ _ p λo q=>k _ _ (.inl rfl) q,⟨o,k _ _ (.inl rfl) e⟩,st⟩
theorem HOk.lt(x:HOk P w H h)(e:H a=some o):a < h.objs.size:=(x a o e).lt
theorem HOk.fresh(x:HOk P w H h)(e:h.objs.size<=a):H a=none:=by
 cases q:H a with
 | none=>rfl
 | some u=>exact zX (Ae (x.lt q) e) (DL _)
theorem HOk.kept(x:HOk P w H h)(k:∀b u,h.get? b=some u->h'.get? b=some u):HOk P w H h':=λa o e=>
 (x a o e).stay (λb u _ q=>k b u q) (λ_ q=>q) λ_ _ q=>q
theorem HOk.laid(x:HOk P w H h)(k:∀b u,h.get? b=some u->h'.get? b=some u)(j:h.objs.size<=a)(new:C7 P w (upd H a o) h' a o):HOk P w (upd H a o) h':=λb u e=>by
 have g:=x.fresh j
 by_cases hb:b=a
 ·subst hb;rw[Bq]at e;cases e;exact new
 ·rw[Bh hb]at e
  exact(x b u e).stay (λc v _ q=>k c v q) (λc q=>by rw[Bh (Bx q g)];exact q) λc l q=>by rw[Bh (Bx q g)];exact q
end
def Rd(H:Hp)(a:AV)(u:HO):Prop:=H a=some u∨∃o,H a=some (.frz o u)
theorem Rd.ok(r:Rd H a u)(x:HOk P w H h):C7 P w H h a u:=by
 rcases r with r | ⟨o,r⟩
 ·exact x a u r
 ·obtain⟨_,q⟩:=x a _ r
  exact q
def Mut:Option HO->Prop
 | some (.lst _)=>True
 | some (.dK _)=>True
 | some (.dT _)=>True
 | some (.set _ _)=>True
 | some (.ins _ _ _)=>True
 | some (.ext _)=>True
 | _=>False
section
variable{P:Bb}{w:By}{H:Hp}{h h':CS}{x e:AV}
theorem HOk.write(ok:HOk P w H h)(j:Mut (H x))(o:e=x∨H e=some (.own x))(k:∀b u,b≠e->h.get? b=some u->h'.get? b=some u)(B:∃u,h'.get? e=some u)
  (new:C7 P w (upd H x o') h' x o'):HOk P w (upd H x o') h':=λb u q=>by
 have s:∀c y,H c=some (.own y)->c≠x:=λc y r z=>by subst z;rw[r]at j;exact j
 have C:∀c l,H c=some (.tup l)->c≠x:=λc l r z=>by subst z;rw[r]at j;exact j
 by_cases hb:b=x
 ·subst hb;rw[Bq]at q;cases q;exact new
 ·rw[Bh hb]at q
  by_cases g:b=e
  ·have A:H b=some (.own x):=by
    rcases o with z | z
    ·exact zX (g.trans z) hb
    ·rw[g];exact z
   rw[q]at A;cases A;obtain⟨v,E⟩:=B;exact⟨v,by rw[g];exact E⟩
  ·refine(ok b u q).stay (λc v m r=>k c v ?_ r) (λc r=>by rw[Bh (s c b r)];exact r) λc l r=>by rw[Bh (C c l r)];exact r
   rcases m with rfl | m
   ·exact g
   ·rintro rfl
    rcases o with z | z
    ·exact s c b m z
    ·rw[m]at z;cases z;exact hb rfl
end
structure Un(fs ex:List AV)(H H':Hp)(h h':CS):Prop where
 keep:∀b o,h.get? b=some o->H b=none->b∉fs->b∉ex->h'.get? b=some o
 slot:∀b o,h.get? b=some o->H b=none->b∈fs->b∉ex->∃sl,h'.get? b=some { o with slots:=sl }
 free:∀b o,h.get? b=some o->H b=none->b∉ex->H' b=none
 there:∀b o,h.get? b=some o->b∉ex->∃o',h'.get? b=some o'
 tups:∀b xs,H b=some (.tup xs)->H' b=some (.tup xs)
 frzs:∀b o u,H b=some (.frz o u)->H' b=some (.frz o u)
 tbls:∀b ps,H b=some (.tbl ps)->∃more,H' b=some (.tbl (ps++more))
section
variable{fs ex:List AV}{H H1:Hp}{h h1 h':CS}{a x e:AV}{o:HO}
theorem Un.any(u:Un fs ex H H1 h h1)(q:h.get? b=some g)(n:H b=none)(j:b∉ex):∃sl,h1.get? b=some { g with slots:=sl }:=by
 by_cases hb:b∈fs
 ·exact u.slot b g q n hb j
 ·exact⟨g.slots,u.keep b g q n hb j⟩
theorem Un.kept(k:∀b u,h.get? b=some u->h'.get? b=some u):Un fs ex H H h h':=
 ⟨λb g q _ _ _=>k b g q,λb g q _ _ _=>⟨g.slots,k b g q⟩,λ_ _ _ n _=>n,λb g q _=>⟨g,k b g q⟩,λ_ _ q=>q,λ_ _ _ q=>q,λ_ j q=>⟨#[],by rw[q];simp⟩⟩
theorem Un.refl:Un fs ex H H h h:=Un.kept λ_ _ q=>q
theorem Un.laid(k:∀b u,h.get? b=some u->h'.get? b=some u)(j:h.objs.size<=a)(g:H a=none):Un fs ex H (upd H a o) h h' where
 keep:=λb u q _ _ _=>k b u q
 slot:=λb u q _ _ _=>⟨u.slots,k b u q⟩
 free:=λb u q n _=>by rw[Bh (Ax (Ae (AX q) j))];exact n
 there:=λb u q _=>⟨u,k b u q⟩
 tups:=λb l q=>by rw[Bh (Bx q g)];exact q
 frzs:=λb u l q=>by rw[Bh (Bx q g)];exact q
 tbls:=λb m q=>⟨#[],by rw[Bh (Bx q g),q];simp⟩
theorem Un.write(j:Mut (H x))(s:e=x∨H e=some (.own x))(k:∀b u,b≠e->h.get? b=some u->h'.get? b=some u)(A:∃u,h'.get? e=some u):Un fs ex H (upd H x o) h h':=by
 have m:∀b,H b=none->b≠x:=λb n z=>by subst z;rw[n]at j;exact j
 have hb:∀b,H b=none->b≠e:=λb n z=>by
  subst z
  rcases s with r | r
  ·exact m b n r
  ·rw[n]at r;cases r
 have l:∀b u,H b=some u->¬Mut (some u)->b≠x:=λb u q B z=>by subst z;rw[q]at j;exact B j
 refine⟨λb u q n _ _=>k b u (hb b n) q,λb u q n _ _=>⟨u.slots,k b u (hb b n) q⟩,λb u q n _=>by rw[Bh (m b n)];exact n,λb u q _=>?_,
  λb C q=>by rw[Bh (l b _ q λz=>z)];exact q,λb u C q=>by rw[Bh (l b _ q λz=>z)];exact q,λb E q=>⟨#[],by rw[Bh (l b _ q λz=>z),q];simp⟩⟩
 by_cases g:b=e
 ·subst g;exact A
 ·exact⟨u,k b u g q⟩
end
def trk(h:CS)(H:Hp):List AV:=(BM h.objs.size).filter λa=>(H a).isSome
def UQ(h:CS)(H:Hp):CS:=K6 h (trk h H)
theorem ag(h:CS)(H:Hp):(UQ h H).objs.size=h.objs.size:=PySem.W.hideAll_size _ _
theorem fO(e:h.get? b=some o)(n:H b=none):(UQ h H).get? b=some o:=
 Wf _ e λg=>by
  have q:(H b).isSome=true:=(BF.mp g).2;rw[n]at q;simp at q
theorem jf(e:(UQ h H).get? b=some o):h.get? b=some o/\H b=none:=by
 have g:h.get? b=some o:=M4 (trk h H) e;refine⟨g,?_⟩
 cases q:H b with
 | none=>rfl
 | some x=>
  have j:b∈trk h H:=BF.mpr ⟨DM.mpr (AX g),by simp[q]⟩;have z:(UQ h H).get? b=none:=LW (trk h H) j;rw[z]at e;cases e
structure Mod(K:AG)(mg:Str->Option AH)(base:CS):Prop where
 kin:K.In base
 glob:base.Ns BJ mg
 blt:∃mb,base.Ns W0 mb/\∀x:Str,x≠"__name__"->mb x=Ev x
 nolimit:base.NoLimit
structure Cx where
 prog:Bb
 w:By
 K:AG
 mg:Str->Option AH
 base:CS
 A:Bn
 N:List Str
 s₀:AL
 H₀:Hp
 env:Env
 outer:List Env
 stack:List Env
 ex:List AV
 fn:Str->Bool
 calm:Bool
 pn:List (AV×Obj)
 xe:AH->AL->Prop
def frs(l:List Env):List AV:=l.filterMap (·.frame)
abbrev Cx.fs(X:Cx):List AV:=frs X.outer
def Vis(g:Ru)(x:Str):Prop:=g.names.lookup x=some .local∨g.names.lookup x=some .cell∨g.names.lookup x=some .free
def Loc(g:Ru)(x:Str):Prop:=g.names.lookup x=some .local∨g.names.lookup x=some .cell
def Look(env:Env)(h:CS)(m:Str->Option AH)(x:Str)(u:AH):Prop:=
 (env.kindOf x=some .local/\m x=some u)∨((env.kindOf x=some .cell∨env.kindOf x=some .free)/\∃c,env.cells.lookup x=some c/\h.IsCell c (some u))
structure Cx.Ok(X:Cx):Prop where
 mod:Mod X.K X.mg X.base
 kind:X.env.scope.kind=.function
 glob:X.env.globals=BJ
 blt:X.env.builtins=W0
 above:X.s₀.heap.objs.size<=X.env.locals
 inj:∀x y c,X.env.cells.lookup x=some c->X.env.cells.lookup y=some c->x=y
 has:∀x,(X.env.kindOf x=some .cell∨X.env.kindOf x=some .free)->∃c,X.env.cells.lookup x=some c
 cab:∀x c,X.fn x=true->X.env.cells.lookup x=some c->X.s₀.heap.objs.size<=c
 hd:X.calm=true->X.A.handled=none
 frames:X.A.frames=some X.stack
 stk:X.stack=X.outer∨(X.stack=X.env :: X.outer/\X.env.frame=some X.env.locals)
 exf:∀b∈X.ex,b≠X.env.locals/\∀x c,X.env.cells.lookup x=some c->c≠b
 bs:∀b o,X.base.get? b=some o->X.s₀.heap.get? b=some o/\X.H₀ b=none
 bsz:X.base.objs.size<=X.s₀.heap.objs.size
 noex:∀b o,X.base.get? b=some o->b∉X.ex
 exfs:∀b∈X.ex,b∉X.fs
 funs:X.s₀.heap.FunFrames X.base X.outer
 frf:∀b∈X.fs,X.H₀ b=none
structure Inv(X:Cx)(ζ:List (AV×Obj))(σ:List (Option V))(H:Hp)(s:AL):Prop where
 ok:X.Ok
 os:s.os=X.s₀.os
 bare:Iv s.gens
 base:Un X.fs X.ex X.H₀ H X.s₀.heap s.heap
 loc:∃m,s.heap.Ns X.env.locals m/\∀(i:Nat) (x:Str) (v:V),X.N[i]?=some x->σ[i]?=some (some v)->Vis X.env.scope x->∃u,RelV v u/\Look X.env s.heap m x u
 cell:∀x c,X.env.cells.lookup x=some c->∃v,s.heap.IsCell c v
 free:H X.env.locals=none
 freeC:∀x c,X.env.cells.lookup x=some c->H c=none
 pin:∀p∈X.pn++ζ,s.heap.get? p.1=some p.2/\H p.1=none/\p.1≠X.env.locals/\p.1∉X.fs/\∀v,p.2.data≠.cell v
 hok:HOk X.prog X.w H s.heap
 len:σ.length=X.N.length
section
variable{X:Cx}{ζ:List (AV×Obj)}{σ:List (Option V)}{H H':Hp}{s:AL}{h':CS}
theorem Cx.Ok.nofr(ok:X.Ok)(e:X.base.get? b=some o):b∉X.fs:=λhb=>by
 have:=(ok.funs.mem hb).1;rw[e]at this;cases this
theorem Inv.bs(I:Inv X ζ σ H s):∀b o,X.base.get? b=some o->s.heap.get? b=some o/\H b=none:=λb o e=>
 ⟨I.base.keep b o (I.ok.bs b o e).1 (I.ok.bs b o e).2 (I.ok.nofr e) (I.ok.noex b o e),I.base.free b o (I.ok.bs b o e).1 (I.ok.bs b o e).2 (I.ok.noex b o e)⟩
theorem Inv.bk(I:Inv X ζ σ H s):∀b o,X.base.get? b=some o->s.heap.get? b=some o:=λb o e=>(I.bs b o e).1
theorem Inv.mod(I:Inv X ζ σ H s):Mod X.K X.mg X.base:=I.ok.mod
theorem Inv.kIn(I:Inv X ζ σ H s):X.K.In s.heap:=I.ok.mod.kin.keeps I.bk
theorem Inv.lt(I:Inv X ζ σ H s):X.env.locals < s.heap.objs.size:=let ⟨_,g,_⟩:=I.loc;g.lt
theorem Inv.sz(I:Inv X ζ σ H s):X.s₀.heap.objs.size<=s.heap.objs.size:=Av I.ok.above (LY I.lt)
theorem Inv.nofs(I:Inv X ζ σ H s)(h:s.heap.objs.size<=a):a∉X.fs:=λhb=>by
 obtain⟨_,o,g,_⟩:=I.ok.funs.mem hb;exact zX (Ae (AX g) (Av I.sz h)) (DL _)
theorem Inv.cne(I:Inv X ζ σ H s):∀x c,X.env.cells.lookup x=some c->c≠X.env.locals:=λx c e z=>by
 obtain⟨v,o,j,hd⟩:=I.cell x c e;obtain⟨m,⟨A,B,C,l,g,_⟩,_⟩:=I.loc;rw[z,l]at j;cases j;rw[g]at hd;cases hd
theorem Inv.funs(I:Inv X ζ σ H s):s.heap.FunFrames X.base X.outer:=by
 have all:∀(l:List Env),(∀b∈frs l,b∈X.fs)->X.s₀.heap.FunFrames X.base l->s.heap.FunFrames X.base l:=by
  intro l
  induction l with
  | nil=>intro _ _;trivial
  | cons A r B=>
   intro m C;obtain⟨E,⟨L,o,g,G,J,hd⟩,N⟩:=C;have j:L∈X.fs:=m L (by unfold frs;rw[NV,g];exact Ao)
   obtain⟨sl,e⟩:=I.base.slot L o J (I.ok.frf L j) j λz=>I.ok.exfs L z j
   exact⟨E,⟨L,_,g,G,e,hd⟩,B (λb hb=>m b (by unfold frs;rw[NV,g];exact AT _ hb)) N⟩
 exact all X.outer (λ_ hb=>hb) I.ok.funs
theorem Inv.stack(I:Inv X ζ σ H s):s.heap.FunFrames X.base X.stack:=by
 rcases I.ok.stk with e | ⟨e,g⟩
 ·rw[e];exact I.funs
 ·rw[e]
  obtain⟨m,j,_⟩:=I.loc;refine .cons (by rw[I.ok.kind];decide) g j ?_ I.funs;exact YQ (Av I.ok.bsz I.ok.above)
theorem Inv.stkSub(I:Inv X ζ σ H s):∀b∈frs X.stack,b∈X.env.locals :: X.fs:=λb hb=>by
 rcases I.ok.stk with e | ⟨e,g⟩
 ·rw[e]at hb;exact AT _ hb
 ·rw[e]at hb
  unfold frs at hb;rw[NV,g]at hb;exact hb
theorem Inv.stkFree(I:Inv X ζ σ H s):∀b∈frs X.stack,H b=none:=λb hb=>by
 rcases Aq.mp (I.stkSub b hb)with e | hb
 ·rw[e];exact I.free
 ·obtain⟨_,o,g,_⟩:=I.ok.funs.mem hb
  exact I.base.free b o g (I.ok.frf b hb) λz=>I.ok.exfs b z hb
theorem Inv.step{g':Array GenState}{t':Nat}{d':Drawn}{ch:List AV}(I:Inv X ζ σ H s)
  (E:∀b∈ch,(b∈X.ex∨X.s₀.heap.objs.size<=b)/\b≠X.env.locals/\(∀x c,X.env.cells.lookup x=some c->c≠b)/\∀p∈X.pn++ζ,p.1≠b)
  (keep:∀b o,b≠X.env.locals->b∉X.fs->b∉ch->s.heap.get? b=some o->H b=none->h'.get? b=some o)
  (B:∀b o,b≠X.env.locals->b∈X.fs->b∉ch->s.heap.get? b=some o->H b=none->∃sl,h'.get? b=some { o with slots:=sl }) (free:∀b o,b∉ch->s.heap.get? b=some o->H b=none->H' b=none)
  (there:∀b o,b∉ch->s.heap.get? b=some o->∃o',h'.get? b=some o')
  (G:∀b xs,H b=some (.tup xs)->H' b=some (.tup xs)) (J:∀b o u,H b=some (.frz o u)->H' b=some (.frz o u)) (L:∀b ps,H b=some (.tbl ps)->∃more,H' b=some (.tbl (ps++more)))
  (ns:∀m,s.heap.Ns X.env.locals m->h'.Ns X.env.locals m) (Q:HOk X.prog X.w H' h') (Z:Iv g') :
  Inv X ζ σ H' { s with heap:=h',gens:=g',drawn:=d',toks:=t' }:=by
 have R:∀b o,X.s₀.heap.get? b=some o->b≠X.env.locals:=λb o e=>Ax (Ae (AX e) I.ok.above)
 have P:∀b o,X.s₀.heap.get? b=some o->b∉X.ex->b∉ch:=λb o e g hb=>by
  rcases(E b hb).1 with z | z
  ·exact g z
  ·exact zX (Ae (AX e) z) (DL _)
 have j:∀x c,X.env.cells.lookup x=some c->∀v,s.heap.IsCell c v->h'.IsCell c v:=by
  rintro x c e v ⟨o,C,hd⟩
  have N:c∉ch:=λz=>(E c z).2.2.1 x c e rfl
  by_cases S:c∈X.fs
  ·obtain⟨sl,q⟩:=B c o (I.cne x c e) S N C (I.freeC x c e)
   exact⟨_,q,hd⟩
  ·exact⟨o,keep c o (I.cne x c e) S N C (I.freeC x c e),hd⟩
 refine⟨I.ok,I.os,Z,⟨λb o e n hb g=>?_,λb o e n hb g=>?_,λb o e n g=>?_,λb o e g=>?_,λb xs e=>G b xs (I.base.tups b xs e),λb o xs e=>J b o xs (I.base.frzs b o xs e),λb ps e=>?_⟩,?_,λx c e=>?_,?_,λx c e=>?_,λp T=>?_,Q,I.len⟩
 ·exact keep b o (R b o e) hb (P b o e g) (I.base.keep b o e n hb g) (I.base.free b o e n g)
 ·obtain⟨sl,A⟩:=I.base.slot b o e n hb g
  obtain⟨Δ,O⟩:=B b _ (R b o e) hb (P b o e g) A (I.base.free b o e n g);exact⟨Δ,O⟩
 ·obtain⟨o',A⟩:=I.base.there b o e g
  exact free b o' (P b o e g) A (I.base.free b o e n g)
 ·obtain⟨o',A⟩:=I.base.there b o e g
  exact there b o' (P b o e g) A
 ·obtain⟨m1,A⟩:=I.base.tbls b ps e
  obtain⟨m2,O⟩:=L b _ A;exact⟨m1++m2,by rw[O,Zn]⟩
 ·obtain⟨m,hn,hl⟩:=I.loc
  refine⟨m,ns m hn,λi x v A O e3=>?_⟩;obtain⟨u,r,l⟩:=hl i x v A O e3;refine⟨u,r,?_⟩
  rcases l with l | ⟨k,c,e,z⟩
  ·exact .inl l
  ·exact .inr ⟨k,c,e,j x c e _ z⟩
 ·obtain⟨v,z⟩:=I.cell x c e
  exact⟨v,j x c e v z⟩
 ·obtain⟨m,⟨o,_,_,C,_⟩,_⟩:=I.loc
  exact free _ o (λz=>(E _ z).2.1 rfl) C I.free
 ·obtain⟨v,o,C,hd⟩:=I.cell x c e
  exact free c o (λz=>(E c z).2.2.1 x c e rfl) C (I.freeC x c e)
 ·obtain⟨e,n,U,Y,d⟩:=I.pin p T
  have N:p.1∉ch:=λz=>(E p.1 z).2.2.2 p T rfl
  exact⟨keep p.1 p.2 U Y N e n,free p.1 p.2 N e n,U,Y,d⟩
theorem Inv.stepN{g':Array GenState}{t':Nat}{d':Drawn}{ch:List AV}(I:Inv X ζ σ H s)
  (E:∀b∈ch,(b∈X.ex∨X.s₀.heap.get? b=none)/\b≠X.env.locals/\(∀x c,X.env.cells.lookup x=some c->c≠b)/\∀p∈X.pn++ζ,p.1≠b)
  (keep:∀b o,b≠X.env.locals->b∉X.fs->b∉ch->s.heap.get? b=some o->H b=none->h'.get? b=some o)
  (B:∀b o,b≠X.env.locals->b∈X.fs->b∉ch->s.heap.get? b=some o->H b=none->∃sl,h'.get? b=some { o with slots:=sl }) (free:∀b o,b∉ch->s.heap.get? b=some o->H b=none->H' b=none)
  (there:∀b o,b∉ch->s.heap.get? b=some o->∃o',h'.get? b=some o')
  (G:∀b xs,H b=some (.tup xs)->H' b=some (.tup xs)) (J:∀b o u,H b=some (.frz o u)->H' b=some (.frz o u)) (L:∀b ps,H b=some (.tbl ps)->∃more,H' b=some (.tbl (ps++more)))
  (ns:∀m,s.heap.Ns X.env.locals m->h'.Ns X.env.locals m) (Q:HOk X.prog X.w H' h') (Z:Iv g') :
  Inv X ζ σ H' { s with heap:=h',gens:=g',drawn:=d',toks:=t' }:=by
 have R:∀b o,X.s₀.heap.get? b=some o->b≠X.env.locals:=λb o e=>Ax (Ae (AX e) I.ok.above)
 have P:∀b o,X.s₀.heap.get? b=some o->b∉X.ex->b∉ch:=λb o e g hb=>by
  rcases(E b hb).1 with z | z
  ·exact g z
  ·rw[z]at e;cases e
 have j:∀x c,X.env.cells.lookup x=some c->∀v,s.heap.IsCell c v->h'.IsCell c v:=by
  rintro x c e v ⟨o,C,hd⟩
  have N:c∉ch:=λz=>(E c z).2.2.1 x c e rfl
  by_cases S:c∈X.fs
  ·obtain⟨sl,q⟩:=B c o (I.cne x c e) S N C (I.freeC x c e)
   exact⟨_,q,hd⟩
  ·exact⟨o,keep c o (I.cne x c e) S N C (I.freeC x c e),hd⟩
 refine⟨I.ok,I.os,Z,⟨λb o e n hb g=>?_,λb o e n hb g=>?_,λb o e n g=>?_,λb o e g=>?_,λb xs e=>G b xs (I.base.tups b xs e),λb o xs e=>J b o xs (I.base.frzs b o xs e),λb ps e=>?_⟩,?_,λx c e=>?_,?_,λx c e=>?_,λp T=>?_,Q,I.len⟩
 ·exact keep b o (R b o e) hb (P b o e g) (I.base.keep b o e n hb g) (I.base.free b o e n g)
 ·obtain⟨sl,A⟩:=I.base.slot b o e n hb g
  obtain⟨Δ,O⟩:=B b _ (R b o e) hb (P b o e g) A (I.base.free b o e n g);exact⟨Δ,O⟩
 ·obtain⟨o',A⟩:=I.base.there b o e g
  exact free b o' (P b o e g) A (I.base.free b o e n g)
 ·obtain⟨o',A⟩:=I.base.there b o e g
  exact there b o' (P b o e g) A
 ·obtain⟨m1,A⟩:=I.base.tbls b ps e
  obtain⟨m2,O⟩:=L b _ A;exact⟨m1++m2,by rw[O,Zn]⟩
 ·obtain⟨m,hn,hl⟩:=I.loc
  refine⟨m,ns m hn,λi x v A O e3=>?_⟩;obtain⟨u,r,l⟩:=hl i x v A O e3;refine⟨u,r,?_⟩
  rcases l with l | ⟨k,c,e,z⟩
  ·exact .inl l
  ·exact .inr ⟨k,c,e,j x c e _ z⟩
 ·obtain⟨v,z⟩:=I.cell x c e
  exact⟨v,j x c e v z⟩
 ·obtain⟨m,⟨o,_,_,C,_⟩,_⟩:=I.loc
  exact free _ o (λz=>(E _ z).2.1 rfl) C I.free
 ·obtain⟨v,o,C,hd⟩:=I.cell x c e
  exact free c o (λz=>(E c z).2.2.1 x c e rfl) C (I.freeC x c e)
 ·obtain⟨e,n,U,Y,d⟩:=I.pin p T
  have N:p.1∉ch:=λz=>(E p.1 z).2.2.2 p T rfl
  exact⟨keep p.1 p.2 U Y N e n,free p.1 p.2 N e n,U,Y,d⟩
theorem Inv.un{t':Nat}(I:Inv X ζ σ H s)(u:Un X.fs [] H H' s.heap h')(g:HOk X.prog X.w H' h'):Inv X ζ σ H' { s with heap:=h',toks:=t' }:=by
 obtain⟨m,⟨o,J,L,j,r⟩,_⟩:=id I.loc;obtain⟨sl,A⟩:=u.any j I.free (by simp)
 exact I.step (g':=s.gens) (d':=s.drawn) (ch:=[]) (λ_ z=>nomatch z) (λb o _ hb _ e n=>u.keep b o e n hb (by simp)) (λb o _ hb _ e n=>u.slot b o e n hb (by simp)) (λb o _ e n=>u.free b o e n (by simp)) (λb o _ e=>u.there b o e (by simp)) u.tups u.frzs u.tbls (λN B=>by
  obtain⟨O,C,E,l,G⟩:=B;rw[j]at l;cases l
  exact⟨_,C,E,A,G⟩) g I.bare
theorem Inv.call{g':Array GenState}{t':Nat}{d':Drawn}{ch:List AV}(I:Inv X ζ σ H s)(u:Un (frs X.stack) ch H H' s.heap h')(j:HOk X.prog X.w H' h')(E:Iv g')
  (A:∀b∈ch,(b∈X.ex∨X.s₀.heap.objs.size<=b)/\b≠X.env.locals/\(∀x c,X.env.cells.lookup x=some c->c≠b)/\∀p∈X.pn++ζ,p.1≠b) :
  Inv X ζ σ H' { s with heap:=h',gens:=g',drawn:=d',toks:=t' }:=by
 obtain⟨m,⟨o,O,P,B,r⟩,_⟩:=id I.loc
 obtain⟨sl,l⟩:=u.any B I.free λz=>(A _ z).2.1 rfl
 exact I.step (ch:=ch) A (λb o l hb g e n=>u.keep b o e n (λz=>(Aq.mp (I.stkSub b z)).elim l hb) g) (λb o _ _ g e n=>u.any e n g) (λb o g e n=>u.free b o e n g) (λb o g e=>u.there b o e g) u.tups u.frzs u.tbls (λQ G=>by
  obtain⟨R,J,L,C,N⟩:=G;rw[B]at C;cases C
  exact⟨_,J,L,l,N⟩) j E
theorem Inv.turned{t':Nat}{it:AV}(I:Inv X ζ σ H s)(k:∀b o,b≠it->s.heap.get? b=some o->h'.get? b=some o)(A:H it=none)(j:it≠X.env.locals)
  (B:it∈X.ex∨X.s₀.heap.objs.size<=it) (C:∀x c,X.env.cells.lookup x=some c->c≠it) (E:∀p∈X.pn++ζ,p.1≠it):Inv X ζ σ H { s with heap:=h',toks:=t' }:=by
 have l:∀b u,H b=some u->b≠it:=λb u e z=>by rw[z,A]at e;cases e
 refine I.step (g':=s.gens) (d':=s.drawn) (ch:=[it]) (λb hb=>?_) (λb o _ _ g e _=>k b o (λz=>g (by simp[z])) e) (λb o _ _ g e _=>⟨o.slots,k b o (λz=>g (by simp[z])) e⟩) (λ_ _ _ _ n=>n)
  (λb o g e=>⟨o,k b o (λz=>g (by simp[z])) e⟩) (λ_ _ e=>e) (λ_ _ _ e=>e) (λb O e=>⟨#[],by rw[e];simp⟩) (λm G=>?_) (λb u e=>?_) I.bare
 ·have e:b=it:=by simpa using hb
  subst e;exact⟨B,j,C,E⟩
 ·obtain⟨o,J,L,N,r⟩:=G
  exact⟨o,J,L,k _ o (CY j) N,r⟩
 ·refine(I.hok b u e).stay (λc v g q=>k c v ?_ q) (λ_ q=>q) λ_ _ q=>q
  rcases g with z | z
  ·rw[z];exact l b u e
  ·exact l c _ z
theorem Inv.tok(I:Inv X ζ σ H s)(t:Nat):Inv X ζ σ H { s with toks:=t }:=I.un (h':=s.heap) (t':=t) Un.refl I.hok
theorem Inv.kept(I:Inv X ζ σ H s)(k:∀b u,s.heap.get? b=some u->h'.get? b=some u):Inv X ζ σ H { s with heap:=h',toks:=t' }:=I.un (Un.kept k) (I.hok.kept k)
theorem Inv.laid(I:Inv X ζ σ H s)(k:∀b u,s.heap.get? b=some u->h'.get? b=some u)(g:s.heap.objs.size<=a)(new:C7 X.prog X.w (upd H a o) h' a o) :
  Inv X ζ σ (upd H a o) { s with heap:=h',toks:=t' }:=I.un (Un.laid k g (I.hok.fresh g)) (I.hok.laid k g new)
theorem Inv.write(I:Inv X ζ σ H s)(g:Mut (H x))(j:e=x∨H e=some (.own x))(k:∀b u,b≠e->s.heap.get? b=some u->h'.get? b=some u)(l:∃u,h'.get? e=some u)
  (new:C7 X.prog X.w (upd H x o) h' x o):Inv X ζ σ (upd H x o) { s with heap:=h',toks:=t' }:=I.un (Un.write g j k l) (I.hok.write g j k l new)
theorem Inv.pins_of(I:Inv X ζ σ H s)(h:∀p∈pins',s.heap.get? p.1=some p.2/\H p.1=none/\p.1≠X.env.locals/\p.1∉X.fs/\∀v,p.2.data≠.cell v):Inv X pins' σ H s:=
 ⟨I.ok,I.os,I.bare,I.base,I.loc,I.cell,I.free,I.freeC,λp g=>(Au.mp g).elim (λz=>I.pin p (As _ z)) (h p),I.hok,I.len⟩
theorem Q0{N:List Str}(g:N.Nodup){i j:Nat}{x:Str}(a:N[i]?=some x)(b:N[j]?=some x):i=j:=by
 obtain⟨o,l⟩:=AD.mp a;obtain⟨A,m⟩:=AD.mp b;exact(gj g).mp (l.trans m.symm)
theorem Sf{M:Ry}{A:Bn}{E:AH->AL->Prop}{i:Nat}{x:Str}{v:V}{u:AH}{Q:Unit->AL->Prop}(I:Inv X ζ σ H s)(hN:X.N.Nodup)(hi:X.N[i]?=some x)(G:Loc X.env.scope x)(r:RelV v u)
  (h:∀s',Inv X ζ (σ.set i (some v)) H s'->(∃a,EC a s.heap s'.heap/\(a=X.env.locals∨X.env.cells.lookup x=some a))->Q () s') (hf:X.fn x=true∨X.env.scope.names.lookup x=some .local:=by first | exact .inl rfl | exact .inr rfl | assumption):Af M A (storeName X.env x u) Q E s:=by
 obtain⟨m,Y,hl⟩:=id I.loc
 have Η:(X.env.scope.kind==.class||(X.env.scope.kind==.module&&X.env.locals != X.env.globals))=false:=by rw[I.ok.kind];rfl
 have L:i < σ.length:=by rw[I.len];exact(AD.mp hi).1
 have cne:=I.cne
 have l:∀{a:AV} {h':CS},(∃o,s.heap.get? a=some o/\H a=none)->EC a s.heap h'->HOk X.prog X.w H h':=λ{a h'} ha g b ob e=>by
  obtain⟨_,_,wB⟩:=ha
  refine(I.hok b ob e).stay (λc w' C q=>(g.2 c ?_).trans q) (λ_ q=>q) λ_ _ q=>q
  rintro rfl
  rcases C with rfl | C
  ·rw[wB]at e;cases e
  ·rw[wB]at C;cases C
 rcases G with O | O
 ·refine wpAny_storeName_local O Y (λh' uS g=>?_) Η
  obtain⟨oL,_,_,Z,_⟩:=id Y;refine h _ ⟨I.ok,I.os,I.bare,⟨λb o e n hb G=>?_,λb o e n hb G=>?_,I.base.free,λb o e G=>?_,I.base.tups,I.base.frzs,I.base.tbls⟩,⟨_,uS,λj y v' B J e3=>?_⟩,λy c e=>?_,I.free,I.freeC,λp hp=>?_,l ⟨oL,Z,I.free⟩ g,by simpa using I.len⟩ ⟨_,g,.inl rfl⟩
  ·exact(g.2 b (Ax (Ae (AX e) I.ok.above))).trans (I.base.keep b o e n hb G)
  ·obtain⟨sl,B⟩:=I.base.slot b o e n hb G
   exact⟨sl,(g.2 b (Ax (Ae (AX e) I.ok.above))).trans B⟩
  ·obtain⟨o',B⟩:=I.base.there b o e G
   exact⟨o',(g.2 b (Ax (Ae (AX e) I.ok.above))).trans B⟩
  ·by_cases P:j=i
   ·subst P
    rw[hi]at B;cases B;rw[BH L]at J;cases J;exact⟨u,r,.inl ⟨O,by simp⟩⟩
   ·rw[A1 (CY P)]at J
    obtain⟨u',r',q⟩:=hl j y v' B J e3;refine⟨u',r',?_⟩
    rcases q with⟨k,e⟩ | ⟨k,c,e,z⟩
    ·refine .inl ⟨k,?_⟩
     have:y≠x:=λe=>P (Q0 hN B (e▸hi))
     simp[this,e]
    ·exact .inr ⟨k,c,e,z.sameBut g (cne y c e)⟩
  ·obtain⟨w',z⟩:=I.cell y c e
   exact⟨w',z.sameBut g (cne y c e)⟩
  ·obtain⟨e,n,T,nf,d⟩:=I.pin p hp
   exact⟨(g.2 p.1 T).trans e,n,T,nf,d⟩
 ·have Θ:X.fn x=true:=by
   rcases hf with z | z
   ·exact z
   ·rw[z]at O;cases O
  obtain⟨c,C⟩:=I.ok.has x (.inl O);obtain⟨w',z⟩:=I.cell x c C;refine wpAny_storeName_cell I.ok.kind O C z (λh' R g=>?_);obtain⟨oc,S,Ι⟩:=id z;refine h { s with heap:=h' } ⟨I.ok,I.os,I.bare,⟨λb o e n hb G=>?_,λb o e n hb G=>?_,I.base.free,λb o e G=>?_,I.base.tups,I.base.frzs,I.base.tbls⟩,⟨m,Y.sameBut g (CY (cne x c C)),λj y v' B J e3=>?_⟩,λy U e=>?_,I.free,I.freeC,λp hp=>?_,l ⟨oc,S,I.freeC x c C⟩ g,by simpa using I.len⟩ ⟨c,g,.inr C⟩
  ·exact(g.2 b (Ax (Ae (AX e) (I.ok.cab x c Θ C)))).trans (I.base.keep b o e n hb G)
  ·obtain⟨sl,B⟩:=I.base.slot b o e n hb G
   exact⟨sl,(g.2 b (Ax (Ae (AX e) (I.ok.cab x c Θ C)))).trans B⟩
  ·obtain⟨o',B⟩:=I.base.there b o e G
   exact⟨o',(g.2 b (Ax (Ae (AX e) (I.ok.cab x c Θ C)))).trans B⟩
  ·by_cases P:j=i
   ·subst P
    rw[hi]at B;cases B;rw[BH L]at J;cases J;exact⟨u,r,.inr ⟨.inl O,c,C,R⟩⟩
   ·rw[A1 (CY P)]at J
    obtain⟨u',r',q⟩:=hl j y v' B J e3;refine⟨u',r',?_⟩
    rcases q with q | ⟨k,U,e,z'⟩
    ·exact .inl q
    ·refine .inr ⟨k,U,e,z'.sameBut g ?_⟩
     rintro rfl;exact P (Q0 hN B (I.ok.inj _ _ _ e C▸hi))
  ·by_cases vt:U=c
   ·subst vt;exact⟨_,R⟩
   ·obtain⟨w2,z2⟩:=I.cell y U e
    exact⟨w2,z2.sameBut g vt⟩
  ·obtain⟨e,n,T,nf,d⟩:=I.pin p hp
   refine⟨(g.2 p.1 ?_).trans e,n,T,nf,d⟩;intro q;rw[q,S]at e;have q':oc=p.2:=Ch e;exact d w' (by rw[<-q'];exact Ι)
theorem Qe(I:Inv X ζ σ H s)(g:X.N.Nodup)(hi:X.N[i]?=some x)(j:Loc X.env.scope x)(r:RelV v u)
  (h:∀s',Inv X ζ (σ.set i (some v)) H s'->Q () s') (l:X.fn x=true∨X.env.scope.names.lookup x=some .local:=by first | exact .inl rfl | exact .inr rfl | assumption):Af M A (storeName X.env x u) Q E s:=
 Sf I g hi j r (λs' m _=>h s' m) l
theorem Inv.call'(I:Inv X ζ σ H s)(ho:s'.os=s.os)(u:Un (frs X.stack) ch H H' s.heap s'.heap)(g:HOk X.prog X.w H' s'.heap)(j:Iv s'.gens)
  (l:∀b∈ch,(b∈X.ex∨X.s₀.heap.objs.size<=b)/\b≠X.env.locals/\(∀x c,X.env.cells.lookup x=some c->c≠b)/\∀p∈X.pn++ζ,p.1≠b):Inv X ζ σ H' s':=by
 obtain⟨h',g',d',t',m⟩:=s';have e:m=s.os:=ho;subst e;exact I.call (g':=g') (t':=t') (d':=d') u g j l
end
abbrev XK:=AH->Option AV->Hp->Prop
abbrev St:=List (Option V)
abbrev VK:=V->Hp->Prop
abbrev TE:=St->Hp->VK->Prop
abbrev TT:=St->Hp->(Bool->Hp->Prop)->Prop
abbrev TA:=St->Hp->(List V->Hp->Prop)->Prop
structure YE where
 nx:St->Hp->Prop
 rt:VK
 bk:St->Hp->Prop:=λ_ _=>False
 ct:St->Hp->Prop:=λ_ _=>False
abbrev TS:=YE->St->Hp->Prop
def EP(X:Cx)(j:List (AV×Obj))(l:St)(Q:VK)(u:AH)(s':AL):Prop:=∃v g,Inv X j l g s'/\RelV v u/\Q v g
def TP(X:Cx)(j:List (AV×Obj))(l:St)(Q:Bool->Hp->Prop)(b:Bool)(s':AL):Prop:=∃g,Inv X j l g s'/\Q b g
def AP(X:Cx)(l:List (AV×Obj))(m:St)(Q:List V->Hp->Prop)(o:List AH)(s':AL):Prop:=∃g j,Inv X l m j s'/\B6 g o/\Q g j
def SP(X:Cx)(l:List (AV×Obj))(D:YE)(f:Flow)(s':AL):Prop:=
 match f with
 | .next=>∃g j,Inv X l g j s'/\D.nx g j
 | .brk=>∃g j,Inv X l g j s'/\D.bk g j
 | .cont=>∃g j,Inv X l g j s'/\D.ct g j
 | .ret u=>∃v g j,Inv X l g j s'/\RelV v u/\D.rt v j
def PE(X:Cx)(e:Expr)(t:TE):Prop:=
 ∀(j:List (AV×Obj)) (s:AL) (g:St) (H:Hp) (Q:VK),Inv X j g H s->t g H Q->Af (Am X.prog X.w) X.A (Bt e X.env) (EP X j g Q) X.xe s
def PT(X:Cx)(e:Expr)(t:TT):Prop:=
 ∀(j:List (AV×Obj)) (s:AL) (g:St) (H:Hp) (Q:Bool->Hp->Prop),Inv X j g H s->t g H Q->Af (Am X.prog X.w) X.A (Wx e X.env (Bt e X.env)) (TP X j g Q) X.xe s
def PW(X:Cx)(e:Expr)(t:TT):Prop:=
 ∀(g:Sem AH) (l:List (AV×Obj)) (s:AL) (j:St) (H:Hp) (Q:Bool->Hp->Prop),Inv X l j H s->t j H Q->Af (Am X.prog X.w) X.A (Wx e X.env g) (TP X l j Q) X.xe s
theorem PW.pt(h:PW X e t):PT X e t:=h _
def PA(X:Cx)(es:List Expr)(t:TA):Prop:=
 ∀(g:Pos) (l:List (AV×Obj)) (s:AL) (j:St) (H:Hp) (Q:List V->Hp->Prop),Inv X l j H s->t j H Q->Af (Am X.prog X.w) X.A (bY (Cp g (AO es X.env))) (AP X l j Q) X.xe s
def PS(X:Cx)(st:D6)(t:TS):Prop:=
 ∀(g:List (AV×Obj)) (s:AL) (j:St) (H:Hp) (D:YE),Inv X g j H s->t D j H->Af (Am X.prog X.w) X.A (exec st X.env) (SP X g D) X.xe s
def PSs(X:Cx)(st:List D6)(t:TS):Prop:=
 ∀(g:List (AV×Obj)) (s:AL) (j:St) (H:Hp) (D:YE),Inv X g j H s->t D j H->Af (Am X.prog X.w) X.A (execs st X.env) (SP X g D) X.xe s
theorem thn{g:Type}{t:Sem g}{Q j:g->AL->Prop}{M:Ry}{A:Bn}{E:AH->AL->Prop}{s:AL}(h:Af M A t Q E s)(l:∀a s,Q a s->j a s):Af M A t j E s:=Eu h l λ_ _ x=>x
section
variable{X:Cx}
def nB(i:Nat):TE:=λg H Q=>∃v,g[i]?=some (some v)/\Q v H
def tC(v:V):TE:=λ_ H Q=>Q v H
theorem nt(A:X.N[i]?=some x)(B:Vis X.env.scope x)(hd:(x==("__debug__" : Str))=false:=by decide) (C:(x==("__classdict__" : Str))=false:=by decide):PE X (.Name x pos) (nB i):=by
 intro E s G H Q I h;obtain⟨v,e,h⟩:=h;obtain⟨m,J,L⟩:=I.loc;obtain⟨u,r,l⟩:=L i x v A e B;have fin:EP X E G Q u s:=⟨v,H,I,r,h⟩
 rcases l with⟨g,O⟩ | ⟨g,c,j,o⟩
 ·exact lV (wpAny_loadName_local I.ok.kind g J O fin) hd
 ·rcases g with g | g
  ·exact lV (wpAny_loadName_cell I.ok.kind g j o fin) hd
  ·exact lV (wpAny_loadName_free I.ok.kind g j o fin C) hd
theorem n8{i j pos}:PE X (.Constant (.int i) j pos) (tC (.int i)):=λ_ _ _ H _ I h=>wpAny_Constant_int ⟨.int i,H,I.tok _,⟨_,rfl⟩,h⟩
theorem rM{b j pos}:PE X (.Constant (.bool b) j pos) (tC (.bl b)):=λ_ _ _ H _ I h=>Constant_bool ⟨.bl b,H,I,rfl,h⟩
theorem ny{j pos}:PE X (.Constant .none j pos) (tC .non):=λ_ _ _ H _ I h=>Constant_none ⟨.non,H,I,rfl,h⟩
theorem nv{x j pos}:PE X (.Constant (.str x) j pos) (tC (.str x)):=λ_ _ _ H _ I h=>Calls.Constant_str ⟨.str x,H,I.tok _,⟨_,rfl⟩,h⟩
def Gl(X:Cx)(x:Str):Prop:=X.env.kindOf x=some .globalImplicit
theorem N1(I:Inv X l m H s)(g:Gl X x)(j:X.mg x=some u)(h:Q u s)
  (hd:(x==("__debug__" : Str))=false:=by decide):Af (Am X.prog X.w) X.A (Bt (.Name x pos) X.env) Q E s:=
 R1 I.ok.kind g (Calls.loadGlobal_global (by rw[I.ok.glob];exact I.mod.glob.keeps I.bk) j h) hd
theorem Jg(I:Inv X C G H s)(g:Gl X x)(j:X.mg x=none)(l:Ev x=some u)(h:Q u s)
  (m:x≠"__name__":=by decide) (hd:(x==("__debug__" : Str))=false:=by decide):Af (Am X.prog X.w) X.A (Bt (.Name x pos) X.env) Q E s:=by
 obtain⟨J,o,B⟩:=I.mod.blt;exact R1 I.ok.kind g (Calls.loadGlobal_builtin (by rw[I.ok.glob];exact I.mod.glob.keeps I.bk) j (by rw[I.ok.blt];exact o.keeps I.bk) ((B x m).trans l) h) hd
theorem Yu(g:Gl X x)(j:X.mg x=some u)(r:RelV v u)(hd:(x==("__debug__" : Str))=false:=by decide):PE X (.Name x pos) (tC v):=
 λ_ _ _ H _ I h=>N1 I g j ⟨v,H,I,r,h⟩ hd
theorem P4(g:Gl X x)(j:X.mg x=none)(l:Ev x=some u)(r:RelV v u)(m:x≠"__name__":=by decide) (hd:(x==("__debug__" : Str))=false:=by decide):PE X (.Name x pos) (tC v):=
 λ_ _ _ H _ I h=>Jg I g j l ⟨v,H,I,r,h⟩ m hd
variable{a b:Expr}{ta tb:TE}{pos:Pos}
def PC(X:Cx)(o:CmpOp)(a b:Expr)(t:TE):Prop:=
 ∀(m:List (AV×Obj)) (s:AL) (l:St) (H:Hp) (Q:VK),Inv X m l H s->t l H Q ->
  Af (Am X.prog X.w) X.A (Bt a X.env) (λv g=>Af (Am X.prog X.w) X.A (Bt b X.env) (λu j=>Af (Am X.prog X.w) X.A (B4 o v u) (EP X m l Q) X.xe j) X.xe g) X.xe s
def tB(t:TE):TT:=λg H Q=>t g H λx j=>∃c,x=.bl c/\Q c j
theorem dL(h:PC X j a b t)(g:EU j b=false:=by first | exact nobehind _ (by decide) (by decide) | rfl):PT X (.Compare a [j] [b] pos) (tB t):=by
 intro l s m H Q I hw;refine gc (thn (h l s m H _ I hw) λv G g=>thn g λu J o=>thn o λc L ⟨x,A,B,C,E⟩=>?_) g;obtain⟨d,rfl,q⟩:=E;cases C;exact Dl ⟨A,B,q⟩
theorem nW(h:PE X e t)(j:∀g,Wx e X.env g=(do let v <-g;p7 e.pos;qA [v] (lW v)):=by intro _;rfl):PT X e (tB t):=by
 intro l s m H Q I hw;refine isTrue_plain (thn (h l s m H _ I hw) λv E ⟨x,o,A,B,C⟩=>?_) (j _);obtain⟨d,rfl,q⟩:=C;cases B;exact Dl ⟨o,A,q⟩
variable{tA zR:TT}{rest:List Expr}
def qz(t u:TT):TT:=λg H Q=>t g H λc j=>if c=true then u g j Q else Q false j
def tOr(t u:TT):TT:=λg H Q=>t g H λc j=>if c=true then Q true j else u g j Q
def tNot(t:TT):TT:=λg H Q=>t g H λc j=>Q (!c) j
theorem jD(g:PT X a tA):PW X (.BoolOp .And [a] pos) tA:=by
 intro m j s l H Q I h;refine isTrue_and (thn (g j s l H Q I h) λc o e=>?_)
 cases c with
 | true=>exact isTrue_and_nil e
 | false=>exact e
theorem nU(g:PT X a tA):PW X (.BoolOp .Or [a] pos) tA:=by
 intro m j s l H Q I h;refine isTrue_or (thn (g j s l H Q I h) λc o e=>?_)
 cases c with
 | false=>exact isTrue_or_nil e
 | true=>exact e
theorem nV(A:PT X a tA)(hb:PW X (.BoolOp .And (b :: rest) pos) zR):PW X (.BoolOp .And (a :: b :: rest) pos) (qz tA zR):=by
 intro B g s j H Q I h;refine isTrue_and (thn (A g s j H _ I h) λc C ⟨l,m,o⟩=>?_)
 cases c with
 | true=>exact hb B g C j l Q m o
 | false=>exact⟨l,m,o⟩
theorem rG(A:PT X a tA)(hb:PW X (.BoolOp .Or (b :: rest) pos) zR):PW X (.BoolOp .Or (a :: b :: rest) pos) (tOr tA zR):=by
 intro B g s j H Q I h;refine isTrue_or (thn (A g s j H _ I h) λc C ⟨l,m,o⟩=>?_)
 cases c with
 | true=>exact⟨l,m,o⟩
 | false=>exact hb B g C j l Q m o
theorem nX(g:PT X a tA):PT X (.UnaryOp .Not a pos) (tNot tA):=by
 intro j s l H Q I h;exact isTrue_not (g j s l H (λc m=>Q (!c) m) I h)
def qy(ta tb:TE):TE:=λg H Q=>ta g H λx j=>∃c,x=.bl c/\if c=true then tb g j Q else Q (.bl false) j
theorem nw{g}{t}(h:PE X a t):PE X (.BoolOp g [a] pos) t:=λj s l H Q I hw=>BoolOp_one (h j s l H Q I hw)
theorem oB(A:PE X a ta)(hb:PE X (.BoolOp .And (b :: rest) pos) tb):PE X (.BoolOp .And (a :: b :: rest) pos) (qy ta tb):=by
 intro j s l H Q I h;refine BoolOp_and (thn (A j s l H _ I h) λv B ⟨x,m,o,C,g⟩=>?_);obtain⟨c,rfl,g⟩:=g;cases C;refine Dl ?_
 cases c with
 | true=>exact hb j B l m Q o g
 | false=>exact⟨.bl false,m,o,rfl,g⟩
end
def SqL(K:AG)(H:Hp)(a:AV)(xs:List V):Prop:=
 Rd H a (.lst xs) ∨
  ∃(o:Obj) (g:Array AH) (n:Nat),K.lookup a=some o/\o.cls=.type "list"/\o.dict=none/\o.data=.seq g n/\g.size<=sizeLine/\B6 xs g.toList
def SqT(K:AG)(H:Hp)(a:AV)(xs:List V):Prop:=
 Rd H a (.tup xs) ∨
  ∃(o:Obj) (g:Array AH) (n:Nat),K.lookup a=some o/\o.cls=.type "tuple"/\o.data=.seq g n/\g.size<=sizeLine/\B6 xs g.toList
noncomputable def absV:AH->Option V
 | .none=>some .non
 | .bool b=>some (.bl b)
 | .int i _=>some (.int i)
 | .str x _=>some (.str x)
 | .bytes b _=>some (.byt b)
 | .float b _=>some (.flt b)
 | .ref a=>some (.ref a)
 | .type n=>some (.ty n)
 | _=>none
theorem RelV.abs(r:RelV x u):absV u=some x:=by
 cases x with
 | non=>cases r;rfl
 | bl _=>cases r;rfl
 | int _=>obtain⟨t,rfl⟩:=r;rfl
 | str _=>obtain⟨t,rfl⟩:=r;rfl
 | byt _=>obtain⟨t,rfl⟩:=r;rfl
 | flt _=>obtain⟨t,rfl⟩:=r;rfl
 | ref _=>cases r;rfl
 | ty _=>cases r;rfl
theorem RelV.inj(r:RelV x u)(q:RelV y u):x=y:=Ch (r.abs.symm.trans q.abs)
theorem B6.inj:∀{xs ys:List V} {g:List AH},B6 xs g->B6 ys g->xs=ys
 | _,_,_,.nil,.nil=>rfl
 | _,_,_,.cons r t,.cons j l=>by rw[r.inj j,B6.inj t l]
section
variable{X:Cx}{ζ:List (AV×Obj)}{σ:St}{H:Hp}{s:AL}{a:AV}{xs ys:List V}
theorem Inv.list(I:Inv X ζ σ H s)(h:SqL X.K H a xs):∃g:List AH,B6 xs g/\PlainL s.heap a g.toArray/\xs.length<=sizeLine:=by
 rcases h with h | ⟨o,g,n,j,l,hd,m,A,r⟩
 ·obtain⟨z,g,n,r,e⟩:=h.ok I.hok
  exact⟨g,r,⟨_,n,e,rfl,rfl,rfl⟩,z⟩
 ·refine⟨g.toList,r,⟨o,n,I.kIn a o j,l,hd,by simpa using m⟩,?_⟩
  have e:=r.length;simp only[B1]at e
  lia
theorem Inv.tuple(I:Inv X ζ σ H s)(h:SqT X.K H a xs):∃g:List AH,B6 xs g/\qH s.heap a g.toArray/\xs.length<=sizeLine:=by
 rcases h with h | ⟨o,g,n,j,l,m,A,r⟩
 ·obtain⟨z,g,r,p⟩:=h.ok I.hok
  exact⟨g,r,p,z.1⟩
 ·refine⟨g.toList,r,⟨o,I.kIn a o j,l,n,by simpa using m⟩,?_⟩
  have e:=r.length;simp only[B1]at e
  lia
theorem Inv.list_inj(I:Inv X ζ σ H s)(h:SqL X.K H a xs)(h':SqL X.K H a ys):xs=ys:=by
 obtain⟨l,r,⟨o,n,e,_,_,d⟩,_⟩:=I.list h;obtain⟨its',m,⟨A,B,g,_,_,j⟩,_⟩:=I.list h';rw[e]at g;cases g;rw[d]at j
 injection j with d1 _
 have:l=its':=by simpa using congrArg l8 d1
 subst this;exact r.inj m
theorem Inv.tuple_inj(I:Inv X ζ σ H s)(h:SqT X.K H a xs)(h':SqT X.K H a ys):xs=ys:=by
 obtain⟨l,r,⟨o,e,_,n,d⟩,_⟩:=I.tuple h;obtain⟨its',m,⟨A,g,_,B,j⟩,_⟩:=I.tuple h';rw[e]at g;cases g;rw[d]at j
 injection j with d1 _
 have:l=its':=by simpa using congrArg l8 d1
 subst this;exact r.inj m
end
section
variable{X:Cx}{st:D6}{rest:List D6}{t u:TS}{e:Expr}{te:TE}{pos:Pos}
def qo:TS:=λD g H=>D.nx g H
def tSeq(t u:TS):TS:=λD g H=>t { D with nx:=u D } g H
theorem jH:PSs X [] qo:=λ_ _ g H _ I h=>JQ ⟨g,H,I,h⟩
theorem dN(l:PS X st t)(m:PSs X rest u):PSs X (st :: rest) (tSeq t u):=by
 intro j s o H D I h;refine qM (thn (l j s o H { D with nx:=u D } I h) λf A q=>?_)
 cases f with
 | next=>
  obtain⟨g,B,C,q⟩:=q;exact m j A g B D C q
 | ret v=>exact q
 | brk=>exact q
 | cont=>exact q
theorem jG(g:PS X st t):PSs X [st] t:=by
 intro j s l H D I h;refine qM (thn (g j s l H D I h) λf m q=>?_)
 cases f with
 | next=>exact JQ q
 | ret v=>exact q
 | brk=>exact q
 | cont=>exact q
theorem Inv.quiet(I:Inv X g j H s):interactive X.env=false:=by simp[interactive,I.ok.kind]
def qq(te:TE):TS:=λD g H=>te g H λ_ j=>D.nx g j
theorem jI(j:PE X e te)(l:GR e none pos.line X.env=pure false:=by rfl):PS X (.Expr e pos) (qq te):=by
 intro m s g H D I h;exact wpAny_Expr_any (thn (j m s g H _ I h) λv C ⟨x,o,A,E,B⟩=>⟨g,o,A,B⟩) I.quiet l
def tRet(te:TE):TS:=λD g H=>te g H D.rt
theorem nZ(j:PE X e te):PS X (.Return (some e) pos) (tRet te):=by
 intro l s g H D I h;exact wpAny_Return_some (thn (j l s g H _ I h) λv C ⟨x,m,o,A,B⟩=>⟨x,g,m,o,A,B⟩)
def tIfS(c:TT)(t u:TS):TS:=λD g H=>c g H λb j=>if b=true then t D g j else u D g j
theorem rH(B:PT X c tc)(C:PSs X a t)(hb:PSs X b u):PS X (.If c a b pos) (tIfS tc t u):=by
 intro g s j H D I h;refine wpAny_If (thn (B g s j H _ I h) λd l ⟨m,o,A⟩=>?_)
 cases d with
 | true=>exact C g l j m D o A
 | false=>exact hb g l j m D o A
def nD:TS:=λ_ _ _=>False
theorem dP:PS X st nD:=λ_ _ _ _ _ _ h=>h.elim
end
abbrev TG:=V->St->Hp->(St->Hp->Prop)->Prop
abbrev TGs:=List V->St->Hp->(St->Hp->Prop)->Prop
def PG(X:Cx)(o:Expr)(t:TG):Prop:=
 ∀(j:List (AV×Obj)) (s:AL) (l:St) (H:Hp) (v:V) (u:AH) (Q:St->Hp->Prop),Inv X j l H s->RelV v u->t v l H Q ->
  Af (Am X.prog X.w) X.A (QF o X.env u) (λ_ B=>∃g m,Inv X j g m B/\Q g m) X.xe s
def PGs(X:Cx)(ts:List Expr)(t:TGs):Prop:=
 ∀(j:List (AV×Obj)) (s:AL) (l:St) (H:Hp) (m:List V) (o:List AH) (Q:St->Hp->Prop),Inv X j l H s->B6 m o->t m l H Q ->
  Af (Am X.prog X.w) X.A (assignInOrder ((Ew ts X.env).map (·.2)) o) (λ_ C=>∃g B,Inv X j g B C/\Q g B) X.xe s
section
variable{X:Cx}{pos:Pos}
def ZH(i:Nat):TG:=λv g H Q=>Q (g.set i (some v)) H
theorem jQ(g:X.N.Nodup)(hi:X.N[i]?=some x)(j:Loc X.env.scope x)(l:X.fn x=true∨X.env.scope.names.lookup x=some .local:=by first | exact .inl rfl | exact .inr rfl | assumption):PG X (.Name x pos) (ZH i):=by
 intro o s A H v u Q I r h;exact pr (Qe I g hi j r (λB m=>⟨_,H,m,h⟩) l)
def gNil:TGs:=λg j H Q=>g=[]/\Q j H
def sS(t:TG)(u:TGs):TGs:=λj l H Q=>∃v r,j=v :: r/\t v l H λg m=>u r g m Q
theorem jP:PGs X [] gNil:=by
 intro j s g H l m Q I r h;obtain⟨e,h⟩:=h;subst e;cases r;exact assignInOrder_nil ⟨g,H,I,h⟩
theorem dZ(l:PG X e t)(m:PGs X es u)
  (o:(Ew (e :: es) X.env).map (·.2)=QF e X.env :: (Ew es X.env).map (·.2):=by rfl):PGs X (e :: es) (sS t u):=by
 intro j s A H N O Q I r h;obtain⟨v,P,B,h⟩:=h;subst B
 cases r with
 | cons r C=>
  rw[o];refine assignInOrder_cons (thn (l j s A H _ _ _ I r h) λ_ E ⟨g,G,J,L⟩=>?_);exact m j E g G _ _ Q J C L
def gTup(K:AG)(n:Nat)(t:TGs):TG:=λv j H Q=>∃a g,v=.ref a/\SqT K H a g/\g.length=n/\t g j H Q
theorem nq(m:X.calm=true)(h:PGs X es t)
  (A:(Ew es X.env).length=n:=by rfl) (B:(Ew es X.env).findIdx? (·.1)=none:=by rfl):PG X (.Tuple es k pos) (gTup X.K n t):=by
 intro g s j H v u Q I r hw;obtain⟨a,C,E,G,J,hw⟩:=hw;subst E;cases r;obtain⟨R,l,L,S⟩:=I.tuple G
 refine assign_Tuple_tuple (I.ok.hd m) L (by simp[A,<-J,l.length]) B λN O=>?_
 have P:Inv X g j H { s with heap:=N }:=I.kept (t':=s.toks) λb o e=>O b o (Ax (AX e)) e
 exact h g _ j H C _ Q P (by simpa using l) hw
def nH(te:TE)(g:TG):TS:=λD j H=>te j H λx l=>g x j l D.nx
theorem nj(o:PE X e te)(A:PG X j g)(B:swapsWithSole [j] e pos.line X.env=pure false:=by rfl)(hw:swappedStores [j] e X.env=pure none:=by rfl)
  (C:(Ew [j] X.env).map (·.2)=[QF j X.env]:=by rfl):PS X (.Assign [j] e pos) (nH te g):=by
 intro l s m H D I h;refine wpAny_Assign_stores (thn (o l s m H _ I h) λv E ⟨x,G,J,L,N⟩=>?_) B hw;rw[C]
 exact thn (A l E m G x v _ J L N) λ_ O q=>q
theorem nY(j:X.N.Nodup)(hi:X.N[i]?=some x)(l:Loc X.env.scope x)(m:PE X e te)(o:GR e (some (.Name x g)) pos.line X.env=pure false:=by rfl)(A:X.fn x=true∨X.env.scope.names.lookup x=some .local:=by first | exact .inl rfl | exact .inr rfl | assumption) :
  PS X (.Assign [.Name x g] e pos) (nH te (ZH i)):=by
 intro B s C H D I h;refine wpAny_Assign_Name (thn (m B s C H _ I h) λv P ⟨y,E,G,J,L⟩=>?_) o;exact Qe G j hi l J (λQ O=>⟨_,E,O,L⟩) A
def nA(c:TT)(A:TS):TS:=λD g H=>∃W:Nat->St->Hp->Prop,(∃m,W m g H)/\∀m g H,W m g H ->
 c g H λb l=>if b=true then ∃N:St->Hp->Prop,(∀j o,N j o->∃s,s < m/\W s j o)/\A { D with nx:=N,ct:=N,bk:=D.nx } g l else D.nx g l
theorem dO(P:O9 (Am X.prog X.w) X.A X.env X.xe)(Y:PT X c tc)(hb:PSs X body Z):PS X (.While c body [] pos) (nA tc Z):=by
 intro C s σ H D I h;obtain⟨W,⟨m0,w0⟩,turn⟩:=h;refine wpAny_While (codeAny_whileLoop (λn s'=>∃l Q,Inv X C l Q s'/\W n l Q) ?_ m0 ⟨σ,H,I,w0⟩);rintro n s1 ⟨j,R,I1,w1⟩;refine FE P (thn (Y C s1 j R _ I1 (turn n j R w1)) λb s2 ⟨S,T,o⟩=>?_)
 cases b with
 | true=>
  obtain⟨N,U,o⟩:=o;rw[qX rfl];refine FE P (thn (hb C s2 j S _ T o) λf s3 B=>?_)
  cases f with
  | next=>
   obtain⟨g,m,E,G⟩:=B;obtain⟨J,L,O⟩:=U g m G;exact⟨J,L,g,m,E,O⟩
  | cont=>
   obtain⟨g,m,E,G⟩:=B;obtain⟨J,L,O⟩:=U g m G;exact⟨J,L,g,m,E,O⟩
  | brk=>exact B
  | ret v=>exact B
 | false=>
  rw[qY Ac];exact JQ ⟨j,S,T,o⟩
end
structure It where
 go:Nat->Hp->Prop
 yld:Nat->Hp->V->Hp->Prop
 stop:Nat->Hp->Prop
def NP(X:Cx)(g:List (AV×Obj))(H:Hp)(b:AV):Prop:=
 H b=none/\b≠X.env.locals/\b∉X.fs/\(b∈X.ex∨X.s₀.heap.objs.size<=b)/\(∀x c,X.env.cells.lookup x=some c->c≠b)/\∀p∈X.pn++g,p.1≠b
theorem Inv.fpOk(I:Inv X g o H s)(hb:s.heap.objs.size<=b)(j:l b=none):NP X g l b:=by
 refine⟨j,ED (Ae I.lt hb),I.nofs hb,.inr (Av I.sz hb),λx c e z=>?_,λp m z=>?_⟩
 ·obtain⟨v,q⟩:=I.cell x c e
  exact zX (Ae q.lt (by rw[z];exact hb)) (DL _)
 ·exact zX (Ae (AX (I.pin p m).1) (by rw[z];exact hb)) (DL _)
structure YA(P:Bb)(w:By)(K:AG)(tg:Expr)(J:It)(fp:List AV)(it:AV)(tn:Nat->CS->Prop):Prop where
 mem:it∈fp
 obj:∀i h,tn i h->∀b∈fp,∃o,h.get? b=some o/\∀v,o.data≠.cell v
 keep:∀i h h',tn i h->(∀b∈fp,∀o,h.get? b=some o->h'.get? b=some o)->tn i h'
 item:∀(X:Cx),X.prog=P->X.w=w->X.K=K->X.calm=true->∀(i:Nat) (ζ:List (AV×Obj)) (s:AL) (σ:St) (H:Hp) (E:AH->AL->Prop),Inv X ζ σ H s->(∀b∈fp,NP X ζ H b)->tn i s.heap->J.go i H ->
  Af (Am P w) X.A (JS (.ref it)) (λr s1=>∃u,r=some u /\
   Af (Am P w) X.A (NR tg (.ref it) u) (λ_ s2=>∃x H',Inv X ζ σ H' s2/\RelV x u/\J.yld i H x H'/\tn (i+1) s2.heap/\∀b∈fp,H' b=none) E s1) E s
 done:∀(X:Cx),X.prog=P->X.w=w->X.K=K->X.calm=true->∀(i:Nat) (ζ:List (AV×Obj)) (s:AL) (σ:St) (H:Hp) (E:AH->AL->Prop),Inv X ζ σ H s->(∀b∈fp,NP X ζ H b)->tn i s.heap->J.stop i H ->
  Af (Am P w) X.A (JS (.ref it)) (λr s1=>r=none/\Inv X ζ σ H s1) E s
 self:∀(A:Bn) (i:Nat) (s:AL) (Q:AH->AL->Prop) (E:AH->AL->Prop),tn i s.heap->Q (.ref it) s->Af (Am P w) A (lZ (.ref it)) Q E s
abbrev TI:=St->Hp->(It->Hp->Prop)->Prop
def PIE(X:Cx)(j:List (AV×Obj))(s:St)(A:Expr)(R:It->Hp->Prop)(B:AH)(l:AL):Prop:=
 ∃(it:AV) (m:List AV) (o:Nat->CS->Prop) (J:It) (g:Hp),B=.ref it/\Inv X j s g l/\YA X.prog X.w X.K A J m it o/\o 0 l.heap/\(∀b∈m,NP X j g b)/\R J g
def PI(X:Cx)(l iter:Expr)(m:TI):Prop:=
 ∀(j:List (AV×Obj)) (s:AL) (g:St) (H:Hp) (R:It->Hp->Prop),Inv X j g H s->m g H R ->
  Af (Am X.prog X.w) X.A (Bt iter X.env) (λv o=>Af (Am X.prog X.w) X.A (lZ v) (PIE X j g l R) X.xe o) X.xe s
theorem fV(ho:s.heap.get? it=some o)(j:o.cls=.type n)(hd:o.data=.fields l)
  (m:["enumerate", "zip", "dict_itemiterator", "dict_reverseitemiterator", "odict_iterator", "itertools.zip_longest", "itertools.pairwise"].contains n=false) (g:Q () s):Af M A (NR B (.ref it) u) Q E s:=by
 unfold NR
 cases B <;> first
  | exact AI g
  | (cases u <;> first
    | exact AI g
    | (refine AA (wpAny_load ho ?_)
       rw[j,hd];show Af M A (if (["enumerate", "zip", "dict_itemiterator", "dict_reverseitemiterator", "odict_iterator", "itertools.zip_longest", "itertools.pairwise"].contains n&&l[0]?==some (EG _))=true then _ else _) Q E s;rw[qY (by intro h;rw[m,Bool.false_and]at h;cases h)]
       exact AI g))
def Itl(K:AG)(a:AV):It:=
 ⟨λi H=>∃g x,SqL K H a g/\g[i]?=some x,λi H x j=>j=H/\∀g,SqL K H a g->g[i]?=some x,λi H=>∃g,SqL K H a g/\g.length<=i⟩
def Itt(K:AG)(a:AV):It:=
 ⟨λi H=>∃g x,SqT K H a g/\g[i]?=some x,λi H x j=>j=H/\∀g,SqT K H a g->g[i]?=some x,λi H=>∃g,SqT K H a g/\g.length<=i⟩
def Itr(lo:Int)(n:Nat):It:=⟨λi _=>i < n,λi H x g=>g=H/\x=.int (lo+i),λi _=>n<=i⟩
theorem Zx{P}{w}{K}{Y}(a it:AV):YA P w K Y (Itl K a) [it] it (λi h=>h.IsListIter it a i) where
 mem:=by simp
 obj:=λi h st b hb=>by
  have e:b=it:=by simpa using hb
  subst e;obtain⟨o,e,c,d⟩:=st;exact⟨o,e,λv z=>by rw[d]at z;cases z⟩
 keep:=λi h j st k=>st.at λo e=>k it (by simp) o e
 item:=by
  intro X A hw B S i T s U H E I l st C;subst A hw B;obtain⟨Z,x,m,G⟩:=C;obtain⟨sN,J,p,hz⟩:=I.list m;obtain⟨u,hu,ru⟩:=J.get G;obtain⟨L,N,f2,O,Q,R⟩:=l it (by simp)
  refine wpAny_pyNext_list_item st p.isList (x:=u) (by simpa using hu) λj g sb=>?_
  have I1:Inv X T U H { s with heap:=j }:=I.turned (t':=s.toks) (λb o hb e=>(sb.2 b hb).trans e) L N O Q R;obtain⟨o,e,c,d⟩:=id g;exact⟨u,rfl,fV (s:={ s with heap:=j }) e c d (by decide) ⟨x,H,I1,ru,⟨rfl,λys hy=>by rw[I.list_inj hy m];exact G⟩,g,λb hb=>(l b hb).1⟩⟩
 done:=by
  intro X A hw B S i T s U H E I l st C;subst A hw B;obtain⟨Z,m,G⟩:=C;obtain⟨sN,J,p,hz⟩:=I.list m;obtain⟨L,N,f2,O,Q,R⟩:=l it (by simp);have hl:=J.length
  exact wpAny_pyNext_list_end (I.ok.hd S) st p.isList (by simp;lia) λj eb=>⟨rfl,I.turned (t':=s.toks) (λb o hb e=>eb b o hb e) L N O Q R⟩
 self:=λ_ _ _ _ _ st h=>wpAny_pyIter_listiter st h
theorem XS{P}{w}{K}{Z}(a it:AV):YA P w K Z (Itt K a) [it] it (λi h=>h.IsTupleIter it a i) where
 mem:=by simp
 obj:=λi h st b hb=>by
  have e:b=it:=by simpa using hb
  subst e;obtain⟨o,e,c,d⟩:=st;exact⟨o,e,λv z=>by rw[d]at z;cases z⟩
 keep:=λi h j st k=>st.at λo e=>k it (by simp) o e
 item:=by
  intro X A hw B T i U s Y H E I l st C;subst A hw B;obtain⟨xs,x,m,G⟩:=C;obtain⟨J,L,p,hz⟩:=I.tuple m;obtain⟨u,hu,ru⟩:=L.get G;obtain⟨N,O,f2,Q,R,S⟩:=l it (by simp)
  refine wpAny_pyNext_tuple_item st (show s.heap.IsTuple a J.toArray from p) (x:=u) (by simpa using hu) λj g sb=>?_
  have I1:Inv X U Y H { s with heap:=j }:=I.turned (t':=s.toks) (λb o hb e=>(sb.2 b hb).trans e) N O Q R S;obtain⟨o,e,c,d⟩:=id g;exact⟨u,rfl,fV (s:={ s with heap:=j }) e c d (by decide) ⟨x,H,I1,ru,⟨rfl,λys hy=>by rw[I.tuple_inj hy m];exact G⟩,g,λb hb=>(l b hb).1⟩⟩
 done:=by
  intro X A hw B T i U s Y H E I l st C;subst A hw B;obtain⟨xs,m,G⟩:=C;obtain⟨J,L,p,hz⟩:=I.tuple m;obtain⟨N,O,f2,Q,R,S⟩:=l it (by simp);have hl:=L.length
  exact wpAny_pyNext_tuple_end (I.ok.hd T) st (show s.heap.IsTuple a J.toArray from p) (by simp;lia) λj eb=>⟨rfl,I.turned (t':=s.toks) (λb o hb e=>eb b o hb e) N O Q R S⟩
 self:=λ_ _ _ _ _ st h=>wpAny_pyIter_tupleiter st h
theorem XT{P}{w}{K}{S}(it:AV)(lo:Int)(n:Nat):YA P w K S (Itr lo n) [it] it (λi h=>IsRangeIter h it (lo+(i:Nat) * 1) ((n:Int) - (i:Nat)) 1) where
 mem:=by simp
 obj:=λi h st b hb=>by
  have e:b=it:=by simpa using hb
  subst e
  exact⟨_,st,λv z=>by
   have T:qc _=Data.cell v:=z
   cases T⟩
 keep:=λi h j st k=>k it (by simp) _ st
 item:=by
  intro X m hw A B i Q s R H E I l st C;subst m hw A;obtain⟨G,J,U,L,N,O⟩:=l it (by simp);have W:=Walks.range (prog:=X.prog) (w:=X.w) (I.ok.hd B) it lo 1 n
  refine W.item i s _ _ C st λv j tk Y g Z=>?_
  obtain⟨t,rfl⟩:=Y;have I1:Inv X Q R H { s with heap:=j,toks:=tk }:=I.turned (λb o hb e=>Z b o (by simpa using hb) e) G J L N O;refine⟨_,rfl,fV (s:={ s with heap:=j,toks:=tk }) (n:="range_iterator") g rfl rfl (by decide) ⟨.int (lo+i),H,I1,⟨t,?_⟩,⟨rfl,rfl⟩,g,λb hb=>(l b hb).1⟩⟩;rw[tL]
 done:=by
  intro X m hw A B i Q s R H E I l st C;subst m hw A;obtain⟨G,J,U,L,N,O⟩:=l it (by simp)
  exact wpAny_pyNext_range_end (I.ok.hd B) st (by have:n<=i:=C;lia) λj eb=>⟨rfl,I.turned (t':=s.toks) (λb o hb e=>eb b o hb e) G J L N O⟩
 self:=λ_ _ _ _ _ st h=>wpAny_pyIter_rangeiter st h
section
variable{X:Cx}
def sO(K:AG)(j:TE):TI:=λl H R=>j l H λx g=>∃a,x=.ref a/\(∃m,SqL K g a m)/\R (Itl K a) g
def iTup(K:AG)(j:TE):TI:=λl H R=>j l H λx g=>∃a,x=.ref a/\(∃m,SqT K g a m)/\R (Itt K a) g
theorem jO{l}{m}(A:PE X l m):PI X N l (sO X.K m):=by
 intro B s C H R I h
 refine thn (A B s C H _ I h) λv g ⟨x,E,j,G,J⟩=>?_
 obtain⟨a,e,⟨O,L⟩,q⟩:=J;subst e;cases G;obtain⟨P,Q,p,S⟩:=j.list L;refine Ro p.isList ?_;refine⟨g.heap.objs.size,[g.heap.objs.size],_,_,E,rfl,j.kept (t':=g.toks) λb o e=>AJ _ e,Zx a _,⟨_,Ag _ rfl,rfl,rfl⟩,λb hb=>?_,q⟩
 have e:b=g.heap.objs.size:=by simpa using hb
 subst e;exact j.fpOk (AN _) (j.hok.fresh (AN _))
theorem nk{l}{m}(A:PE X l m):PI X O l (iTup X.K m):=by
 intro B s C H R I h
 refine thn (A B s C H _ I h) λv g ⟨x,E,j,G,J⟩=>?_
 obtain⟨a,e,⟨P,L⟩,q⟩:=J;subst e;cases G;obtain⟨N,Q,p,S⟩:=j.tuple L;refine D5 (show g.heap.IsTuple a N.toArray from p) ?_;refine⟨g.heap.objs.size,[g.heap.objs.size],_,_,E,rfl,j.kept (t':=g.toks) λb o e=>AJ _ e,XS a _,⟨_,Ag _ rfl,rfl,rfl⟩,λb hb=>?_,q⟩
 have e:b=g.heap.objs.size:=by simpa using hb
 subst e;exact j.fpOk (AN _) (j.hok.fresh (AN _))
theorem Vr{g}{j}{H}{s}{R}{E}{lo hi}{t u v}{tk}(I:Inv X g j H s)(m:-(2 ^ 62)<=lo)(B:lo < 2 ^ 62)(C:-(2 ^ 62)<=hi)(G:hi < 2 ^ 62)
  (q:R (Itr lo (hi - lo).toNat) H):Af (Am X.prog X.w) X.A (lZ (.ref s.heap.objs.size)) (PIE X g j N R) E { s with heap:=s.heap.push { cls:=.type "range",data:=.fields #[.int lo t,.int hi u,.int 1 v] },toks:=tk }:=by
 refine wpAny_pyIter_range (IsRange.new ..) (small_one m B C G) ?_
 have l:Inv X g j H { s with heap:=s.heap.push { cls:=.type "range",data:=.fields #[.int lo t,.int hi u,.int 1 v] },toks:=tk }:=I.kept λb o e=>AJ _ e
 refine⟨(s.heap.push { cls:=.type "range",data:=.fields #[.int lo t,.int hi u,.int 1 v] }).objs.size,[(s.heap.push { cls:=.type "range",data:=.fields #[.int lo t,.int hi u,.int 1 v] }).objs.size],_,_,H,rfl,
  l.kept (t':=tk) λb o e=>AJ _ e,XT _ lo (hi - lo).toNat,?_,λb hb=>?_,q⟩
 ·have J:lo+((0:Nat):Int) * 1=lo:=by simp
  have L:(((hi - lo).toNat:Nat):Int) - ((0:Nat):Int)=qh lo hi 1:=by rw[rangeSize_one];split <;> lia
  show IsRangeIter _ _ (lo+((0:Nat):Int) * 1) ((((hi - lo).toNat:Nat):Int) - ((0:Nat):Int)) 1;rw[J,L];exact Ag _ rfl
 ·have e:b=(s.heap.push { cls:=.type "range",data:=.fields #[.int lo t,.int hi u,.int 1 v] }).objs.size:=by simpa using hb
  subst e;exact l.fpOk (AN _) (l.hok.fresh (AN _))
def sL(g:TA):TI:=λl H R=>g l H λm o=>∃j:Int,m=[.int j]/\-(2 ^ 62)<=j/\j < 2 ^ 62/\R (Itr 0 j.toNat) o
def sK(g:TA):TI:=λl H R=>g l H λm o=>∃i j:Int,m=[.int i,.int j]/\(-(2 ^ 62)<=i/\i < 2 ^ 62/\-(2 ^ 62)<=j/\j < 2 ^ 62)/\R (Itr i (j - i).toNat) o
theorem aG{a}{l}{p pos}(m:Gl X "range") (o:X.mg "range" = none) (A:PA X [a] l) (B:AO [a] X.env=[(false,Bt a X.env)]:=by rfl):PI X O (.Call (.Name "range" p) [a] [] pos) (sL l):=by
 intro C s E H R I h;refine Call_ (Jg I m o boot_range (B7 (thn (A pos C s E H _ I h) λP Q ⟨S,T,G,J,g⟩=>?_) B rfl));obtain⟨j,e,g,L,q⟩:=g;subst e
 cases J with
 | cons r N=>
  cases N;obtain⟨t,rfl⟩:=r;exact call_range_1 (Vr G (by lia) (by lia) g L (by simpa using q))
theorem aF(o:Gl X "range") (A:X.mg "range" = none) (B:PA X [a,b] C) (E:AO [a,b] X.env=[(false,Bt a X.env),(false,Bt b X.env)]:=by rfl) (m:AO [b] X.env=[(false,Bt b X.env)]:=by rfl) :
  PI X T (.Call (.Name "range" p) [a,b] [] pos) (sK C):=by
 intro G s J H R I h;refine Call_ (Jg I o A boot_range (B7 (thn (B pos G s J H _ I h) λU Y ⟨Z,H1,L,N,g⟩=>?_) (by rw[E,m]) (by rw[m];rfl)));obtain⟨i,j,e,⟨g,O,P,Q⟩,q⟩:=g;subst e
 cases N with
 | cons r l=>
  cases l with
  | cons S l=>
   cases l;obtain⟨t,rfl⟩:=r;obtain⟨t',rfl⟩:=S;exact call_range_2 (Vr L g O P Q q)
def tFor(B:TI)(g:TG)(C:TS):TS:=λD j H=>B j H λJ E=>∃W:Nat->Nat->St->Hp->Prop,(∃m,W 0 m j E)/\∀i m j H,W i m j H ->
 (J.stop i H/\D.nx j H)∨(J.go i H/\∃N:St->Hp->Prop,(∀l o,N l o->∃A,A < m/\W (i+1) A l o)/\∀x o,J.yld i H x o->g x j o λs G=>C { D with nx:=N,ct:=N,bk:=D.nx } s G)
def Qp(fp:List AV)(h:CS):List (AV×Obj):=fp.filterMap λb=>(h.get? b).map λo=>(b,o)
theorem Kk(hb:b∈fp)(e:h.get? b=some o):(b,o)∈Qp fp h:=bT.mpr ⟨b,hb,by rw[e];rfl⟩
theorem aL(g:p∈Qp fp h):p.1∈fp/\h.get? p.1=some p.2:=by
 obtain⟨b,hb,e⟩:=bT.mp g
 cases q:h.get? b with
 | none=>rw[q]at e;cases e
 | some o=>
  rw[q]at e;have j:(b,o)=p:=Ch e;subst j;exact⟨hb,q⟩
theorem Inv.pinned(I:Inv X g l H s)(m:∀b∈fp,NP X g H b)(ho:∀b∈fp,∃o,s.heap.get? b=some o/\∀v,o.data≠.cell v):Inv X (g++Qp fp s.heap) l H s:=
 I.pins_of λp A=>(Au.mp A).elim (λz=>I.pin p (Aw _ z)) λz=>by
  obtain⟨hb,e⟩:=aL z;obtain⟨B,C,E,_⟩:=m p.1 hb;obtain⟨o,j,d⟩:=ho p.1 hb;rw[e]at j;cases j;exact⟨e,B,C,E,d⟩
theorem Inv.unpinned(I:Inv X (g++m) j H s):Inv X g j H s:=I.pins_of λp l=>I.pin p (Aw _ (As _ l))
theorem ng(O:O9 (Am X.prog X.w) X.A X.env X.xe)(hc:X.calm=true)(hi:PI X tg iter wi)(hg:PG X tg g)(hb:PSs X body tb)
  (hs:∀x,Fb iter X.env x=pure x:=by intro _;rfl):PS X (.For tg iter body [] pos) (tFor wi g tb):=by
 intro L s σ H D I h;refine wpAny_For (thn (hi L s σ H _ I h) λv s1 h1=>thn h1 λzS s2 h2=>?_) hs;obtain⟨it,P,tn,J,H2,e,I2,T,t7,f2,W,⟨m0,w0⟩,turn⟩:=h2;subst e
 have U:∀{H':Hp},(∀b∈P,H' b=none)->∀b∈P,NP X L H' b:=λhn b hb=>⟨hn b hb,(f2 b hb).2⟩
 refine codeAny_forLoop_any (λn s'=>∃i l H',Inv X L l H' s'/\tn i s'.heap/\(∀b∈P,H' b=none)/\W i n l H') ?_ m0 ⟨0,σ,H2,I2,t7,λb hb=>(f2 b hb).1,w0⟩;rintro n s3 ⟨i,B,S,I3,uK,Q,w3⟩
 rcases turn i n B S w3 with⟨stop,qn⟩ | ⟨go,N,hN,step⟩
 ·refine FE O (thn (T.done X rfl rfl rfl hc i L s3 B S X.xe I3 (U Q) uK stop) λr s4 ⟨Y,I4⟩=>?_)
  subst Y;exact JQ ⟨B,S,I4,qn⟩
 ·refine FE O (thn (T.item X rfl rfl rfl hc i L s3 B S X.xe I3 (U Q) uK go) λr s4 ⟨u,Y,h4⟩=>?_)
  subst Y;refine FE O (thn h4 λ_ s5 ⟨x,H5,I5,r5,y5,Z,fr5⟩=>?_);have Κ:=I5.pinned (U fr5) (T.obj _ _ Z);refine FE O (thn (hg _ s5 B H5 x u _ Κ r5 (step x H5 y5)) λ_ s6 ⟨σ6,H6,I6,q6⟩=>?_);refine FE O (thn (hb _ s6 σ6 H6 _ I6 q6) λf s7 G=>?_)
  have g7:∀{j:St} {C:Hp},Inv X (L++Qp P s5.heap) j C s7->N j C->∃m,m < n/\∃i l H',Inv X L l H' s7/\tn i s7.heap/\(∀b∈P,H' b=none)/\W i m l H':=λ{j C} E R=>by
   obtain⟨m',hm,w7⟩:=hN j C R;refine⟨m',hm,i+1,j,C,E.unpinned,T.keep _ _ _ Z λb hb o e=>(E.pin (b,o) (Aw _ (Aw _ (Kk hb e)))).1,λb hb=>?_,w7⟩;obtain⟨o,e,d⟩:=T.obj _ _ Z b hb;exact(E.pin (b,o) (Aw _ (Aw _ (Kk hb e)))).2.1
  cases f with
  | next=>obtain⟨j,C,E,R⟩:=G;exact g7 E R
  | cont=>obtain⟨j,C,E,R⟩:=G;exact g7 E R
  | brk=>obtain⟨j,C,E,G⟩:=G;exact⟨j,C,E.unpinned,G⟩
  | ret v=>obtain⟨x7,j,C,E,r7,G⟩:=G;exact⟨x7,j,C,E.unpinned,r7,G⟩
end
abbrev R2:=V->V->Hp->VK->Prop
def OpR(X:Cx)(f:AH->AH->Sem AH)(r:R2):Prop:=
 ∀(g:List (AV×Obj)) (s:AL) (j:St) (H:Hp) (x y:V) (v u:AH) (Q:VK),Inv X g j H s->RelV x v->RelV y u->r x y H Q ->
  Af (Am X.prog X.w) X.A (f v u) (EP X g j Q) X.xe s
def UnR(X:Cx)(f:AH->Sem AH)(r:V->Hp->VK->Prop):Prop:=
 ∀(g:List (AV×Obj)) (s:AL) (j:St) (H:Hp) (x:V) (v:AH) (Q:VK),Inv X g j H s->RelV x v->r x H Q ->
  Af (Am X.prog X.w) X.A (f v) (EP X g j Q) X.xe s
def Iu(X:Cx)(f:AH)(r:List V->Hp->VK->Prop):Prop:=
 ∀(g:List (AV×Obj)) (s:AL) (j:St) (H:Hp) (l:List V) (m:List AH) (Q:VK),Inv X g j H s->B6 l m->r l H Q ->
  Af (Am X.prog X.w) X.A (call f m) (EP X g j Q) X.xe s
def TruR(X:Cx)(r:V->Hp->(Bool->Hp->Prop)->Prop):Prop:=
 ∀(g:List (AV×Obj)) (s:AL) (j:St) (H:Hp) (x:V) (v:AH) (Q:Bool->Hp->Prop),Inv X g j H s->RelV x v->r x H Q ->
  Af (Am X.prog X.w) X.A (lW v) (TP X g j Q) X.xe s
def tOp(r:R2)(j l:TE):TE:=λg H Q=>j g H λx m=>l g m λy o=>r x y o Q
def tUn(r:V->Hp->VK->Prop)(g:TE):TE:=λj H Q=>g j H λx l=>r x l Q
def rI(C:Int->Int->Prop)(g:Int->Int->V):R2:=λx y H Q=>∃i j,x=.int i/\y=.int j/\C i j/\Q (g i j) H
def rI0(g:Int->Int->V):R2:=λx y H Q=>∃i j,x=.int i/\y=.int j/\Q (g i j) H
def rU(g:Int->V):V->Hp->VK->Prop:=λx H Q=>∃i,x=.int i/\Q (g i) H
section
variable{X:Cx}{a b:Expr}{ta tb:TE}{pos:Pos}
theorem sY(E:PE X a ta)(hb:PE X b tb){o:List (AV×Obj)}{s:AL}{g:St}{H:Hp}{R:V->V->Hp->Prop}(I:Inv X o g H s)
  (h:ta g H λx C=>tb g C λy j=>R x y j) {Q:AH->AL->Prop} {f:AH->AH->Sem AH}
  (G:∀v u B x y j,Inv X o g j B->RelV x v->RelV y u->R x y j->Af (Am X.prog X.w) X.A (f v u) Q X.xe B) :
  Af (Am X.prog X.w) X.A (Bt a X.env) (λv l=>Af (Am X.prog X.w) X.A (Bt b X.env) (λu m=>Af (Am X.prog X.w) X.A (f v u) Q X.xe m) X.xe l) X.xe s:=by
 refine thn (E o s g H _ I h) λv J ⟨x,C,L,N,O⟩=>?_
 refine thn (hb o J g C _ L O) λu B ⟨y,j,P,S,T⟩=>?_
 exact G v u B x y j P N S T
theorem rK{g:Operator}{r:R2}(ho:OpR X (Du g) r)(j:PE X a ta)(hb:PE X b tb):PE X (.BinOp a g b pos) (tOp r ta tb):=by
 intro l s m H Q I h;exact wpAny_BinOp (sY j hb I h λv u o x y A B C E q=>ho l o m A x y v u Q B C E q)
theorem rJ(ho:UnR X (unaryOp l) r)(m:PE X a ta):PE X (.UnaryOp l a pos) (tUn r ta):=by
 intro g s j H Q I h;exact UnaryOp_ (thn (m g s j H _ I h) λv o ⟨x,A,B,C,E⟩=>ho g o j A x v Q B C E)
theorem opI{f:AH->AH->Sem AH}{C:Int->Int->Prop}{g:Int->Int->Int}
  (rule:∀(i j:Int) (t u:Tok) (s:AL) (Q:AH->AL->Prop) (E:AH->AL->Prop),C i j->Q (.int (g i j) s.toks) { s with toks:=s.toks+1 }->Af (Am X.prog X.w) X.A (f (.int i t) (.int j u)) Q E s) :
  OpR X f (rI C λi j=>.int (g i j)):=by
 intro G s J H x y v u Q I l m h;obtain⟨i,j,rfl,rfl,o,q⟩:=h;obtain⟨t,rfl⟩:=l;obtain⟨B,rfl⟩:=m;exact rule i j t B s _ _ o ⟨.int (g i j),H,I.tok _,⟨_,rfl⟩,q⟩
theorem rW{f:AH->AH->Sem AH}{g:Int->Int->Int}
  (rule:∀(i j:Int) (t u:Tok) (s:AL) (Q:AH->AL->Prop) (E:AH->AL->Prop),Q (.int (g i j) s.toks) { s with toks:=s.toks+1 }->Af (Am X.prog X.w) X.A (f (.int i t) (.int j u)) Q E s) :
  OpR X f (rI0 λi j=>.int (g i j)):=by
 intro B s C H x y v u Q I l m h;obtain⟨i,j,rfl,rfl,q⟩:=h;obtain⟨t,rfl⟩:=l;obtain⟨o,rfl⟩:=m;exact rule i j t o s _ _ ⟨.int (g i j),H,I.tok _,⟨_,rfl⟩,q⟩
theorem je{f:AH->AH->Sem AH}{g:Int->Int->Bool}
  (rule:∀(i j:Int) (t u:Tok) (s:AL) (Q:AH->AL->Prop) (E:AH->AL->Prop),Q (.bool (g i j)) s->Af (Am X.prog X.w) X.A (f (.int i t) (.int j u)) Q E s) :
  OpR X f (rI0 λi j=>.bl (g i j)):=by
 intro B s C H x y v u Q I l m h;obtain⟨i,j,rfl,rfl,q⟩:=h;obtain⟨t,rfl⟩:=l;obtain⟨o,rfl⟩:=m;exact rule i j t o s _ _ ⟨.bl (g i j),H,I,rfl,q⟩
def gY(i j:Int):Prop:=0 < j/\j < 1073741824
def kg(i j:Int):Prop:=0<=j/\j<=1000000/\i.natAbs < 2 ^ 64
def Wb(i j:Int):Prop:=(-(2 ^ 64) < i/\i < 2 ^ 64)∨(-(2 ^ 64) < j/\j < 2 ^ 64)
theorem Wb.ok(h:Wb i j):IntMulOk i j:=by
 rcases h with⟨g,l⟩ | ⟨g,l⟩
 ·exact .of_left (intBits_le_64 g l)
 ·exact .of_right (intBits_le_64 g l)
theorem oO:OpR X (Du .Add) (rI0 λi j=>.int (i+j)):=rW λ_ _ _ _ _ _ _ q=>add_int q
theorem oG:OpR X (Du .Sub) (rI0 λi j=>.int (i - j)):=rW λ_ _ _ _ _ _ _ q=>sub_int q
theorem oI:OpR X (Du .Mult) (rI Wb λi j=>.int (i * j)):=opI λ_ _ _ _ _ _ _ g q=>mul_int q g.ok
theorem ja:OpR X (Du .FloorDiv) (rI gY λi j=>.int (i / j)):=opI λi j _ _ _ _ _ g q=>by
 have l:(0:Int) < j:=g.1;have m:j < 1073741824:=g.2;exact floordiv_int (by lia) (by rw[Int.fdiv_eq_ediv_of_nonneg i (by lia)];exact q) (.inl (PyProof.noPylong_small (by omega)))
theorem oJ:OpR X (Du .Mod) (rI (λ_ j=>0 < j) λi j=>.int (i % j)):=opI λi j _ _ _ _ _ g q=>by
 have l:(0:Int) < j:=g;exact mod_int' (by lia) (by rw[Int.fmod_eq_emod_of_nonneg i (by lia)];exact q)
theorem oH:OpR X (Du .Pow) (rI kg λi j=>.int (i ^ j.toNat)):=opI λ_ _ _ _ _ _ _ g q=>pow_int_small g.1 g.2.1 g.2.2 q
theorem unI{f:AH->Sem AH}{g:Int->Int}
  (rule:∀(i:Int) (t:Tok) (s:AL) (Q:AH->AL->Prop) (E:AH->AL->Prop),Q (.int (g i) s.toks) { s with toks:=s.toks+1 }->Af (Am X.prog X.w) X.A (f (.int i t)) Q E s) :
  UnR X f (rU λi=>.int (g i)):=by
 intro l s m H x v Q I j h;obtain⟨i,rfl,q⟩:=h;obtain⟨t,rfl⟩:=j;exact rule i t s _ _ ⟨.int (g i),H,I.tok _,⟨_,rfl⟩,q⟩
theorem mY:UnR X (unaryOp .USub) (rU λi=>.int (-i)):=unI λ_ _ _ _ _ q=>neg_int q
end
section
variable{X:Cx}{a b c:Expr}{ta tb tc:TE}{pos:Pos}
theorem Uc(I:Inv X g j H s)(q:Q (.bl k) H)(e:k=l):EP X g j Q (.bool l) s:=by
 subst e;exact⟨.bl k,H,I,rfl,q⟩
theorem rQ:OpR X (B4 .Lt) (rI0 λi j=>.bl (decide (i < j))):=je λ_ _ _ _ _ _ _ q=>lt_int q
theorem rR:OpR X (B4 .LtE) (rI0 λi j=>.bl (decide (i<=j))):=je λ_ _ _ _ _ _ _ q=>le_int q
theorem rS:OpR X (B4 .Gt) (rI0 λi j=>.bl (decide (j < i))):=je λ_ _ _ _ _ _ _ q=>gt_int q
theorem rT:OpR X (B4 .GtE) (rI0 λi j=>.bl (decide (j<=i))):=je λ_ _ _ _ _ _ _ q=>ge_int q
theorem oK:OpR X (B4 .Is) (λx y H Q=>y=.non/\Q (.bl (decide (x=.non))) H):=by
 intro l s m H x y v u Q I g j h;obtain⟨rfl,q⟩:=h;cases j;refine is_none_gen (Uc I q ?_)
 cases x <;> first
  | (cases g;rfl)
  | (obtain⟨t,rfl⟩:=g;rfl)
theorem OpR.or(h:OpR X f r)(h':OpR X f o):OpR X f (λx y H Q=>r x y H Q∨o x y H Q):=by
 intro g s j H x y v u Q I l m q
 rcases q with q | q
 ·exact h g s j H x y v u Q I l m q
 ·exact h' g s j H x y v u Q I l m q
theorem Dr(b:Expr)(h:g≠.In:=by decide)(j:g≠.NotIn:=by decide):EU g b=false:=by
 have l:(g==CmpOp.In)=false:=by cases g <;> first | rfl | exact zX rfl h
 have m:(g==CmpOp.NotIn)=false:=by cases g <;> first | rfl | exact zX rfl j
 cases b <;> simp[EU,l,m]
def k9(t:TE):TT:=λg H Q=>t g H λx j=>∃k,x=.bl k/\Q k j
theorem jF(ho:OpR X (B4 l) r)(m:PE X a ta)(hb:PE X b tb)(o:EU l b=false):PT X (.Compare a [l] [b] pos) (k9 (tOp r ta tb)):=by
 intro g s j H Q I h
 refine gc (thn (m g s j H _ I h) λv A ⟨x,B,C,E,G⟩=>thn (hb g A j B _ C G) λu J ⟨y,L,N,O,P⟩=>
  thn (ho g J j L x y v u _ N E O P) λc Y ⟨z,R,S,T,k,e,U⟩=>?_) o
 subst e;cases T;exact Dl ⟨R,S,U⟩
def cU(r l:R2)(ta tb tc:TE):TE:=λg H Q=>ta g H λx m=>tb g m λy o=>r x y o λz j=>∃k,z=.bl k /\
 (if k=true then tc g j λw' s=>l y w' s Q else Q (.bl false) j)
theorem dM(ho:OpR X (B4 m) r)(E:OpR X (B4 g) G)(J:PE X a ta)(hb:PE X b tb)(L:PE X c tc)
  (N:lastMarks [m,g] [b,c]=false:=by with_unfolding_all rfl):PT X (.Compare a [m,g] [b,c] pos) (k9 (cU r G ta tb tc)):=by
 intro j s l H Q I h
 refine isTrue_chain (thn (J j s l H _ I h) λv O ⟨x,P,R,S,T⟩=>test_link (thn (hb j O l P _ R T) λu U ⟨y,Y,Z,o,q2⟩=>
  thn (ho j U l Y x y v u _ Z S o q2) λd s3 ⟨z,A,B,r3,k,e,C⟩=>?_)) N
 subst e;cases r3;refine Dl ?_
 cases k with
 | false=>
  obtain⟨k',e',q'⟩:=C;cases e';exact ite_ff ⟨A,B,q'⟩
 | true=>
  refine ite_tt (test_last (thn (L j s3 l A _ B C) λw' s4 ⟨z',H4,I4,r4,q4⟩=>thn (E j s4 l H4 y z' u w' _ I4 o r4 q4) λd' s5 ⟨z2,H5,I5,r5,k2,e2,q5⟩=>?_));subst e2;cases r5;exact Dl ⟨H5,I5,q5⟩
def pY(K:AG)(x:V)(H:Hp)(k:Bool):Prop:=
 match x with
 | .non=>k=false
 | .bl b=>k=b
 | .int i=>k=(i != 0)
 | .str y=>y.length<=sizeLine/\k=((y.length:Int) != 0)
 | .byt y=>y.size<=sizeLine/\k=((y.size:Int) != 0)
 | .ref p=>(∃g,SqL K H p g/\k = !g.isEmpty)∨(∃g,SqT K H p g/\k = !g.isEmpty)∨∃j,H p=some (.dK j)/\k = !j.isEmpty
 | _=>False
theorem Xv{g:Type}{j:List (g×V)}{l:List (g×AH)}(r:KV j l):(!l.isEmpty) = !j.isEmpty:=by
 cases r <;> rfl
theorem RB(r:B6 xs g):(!g.toArray.isEmpty) = !xs.isEmpty:=by
 cases r <;> simp
theorem UL:(sizeLine:Nat) < 2 ^ 63:=by rw[OS];decide
theorem m8:TruR X (λx H Q=>∃k,pY X.K x H k/\Q k H):=by
 intro N s O H x v Q I o h;obtain⟨k,e,q⟩:=h;have R:=UL;have S:sizeLine=16777216:=OS
 cases x with
 | non=>
  cases o;have g:k=false:=e;subst g;exact truthy_none ⟨H,I,q⟩
 | bl b=>
  cases o;have g:k=b:=e;subst g;exact Dl ⟨H,I,q⟩
 | int i=>
  obtain⟨t,rfl⟩:=o;have g:k=(i != 0):=e;subst g;exact PySem.P.truthy_int ⟨H,I,q⟩
 | str y=>
  obtain⟨t,rfl⟩:=o;obtain⟨G,g⟩:y.length<=sizeLine/\k=((y.length:Int) != 0):=e;subst g;exact PySem.P.truthy_str (by lia) ⟨H,I.tok _,q⟩
 | byt y=>
  obtain⟨t,rfl⟩:=o;obtain⟨G,g⟩:y.size<=sizeLine/\k=((y.size:Int) != 0):=e;subst g;exact PySem.W.truthy_bytes (by lia) ⟨H,I.tok _,q⟩
 | ref p=>
  cases o
  have g:(∃l,SqL X.K H p l/\k = !l.isEmpty)∨(∃l,SqT X.K H p l/\k = !l.isEmpty)∨∃A,H p=some (.dK A)/\k = !A.isEmpty:=e
  rcases g with⟨l,B,g⟩ | ⟨l,B,g⟩ | ⟨A,B,g⟩
  ·subst g
   obtain⟨J,r,C,E⟩:=I.list B;have j:=r.length;exact wpAny_truthy_list C.isList (by simp only[AQ];lia) ⟨H,I.tok _,by rw[RB r];exact q⟩
  ·subst g
   obtain⟨J,r,C,E⟩:=I.tuple B;have j:=r.length;exact truthy_tuple C (by simp only[AQ];lia) ⟨H,I.tok _,by rw[RB r];exact q⟩
  ·subst g
   obtain⟨E,L,vs,r,m⟩:A.length<=sizeLine/\(p==Do)=false/\∃vs,KV A vs/\s.heap.DictOf (DN X.prog X.w) p vs:=I.hok p _ B
   have j:A.length=vs.length:=EA r;exact wpAny_truthy_dict L m (by lia) ⟨H,I.tok _,by rw[Xv r];exact q⟩
 | _=>exact(show False from e).elim
theorem dJ(o:PE X a ta)(A:∀g,Wx a X.env g=(do let v <-g;p7 a.pos;qA [v] (lW v))) :
  PT X a (λj H Q=>ta j H λx l=>∃k,pY X.K x l k/\Q k l):=by
 intro m s j H Q I h;exact isTrue_plain (thn (o m s j H _ I h) λv B ⟨x,C,E,G,J⟩=>m8 m B j C x v Q E G J) (A _)
theorem vals1(r:B6 [x] g):∃u,g=[u]/\RelV x u:=by
 cases r with
 | cons j l=>cases l;exact⟨_,rfl,j⟩
theorem vals2(r:B6 [x,y] g):∃u w',g=[u,w']/\RelV x u/\RelV y w':=by
 cases r with
 | cons j l=>
  cases l with
  | cons m o=>cases o;exact⟨_,_,rfl,j,m⟩
theorem bE(l:X.calm=true):Iu X (.builtin "max") (λxs H Q=>∃i j,xs=[.int i,.int j]/\Q (.int (if j > i then j else i)) H):=by
 intro m s o H xs A Q I r h;obtain⟨i,j,rfl,q⟩:=h;obtain⟨u,w',rfl,⟨t,rfl⟩,⟨B,rfl⟩⟩:=vals2 r
 refine max_two_ints (I.ok.hd l) λC tk k=>⟨_,H,I.kept k,?_,q⟩
 by_cases g:j > i
 ·rw[qX g,qX g];exact⟨_,rfl⟩
 ·rw[qY g,qY g];exact⟨_,rfl⟩
theorem bC(l:X.calm=true):Iu X (.builtin "min") (λxs H Q=>∃i j,xs=[.int i,.int j]/\Q (.int (if j < i then j else i)) H):=by
 intro m s o H xs A Q I r h;obtain⟨i,j,rfl,q⟩:=h;obtain⟨u,w',rfl,⟨t,rfl⟩,⟨B,rfl⟩⟩:=vals2 r
 refine min_two_ints (I.ok.hd l) λC tk k=>⟨_,H,I.kept k,?_,q⟩
 by_cases g:j < i
 ·rw[qX g,qX g];exact⟨_,rfl⟩
 ·rw[qY g,qY g];exact⟨_,rfl⟩
end
structure bJ(h:CS)(x dx C:AV)(mA:Str->Option AH):Prop where
 obj:h.get? x=some (D0 C dx)
 ns:h.Ns1 dx mA
 ne:dx≠x
theorem aR{h:CS}{g:AV}{j:Str->Option AH}(n:h.Ns1 g j):∃l,h.get? g=some l/\∀name,QH name l=some (j name):=by
 obtain⟨o,m,H,s,hd,A,_,B⟩:=n;refine⟨o,s,λname=>?_⟩;have e:=B name;unfold nsFind findBy at e;rw[<-Array.find?_toList]at e;unfold QH;rw[hd];dsimp only;split
 ·rename_i y q
  rw[q]at e;exact congrArg some e
 ·rename_i q
  rw[q]at e
  have a:m.toList.any (·.refKey)=false:=by
   rw[bn];intro y C;obtain⟨z,t,E⟩:=A y (Bj.mp C);simp[bV.refKey,E]
  have G:¬m.toList.any (·.refKey)=true:=by rw[a];exact Ac
  rw[qY G];exact congrArg some e
theorem bJ.look{h}{x j C}{l}(I:bJ h x j C l):∃g,bd h x (D0 C j) C (some g)/\∀name,QH name g=some (l name):=
 let ⟨g,m,o⟩:=aR I.ns
 ⟨g,⟨I.obj,rfl,rfl,m⟩,o⟩
section
variable{prog:Bb}{w:By}{A:Bn}{E:AH->AL->Prop}{s:AL}{K:AG}{x dx C f:AV}{mA:Str->Option AH}{name:Str}{v:AH}
theorem j8(X:K.In s.heap)(I:bJ s.heap x dx C mA)(g:OV K C name=true)(j:NY K C=true)
  (l:C4 K (.ref C) name=some none) (m:mA name=some v) (o:Zi v=true) (h:Q v { s with toks:=s.toks+1 }) :
  Af (Am prog w) A (getAttr (.ref x) name expr) Q E s:=by
 obtain⟨G,J,B⟩:=I.look;exact PySem.W.get_value X J (PySem.W.plainGet_of g).1 (PySem.W.findObj_own j l rfl (by rw[B,m])) o h
theorem iy(X:K.In s.heap)(I:bJ s.heap x dx C mA)
  (G:C4 K (.ref C) "__setattr__" = some (some (.builtin "object.__setattr__"))) (H:YI K C=true) (L:Pe K C name=some none) (N:NY K C=true)
  (hw:U5 mA ns) (hsz:ns.length<=sizeLine)
  (h:∀h',bJ h' x dx C (λy=>if y=name then some v else mA y)->EC dx s.heap h'->Q () { s with heap:=h',toks:=s.toks+2 }) :
  Af (Am prog w) A (setAttr (.ref x) name v) Q E s:=by
 obtain⟨T,J,U⟩:=I.look;refine PySem.W.set_plain X J G (PySem.W.osa_open (s:={ s with toks:=s.toks+1 }) (r:=none) X J H L λb=>?_);obtain⟨Y,O,g⟩:=PySem.W.any_some N;have P:s.heap.get? x=some ⟨.ref C,some dx,.plain,#[]⟩:=I.obj;refine AA (AI (AA (AA (Wt P (AA (qT (s:={ s with toks:=s.toks+1 }) (PySem.W.looks_clsIn X O) ?_))))));rw[g];refine AI (a:=some dx) (AA (AI (AA ?_)))
 refine wpAny_nsSet1 (s:={ s with toks:=s.toks+1 }) I.ns λh' o B=>?_
 obtain⟨Z,R,S,j,l,m⟩:=o.count (si name v hw);refine AA (wpAny_lookBehind j (by rw[l];exact pastItsLine_dict (Av m (by rw[A0];lia))) ?_);exact AI (h _ ⟨(B.2 _ (CY I.ne)).trans I.obj,o,I.ne⟩ B)
theorem eJ(X:K.In s.heap)(m:bP K C=true)
  (hi:C4 K (.ref C) "__init__" = some (some (.ref f))) (o:LU K (.ref f)=some (.type "function"))
  (h:LQ (Am prog w) (A.under (.builtin "type.__call__" ⟨.ref C :: j,l⟩)) (.call (.ref f) ⟨.ref (s.heap.objs.size+1) :: j,l⟩) (PySem.W.InitBack (s.heap.objs.size+1) R)
   { s with heap:=(s.heap.push C5).push (D0 C s.heap.objs.size) }) :
  LQ (Am prog w) A (.call (.ref C) ⟨j,l⟩) R s:=by
 obtain⟨B,g,d,t,os⟩:=s;exact PySem.W.make_core (PySem.W.makes_of X m) (LV X hi) (λself=>PySem.W.bind_fn X self o) (.inl rfl) h
end
def putF(f:Str)(v:V):List (Str×V)->List (Str×V)
 | []=>[(f,v)]
 | (g,x) :: r=>if g=f then(g,v) :: r else(g,x) :: putF f v r
theorem PU(f g:Str)(v:V):∀fs:List (Str×V),(putF f v fs).lookup g=if g=f then some v else fs.lookup g
 | []=>by
  show Hy g [(f,v)]=_
  by_cases h:g=f
  ·have hb:(g==f)=true:=beq_iff_eq.mpr h
   simp only[Hy,hb,qX h]
  ·have hb:(g==f)=false:=beq_eq_false_iff_ne.mpr h
   simp only[Hy,hb,qY h]
 | (k,x) :: r=>by
  have l:=PU f g v r;rw[show putF f v ((k,x) :: r)=(if k=f then(k,v) :: r else(k,x) :: putF f v r)from rfl]
  by_cases j:k=f
  ·rw[qX j]
   by_cases h:g=k
   ·have hb:(g==k)=true:=beq_iff_eq.mpr h
    simp only[Hy,hb,qX (h.trans j)]
   ·have hb:(g==k)=false:=beq_eq_false_iff_ne.mpr h
    simp only[Hy,hb,qY (λe:g=f=>h (e.trans j.symm))]
  ·rw[qY j]
   by_cases h:g=k
   ·have hb:(g==k)=true:=beq_iff_eq.mpr h
    simp only[Hy,hb,qY (λe:g=f=>j (h.symm.trans e))]
   ·have hb:(g==k)=false:=beq_eq_false_iff_ne.mpr h
    simp only[Hy,hb];exact l
theorem Ou(f:Str)(v:V):∀fs:List (Str×V),f∈(putF f v fs).map (·.1)/\∀g,g∈fs.map (·.1)->g∈(putF f v fs).map (·.1)
 | []=>⟨by simp[putF],λg h=>by simp at h⟩
 | (k,x) :: r=>by
  obtain⟨l,m⟩:=Ou f v r;rw[show putF f v ((k,x) :: r)=(if k=f then(k,v) :: r else(k,x) :: putF f v r)from rfl]
  by_cases j:k=f
  ·rw[qX j]
   subst j;exact⟨by simp,λg h=>by simpa using h⟩
  ·rw[qY j]
   refine⟨?_,λg h=>?_⟩
   ·rw[BB]
    exact AT _ l
   ·rw[BB]at h ⊢
    rcases Aq.mp h with e | e
    ·exact Aq.mpr (.inl e)
    ·exact AT _ (m g e)
theorem PV(f:Str)(v:V):∀fs:List (Str×V),(putF f v fs).length<=fs.length+1
 | []=>by simp[putF]
 | (k,x) :: r=>by
  have j:=PV f v r;rw[show putF f v ((k,x) :: r)=(if k=f then(k,v) :: r else(k,x) :: putF f v r)from rfl]
  by_cases g:k=f
  ·rw[qX g,A0,A0];lia
  ·rw[qY g,A0,A0];lia
theorem NN.some_of(r:NN (some v) o):∃u,o=some u/\RelV v u:=by
 cases o with
 | none=>exact(show False from r).elim
 | some u=>exact⟨u,rfl,r⟩
theorem ah(r:RelV v u):Zi u=true:=by
 cases v with
 | non=>cases(show u=Be from r);rfl
 | bl b=>cases(show u=Rt b from r);rfl
 | int i=>obtain⟨t,e⟩:=(show ∃t,u=Pc i t from r);cases e;rfl
 | str x=>obtain⟨t,e⟩:=(show ∃t,u=Pb x t from r);cases e;rfl
 | byt b=>obtain⟨t,e⟩:=(show ∃t,u=qD b t from r);cases e;rfl
 | flt b=>obtain⟨t,e⟩:=(show ∃t,u=W3 b t from r);cases e;rfl
 | ref a=>cases(show u=A7 a from r);rfl
 | ty n=>cases(show u=Ea n from r);rfl
section
variable{P:Bb}{w:By}{H:Hp}{h:CS}{a C dx:AV}{fs:List (Str×V)}
theorem UN(j:HOk P w H h)(e:H a=some (.ins C dx fs)):∃g,bJ h a dx C g/\(∀f,NN (fs.lookup f) (g f))/\U5 g (fs.map (·.1))/\fs.length<=1000/\H dx=some (.own a):=by
 obtain⟨d,z,l,m,g,n,r,q⟩:=(show C7 P w H h a (.ins C dx fs)from j a _ e);exact⟨g,⟨m,n,l⟩,r,q,z,d⟩
end
structure Cls(K:AG)(C:AV):Prop where
 pg:OV K C Str.empty=true
 hd:NY K C=true
 po:YI K C=true
 sa:C4 K (.ref C) "__setattr__" = some (some (.builtin "object.__setattr__"))
theorem Cls.get{K}{C}(c:Cls K C)(f:Str):OV K C f=true:=c.pg
def Ir(K:AG)(C:AV)(f:Str):Prop:=C4 K (.ref C) f=some none
theorem Ir.taker{K}{C}{f}(n:Ir K C f):Pe K C f=some none:=by
 unfold Pe;rw[show C4 K (.ref C) f=some none from n];rfl
section
variable{X:Cx}{ζ:List (AV×Obj)}{σ:St}{H:Hp}{s:AL}{a C dx:AV}{fs:List (Str×V)}{f:Str}{v:V}{A:Bn}{E:AH->AL->Prop}
theorem X0(I:Inv X ζ σ H s)(e:H a=some (.ins C dx fs))(c:Cls X.K C)(n:Ir X.K C f)(l:fs.lookup f=some v)
  (h:∀u s',Inv X ζ σ H s'->RelV v u->Q u s'):Af (Am X.prog X.w) A (getAttr (.ref a) f b) Q E s:=by
 obtain⟨j,O,r,_,_,_⟩:=UN I.hok e;obtain⟨u,m,g⟩:=NN.some_of (v:=v) (o:=j f) (by rw[<-l];exact r f);exact j8 I.kIn O (c.get f) c.hd n m (ah g) (h u _ (I.tok _) g)
theorem Xc(I:Inv X ζ σ H s)(e:H a=some (.ins C dx fs))(c:Cls X.K C)(n:Ir X.K C f)(S:fs.length < 1000)(G:RelV y u)
  (h:∀s',Inv X ζ σ (upd H a (.ins C dx (putF f y fs))) s'->Q () s'):Af (Am X.prog X.w) A (setAttr (.ref a) f u) Q E s:=by
 obtain⟨l,O,r,m,_,B⟩:=UN I.hok e
 have J:(fs.map (·.1)).length<=sizeLine:=by rw[AF,OS];lia
 refine iy I.kIn O c.sa c.po n.taker c.hd m J λL j N=>h _ ?_
 have hd:∃o,L.get? dx=some o:=let ⟨o,_,_,P,_⟩:=j.ns;⟨o,P⟩
 refine I.write (x:=a) (e:=dx) (by rw[e];exact Db) (.inr B) (λb q hb z=>(N.2 b hb).trans z) hd ?_;refine⟨by rw[Bh O.ne];exact B,?_,O.ne,j.obj,_,j.ns,λg=>?_,λg R=>?_⟩
 ·have:=PV f y fs;lia
 ·show NN ((putF f y fs).lookup g) (if g=f then some u else l g)
  rw[PU]
  by_cases q:g=f
  ·rw[qX q,qX q];exact G
  ·rw[qY q,qY q];exact r g
 ·by_cases q:g=f
  ·rw[q];exact(Ou f y fs).1
  ·refine(Ou f y fs).2 g (m g λz=>R ?_)
   show(if g=f then some u else l g)=none;rw[qY q];exact z
theorem Inv.made(I:Inv X ζ σ H s):Inv X ζ σ (upd (upd H s.heap.objs.size (.own (s.heap.objs.size+1))) (s.heap.objs.size+1) (.ins C s.heap.objs.size []))
  { s with heap:=(s.heap.push C5).push (D0 C s.heap.objs.size) }:=by
 have g:(s.heap.push C5).get? s.heap.objs.size=some C5:=Ag s.heap rfl
 have l:((s.heap.push C5).push (D0 C s.heap.objs.size)).get? (s.heap.objs.size+1)=some (D0 C s.heap.objs.size):=by
  have:=Ag (s.heap.push C5) (o:=D0 C s.heap.objs.size) rfl;rwa [CV]at this
 have m:(s.heap.push C5).Ns s.heap.objs.size (λ_=>none):=⟨C5,#[],_,g,rfl,(λe B=>zX B (by simp)),λ_=>rfl⟩;have G:=I.laid (a:=s.heap.objs.size) (o:=.own (s.heap.objs.size+1)) (h':=s.heap.push C5) (t':=s.toks) (λb u q=>AJ _ q) (AN _) ⟨_,g⟩;refine G.laid (a:=s.heap.objs.size+1) (o:=.ins C s.heap.objs.size []) (t':=s.toks) (λb u q=>AJ _ q) (W6 (CV _ _)) ?_;have j:s.heap.objs.size≠s.heap.objs.size+1:=Ax (CG _);refine⟨by rw[Bh j,Bq],CZ _,j,l,λ_=>none,(CS.Ns1.of_empty m).at λo q=>AJ _ q,λ_=>Db,λy J=>zX rfl J⟩
theorem kW(hb:DZ e f env (Bt e env)=Bt e env)
  (h:Af (Am prog w) A (Bt e env) (λo g=>Af (Am prog w) A (getAttr o f true) Q E g) E s):Af (Am prog w) A (Bt (.Attribute e f pos) env) Q E s:=
 Attribute_any_ h (by rw[arm_eval_Attribute,hb])
end
def tFld(K:AG)(j:TE)(f:Str):TE:=λl H Q=>j l H λx g=>∃a C m fs v,x=.ref a/\g a=some (.ins C m fs)/\Cls K C/\Ir K C f/\fs.lookup f=some v/\Q v g
def sFld(K:AG)(m o:TE)(f:Str):TS:=λD g H=>o g H λy s=>m g s λx j=>∃a C l fs,x=.ref a/\j a=some (.ins C l fs)/\Cls K C/\Ir K C f/\fs.length < 1000 /\
 D.nx g (upd j a (.ins C l (putF f y fs)))
section
variable{X:Cx}{o e value:Expr}{f:Str}{pos pos':Pos}{ta tv:TE}
theorem n9(g:PE X e ta)(hb:DZ e f X.env (Bt e X.env)=Bt e X.env):PE X (.Attribute e f pos) (tFld X.K ta f):=by
 intro j s m H Q I h;refine kW hb (thn (g j s m H _ I h) λu N ⟨x,A,B,E,a,C,O,fs,v,ex,G,c,n,l,q⟩=>?_);subst ex;obtain rfl:u=A7 a:=E
 exact X0 B G c n l λP R J L=>⟨v,A,J,L,q⟩
theorem nh(m:PE X o ta)(A:PE X value tv)(B:GR value (some (.Attribute o f pos')) pos.line X.env=pure false):PS X (.Assign [.Attribute o f pos'] value pos) (sFld X.K ta tv f):=by
 intro j s g H D I h;refine plainObj_wpAny_Assign_Attribute (thn (A j s g H _ I h) λu E ⟨y,G,J,L,q⟩=>thn (m j E g G _ J q) λN T ⟨x,U,O,P,a,C,Y,fs,ex,Q,c,n,l,R⟩=>?_) B;subst ex;obtain rfl:N=A7 a:=P
 exact Xc O Q c n l L λZ S=>⟨g,_,S,R⟩
end
section
variable{X:Cx}{ζ:List (AV×Obj)}{σ:St}{H:Hp}{s:AL}{A:Bn}{E:AH->AL->Prop}{Q:AH->AL->Prop}{c:AH}{b:Bool}
inductive OL(K:AG)(H:Hp):V->AH->Prop where
 | non:OL K H .non (.type "NoneType")
 | bl (x:Bool):OL K H (.bl x) (.type "bool")
 | int (i:Int):OL K H (.int i) (.type "int")
 | str (x:Str):OL K H (.str x) (.type "str")
 | flt (x:UInt64):OL K H (.flt x) (.type "float")
 | lst {a:AV} {xs:List V} (e:H a=some (.lst xs)):OL K H (.ref a) (.type "list")
 | frz {a:AV} {o:Obj} {xs:List V} (e:H a=some (.frz o (.lst xs))):OL K H (.ref a) (.type "list")
 | tup {a:AV} {xs:List V} (e:H a=some (.tup xs)):OL K H (.ref a) (.type "tuple")
 | dK {a:AV} {j':List (Key×V)} (e:H a=some (.dK j')):OL K H (.ref a) (.type "dict")
 | dT {a:AV} {j':List (List Key×V)} (e:H a=some (.dT j')):OL K H (.ref a) (.type "dict")
 | ins {a C dx:AV} {fs:List (Str×V)} (e:H a=some (.ins C dx fs)) (cl:Cls K C) (ha:C4 K (.ref C) "__class__" = some (some (.builtin "object.__class__")))
   (hn:YH K (.builtin "object.__class__") "__get__" = some (some (.builtin "getset_descriptor.__get__"))) (htk:bO K (.builtin "object.__class__")=some true)
   (hm:Mp K C (.type "object")=some true):OL K H (.ref a) (.ref C)
theorem aY(I:Inv X ζ σ H s)(g:RelV x u)(ty:OL X.K H x t)(e:Bm X.K t c=some b)(h:∀tk,Q (.bool b) { s with toks:=tk }) :
  Af (Am X.prog X.w) A (call (.builtin "isinstance") [u,c]) Q E s:=by
 cases ty with
 | non=>cases(show u=Be from g);exact CT PySem.W.kitx_none I.kIn Db e (λz=>nomatch z) h
 | bl y=>cases(show u=Rt y from g);exact CT PySem.W.kitx_bool I.kIn Db e (λz=>nomatch z) h
 | int i=>obtain⟨t,q⟩:=(show ∃t,u=Pc i t from g);cases q;exact CT PySem.W.kitx_int I.kIn Db e (λz=>nomatch z) h
 | str y=>obtain⟨t,q⟩:=(show ∃t,u=Pb y t from g);cases q;exact CT PySem.W.kitx_str I.kIn Db e (λz=>nomatch z) h
 | flt y=>obtain⟨t,q⟩:=(show ∃t,u=W3 y t from g);cases q;exact CT PySem.W.kitx_float I.kIn Db e (λz=>nomatch z) h
 | @lst a m j=>
  cases(show u=A7 a from g);obtain⟨_,_,n,_,l⟩:=(show C7 X.prog X.w H s.heap a (.lst m)from I.hok a _ j);exact CT YJ I.kIn ⟨_,l,rfl⟩ e (λz=>nomatch z) h
 | @frz a P m j=>
  cases(show u=A7 a from g);obtain⟨_,_,_,n,_,l⟩:=(show C7 X.prog X.w H s.heap a (.frz P (.lst m))from I.hok a _ j);exact CT YJ I.kIn ⟨_,l,rfl⟩ e (λz=>nomatch z) h
 | @tup a m j=>
  cases(show u=A7 a from g);obtain⟨_,_,_,p⟩:=(show C7 X.prog X.w H s.heap a (.tup m)from I.hok a _ j);obtain⟨o,l,B,_⟩:=p;exact CT PySem.W.kitx_tuple I.kIn ⟨o,l,B⟩ e (λz=>nomatch z) h
 | @dK a G j=>
  cases(show u=A7 a from g);obtain⟨_,_,Z,_,p⟩:=(show C7 X.prog X.w H s.heap a (.dK G)from I.hok a _ j);obtain⟨o,R,S,l,B,_⟩:=p;exact CT YK I.kIn ⟨o,l,B.1⟩ e (λz=>nomatch z) h
 | @dT a G j=>
  cases(show u=A7 a from g);obtain⟨_,_,m,_,o,R,S,l,B,_⟩:=(show C7 X.prog X.w H s.heap a (.dT G)from I.hok a _ j);exact CT YK I.kIn ⟨o,l,B.1⟩ e (λz=>nomatch z) h
 | @ins a C dx fs j N T U L Y=>
  cases(show u=A7 a from g);obtain⟨mA,O,_⟩:=UN I.hok j;obtain⟨od,J,_⟩:=O.look;exact CT (PySem.W.kitx_own (N.get _) N.hd T U L Y) I.kIn J e (λz=>nomatch z) h
end
structure Hx(k:Nat)(A:Bn):Prop where
 hd:A.handled=none
 dp:A.depth+3 * k+5 < recursionLimit
 un:A.units+16 * k+200 < Ej
theorem Hx.mono(r:Hx k A)(h:j<=k):Hx j A:=⟨r.hd,by have:=r.dp;lia,by have:=r.un;lia⟩
theorem Hx.deeper(r:Hx (k+1) A)(env:Env):Hx k (A.deeper env):=
 ⟨r.hd,by have:=r.dp;show A.depth+1+3 * k+5 < _;lia,by have:=r.un;show A.units+3+16 * k+200 < _;lia⟩
theorem Xq{A:Bn}{C:AV}{g:List AH}{j:List (Str×AH)}:(A.under (.builtin "type.__call__" ⟨.ref C :: g,j⟩)).depth=A.depth+1:=by
 first | rfl | simp[U0,Code.weight,Code.isCreation,Code.isGuard,Code.isCaller,qd,Wo,guardIds]
theorem Xp{A:Bn}{C:AV}{g:List AH}{j:List (Str×AH)}:(A.under (.builtin "type.__call__" ⟨.ref C :: g,j⟩)).units=A.units+1:=by
 first | rfl | simp[U0,Code.cUnits,qd,Wo]
theorem Hx.make{k}{A}(r:Hx (k+1) A)(C:AV)(g:List AH)(j:List (Str×AH)):Hx k (A.under (.builtin "type.__call__" ⟨.ref C :: g,j⟩)):=
 ⟨r.hd,by have:=r.dp;rw[Xq];lia,by have:=r.un;rw[Xp];lia⟩
theorem Hx.depth(r:Hx k A):A.depth < recursionLimit:=by have:=r.dp;lia
theorem Hx.units(r:Hx k A):A.units+64 < Ej:=by have:=r.un;lia
def tNil:TA:=λ_ H Q=>Q [] H
def qv(j:TE)(l:TA):TA:=λg H Q=>j g H λx m=>l g m λo s=>Q (x :: o) s
section
variable{X:Cx}{e:Expr}{es:List Expr}{te:TE}{t:TA}{pos:Pos}
theorem Gj:PA X [] tNil:=λ_ _ _ _ H Q I h=>Jr ⟨[],H,I,.nil,h⟩
theorem EF(l:PE X e te)(m:PA X es t)(o:AO (e :: es) X.env=(false,Bt e X.env) :: AO es X.env:=by rfl):PA X (e :: es) (qv te t):=by
 intro pos g s j H Q I h;rw[o];show Af _ _ (bY ((false,Bt e X.env) :: Cp pos (AO es X.env))) _ _ s;refine GY (thn (l g s j H _ I h) λu A ⟨x,B,C,E,G⟩=>?_)
 exact thn (m pos g A j B _ C G) λR S ⟨J,L,N,O,P⟩=>⟨x :: J,L,N,.cons E O,P⟩
def tTup(t:TA):TE:=λl H Q=>t l H λg j=>g.length<=sizeLine/\∀p,j p=none->Q (.ref p) (upd j p (.tup g))
def tLst(t:TA):TE:=λl H Q=>t l H λg j=>g.length<=sizeLine/\∀p,j p=none->Q (.ref p) (upd j p (.lst g))
theorem nu{m}(h:PA X es t):PE X (.Tuple es m pos) (tTup t):=by
 intro o s A H Q I B;refine wpAny_Tuple_spliced (thn (h pos o s A H _ I B) λC g ⟨E,j,l,r,z,q⟩=>⟨by rw[<-r.length];exact z,?_⟩);have G:j g.heap.objs.size=none:=l.hok.fresh (AN _);refine⟨.ref g.heap.objs.size,upd j g.heap.objs.size (.tup E),l.laid (t':=g.toks) (λb u e=>AJ _ e) (AN _) ?_,rfl,q _ G⟩;exact⟨⟨z,⟨_,Ag _ rfl,rfl⟩⟩,C,r,⟨_,Ag _ rfl,rfl,_,rfl⟩⟩
theorem nz(h:PA X es t):PE X (.List es pos) (tLst t):=by
 intro m s o H Q I A;refine wpAny_List_spliced (thn (h pos m s o H _ I A) λB g ⟨C,j,l,r,z,q⟩=>⟨by rw[<-r.length];exact z,?_⟩);have E:j g.heap.objs.size=none:=l.hok.fresh (AN _);refine⟨.ref g.heap.objs.size,upd j g.heap.objs.size (.lst C),l.laid (t':=g.toks) (λb u e=>AJ _ e) (AN _) ?_,rfl,q _ E⟩;exact⟨z,B,0,r,Ag _ rfl⟩
end
abbrev Sp:=List V->Hp->VK->XK->Prop
abbrev CXT:=List Env->Hp->AL->XK->AH->AL->Prop
structure YD(P:Bb)(w:By)(K:AG)(mg:Str->Option AH)(base:CS)(A:Bn)(outer:List Env)(s:AL)(H:Hp):Prop where
 frames:A.frames=some outer
 mod:Mod K mg base
 bs:∀b o,base.get? b=some o->s.heap.get? b=some o/\H b=none
 bsz:base.objs.size<=s.heap.objs.size
 funs:s.heap.FunFrames base outer
 frf:∀b∈frs outer,H b=none
 hok:HOk P w H s.heap
 bare:Iv s.gens
def CE(g:List Env)(P:Bb)(w:By)(H:Hp)(s:AL)(Q:VK)(u:AH)(s':AL):Prop:=
 ∃v j,s'.os=s.os/\Iv s'.gens/\Un (frs g) [] H j s.heap s'.heap/\HOk P w j s'.heap/\RelV v u/\Q v j
def CR(CX:CXT)(g:List Env)(P:Bb)(w:By)(H:Hp)(s:AL)(Q:VK)(E:XK)(r:lh)(s':AL):Prop:=
 match r with
 | .ok (.ret u)=>CE g P w H s Q u s'
 | .ok _=>False
 | .error e=>CX g H s E e s'
structure EO(P:Bb)(w:By)(K:AG)(mg:Str->Option AH)(base:CS)(CX:CXT)(k:Nat)(f:AV)(fd:Iy)(ps:List Str)(sp:Sp):Prop where
 len:∀vs H Q E,sp vs H Q E->vs.length=ps.length
 run:∀(A:Bn) (outer:List Env) (s:AL) (H:Hp) (args:Args) (us:List AH) (vs:List V) (Q:VK) (E:XK),Hx k A->YD P w K mg base A outer s H->Wp s fd args (ps.zip us)->B6 vs us->sp vs H Q E ->
  LQ (Am P w) A (.call (.ref f) args) (CR CX outer P w H s Q E) s
theorem EO.imp{P}{w}{K}{m}{base}{CX}{k}{f}{fd}{ps}{sp sp'}(F:EO P w K m base CX k f fd ps sp)
  (h:∀j H Q E,sp' j H Q E->sp j H Q E):EO P w K m base CX k f fd ps sp':=
 ⟨λj H Q E q=>F.len j H Q E (h _ _ _ _ q),λA g s H l o j Q E B C hb G I=>F.run A g s H l o j Q E B C hb G (h _ _ _ _ I)⟩
theorem YD.make{P}{w}{K}{j}{base}{A}{g}{s}{H}(e:YD P w K j base A g s H)(C:AV)(l:List AH)(m:List (Str×AH)) :
  YD P w K j base (A.under (.builtin "type.__call__" ⟨.ref C :: l,m⟩)) g s H:=⟨by first | exact e.frames | (simpa[U0,Code.envs,Wo,pushEnvs]using e.frames),e.mod,e.bs,e.bsz,e.funs,e.frf,e.hok,e.bare⟩
section
variable{X:Cx}{ζ:List (AV×Obj)}{σ:St}{H:Hp}{s s':AL}
theorem Inv.env0(I:Inv X ζ σ H s):YD X.prog X.w X.K X.mg X.base X.A X.stack s H:=
 ⟨I.ok.frames,I.ok.mod,I.bs,Av I.ok.bsz I.sz,I.stack,I.stkFree,I.hok,I.bare⟩
theorem Inv.after(I:Inv X ζ σ H s)(h:CE X.stack X.prog X.w H s Q u s'):EP X ζ σ Q u s':=by
 obtain⟨v,m,os,j,un,l,r,q⟩:=h;obtain⟨o,g,d,t,A⟩:=s';obtain rfl:A=s.os:=os;exact⟨v,m,I.call (h':=o) (g':=g) (d':=d) (t':=t) (ch:=[]) un l j (λb z=>zX z (by simp)),r,q⟩
end
def qw(sp:Sp)(j:List V)(E:St->XK)(t:TA):TE:=λg H Q=>t g H λl m=>sp (l++j) m Q (E g)
def qp(C:AV)(sp:Sp)(m:List V)(E:St->XK)(t:TA):TE:=λl H Q=>t l H λo j=>∀x g,j x=none->j g=none->g≠x ->
 sp (.ref x :: (o++m)) (upd (upd j g (.own x)) x (.ins C g [])) (λv s=>v=.non/\Q (.ref x) s) (E l)
def Binds(K:AG)(fd:Iy)(ps:List Str)(ds:List AH):Prop:=
 ∀(s:AL) (g:List AH),K.In s.heap->(g++ds).length=ps.length->Wp s fd ⟨g,[]⟩ (ps.zip (g++ds))
theorem Binds.all{K}{fd}{ps}(h:∀g:List AH,g.length=ps.length->gz fd ⟨g,[]⟩=pure (ps.zip g)):Binds K fd ps []:=λs g _ j=>by
 rw[A3]at j ⊢;exact .of_eq (h g j)
def NO(CX:CXT)(X:Cx)(E:St->XK):Prop:=∀(l:List (AV×Obj)) (g:St) (H:Hp) (s:AL) (e:AH) (j:AL),Inv X l g H s->CX X.stack H s (E g) e j->X.xe e j
section
variable{X:Cx}{k:Nat}{f C:AV}{fd:Iy}{ps:List Str}{sp:Sp}{E:St->XK}{x:Str}{p pos:Pos}{e:Expr}{es:List Expr}{t:TA}
theorem nP(F:EO X.prog X.w X.K X.mg X.base CX k f fd ps sp)(J:Hx k X.A)(hb:Binds X.K fd ps ds)(hd:B6 m ds)(L:NO CX X E)
  (I:Inv X B l H s) (r:B6 o g) (h:sp (o++m) H Q (E l)):Af (Am X.prog X.w) X.A (call (.ref f) g) (EP X B l Q) X.xe s:=by
 have G:B6 (o++m) (g++ds):=r.append hd
 have N:(g++ds).length=ps.length:=by rw[<-G.length];exact F.len _ _ _ _ h
 refine QE (Ju (F.run X.A X.stack s H ⟨g,[]⟩ (g++ds) (o++m) Q (E l) J I.env0 (hb s g I.kIn N) G h) λr O j=>?_)
 cases r with
 | error e=>exact L B l H s e O I j
 | ok fl=>
  cases fl with
  | ret u=>exact I.after j
  | next=>exact EE j
  | brk=>exact EE j
  | cont=>exact EE j
theorem jW(F:EO X.prog X.w X.K X.mg X.base CX k f fd ps sp)(j:Hx k X.A)(l:Gl X x)(m:X.mg x=some (.ref f))(o:Gc X.K (.ref f)=true)(hb:Binds X.K fd ps ds)(hd:B6 B ds)(G:NO CX X E)
  (J:PA X (e :: es) t) (L:(x==("__debug__" : Str))=false:=by decide) (N:AO (e :: es) X.env=(false,Bt e X.env) :: AO es X.env:=by rfl) (O:(Cp pos (AO es X.env)).any (·.1)=false:=by rfl) :
  PE X (.Call (.Name x p) (e :: es) [] pos) (qw sp B E t):=by
 intro P s R H Q I h;refine DR (N1 I l m ?_ L);refine W5 (h₀:=X.base) I.ok.mod.kin o (thn (J pos P s R H _ I h) λS T ⟨U,Y,g,r,q⟩=>⟨g.kIn,?_⟩) N O;exact nP F j hb hd G g r q
structure Mk(K:AG)(C f:AV):Prop where
 makes:bP K C=true
 init:C4 K (.ref C) "__init__" = some (some (.ref f))
 fn:PySem.W.isFn K (.ref f)=true
 kp:Gc K (.ref C)=true
theorem cr(M:Mk X.K C f)(F:EO X.prog X.w X.K X.mg X.base CX k f fd ps sp)(O:Hx (k+1) X.A)(hb:Binds X.K fd ps ds)(hd:B6 B ds)
  (P:NO CX X E) (I:Inv X G l H s) (r:B6 J g)
  (h:∀x m,H x=none->H m=none->m≠x->sp (.ref x :: (J++B)) (upd (upd H m (.own x)) x (.ins C m [])) (λv R=>v=.non/\Q (.ref x) R) (E l)) :
  Af (Am X.prog X.w) X.A (call (.ref C) g) (EP X G l Q) X.xe s:=by
 have L:=h (s.heap.objs.size+1) s.heap.objs.size (I.hok.fresh (Rf _)) (I.hok.fresh (AN _)) (Ax (CG _));have o:=Inv.made (C:=C) I;have N:B6 (V.ref (s.heap.objs.size+1) :: (J++B)) (A7 (s.heap.objs.size+1) :: (g++ds)):=.cons rfl (r.append hd)
 have S:(A7 (s.heap.objs.size+1) :: g++ds).length=ps.length:=by
  have e:=N.length;rw[F.len _ _ _ _ L]at e;exact e.symm
 refine QE (eJ (f:=f) I.kIn M.makes M.init (beq_iff_eq.mp M.fn) (Ju (F.run _ X.stack _ _ ⟨A7 (s.heap.objs.size+1) :: g,[]⟩ (A7 (s.heap.objs.size+1) :: (g++ds)) _ _ (E l) (O.make C g [])
  (o.env0.make C g []) (hb _ (A7 (s.heap.objs.size+1) :: g) o.kIn S) N L) λr T j=>?_))
 cases r with
 | error e=>exact P G l _ _ e T o j
 | ok fl=>
  cases fl with
  | ret u=>
   obtain⟨v,U,Y,Z,ev,q3⟩:=o.after j;subst ev;exact⟨Z,⟨V.ref (s.heap.objs.size+1),U,Y,rfl,q3⟩⟩
  | next=>exact EE j
  | brk=>exact EE j
  | cont=>exact EE j
theorem jS(M:Mk X.K C f)(F:EO X.prog X.w X.K X.mg X.base CX k f fd ps sp)(j:Hx (k+1) X.A)(l:Gl X x)(m:X.mg x=some (.ref C))(hb:Binds X.K fd ps ds)(hd:B6 o ds)(B:NO CX X E)
  (G:PA X (e :: es) t) (J:(x==("__debug__" : Str))=false:=by decide) (L:AO (e :: es) X.env=(false,Bt e X.env) :: AO es X.env:=by rfl) (N:(Cp pos (AO es X.env)).any (·.1)=false:=by rfl) :
  PE X (.Call (.Name x p) (e :: es) [] pos) (qp C sp o E t):=by
 intro O s P H Q I h;refine DR (N1 I l m ?_ J);refine W5 (h₀:=X.base) I.ok.mod.kin M.kp (thn (G pos O s P H _ I h) λR S ⟨T,U,g,r,q⟩=>⟨g.kIn,?_⟩) L N;exact cr M F j hb hd B g r q
end
structure CL(N P:List Str)(sc:Ru):Prop where
 kind:sc.kind=.function
 co:sc.isCoroutine=false
 gen:sc.isGenerator=false
 nd:N.Nodup
 pre:N.take P.length=P
 par:∀x∈P,sc.names.lookup x=some .local∨sc.names.lookup x=some .cell
 nofree:∀y∈sc.names,y.2≠.free
theorem Sz{kindOf}{x}:∀{binds:List (Str×AH)} {m:Str->Option AH},(∀v,(x,v)∉binds)->bM kindOf binds m x=m x
 | [],_,_=>rfl
 | (n,v) :: r,m,h=>by
  unfold bM;rw[Sz λw hw=>h w (AT _ hw)];split
  ·have:x≠n:=by rintro rfl;exact h v Ao
   simp[this]
  ·rfl
theorem S7{kindOf}{x}:∀{binds:List (Str×AH)} {m:Str->Option AH},(∀v,(x,v)∉binds)->bN kindOf binds m x=m x
 | [],_,_=>rfl
 | (n,v) :: r,m,h=>by
  unfold bN;rw[S7 λw hw=>h w (AT _ hw)];split
  ·rfl
  ·have:x≠n:=by rintro rfl;exact h v Ao
   simp[this]
theorem S6{kindOf}{x}{v}:∀{P:List Str} {g:List AH} {i:Nat} {m:Str->Option AH},P.Nodup->P[i]?=some x->g[i]?=some v->kindOf x=some .local ->
  bM kindOf (P.zip g) m x=some v
 | [],_,_,_,_,h,_,_=>by simp at h
 | _ :: _,[],_,_,_,_,h,_=>by simp at h
 | p :: P,w :: g,0,m,nd,j,l,o=>by
  simp at j l;subst j;subst l;show bM kindOf ((p,w) :: P.zip g) m p=_;unfold bM;rw[Sz λv s=>(Ct.mp nd).1 (Rg s).1,qX o];simp
 | p :: P,w :: g,i+1,m,nd,j,l,o=>by
  show bM kindOf ((p,w) :: P.zip g) m x=_;unfold bM;exact S6 (i:=i) (Ct.mp nd).2 (by simpa using j) (by simpa using l) o
theorem S8{kindOf}{x}{v}:∀{P:List Str} {g:List AH} {i:Nat} {m:Str->Option AH},P.Nodup->P[i]?=some x->g[i]?=some v->kindOf x≠some .local ->
  bN kindOf (P.zip g) m x=some v
 | [],_,_,_,_,h,_,_=>by simp at h
 | _ :: _,[],_,_,_,_,h,_=>by simp at h
 | p :: P,w :: g,0,m,nd,j,l,o=>by
  simp at j l;subst j;subst l;show bN kindOf ((p,w) :: P.zip g) m p=_;unfold bN;rw[S7 λv s=>(Ct.mp nd).1 (Rg s).1,qY o];simp
 | p :: P,w :: g,i+1,m,nd,j,l,o=>by
  show bN kindOf ((p,w) :: P.zip g) m x=_;unfold bN;exact S8 (i:=i) (Ct.mp nd).2 (by simpa using j) (by simpa using l) o
def start(N:List Str)(g:List V):St:=g.map some++Bd (N.length - g.length) none
def Ue(CX:CXT)(P:Bb)(w:By)(K:AG)(mg:Str->Option AH)(base:CS)(N:List Str)(g:Str)(scope:Ru)(f:AV)(cd:AH)(A:Bn)(outer:List Env)(s:AL)(H:Hp)(E:XK):Cx where
 prog:=P
 w:=w
 K:=K
 mg:=mg
 base:=base
 A:=A.deeper (M1 g scope s.heap.objs.size f cd)
 N:=N
 s₀:=s
 H₀:=H
 env:=M1 g scope s.heap.objs.size f cd
 outer:=outer
 stack:=M1 g scope s.heap.objs.size f cd :: outer
 ex:=[]
 calm:=true
 fn:=λ_=>true
 pn:=[]
 xe:=λe l=>Af (Am P w) (A.deeper (M1 g scope s.heap.objs.size f cd)) (leaving (M1 g scope s.heap.objs.size f cd) e) (λ_ j=>CX outer H s E e j) (λm j=>CX outer H s E m j) l
theorem WT{g:Ru}{n:Nat}{x:Str}(h:g.names.lookup x=some .cell):∃c,(CA n g.names []).lookup x=some c:=by
 have q:=TK g.names n [] (.inl h);exact SX.mp q
theorem aa{CX:CXT}{P:Bb}{w:By}{K:AG}{L:Str->Option AH}{base:CS}{N ps:List Str}{j:Str}{scope:Ru}{f:AV}{cd:AH}{A:Bn}{g:List Env}{s s1:AL}{H:Hp}{E:XK}{O:List AH}{o:List V}
  (S:CL N ps scope) (hd:A.handled=none) (m:YD P w K L base A g s H) (Y:o.length=ps.length) (r:B6 o O)
  (x:InCallC s s.heap.objs.size (bM (M1 j scope s.heap.objs.size f cd).kindOf (ps.zip O) λ_=>none) (CA (s.heap.objs.size+1) scope.names []) (bN (M1 j scope s.heap.objs.size f cd).kindOf (ps.zip O) λ_=>none) s1) :
  Inv (Ue CX P w K L base N j scope f cd A g s H E) [] (start N o) H s1:=by
 have Z:ps.length<=N.length:=by have:=congrArg EB S.pre;rw[Bk]at this;lia
 obtain⟨I,tk,rfl,R⟩:=x.done
 have Q:∀b:AV,b∉(Ue CX P w K L base N j scope f cd A g s H E).ex:=λb z=>zX (show b∈([]:List AV)from z) (by simp)
 refine⟨⟨m.mod,S.kind,rfl,rfl,AN _,λy z c I l=>?_,λy B=>?_,λy c _ h=>?_,λ_=>hd,Bn.frames_deeper m.frames,.inr ⟨rfl,rfl⟩,λb z=>zX z (Q b),m.bs,m.bsz,λb _ _=>Q b,λb z=>zX z (Q b),m.funs,m.frf⟩,
  rfl,m.bare,Un.kept R,⟨_,x.toInCall.ns,λi y v I l h3=>?_⟩,λy c h=>⟨_,x.cell y c h⟩,m.hok.fresh (AN _),λy c h=>?_,λp C=>zX (show p∈([]:List (AV×Obj))from C) (by simp),m.hok.kept R,?_⟩
 ·exact name_of_addr x.apart (Dc I) (Dc l)
 ·have B:scope.names.lookup y=some .cell∨scope.names.lookup y=some .free:=B
  rcases B with B | B
  ·exact WT B
  ·exact zX rfl (S.nofree _ (Dc B))
 ·exact LY (x.above y c (Dc h))
 ·have J:i < o.length:=by
   unfold start at l
   by_cases J:i < o.length
   ·exact J
   ·rw[A4 (by simpa using J)]at l
    rw[Da]at l
    split at l <;> cases l
  have U:o[i]?=some v:=by
   unfold start at l;rw[Aa (by simpa using J),Ah]at l
   cases e:o[i]? with
   | none=>rw[e]at l;cases l
   | some a=>rw[e]at l;cases l;rfl
  obtain⟨u,T,X⟩:=r.get U
  have C:ps[i]?=some y:=by
   rw[<-S.pre,GD (by lia)];exact I
  have G:ps.Nodup:=by rw[<-S.pre];exact S.nd.sublist (Gy _ _)
  refine⟨u,X,?_⟩
  rcases S.par y (An C)with k | k
  ·exact .inl ⟨k,S6 G C T k⟩
  ·obtain⟨c,e⟩:=WT (n:=s.heap.objs.size+1) k
   refine .inr ⟨.inl k,c,e,?_⟩;have q:=x.cell y c e;rw[S8 G C T (by show scope.names.lookup y≠_;rw[k];decide)]at q;exact q
 ·exact m.hok.fresh (LY (x.above y c (Dc h)))
 ·unfold start
  show _=N.length;rw[AK,AF,MM]
  lia
theorem sT{CX}{P}{w}{K}{R}{base}{k}{f}{name j}{params}{body}{scope}{Y kV L Z C ct oc}{an od}
  {vE} {N ps} {sp} (lk:K.lookup f=some ⟨oc,od,.func (IC name j params body scope Y kV L Z an C ct),vE⟩) (uT:QI K C j=true) (S:CL N ps scope)
  (len:∀l H Q E,sp l H Q E->l.length=ps.length)
  (uN:∀(A:Bn) (g:List Env) (s:AL) (H:Hp) (l:List V) (Q:VK) (E:XK),Hx k (A.deeper (M1 j scope s.heap.objs.size f C))->sp l H Q E ->
   ∃t,PSs (Ue CX P w K R base N j scope f C A g s H E) body t/\t { nx:=λ_ B=>Q .non B,rt:=Q } (start N l) H) :
  EO P w K R base CX (k+1) f (IC name j params body scope Y kV L Z an C ct) ps sp:=by
 refine⟨len,λA g s H args us l Q E T O hb r ye=>?_⟩;have hl:=len _ _ _ _ ye
 have KX:K.In s.heap:=O.mod.kin.keeps λb o e=>(O.bs b o e).1
 have U:s.heap.NoLimit:=O.mod.nolimit.keeps λb o e=>(O.bs b o e).1
 have yA:∀y∈ps.zip us,scope.names.lookup y.1=some .local∨(scope.names.lookup y.1=some .cell/\((CA (s.heap.objs.size+1) scope.names []).lookup y.1).isSome=true):=by
  rintro ⟨n,v⟩ hy
  rcases S.par n (Rg hy).1 with q | q
  ·exact .inl q
  ·exact .inr ⟨q,TK _ _ _ (.inl q)⟩
 refine codeAny_call_function T.depth (KX _ _ lk) rfl S.co S.gen rfl (PySem.W.codeRec_of KX uT) (hb _ _ _ _ ?_)
 refine wpAny_newFunctionEnv_cells S.kind yA λenv he s1 x=>?_
 subst he;refine⟨U.keeps x.toInCall.keep,codeAny_func ?_⟩;obtain⟨t,ht,hq⟩:=uN A g s H l Q E (T.deeper _) ye;have I:Inv (Ue CX P w K R base N j scope f C A g s H E) [] (start N l) H s1:=aa S T.hd O hl r x
 refine Eu (ht [] s1 (start N l) H _ I hq) (λfl s' G=>?_) λe s' G=>G
 have fin:∀{m:St} {B:Hp} {v:V} {u:AH},Inv (Ue CX P w K R base N j scope f C A g s H E) [] m B s'->RelV v u->Q v B->CE g P w H s Q u s':=
  λ{m B v u} J X q=>⟨v,B,J.os,J.bare,J.base,J.hok,X,q⟩
 cases fl with
 | ret u=>
  obtain⟨v,m,B,J,X,q⟩:=G;exact fin J X q
 | next=>
  obtain⟨m,B,J,q⟩:=G;exact fin (v:=V.non) (u:=Be) J rfl q
 | brk=>
  obtain⟨_,_,_,q⟩:=G;exact EE q
 | cont=>
  obtain⟨_,_,_,q⟩:=G;exact EE q
section
variable{X:Cx}{x:Str}{p pos:Pos}{e:Expr}{es:List Expr}{t:TA}{id T:String}{r:List V->Hp->VK->Prop}
def tCB(r:List V->Hp->VK->Prop)(t:TA):TE:=λg H Q=>t g H λj l=>r j l Q
theorem Lq(l:Iu X (.builtin id) r)(m:Gl X x)(o:X.mg x=none)(A:Ev x=some (.builtin id))(B:PA X (e :: es) t)(C:x≠"__name__":=by decide) (E:(x==("__debug__" : Str))=false:=by decide)
  (G:AO (e :: es) X.env=(false,Bt e X.env) :: AO es X.env:=by rfl) (J:(Cp pos (AO es X.env)).any (·.1)=false:=by rfl):PE X (.Call (.Name x p) (e :: es) [] pos) (tCB r t):=by
 intro g s j H Q I h;refine DR (Jg I m o A ?_ C E);exact Mr (thn (B pos g s j H _ I h) λL N ⟨O,P,R,S,U⟩=>l g N j P O L Q R S U) G J
theorem Sk(l:Iu X (.type T) r)(m:Gl X x)(o:X.mg x=none)(A:Ev x=some (.type T))(B:PA X (e :: es) t)(C:x≠"__name__":=by decide) (E:(x==("__debug__" : Str))=false:=by decide)
  (G:AO (e :: es) X.env=(false,Bt e X.env) :: AO es X.env:=by rfl) (J:(Cp pos (AO es X.env)).any (·.1)=false:=by rfl):PE X (.Call (.Name x p) (e :: es) [] pos) (tCB r t):=by
 intro g s j H Q I h;refine DR (Jg I m o A ?_ C E);exact B7 (thn (B pos g s j H _ I h) λL N ⟨O,P,R,S,U⟩=>l g N j P O L Q R S U) G J
end
end L2
namespace HT
section
variable{prog:Bb}{w:By}{A:Bn}{E:AH->AL->Prop}{s:AL}
theorem kR(O:qH s.heap t l.toArray)(hb:qH s.heap b g.toArray)(G:l≠[])
  (P:g=[]->Q (.ref t) s) (R:g≠[]->Q (.ref s.heap.objs.size) { s with heap:=s.heap.push { cls:=.type "tuple",data:=.seq (l++g).toArray } })
  (hsz:l.length+g.length<=sizeLine):Af (Am prog w) A (Du .Add (.ref t) (.ref b)) Q E s:=by
 obtain⟨⟨cls,H,data,sl⟩,C,I,n,hd⟩:=id O;obtain⟨⟨J,m,data2,o⟩,j,L,N,B⟩:=id hb;simp only at I hd L B;subst I hd L B
 have e:l.toArray++g.toArray=(l++g).toArray:=by simp
 by_cases hw:g=[]
 ·exact bb ⟨_,C,rfl⟩ ⟨_,j,rfl⟩ TH Ze KM Jv (JT _ _)
   (tuple_addW1 t b l.toArray g.toArray n N H m sl o (by simpa using G) (by simp[hw])) ⟨C,j,P hw⟩
 ·refine bb ⟨_,C,rfl⟩ ⟨_,j,rfl⟩ TH Ze KM Jv (JT _ _)
   (tuple_addW2 t b l.toArray g.toArray n N H m sl o (by simpa using G) (by simpa using hw) (by rw[AQ,AQ];exact hsz)) ⟨C,j,?_⟩
  rw[e];exact R hw
noncomputable def sIx(n d:Nat):Option Int->Nat
 | none=>d
 | some v=>if v < 0 then(v+(n:Int)).toNat else min v.toNat n
theorem Vm(n d:Nat):sIx n d none=d:=rfl
theorem P2(n d k:Nat):sIx n d (some (k:Int))=min k n:=by
 show(if (k:Int) < 0 then((k:Int)+(n:Int)).toNat else min (k:Int).toNat n)=min k n;rw[qY (by lia),Ak]
theorem nO(n d:Nat)(hd:d<=n)(o:Option Int):sIx n d o<=n:=by
 cases o with
 | none=>exact hd
 | some v=>
  show(if v < 0 then(v+(n:Int)).toNat else min v.toNat n)<=n
  by_cases g:v < 0
  ·rw[qX g];lia
  ·rw[qY g];exact QN _ _
theorem ZX(v:Int)(n d:Nat):(if v < 0 then max (v+(n:Int)) 0 else min v (n:Int))=((sIx n d (some v):Nat):Int):=by
 show(if v < 0 then max (v+(n:Int)) 0 else min v (n:Int))=(((if v < 0 then(v+(n:Int)).toNat else min v.toNat n):Nat):Int)
 by_cases g:v < 0
 ·simp only[qX g];lia
 ·simp only[qY g];lia
theorem X8(lo hi:Option Int)(n:Nat):Hq lo hi 1 (n:Int)=(((sIx n 0 lo:Nat):Int),((sIx n n hi:Nat):Int)):=by
 have g:¬((1:Int) < 0):=by lia
 unfold Hq;simp only[g,if_false];refine K7 ?_ ?_
 ·cases lo with
  | none=>rfl
  | some v=>exact ZX v n 0
 ·cases hi with
  | none=>rfl
  | some v=>exact ZX v n n
theorem Xf(i j:Nat):El (i:Int) (j:Int) 1=j - i:=by
 unfold El
 have g:(1:Int) > 0:=by lia
 simp only[g,if_true,Int.ediv_one]
 split <;> lia
theorem Qh(p:TR v o)(h:Q o s):Af (Am prog w) A (qf v) Q E s:=by
 cases p with
 | none=>exact slicePart_none h
 | int i t=>exact slicePart_int h
theorem Oj{sl:AV}{g j:AH}{lo hi:Option Int}{n:Nat}{Q:Int×Int×Nat->AL->Prop}(o:s.heap.IsSliceOf sl g j .none)(B:TR g lo)(C:TR j hi)
  (h:Q (((sIx n 0 lo:Nat):Int),1,sIx n n hi - sIx n 0 lo) s):Af (Am prog w) A (NZ (.ref sl) (pure (n:Int))) Q E s:=by
 obtain⟨os,l,G,m⟩:=id o;unfold NZ qg;refine AA (AA (B9 l m (x:=g) rfl (AA (B9 l m (x:=j) rfl (AA (B9 l m (x:=.none) rfl (AI ?_)))))));refine AA (slicePart_none ?_);show Af _ _ (if ((1:Int)==0)=true then _ else _) _ _ s;rw[qY (by decide)];refine AA (Qh B (AA (Qh C (AA (AI ?_)))));show Af _ _ (match Hq lo hi 1 (n:Int)with | (lo,hi)=>pure (lo,(1:Int),El lo hi 1)) _ _ s;rw[X8 lo hi n];show Af _ _ (pure (((sIx n 0 lo:Nat):Int),(1:Int),El ((sIx n 0 lo:Nat):Int) ((sIx n n hi:Nat):Int) 1)) _ _ s;rw[Xf];exact AI h
theorem dX(xs:Array AH)(i k:Nat):((BM k).filterMap λ(m:Nat)=>xs[((i:Int)+(m:Int) * 1).toNat]?).toArray=((xs.toList.drop i).take k).toArray:=by
 have e:(λ(m:Nat)=>xs[((i:Int)+(m:Int) * 1).toNat]?)=λm=>xs[i+m]?:=by
  funext m
  have:((i:Int)+(m:Int) * 1).toNat=i+m:=by lia
  rw[this]
 rw[e];have:=pick_run xs i k;rw[List.filterMap_map]at this
 have g:((λx=>xs[x]?)∘λx=>i+x)=λm=>xs[i+m]?:=rfl
 rw[g]at this;rw[this]
theorem OB{t sl}{g}{B C}{lo hi}{Q}(j:qH s.heap t g)(G:s.heap.IsSliceOf sl B C .none)(H:TR B lo)(I:TR C hi)
  (hw:¬(sIx g.size 0 lo=0/\sIx g.size g.size hi=g.size))
  (h:Q (.ref s.heap.objs.size) { s with heap:=s.heap.push { cls:=.type "tuple",data:=.seq ((g.toList.drop (sIx g.size 0 lo)).take (sIx g.size g.size hi - sIx g.size 0 lo)).toArray } })
  (hsz:g.size<=sizeLine):Af (Am prog w) A (O8 (.ref t) (.ref sl)) Q E s:=by
 have l:sizeOk (.seq ((g.toList.drop (sIx g.size 0 lo)).take (sIx g.size g.size hi - sIx g.size 0 lo)).toArray):=by
  show((g.toList.drop (sIx g.size 0 lo)).take (sIx g.size g.size hi - sIx g.size 0 lo)).toArray.size<=sizeLine;rw[AQ,Bk,CD,B1];omega
 have O:sIx g.size g.size hi<=g.size:=nO _ _ (AN _) hi;obtain⟨os,J,L,P⟩:=id G;have o:s.TypeIs (.ref sl) "slice":=⟨os,J,L⟩;unfold O8
 try with_reducible refine Cz ?_
 first | refine AA (AI ?_) | skip
 refine AA (wpAny_sequenceKey j.typeIs (by decide) ?_)
 refine AA (Cc (name:=Ff "__getitem__") j.typeIs GC
  (Cm GC j.typeIs entry_tuple_getitem ?_ (args_tuple_getitem _ _)))
 show Af _ _ (qe (.ref t) >>= _) _ _ s;refine AA (tupleItemsOf_ j ?_);refine AA (Rj o ?_);rw[qX (by decide)];refine AA (Oj G H I ?_)
 have N:¬((((sIx g.size 0 lo:Nat):Int)==0&&(1:Int)==1&&(sIx g.size g.size hi - sIx g.size 0 lo)==g.size)=true):=by
  intro q;rw[CF,CF]at q;have R:((sIx g.size 0 lo:Nat):Int)=0:=eq_of_beq q.1.1;have S:sIx g.size g.size hi - sIx g.size 0 lo=g.size:=eq_of_beq q.2;exact hw ⟨by lia,by omega⟩
 show Af _ _ (if (((sIx g.size 0 lo:Nat):Int)==0&&(1:Int)==1&&(sIx g.size g.size hi - sIx g.size 0 lo)==g.size)=true then _ else _) _ _ s;rw[qY N,dX]
 first
  | exact AA (m:=Ez _) (CU (AI ⟨_,rfl,AI h⟩) l)
  | exact AA (m:=Ez _) (CU (AA (AI (AI ⟨_,rfl,AI h⟩))) l)
  | exact AA (AA (m:=Ez _) (CU (AI (AI ⟨_,rfl,AI h⟩)) l))
  | exact AA (AA (m:=Ez _) (CU (AI ⟨_,rfl,AI h⟩) l))
end
end HT
namespace L2
section
abbrev TO:=St->Hp->(Option Int->Hp->Prop)->Prop
def PO(X:Cx)(e:Option Expr)(t:TO):Prop:=
 ∀(j:List (AV×Obj)) (s:AL) (g:St) (H:Hp) (Q:Option Int->Hp->Prop),Inv X j g H s->t g H Q ->
  Af (Am X.prog X.w) X.A (evalPart e X.env) (λu m=>∃o l,Inv X j g l m/\TR u o/\Q o l) X.xe s
def ig:TO:=λ_ H Q=>Q none H
def qm(t:TE):TO:=λg H Q=>t g H λx j=>∃i,x=.int i/\Q (some i) j
theorem intsAre_of:∀{g:List AH},B6 (ns.map V.int) g->IntsAre g ns:=by
 induction ns with
 | nil=>intro g r;rw[LR]at r;cases r;exact .nil
 | cons n ns j=>
  intro g r;rw[BB]at r
  cases r with
  | cons l m=>
   obtain⟨t,e⟩:=l;subst e;exact .cons n t (j m)
section
variable{κ:Type}[DecidableEq κ]
def KR(g:List (κ×V))(k:κ):Option V:=(g.find? λj=>decide (j.1=k)).map (·.2)
noncomputable def Ga(j:List (κ×V))(k:κ)(v:V):List (κ×V):=
 if (j.any λg=>decide (g.1=k))=true then j.map (λg=>if g.1=k then(g.1,v)else g)else j++[(k,v)]
theorem Qa{p:κ×V}{r:List (κ×V)}{k:κ}(e:p.1=k):KR (p :: r) k=some p.2:=by simp[KR,Bo,e]
theorem Qb{p:κ×V}{r:List (κ×V)}{k:κ}(e:¬p.1=k):KR (p :: r) k=KR r k:=by simp[KR,Bo,e]
theorem VZ(k:κ):∀g:List (κ×V),(g.any λj=>decide (j.1=k))=(KR g k).isSome
 | []=>rfl
 | p :: r=>by
  rw[Hn]
  by_cases e:p.1=k
  ·simp only[Qa e,wX e,Bool.true_or,YL]
  ·rw[Qb e,wY e,lw];exact VZ k r
theorem JN(g:List (κ×V))(k:κ)(v:V):(Ga g k v).length<=g.length+1:=by
 unfold Ga;split
 ·rw[AF];lia
 ·rw[AK,A0,GU];lia
theorem NN.isSome_eq(r:NN o u):o.isSome=u.isSome:=by
 cases o with
 | none=>cases u with
  | none=>rfl
  | some _=>exact(show False from r).elim
 | some _=>cases u with
  | none=>exact(show False from r).elim
  | some _=>rfl
theorem NN.getD(r:NN o u)(g:RelV d d'):RelV (o.getD d) (u.getD d'):=by
 cases o with
 | none=>cases u with
  | none=>exact g
  | some _=>exact(show False from r).elim
 | some _=>cases u with
  | none=>exact(show False from r).elim
  | some _=>exact r
theorem KV.val{l:List (κ×V)}{m:List (κ×AH)}(r:KV l m)(k:κ):NN (KR l k) (Rq m k):=by
 unfold KV at r
 induction r with
 | nil=>exact Db
 | @cons p q B g h t s=>
  obtain⟨o,A⟩:=h
  by_cases e:p.1=k
  ·have j:q.1=k:=o.symm.trans e
   have b:Rq (q :: g) k=some q.2:=by simp[Rq,Bo,j]
   rw[Qa e,b];exact A
  ·have j:¬q.1=k:=λz=>e (o.trans z)
   have b:Rq (q :: g) k=Rq g k:=by simp[Rq,Bo,j]
   rw[Qb e,b];exact s
theorem KV.any(r:KV j l)(k:κ):(j.any λg=>decide (g.1=k))=l.any λg=>decide (g.1=k):=by
 unfold KV at r
 induction r with
 | nil=>rfl
 | cons h t m=>rw[Hn,Hn,m,h.1]
theorem KV.repl(r:KV l m)(k:κ)(o:RelV y u) :
  KV (l.map λg=>if g.1=k then(g.1,y)else g) (m.map λg=>if g.1=k then(g.1,u)else g):=by
 unfold KV at r ⊢
 induction r with
 | nil=>exact .nil
 | @cons p q B C h t s=>
  rw[BB,BB];refine .cons ?_ s;obtain⟨j,A⟩:=h
  by_cases e:p.1=k
  ·rw[qX e,qX (j.symm.trans e)];exact⟨j,o⟩
  ·rw[qY e,qY (λz=>e (j.trans z))];exact⟨j,A⟩
theorem KV.put(r:KV l g)(k:κ)(j:RelV y u):KV (Ga l k y) (lX g k u):=by
 unfold Ga lX;rw[r.any k]
 by_cases e:(g.any λm=>decide (m.1=k))=true
 ·rw[qX e,qX e];exact r.repl k j
 ·rw[qY e,qY e];exact Wg r ⟨rfl,j⟩
theorem KV.length(r:KV g j):g.length=j.length:=EA r
end
theorem PX(r:RelV (kV k) u):(DN P w).is k u=true:=by
 cases k with
 | inl i=>obtain⟨t,e⟩:=(show ∃t,u=Pc i t from r);subst e;exact V5 P w i t
 | inr x=>obtain⟨t,e⟩:=(show ∃t,u=Pb x t from r);subst e;exact V4 P w x t
theorem Su:∀{ks:List Key} {g:List AH},B6 (ks.map kV) g->ItemsAre (DN P w) ks g
 | [],_,r=>by rw[LR]at r;cases r;exact .nil
 | k :: ks,_,r=>by
  rw[BB]at r
  cases r with
  | cons h t=>exact .cons (PX h) (Su t)
abbrev KT(H:Hp):List (List Key×V)->List (List Key×AV×AH)->Prop:=G2 λp q=>p.1=q.1/\H q.2.1=some (.tup (p.1.map kV))/\RelV p.2 q.2.2
theorem KT.val{H:Hp}{l:List (List Key×V)}{xs:List (List Key×AV×AH)}(r:KT H l xs)(k:List Key):NN (KR l k) ((W1 xs k).map (·.2)):=by
 induction r with
 | nil=>exact Db
 | @cons p q A g h t o=>
  obtain⟨m,_,s⟩:=h
  by_cases e:p.1=k
  ·have j:q.1=k:=m.symm.trans e
   have b:W1 (q :: g) k=some q.2:=by simp[W1,Bo,j]
   rw[Qa e,b];exact s
  ·have j:¬q.1=k:=λz=>e (m.trans z)
   have b:W1 (q :: g) k=W1 g k:=by simp[W1,Bo,j]
   rw[Qb e,b];exact o
theorem KT.repl(r:KT H m xs)(k:List Key)(o:RelV y u) :
  KT H (m.map λj=>if j.1=k then(j.1,y)else j) (xs.map (putAt k u)):=by
 induction r with
 | nil=>exact .nil
 | @cons p q B C h t s=>
  rw[BB,BB];refine .cons ?_ s;obtain⟨g,l,A⟩:=h;unfold putAt
  by_cases e:p.1=k
  ·rw[qX e,qX (g.symm.trans e)];exact⟨g,l,o⟩
  ·rw[qY e,qY (λz=>e (g.trans z))];exact⟨g,l,A⟩
theorem KT.put(r:KT H g xs)(k:List Key)(hb:H b=some (.tup (k.map kV)))(j:RelV y u) :
  KT H (Ga g k y) (storedH xs k b u):=by
 have e:(g.any λl=>decide (l.1=k))=(W1 xs k).isSome:=by
  rw[VZ,(r.val k).isSome_eq,JU]
 unfold Ga storedH;rw[e]
 by_cases q:(W1 xs k).isSome=true
 ·rw[qX q,qX q];exact r.repl k j
 ·rw[qY q,qY q];exact Wg r ⟨rfl,hb,j⟩
theorem KT.keeps(r:KT H g xs)(j:∀b ys,H b=some (.tup ys)->l b=some (.tup ys)):KT l g xs:=
 G2.mapP r λ_ _ z=>⟨z.1,j _ _ z.2.1,z.2.2⟩
variable{X:Cx}{e:Expr}{lo hi:Option Expr}{pos p2:Pos}
theorem jN:PO X none ig:=by
 intro g s j H Q I h;rw[evalPart_none];exact AI ⟨none,H,I,.none,h⟩
theorem jM(h:PE X e te):PO X (some e) (qm te):=by
 intro g s j H Q I hw;rw[evalPart_some]
 refine thn (h g s j H _ I hw) λu B ⟨x,l,m,o,A⟩=>?_
 obtain⟨i,rfl,q⟩:=A;obtain⟨t,rfl⟩:=o;exact⟨some i,l,m,.int i t,q⟩
def SlR(X:Cx)(r:V->Option Int->Option Int->Hp->VK->Prop):Prop:=
 ∀(g:List (AV×Obj)) (s:AL) (j:St) (H:Hp) (x:V) (v l m:AH) (lo hi:Option Int) (sl:AV) (Q:VK),Inv X g j H s->RelV x v->s.heap.IsSliceOf sl l m .none->TR l lo->TR m hi->r x lo hi H Q ->
  ∃T id,Wu (.type T) "__getitem__" = pure (some (.builtin id))/\s.TypeIs v T/\Af (Am X.prog X.w) X.A (O8 v (.ref sl)) (EP X g j Q) X.xe s
theorem SlR.or(h:SlR X r)(h':SlR X E):SlR X (λx lo hi H Q=>r x lo hi H Q∨E x lo hi H Q):=by
 intro g s j H x v l m lo hi sl Q I o A B C q
 rcases q with q | q
 ·exact h g s j H x v l m lo hi sl Q I o A B C q
 ·exact h' g s j H x v l m lo hi sl Q I o A B C q
def tSl(r:V->Option Int->Option Int->Hp->VK->Prop)(te:TE)(j m:TO):TE:=λg H Q=>te g H λx o=>j g o λl s=>m g s λu A=>r x l u A Q
theorem db(E:SlR X r)(G:PE X e te)(J:PO X lo L)(N:PO X hi O):PE X (.Subscript e (.Slice lo hi none p2) pos) (tSl r te L O):=by
 intro j s m H Q I h;refine lg (thn (G j s m H _ I h) λv P ⟨x,R,S,U,Y⟩=>?_);refine wpAny_Slice (thn (J j P m R _ S Y) λo Z ⟨l,H2,I2,pl,q2⟩=>thn (N j Z m H2 _ I2 q2) λB g ⟨u,C,I3,pu,q3⟩=>?_);rw[evalPart_none];refine AI ?_
 have I4:Inv X j m C { g with heap:=g.heap.push { cls:=.type "slice",data:=.fields #[o,B,.none] } }:=I3.kept (t':=g.toks) λb ob q=>AJ _ q
 obtain⟨T,id,hT,ht,hg⟩:=E j { g with heap:=g.heap.push { cls:=.type "slice",data:=.fields #[o,B,.none] } } m C x v o B l u g.heap.objs.size Q I4 U (qI ..) pl pu q3;show Af (Am X.prog X.w) X.A (Zd e (.Slice lo hi none p2) v (.ref g.heap.objs.size)) (EP X j m Q) X.xe { g with heap:=g.heap.push { cls:=.type "slice",data:=.fields #[o,B,.none] } };exact tail_any (ops:=[.ref g.heap.objs.size,v]) ht hT hg (by with_unfolding_all rfl)
def RO(xs:List V)(lo hi:Option Int):List V:=(xs.drop (HT.sIx xs.length 0 lo)).take (HT.sIx xs.length xs.length hi - HT.sIx xs.length 0 lo)
theorem Pa(xs:List V)(lo hi:Option Int):(RO xs lo hi).length<=xs.length:=by
 unfold RO;rw[Bk,CD]
 lia
def rSlT(K:AG):V->Option Int->Option Int->Hp->VK->Prop:=λx lo hi H Q=>∃a g,x=.ref a/\SqT K H a g /\
 ¬(HT.sIx g.length 0 lo=0/\HT.sIx g.length g.length hi=g.length)/\∀p,H p=none->Q (.ref p) (upd H p (.tup (RO g lo hi)))
theorem nJ:SlR X (rSlT X.K):=by
 intro L s N H x v O P lo hi sl Q I A B C E h;obtain⟨a,j,rfl,G,hw,q⟩:=h;cases A;obtain⟨J,r,l,m⟩:=I.tuple G
 have g:J.toArray.size=j.length:=by rw[AQ];exact r.length.symm
 refine⟨"tuple",_,GC.lookup,l.typeIs,?_⟩;refine HT.OB l B C E (by rw[g];exact hw) ?_ (by rw[g];exact m);rw[g];refine⟨.ref s.heap.objs.size,_,I.laid (t':=s.toks) (o:=.tup (RO j lo hi)) (λb R q=>AJ _ q) (AN _) ?_,rfl,q _ (I.hok.fresh (AN _))⟩;exact⟨⟨Av (Pa j lo hi) m,⟨_,Ag _ rfl,rfl⟩⟩,_,(r.drop (HT.sIx j.length 0 lo)).take (HT.sIx j.length j.length hi - HT.sIx j.length 0 lo),bo _ _⟩
def rE(K:AG):R2:=λx y H Q=>∃a b j g,x=.ref a/\y=.ref b/\SqT K H a j/\SqT K H b g/\j≠[]/\j.length+g.length<=sizeLine /\
 (g=[]->Q (.ref a) H)/\(g≠[]->∀p,H p=none->Q (.ref p) (upd H p (.tup (j++g))))
theorem B6.nil_iff(r:B6 xs g):g=[]↔xs=[]:=by
 cases r with
 | nil=>simp
 | cons _ _=>simp
theorem jc:OpR X (Du .Add) (rE X.K):=by
 intro O s P H x y v u Q I m A h;obtain⟨a,b,B,C,rfl,rfl,E,hb,G,l,J,L⟩:=h;cases m;cases A;obtain⟨R,j,N,_⟩:=I.tuple E;obtain⟨S,g,p2,_⟩:=I.tuple hb;refine HT.kR N p2 (λz=>G (j.nil_iff.mp z)) (λz=>⟨.ref a,H,I,rfl,J (g.nil_iff.mp z)⟩) (λz=>?_) (by rw[<-j.length,<-g.length];exact l);refine⟨.ref s.heap.objs.size,_,I.laid (t':=s.toks) (o:=.tup (B++C)) (λb T q=>AJ _ q) (AN _) ?_,rfl,L (λw=>z (g.nil_iff.mpr w)) _ (I.hok.fresh (AN _))⟩;exact⟨⟨by rw[AK];exact l,⟨_,Ag _ rfl,rfl⟩⟩,_,j.append g,bo _ _⟩
end
section
def ixN(n:Nat)(i:Int):Option Nat:=if 0<=i then(if i < n then some i.toNat else none)else if -(n:Int)<=i then some (i+n).toNat else none
def atI{α:Type}(xs:List α)(i:Int):Option α:=(ixN xs.length i).bind λj=>xs[j]?
theorem jr(h:ixN n i=some j):seqIndex? i n=some j/\j < n/\-(n:Int)<=i/\i < n:=by
 unfold ixN at h
 by_cases l:0<=i
 ·rw[qX l]at h
  by_cases g:i < n
  ·rw[qX g]at h
   have e:i.toNat=j:=Ch h;exact⟨by rw[seqIndex_of l g,e],by lia,by lia,g⟩
  ·rw[qY g]at h;cases h
 ·rw[qY l]at h
  by_cases g:-(n:Int)<=i
  ·rw[qX g]at h
   have e:(i+n).toNat=j:=Ch h;exact⟨by rw[seqIndex_neg (by lia) g,e],by lia,g,by lia⟩
  ·rw[qY g]at h;cases h
theorem Zb{g:Type}{xs:List g}{i:Int}{v:g}(h:atI xs i=some v):∃j,seqIndex? i xs.length=some j/\xs[j]?=some v/\j < xs.length/\-(xs.length:Int)<=i/\i < xs.length:=by
 unfold atI at h
 cases e:ixN xs.length i with
 | none=>rw[e]at h;cases h
 | some j=>
  rw[e]at h;obtain⟨l,m,o,s⟩:=jr e;exact⟨j,l,h,m,o,s⟩
def Ur(b:Expr):Prop:=∀o i,Ut b false o i=operate [o,i] (O8 o i)
def IxR(X:Cx)(r:R2):Prop:=
 ∀(value g:Expr) (j:List (AV×Obj)) (s:AL) (l:St) (H:Hp) (x y:V) (v u:AH) (Q:VK),Inv X j l H s->RelV x v->RelV y u->r x y H Q ->
  Ut g false v u=operate [v,u] (O8 v u)->Af (Am X.prog X.w) X.A (Zd value g v u) (EP X j l Q) X.xe s
def MtR(X:Cx)(id:String)(r:V->List V->Hp->VK->Prop):Prop:=
 ∀(g:List (AV×Obj)) (s:AL) (j:St) (H:Hp) (x:V) (l:List V) (v:AH) (m:List AH) (Q:VK),Inv X g j H s->RelV x v->B6 l m->r x l H Q ->
  Af (Am X.prog X.w) X.A (call (.builtin id) (v :: m)) (EP X g j Q) X.xe s
section
variable{P:Bb}{w:By}{H:Hp}{h:CS}{a:AV}
theorem lB(ok:HOk P w H h)(e:Rd H a u):C7 P w H h a u:=e.ok ok
theorem PZ(ok:HOk P w H h)(e:Rd H a (.dK g)):g.length<=sizeLine/\(a==Do)=false/\∃vs,KV g vs/\h.DictOf (DN P w) a vs:=
 show C7 P w H h a (.dK g)from lB ok e
theorem lP(ok:HOk P w H h)(e:H a=some (.dK g)):g.length<=sizeLine/\(a==Do)=false/\∃vs,KV g vs/\h.DictOf (DN P w) a vs:=PZ ok (.inl e)
theorem Ov(ok:HOk P w H h)(e:H a=some (.tup (ks.map kV))):(O7 (DN P w)).is h ks a:=by
 obtain⟨_,g,r,o,j,l,n,m⟩:=(show C7 P w H h a (.tup (ks.map kV))from ok a _ e);exact⟨o,g.toArray,n,j,l,m,by simpa using Su r⟩
theorem RN(ok:HOk P w H h)(e:Rd H a (.dT j)):j.length<=sizeLine/\(a==Do)=false /\
  ∃xs,KT H j xs/\h.DictOfH (O7 (DN P w)) a xs:=by
 obtain⟨z,y,xs,r,o,A,B,C,E,G,I,J⟩:=(show C7 P w H h a (.dT j)from lB ok e);refine⟨z,y,xs,r,o,A,B,C,E,G,I,λx g=>?_,J⟩
 have all:∀{l:List (List Key×V)} {m:List (List Key×AV×AH)},KT H l m->∀x∈m,(O7 (DN P w)).is h x.1 x.2.1:=by
  intro l m q
  induction q with
  | nil=>intro x g;exact nomatch g
  | @cons p q N O s t L=>
   intro x g
   rcases Aq.mp g with e | g
   ·subst e
    exact Ov ok (by rw[<-s.1];exact s.2.1)
   ·exact L x g
 exact all r x g
theorem sV(ok:HOk P w H h)(e:H a=some (.dT g)):g.length<=sizeLine/\(a==Do)=false /\
  ∃xs,KT H g xs/\h.DictOfH (O7 (DN P w)) a xs:=RN ok (.inl e)
end
def Mn(H:Hp)(a:AV)(y:V)(r:Option V):Prop:=
 (∃g k,Rd H a (.dK g)/\y=kV k/\r=KR g k)∨∃g k b,Rd H a (.dT g)/\y=.ref b/\H b=some (.tup (k.map kV))/\r=KR g k
def WZ(H:Hp)(a:AV)(y v:V)(j:Hp):Prop:=
 (∃g k,H a=some (.dK g)/\y=kV k/\g.length < sizeLine/\j=upd H a (.dK (Ga g k v))) ∨
 ∃g k b,H a=some (.dT g)/\y=.ref b/\H b=some (.tup (k.map kV))/\g.length < sizeLine/\j=upd H a (.dT (Ga g k v))
theorem Mn.k{H}{a}{g}{k}(e:H a=some (.dK g)):Mn H a (kV k) (KR g k):=.inl ⟨g,k,.inl e,rfl,rfl⟩
theorem Mn.t{H}{a b}{g}{k}(e:H a=some (.dT g))(j:H b=some (.tup (k.map kV))):Mn H a (.ref b) (KR g k):=.inr ⟨g,k,b,.inl e,rfl,j,rfl⟩
theorem WZ.k{H}{a}{g}{k}{v}(e:H a=some (.dK g))(j:g.length < sizeLine):WZ H a (kV k) v (upd H a (.dK (Ga g k v))):=.inl ⟨g,k,e,rfl,j,rfl⟩
theorem WZ.t{H}{a b}{g}{k}{v}(e:H a=some (.dT g))(j:H b=some (.tup (k.map kV)))(l:g.length < sizeLine) :
  WZ H a (.ref b) v (upd H a (.dT (Ga g k v))):=.inr ⟨g,k,b,e,rfl,j,l,rfl⟩
variable{X:Cx}{a b:Expr}{ta tb:TE}{pos:Pos}
theorem IxR.or(h:IxR X r)(h':IxR X B):IxR X (λx y H Q=>r x y H Q∨B x y H Q):=by
 intro value g j s l H x y v u Q I m o q A
 rcases q with q | q
 ·exact h value g j s l H x y v u Q I m o q A
 ·exact h' value g j s l H x y v u Q I m o q A
theorem rL(g:IxR X r)(j:PE X a ta)(hb:PE X b tb)(l:Ur b):PE X (.Subscript a b pos) (tOp r ta tb):=by
 intro m s o H Q I h;exact lg (sY j hb I h λv u A x y B C E G q=>g a b m A o B x y v u Q C E G q (l _ _))
def rIxL(K:AG):R2:=λx y H Q=>∃p g i v,x=.ref p/\y=.int i/\SqL K H p g/\atI g i=some v/\Q v H
def rIxT(K:AG):R2:=λx y H Q=>∃p g i v,x=.ref p/\y=.int i/\SqT K H p g/\atI g i=some v/\Q v H
theorem ix_list:IxR X (rIxL X.K):=by
 intro value l A s B H x y v u Q I J L h C;obtain⟨p,xs,i,z,rfl,rfl,N,O,q⟩:=h;cases J;obtain⟨t,rfl⟩:=L;obtain⟨P,r,m,hz⟩:=I.list N;obtain⟨j,g,R,h3,S,T⟩:=Zb O;obtain⟨w,E,U⟩:=r.get R;have Y:=r.length;have hn:=UL;have fin:EP X A B Q w s:=⟨z,H,I,U,q⟩
 by_cases G:0<=i
 ·have o:i.toNat=j:=by
   rw[seqIndex_of G T]at g;exact Ch g
  exact item_listR m.isList G (by lia) (by rw[o];simpa using E) fin C
 ·have o:(i+(P.toArray.size:Int)).toNat=j:=by
   rw[seqIndex_neg (by lia) S]at g;rw[AQ,<-Y];exact Ch g
  exact bX (x:=w) m.isList.typeIs p8.lookup
   (wpAny_getItem_list_neg (Q:=λr Z=>r=w/\EP X A B Q r Z) m.isList (by lia) (by rw[AQ] <;> lia) (by lia) (by rw[o];simpa using E) ⟨rfl,fin⟩) C
theorem ot:IxR X (rIxT X.K):=by
 intro value g l s m H x y v u Q I A B h C;obtain⟨p,S,i,z,rfl,rfl,E,G,q⟩:=h;cases A;obtain⟨t,rfl⟩:=B;obtain⟨T,r,o,U⟩:=I.tuple E;obtain⟨j,J,L,Y,Z,h5⟩:=Zb G;obtain⟨w,N,O⟩:=r.get L;have P:=r.length;have hn:=UL;have fin:EP X l m Q w s:=⟨z,H,I,O,q⟩
 exact bX (x:=w) o.typeIs slot_tuple_getitem.lookup
  (getItem_tuple (j:=j) (Q:=λr R=>r=w/\EP X l m Q r R) o (by lia) (by lia) (by rw[AQ,<-P];exact J) (by simpa using N) ⟨rfl,fin⟩) C
theorem Tt(lo hi:Option Int)(n:Nat):(Iw lo hi none n).1=((HT.sIx n 0 lo:Nat):Int)/\(Iw lo hi none n).2.1=((HT.sIx n n hi:Nat):Int)/\(Iw lo hi none n).2.2=1:=by
 refine⟨?_,?_,rfl⟩
 ·cases lo with
  | none=>simp[Iw,HT.sIx]
  | some i=>
   simp only[Iw,HT.sIx,PD,show(1:Int) > 0 by decide,if_true]
   by_cases h:i < 0
   ·simp only[h,if_true] <;> lia
   ·simp only[h,if_false] <;> lia
 ·cases hi with
  | none=>simp[Iw,HT.sIx]
  | some i=>
   simp only[Iw,HT.sIx,PD,show(1:Int) > 0 by decide,if_true]
   by_cases h:i < 0
   ·simp only[h,if_true] <;> lia
   ·simp only[h,if_false] <;> lia
theorem R7(g:List AH)(lo hi:Option Int):slicePick g.toArray lo hi none=((g.drop (HT.sIx g.length 0 lo)).take (HT.sIx g.length g.length hi - HT.sIx g.length 0 lo)).toArray:=by
 obtain⟨j,l,m⟩:=Tt lo hi g.toArray.size;unfold slicePick;rw[j,l,m]
 simp only[sliceRange_one,pick_run,AQ] <;> rfl
def rB(K:AG):V->Option Int->Option Int->Hp->VK->Prop:=λx lo j H Q=>∃a g,x=.ref a/\SqL K H a g/\∀p,H p=none->Q (.ref p) (upd H p (.lst (RO g lo j)))
theorem iw:SlR X (rB X.K):=by
 intro L s N H x v O P lo l sl Q I A B C E h;obtain⟨a,g,rfl,G,q⟩:=h;cases A;obtain⟨R,r,m,J⟩:=I.list G;have j:=r.length;refine⟨"list",_,p8.lookup,m.isList.typeIs,?_⟩;refine wpAny_getItem_list_slice m.isList B C E .none (by simp) ?_ (by rw[AQ] <;> lia);rw[R7,<-j];refine⟨.ref s.heap.objs.size,_,I.laid (t':=s.toks) (o:=.lst (RO g lo l)) (λb S q=>AJ _ q) (AN _) ?_,rfl,q _ (I.hok.fresh (AN _))⟩;exact⟨Av (Pa g lo l) J,_,0,(r.drop (HT.sIx g.length 0 lo)).take (HT.sIx g.length g.length l - HT.sIx g.length 0 lo),Ag _ rfl⟩
theorem Ul:Iu X (.builtin "len") (λxs H Q=>∃p ys,xs=[.ref p]/\(SqL X.K H p ys∨SqT X.K H p ys)/\Q (.int ys.length) H):=by
 intro C s E H xs G Q I r h;obtain⟨p,ys,rfl,j,q⟩:=h;obtain⟨u,rfl,o⟩:=vals1 r;cases o;have J:=UL
 rcases j with j | j
 ·obtain⟨A,l,m,B⟩:=I.list j
  have g:=l.length;exact Calls.call_len_list m.isList (by simp only[AQ] <;> lia) ⟨.int ys.length,H,I.tok _,⟨s.toks+1,by rw[AQ,g]⟩,q⟩
 ·obtain⟨A,l,m,B⟩:=I.tuple j
  have g:=l.length;exact len_tuple m (by simp only[AQ] <;> lia) ⟨.int ys.length,H,I.tok _,⟨s.toks+1,by rw[AQ,g]⟩,q⟩
theorem Uk:Iu X (.type "list") (λxs H Q=>∃p ys,xs=[.ref p]/\(SqL X.K H p ys∨SqT X.K H p ys)/\∀l,H l=none->Q (.ref l) (upd H l (.lst ys))):=by
 intro O s P H xs S Q I r h;obtain⟨p,ys,rfl,B,q⟩:=h;obtain⟨u,rfl,R⟩:=vals1 r;cases R
 have fin:∀(j:List AH),B6 ys j->ys.length<=sizeLine->∀(g:CS) (m:Nat),(∀b N,s.heap.get? b=some N->g.get? b=some N) ->
   g.get? s.heap.objs.size=some { cls:=.type "list",dict:=none,data:=.seq j.toArray m,slots:=#[] }->EP X O P Q (.ref s.heap.objs.size) { s with heap:=g }:=λj A C g m kp e=>
  ⟨.ref s.heap.objs.size,_,I.laid (t':=s.toks) kp (AN _) (show C7 X.prog X.w _ g _ (.lst ys)from⟨C,j,m,A,e⟩),rfl,q _ (I.hok.fresh (AN _))⟩
 rcases B with B | B
 ·obtain⟨j,A,G,C⟩:=I.list B
  have E:=A.length;obtain⟨o,J,L,n,hd⟩:=G.isList;exact call_list_seq p (.inl rfl) J L hd (λg m kp e=>fin j A C g m kp e) (by simp only[AQ] <;> lia)
 ·obtain⟨j,A,G,C⟩:=I.tuple B
  have E:=A.length;obtain⟨o,J,L,n,hd⟩:=G;exact call_list_seq p (.inr rfl) J L hd (λg m kp e=>fin j A C g m kp e) (by simp only[AQ] <;> lia)
theorem SO:Iu X (.type "tuple") (λxs H Q=>∃p ys,xs=[.ref p]/\((SqL X.K H p ys/\∀l,H l=none->Q (.ref l) (upd H l (.tup ys)))∨(SqT X.K H p ys/\Q (.ref p) H))):=by
 intro C s E H xs P Q I r h;obtain⟨p,ys,rfl,h⟩:=h;obtain⟨u,rfl,N⟩:=vals1 r;cases N
 rcases h with⟨j,q⟩ | ⟨j,q⟩
 ·obtain⟨m,A,B,G⟩:=I.list j
  have J:=A.length;refine call_tuple_list B.isList (λg kp=>?_) (by simp only[AQ] <;> lia);have L:Inv X C E H { s with heap:=g }:=I.kept (t':=s.toks) kp
  have O:Inv X C E (upd H g.objs.size (.tup ys)) { s with heap:=g.push { cls:=.type "tuple",data:=.seq m.toArray } }:=
   L.laid (t':=s.toks) (λb o e=>AJ _ e) (AN _) (show C7 X.prog X.w _ _ _ (.tup ys)from⟨⟨G,⟨_,Ag _ rfl,rfl⟩⟩,m,A,bo _ _⟩)
  exact⟨.ref g.objs.size,_,O,rfl,q _ (L.hok.fresh (AN _))⟩
 ·obtain⟨m,A,B,G⟩:=I.tuple j
  exact call_tuple_same B ⟨.ref p,H,I,rfl,q⟩
def tyV(K:AG)(T:String)(x:V)(H:Hp):Prop:=match x with
 | .str _=>T = "str"
 | .int _=>T = "int"
 | .ref p=>(T = "list"/\∃j,SqL K H p j)∨(T = "tuple"/\∃o,K.lookup p=some o/\o.cls=.type "tuple"/\o.dict=none) ∨
   (T = "dict"/\((∃g,H p=some (.dK g))∨∃g,H p=some (.dT g)))∨(T = "set"/\∃S n,H p=some (.set S n))
 | _=>False
theorem mZ(I:Inv X E G H s)(r:RelV x v)(ty:tyV X.K T x H) :
  s.TypeIs v T/\∀a,v=.ref a->∃l,s.heap.get? a=some l/\l.dict=none:=by
 cases x with
 | str z=>
  obtain⟨t,rfl⟩:=r;cases(show T = "str" from ty);exact⟨typeIs_str s z t,λ_ e=>nomatch e⟩
 | int i=>
  obtain⟨t,rfl⟩:=r;cases(show T = "int" from ty);exact⟨typeIs_int s i t,λ_ e=>nomatch e⟩
 | ref p=>
  cases r
  rcases ty with⟨rfl,J,A⟩ | ⟨rfl,o,g,B,hd⟩ | ⟨rfl,g⟩ | ⟨rfl,S,n,g⟩
  ·obtain⟨L,_,m,_⟩:=I.list A
   refine⟨m.isList.typeIs,λa e=>?_⟩;cases e;obtain⟨o,n,e,c,hd,_⟩:=m;exact⟨o,e,hd⟩
  ·refine⟨⟨o,I.kIn p o g,B⟩,λa e=>?_⟩
   cases e;exact⟨o,I.kIn _ o g,hd⟩
  ·have z:∃o,s.heap.get? p=some o/\o.ExactDict:=by
    rcases g with⟨C,g⟩ | ⟨C,g⟩
    ·obtain⟨_,_,_,_,o,_,_,e,ex,_⟩:=I.hok p _ g
     exact⟨o,e,ex⟩
    ·obtain⟨_,_,_,_,o,_,_,e,ex,_⟩:=I.hok p _ g
     exact⟨o,e,ex⟩
   obtain⟨o,e,ex⟩:=z;refine⟨⟨o,e,ex.1⟩,λa j=>?_⟩;cases j;exact⟨o,e,ex.2.1⟩
  ·obtain⟨o,_,_,_,e,ex,_⟩:=I.hok p _ g
   refine⟨⟨o,e,ex.1⟩,λa j=>?_⟩;cases j;exact⟨o,e,ex.2.1⟩
 | _=>exact EE ty
def tBM(K:AG)(T:String)(r:V->List V->Hp->VK->Prop)(to:TE)(t:TA):TE:=λg H Q=>to g H λx j=>tyV K T x j/\t g j λl m=>r x l m Q
variable{o e:Expr}{es:List Expr}{to:TE}{t:TA}{name:Str}{apos cpos:Pos}{T id:String}{r:V->List V->Hp->VK->Prop}
theorem Yv(C:PlainAttrs T)(g:Slot T name id)(E:typeOf (.builtin id)=pure (.type "method_descriptor")) (G:MtR X id r) (ho:PE X o to) (J:PA X (e :: es) t)
  (L:DZ o name X.env (Bt o X.env)=Bt o X.env:=by rfl)
  (N:((Cp cpos (AO (e :: es) X.env)).all (λx=>!x.1)&&(Mf cpos (HG [] X.env)).all (λx=>x.1.isSome)
    &&decide ((e :: es).length+([]:List Fe).length+(if ([]:List Fe).isEmpty then 0 else 1) < 30))=true:=by rfl)
  (O:(apos.endLine==cpos.line)=true:=by rfl) (P:AO (e :: es) X.env=(false,Bt e X.env) :: AO es X.env:=by rfl) (R:(Cp cpos (AO es X.env)).any (·.1)=false:=by rfl) :
  PE X (.Call (.Attribute o name apos) (e :: es) [] cpos) (tBM X.K T r to t):=by
 intro j s l H Q I h;refine bW L N O rfl (thn (ho j s l H _ I h) λv S ⟨x,U,m,A,ty,Y⟩=>?_);obtain⟨Z,h2⟩:=mZ m A ty;refine⟨T,id,C,g,E,Z,h2,?_⟩;have B:=J cpos j S l U _ m Y;rw[P]at B ⊢;refine LL (by show(false||(Cp cpos (AO es X.env)).any (·.1))=false;rw[R] <;> rfl) (Ho ?_)
 exact thn B λus s2 ⟨vs,H2,I2,r2,q2⟩=>G j s2 l H2 x vs v us Q I2 A r2 q2
end
section
def MtM(X:Cx)(id:String)(r:V->List V->Hp->VK->Prop):Prop:=
 ∀(g:List (AV×Obj)) (s:AL) (j:St) (H:Hp) (x:V) (l:List V) (v:AH) (m:List AH) (Q:VK),Inv X g j H s->RelV x v->B6 l m->r x l H Q ->
  Af (Am X.prog X.w) X.A (call (.builtin id) (v :: m)) (EP X g j Q) X.xe s
theorem B6.one:∀{x:V} {g:List AH},B6 [x] g->∃u,g=[u]/\RelV x u
 | _,_,.cons r .nil=>⟨_,rfl,r⟩
section
variable{X:Cx}{ζ:List (AV×Obj)}{σ:St}{H:Hp}{s:AL}{a:AV}{y v:V}{u r:AH}{o:Option V}{A:Bn}{E:AH->AL->Prop}
theorem Inv.big(I:Inv X ζ σ H s):Do < s.heap.objs.size:=by
 have h:BJ < s.heap.objs.size:=(I.mod.glob.keeps I.bk).lt;exact qU (by decide) h
theorem a9(G:A.units+1 < Ej)(I:Inv X ζ σ H s)(g:Mn H a y (some v))(C:RelV y u)(h:∀w' s',Inv X ζ σ H s'->RelV v w'->Q w' s') :
  Af (Am X.prog X.w) A (O8 (.ref a) u) Q E s:=by
 rcases g with⟨J,k,e,j,l⟩ | ⟨J,k,b,e,j,L,l⟩
 ·subst j
  obtain⟨z,hd,N,rel,m⟩:=PZ I.hok e;obtain⟨w',hw,B⟩:=NN.some_of (v:=v) (o:=Rq N k) (by rw[l];exact rel.val k);exact wpAny_getItem_of (PX C) m.mapOf hw (h w' _ (I.tok _) B)
 ·subst j
  cases(show u=A7 b from C);obtain⟨z,hd,O,rel,m⟩:=RN I.hok e;obtain⟨w',hw,B⟩:=NN.some_of (v:=v) (o:=(W1 O k).map (·.2)) (by rw[l];exact rel.val k);obtain⟨p,P,R⟩:=Ux.mp hw;refine wpAny_getItem_heap (G1 G) (Ov I.hok L) m P ?_;rw[R];exact h w' _ (I.tok _) B
theorem d_in(C:A.units+1 < Ej)(I:Inv X ζ σ H s)(g:Mn H a y o)(B:RelV y u)(h:∀s',Inv X ζ σ H s'->Q (.bool o.isSome) s') :
  Af (Am X.prog X.w) A (B4 .In u (.ref a)) Q E s:=by
 rcases g with⟨G,k,e,j,l⟩ | ⟨G,k,b,e,j,J,l⟩
 ·subst j
  obtain⟨z,hd,L,rel,m⟩:=PZ I.hok e;refine wpAny_in_of (PX B) hd m.mapOf ?_;rw[<-(rel.val k).isSome_eq,<-l];exact h _ (I.tok _)
 ·subst j
  cases(show u=A7 b from B);obtain⟨z,hd,N,rel,m⟩:=RN I.hok e;refine wpAny_in_heap (G1 C) (Ov I.hok J) hd m ?_;have q:=(rel.val k).isSome_eq;rw[JU]at q;rw[<-q,<-l];exact h _ (I.tok _)
theorem kM(C:A.units+1 < Ej)(I:Inv X ζ σ H s)(g:Mn H a y o)(B:RelV y u)(h:∀s',Inv X ζ σ H s'->Q (.bool (!o.isSome)) s') :
  Af (Am X.prog X.w) A (B4 .NotIn u (.ref a)) Q E s:=by
 rcases g with⟨G,k,e,j,l⟩ | ⟨G,k,b,e,j,J,l⟩
 ·subst j
  obtain⟨z,hd,L,rel,m⟩:=PZ I.hok e;refine wpAny_notIn_of (PX B) hd m.mapOf ?_;rw[<-(rel.val k).isSome_eq,<-l];exact h _ (I.tok _)
 ·subst j
  cases(show u=A7 b from B);obtain⟨z,hd,N,rel,m⟩:=RN I.hok e;refine wpAny_notIn_heap (G1 C) (Ov I.hok J) hd m ?_;have q:=(rel.val k).isSome_eq;rw[JU]at q;rw[<-q,<-l];exact h _ (I.tok _)
theorem Ud(I:Inv X ζ σ H s)(j:Mut (H a))(l:EC a s.heap h')(m:∃q,h'.get? a=some q)(new:C7 X.prog X.w (upd H a g) h' a g) :
  Inv X ζ σ (upd H a g) { s with heap:=h',toks:=t' }:=
 I.write (x:=a) (e:=a) j (.inl rfl) (λb q hb z=>(l.2 b hb).trans z) m new
theorem X4(z:g.length<=sizeLine)(hd:(a==Do)=false)(rel:KV g j)(dd:h'.DictOf (DN P w) a j) :
  C7 P w l h' a (.dK g):=⟨z,hd,j,rel,dd⟩
theorem a8(Y:A.units+1 < Ej)(I:Inv X ζ σ H s)(g:WZ H a y v Z)(P:RelV y u)(R:RelV v r)(h:∀s',Inv X ζ σ Z s'->Q () s') :
  Af (Am X.prog X.w) A (setItem (.ref a) u r) Q E s:=by
 rcases g with⟨m,k,e,C,l,G⟩ | ⟨m,k,b,e,C,S,l,G⟩
 ·subst C G
  obtain⟨z,hd,vs,rel,J⟩:=lP I.hok e
  have L:vs.length<=sizeLine:=by rw[<-rel.length];exact z
  have N:(Ga m k v).length<=sizeLine:=by have:=JN m k v;lia
  refine wpAny_setItem_pairs (hsz:=L) (PX P) J λT j O=>h _ ?_
  have he:∃q,T.get? a=some q:=let ⟨q,_,_,B,_⟩:=j;⟨q,B⟩
  exact Ud I (by rw[e];exact Db) O he (X4 N hd (rel.put k R) j)
 ·subst C G
  cases(show u=A7 b from P);obtain⟨z,hd,xs,rel,J⟩:=sV I.hok e
  have L:xs.length<=sizeLine:=by rw[<-EA rel];exact z
  have N:(Ga m k v).length<=sizeLine:=by have:=JN m k v;lia
  refine wpAny_setItem_heap (hsz:=L) (G1 Y) (Ov I.hok S) J λT j O=>h _ ?_
  obtain⟨q,es,ep,B,h2,h3,h4,_,h5⟩:=j;refine Ud I (by rw[e];exact Db) O ⟨q,B⟩ ⟨N,hd,_,(rel.put k S R).keeps λc ys U=>?_,q,es,ep,B,h2,h3,h4,h5⟩;rw[Bh (rh U e (λz=>nomatch z))];exact U
variable{X:Cx}{ζ:List (AV×Obj)}{σ:St}{H:Hp}{s:AL}{l:AV}{xs ys:List V}
theorem Inv.lset{g its':List AH}{n:Nat}{f:Array AH->Array AH}{t':Nat}(I:Inv X ζ σ H s)(j:H l=some (.lst xs))
  (e:s.heap.get? l=some { cls:=.type "list",data:=.seq g.toArray n }) (m:f g.toArray=its'.toArray) (B:B6 ys its') (hz:ys.length<=sizeLine) :
  Inv X ζ σ (upd H l (.lst ys)) { s with heap:=s.heap.update l (Hm f),toks:=t' }:=by
 have q:=PySem.IsL.update e f;rw[m]at q;refine I.write (x:=l) (e:=l) (by rw[j];exact trivial) (.inl rfl) (λG u hb C=>(Ef s.heap (Hm f) (CY hb)).trans C) ⟨_,q⟩ ?_;exact⟨hz,its',_,B,q⟩
theorem Inv.lnew(I:Inv X ζ σ H s)(j:B6 ys g)(hz:ys.length<=sizeLine) :
  Inv X ζ σ (upd H s.heap.objs.size (.lst ys)) { s with heap:=s.heap.push { cls:=.type "list",data:=.seq g.toArray },toks:=t' }:=
 I.laid (λ_ _ q=>AJ _ q) (AN _) ⟨hz,g,0,j,Ag _ rfl⟩
theorem Inv.fresh(I:Inv X ζ σ H s):H s.heap.objs.size=none:=I.hok.fresh (AN _)
theorem Inv.lstM(I:Inv X ζ σ H s)(j:H l=some (.lst xs)):xs.length<=sizeLine/\∃(g:List AH) (n:Nat),B6 xs g/\xs.length=g.length/\s.heap.get? l=some { cls:=.type "list",data:=.seq g.toArray n }:=by
 obtain⟨z,g,n,r,e⟩:=I.hok l _ j;exact⟨z,g,n,r,r.length,e⟩
theorem V0(h:n<=sizeLine):Dv n=false:=by
 unfold Dv;exact wY (by lia)
end
section
variable{X:Cx}{ζ:List (AV×Obj)}{σ:St}{H:Hp}{s:AL}{a:AV}{A:Bn}{E:AH->AL->Prop}
theorem sW(I:Inv X ζ σ H s)(e:Rd H a (.dK g))(h:∀t s',Inv X ζ σ H s'->Q (.int g.length t) s'):Af (Am X.prog X.w) A (call (.builtin "len") [.ref a]) Q E s:=by
 obtain⟨z,hd,l,rel,j⟩:=PZ I.hok e;refine call_len_dict hd j (by rw[<-rel.length];rw[OS]at z;lia) ?_;rw[<-rel.length];exact h _ _ (I.tok _)
end
def pe(i:Expr):Prop:=∀g j,Ut i false g j=operate [g,j] (O8 g j)
theorem im{prog}{w}{A}{E}{s}{env}{value g}{pos}{T id}{Q}
  (H:Wu (.type T) "__getitem__" = pure (some (.builtin id))) (I:pe g)
  (h:Af (Am prog w) A (Bt value env) (λo l=>Af (Am prog w) A (Bt g env) (λi s₂=>s₂.TypeIs o T/\Af (Am prog w) A (O8 o i) Q E s₂) E l) E s) :
  Af (Am prog w) A (Bt (.Subscript value g pos) env) Q E s:=by
 refine lg (Eu h (λo l B=>Eu B (λi s₂ j=>?_) λ_ _ x=>x) λ_ _ x=>x);obtain⟨G,j⟩:=j;unfold Zd;refine AA ?_;rw[getitemInPython_of_ne G.not_modules];refine AA (wpAny_specialOf G H ?_)
 have fin:Af (Am prog w) A (Ut g false o i) (λr m=>Af (Am prog w) A (letTemporaryGo value o r >>= λ_=>pure r) Q E m) E s₂:=by
  rw[I o i];exact wpAny_operating (Eu j (λr m C=>AA (wpAny_letTemporaryGo (AI C))) λ_ _ x=>x)
 first
  | exact AI (AA fin)
  | exact AA (AI (AA fin))
  | exact AA fin
theorem WO(I:Inv X m A H s)(g:Mn H a y o):s.TypeIs (.ref a) "dict":=by
 rcases g with⟨l,k,e,_,_⟩ | ⟨l,k,b,e,_,_,_⟩
 ·obtain⟨_,_,B,_,j⟩:=PZ I.hok e
  exact j.typeIs
 ·obtain⟨_,_,C,_,j⟩:=RN I.hok e
  exact j.typeIs
def qu(l ty:TE):TE:=λg H Q=>l g H λx m=>ty g m λy j=>∃a v,x=.ref a/\Mn j a y (some v)/\Q v j
def qt(ty l:TE):TE:=λg H Q=>ty g H λy m=>l g m λx j=>∃a o,x=.ref a/\Mn j a y o/\Q (.bl o.isSome) j
def Yh(ty l:TE):TE:=λg H Q=>ty g H λy m=>l g m λx j=>∃a o,x=.ref a/\Mn j a y o/\Q (.bl (!o.isSome)) j
def q9(l ty m:TE):TS:=λD g H=>m g H λv o=>l g o λx s=>ty g s λy A=>∃a j,x=.ref a/\WZ A a y v j/\D.nx g j
variable{X:Cx}
def jC:V->List V->Hp->VK->Prop:=λx j H Q=>∃l g y,x=.ref l/\j=[y]/\H l=some (.lst g)/\g.length < sizeLine/\Q .non (upd H l (.lst (g++[y])))
theorem Sn:MtM X "list.append" jC:=by
 intro B s C H x E v G Q I m o h;obtain⟨l,J,y,rfl,rfl,g,L,q⟩:=h;cases m;obtain⟨u,rfl,A⟩:=o.one;obtain⟨z,j,n,r,N,e⟩:=I.lstM g;refine M3 F.slot_list_append ⟨_,e,rfl⟩ F.entry_list_append (F.args_list_append_2 _ _) (PySem.list_append l j.toArray n u (by rw[AQ];lia)) ⟨e,?_⟩;refine⟨.non,_,I.lset (its':=j++[u]) g e (by simp) (r.append (.cons A .nil)) ?_,rfl,q⟩;rw[AK,Al]
 lia
def jB:V->List V->Hp->VK->Prop:=λx m H Q=>∃l b g j,x=.ref l/\m=[.ref b]/\H l=some (.lst g)/\H b=some (.lst j)/\g.length+j.length<=sizeLine/\Q .non (upd H l (.lst (g++j)))
theorem aQ:MtM X "list.extend" jB:=by
 intro O s P H x R v S Q I A B h;obtain⟨l,b,T,U,rfl,rfl,o,C,Y,q⟩:=h;cases A;obtain⟨u,rfl,E⟩:=B.one;cases E;obtain⟨z,g,n,r,Z,e⟩:=I.lstM o;obtain⟨z2,j,G,J,ue,L⟩:=I.lstM C
 have m:g.toArray.size+j.toArray.size<=sizeLine:=by rw[AQ,AQ];lia
 have N:¬(!g.toArray.isEmpty&&Dv (g.toArray.size+j.toArray.size))=true:=by
  rw[V0 m,kx];exact Ac
 refine M3 hV ⟨_,e,rfl⟩ gm (br _ _)
  (AutoSeq1.list_extend_list_list_0 l g.toArray n b j.toArray G N (by rw[AQ];lia) (by lia)) ⟨e,L,?_⟩
 refine⟨.non,_,I.lset (its':=g++j) o e (by simp) (r.append J) ?_,rfl,q⟩;rw[AK];omega
def rCat:R2:=λx y H Q=>∃l b g j,x=.ref l/\y=.ref b/\H l=some (.lst g)/\H b=some (.lst j)/\g.length+j.length<=sizeLine/\∀p,H p=none->Q (.ref p) (upd H p (.lst (g++j)))
theorem oM:OpR X (Du .Add) rCat:=by
 intro J s L H x y v u Q I m o h;obtain⟨l,b,N,O,rfl,rfl,A,B,R,q⟩:=h;cases m;cases o;obtain⟨z,g,n,r,S,e⟩:=I.lstM A;obtain⟨T,j,U,C,Y,E⟩:=I.lstM B;refine PySem.P.add_list e E ?_ (by rw[AQ,AQ];lia)
 have G:g.toArray++j.toArray=(g++j).toArray:=by simp
 rw[G];exact⟨.ref _,_,I.lnew (t':=s.toks) (r.append C) (by rw[AK];omega),rfl,q _ I.fresh⟩
section
variable{X:Cx}{o i value:Expr}{pos pos':Pos}{td ty tv:TE}
theorem jU(B:X.A.units+1 < Ej)(ho:PE X o td)(hi:PE X i ty)(C:pe i):PE X (.Subscript o i pos) (qu td ty):=by
 intro j s l H Q I h;refine im PySem.F.slot_dict_getitem.lookup C (thn (ho j s l H _ I h) λu E ⟨x,G,J,L,N⟩=>thn (hi j E l G _ J N) λU Y ⟨y,O,m,P,a,v,ex,g,R⟩=>?_);subst ex;obtain rfl:u=A7 a:=L;exact⟨WO m g,a9 B m g P λw' Z S T=>⟨v,O,S,T,R⟩⟩
theorem oC(m:X.A.units+1 < Ej)(hi:PE X i ty)(ho:PE X o td):PC X .In i o (qt ty td):=by
 intro j s l H Q I h
 refine thn (hi j s l H _ I h) λT B ⟨y,C,E,G,J⟩=>thn (ho j B l C _ E J) λu U ⟨x,L,N,O,a,P,ex,g,R⟩=>?_
 subst ex;obtain rfl:u=A7 a:=O
 exact d_in m N g G λY S=>⟨.bl P.isSome,L,S,rfl,R⟩
theorem aI(m:X.A.units+1 < Ej)(hi:PE X i ty)(ho:PE X o td):PC X .NotIn i o (Yh ty td):=by
 intro j s l H Q I h
 refine thn (hi j s l H _ I h) λT B ⟨y,C,E,G,J⟩=>thn (ho j B l C _ E J) λu U ⟨x,L,N,O,a,P,ex,g,R⟩=>?_
 subst ex;obtain rfl:u=A7 a:=O
 exact kM m N g G λY S=>⟨.bl (!P.isSome),L,S,rfl,R⟩
theorem jJ(m:X.A.units+1 < Ej)(ho:PE X o td)(hi:PE X i ty)(B:PE X value tv)(C:GR value (some (.Subscript o i pos')) pos.line X.env=pure false) :
  PS X (.Assign [.Subscript o i pos'] value pos) (q9 td ty tv):=by
 intro l s j H D I h;refine wpAny_Assign_Subscript (thn (B l s j H _ I h) λr E ⟨v,G,J,L,N⟩=>thn (ho l E j G _ J N) λu O ⟨x,P,Q,R,S⟩=>thn (hi l O j P _ Q S) λiv s3 ⟨y,H3,T,U,a,Y,ex,g,Z⟩=>?_) C;subst ex;obtain rfl:u=A7 a:=R
 exact a8 m T g U L λs4 I4=>⟨j,Y,I4,Z⟩
end
theorem WN(h:CS)(hb:Do < h.objs.size):C7 P w H (h.push { cls:=.type "dict",data:=.dict #[] }) h.objs.size (.dK []):=
 ⟨CZ _,beq_eq_false_iff_ne.mpr (CY (Ax hb)),[],.nil,Wn h⟩
theorem fw(h:CS)(hb:Do < h.objs.size):C7 P w H (h.push { cls:=.type "dict",data:=.dict #[] }) h.objs.size (.dT []):=
 ⟨CZ _,beq_eq_false_iff_ne.mpr (CY (Ax hb)),[],.nil,_,#[],0,Ag _ rfl,⟨rfl,rfl,rfl⟩,rfl,rfl,FQ⟩
def nF:TE:=λ_ H Q=>∀p,H p=none->Q (.ref p) (upd H p (.dK []))
def nE:TE:=λ_ H Q=>∀p,H p=none->Q (.ref p) (upd H p (.dT []))
variable{prog:Bb}{w:By}{A:Bn}{E:AH->AL->Prop}{s:AL}
section
variable{X:Cx}{pos:Pos}
theorem de:PE X (.Dict [] [] pos) nF:=λg s j H Q I h=>
 qO ⟨.ref s.heap.objs.size,_,I.laid (a:=s.heap.objs.size) (o:=.dK []) (t':=s.toks) (λ_ _ q=>AJ _ q) (AN _) (WN s.heap I.big),rfl,h _ (I.hok.fresh (AN _))⟩
theorem dc:PE X (.Dict [] [] pos) nE:=λg s j H Q I h=>
 qO ⟨.ref s.heap.objs.size,_,I.laid (a:=s.heap.objs.size) (o:=.dT []) (t':=s.toks) (λ_ _ q=>AJ _ q) (AN _) (fw s.heap I.big),rfl,h _ (I.hok.fresh (AN _))⟩
end
def XX:List (TE×TE)->St->Hp->(List (V×V)->Hp->Prop)->Prop
 | [],_,H,Q=>Q [] H
 | (tk,j) :: r,g,H,Q=>tk g H λx l=>j g l λy m=>XX r g m λo B=>Q ((x,y) :: o) B
abbrev VV:List (V×V)->List (AH×AH)->Prop:=G2 λp q=>RelV p.1 q.1/\RelV p.2 q.2
def PPs(X:Cx)(pos:Pos)(j:List (Option Expr))(g:List Expr)(C:List (TE×TE)):Prop:=
 ∀(m:List (AV×Obj)) (s:AL) (l:St) (H:Hp) (Q:List (V×V)->Hp->Prop),Inv X m l H s->XX C l H Q ->
  Af (Am X.prog X.w) X.A (evalPairs (pairTrees j g X.env pos)) (λG I=>∃o B,Inv X m l B I/\VV o G/\Q o B) X.xe s
theorem jL:PPs X pos [] [] []:=λg s j H Q I h=>pairTrees_nil_walk ⟨[],H,I,.nil,h⟩
theorem dR(l:PE X k tk)(m:PE X v o)(B:PPs X pos ks C G) :
  PPs X pos (some k :: ks) (v :: C) ((tk,o) :: G):=λg s j H Q I h=>
 pairTrees_cons_walk (thn (l g s j H _ I h) λu J ⟨x,L,N,O,P⟩=>thn (m g J j L _ N P) λw2 R ⟨y,S,T,U,Y⟩=>
  thn (B g R j S _ T Y) λws s3 ⟨Z,H3,I3,rel,q3⟩=>⟨(x,y) :: Z,H3,I3,.cons ⟨O,U⟩ rel,q3⟩)
def Os(l more:List (Key×V)):List (Key×V):=more.foldl (λg j=>Ga g j.1 j.2) l
theorem KV.merge:∀{more:List (Key×V)} {l:List (Key×AH)} {g:List (Key×V)} {j:List (Key×AH)},KV more l->KV g j->KV (Os g more) (merged j l):=by
 intro more l g j r;unfold KV at r
 induction r generalizing g j with
 | nil=>intro q;exact q
 | @cons p q B C h t m=>
  intro o
  have e:KV (Ga g p.1 p.2) (lX j q.1 q.2):=by
   have:=o.put p.1 h.2;rw[<-h.1];exact this
  exact m e
theorem Mv:∀(more g:List (Key×V)),(Os g more).length<=g.length+more.length
 | [],g=>by show g.length<=g.length+0;lia
 | p :: r,g=>by
  have j:=Mv r (Ga g p.1 p.2);have l:=JN g p.1 p.2;show(Os (Ga g p.1 p.2) r).length<=_;rw[A0];lia
theorem RT{P}{w}:∀{j:List (Key×V)} {l:List (AH×AH)},VV (j.map λm=>(kV m.1,m.2)) l->∃g,Carries (DN P w) l g/\KV j g
 | [],_,r=>by rw[LR]at r;cases r;exact⟨[],Db,.nil⟩
 | p :: j,_,r=>by
  rw[BB]at r
  cases r with
  | @cons a b as bs h t=>
   obtain⟨g,c,q⟩:=RT (P:=P) (w:=w) t;obtain⟨B,o⟩:=b;exact⟨(p.1,o) :: g,⟨PX h.1,rfl,c⟩,.cons ⟨rfl,h.2⟩ q⟩
def qr(m:List (TE×TE)):TE:=λo H Q=>∀p,H p=none->XX m o (upd H p (.dK [])) λB j=>j p=some (.dK [])/\∃g:List (Key×V),B=g.map (λl=>(kV l.1,l.2))/\g.length<=15/\Q (.ref p) (upd j p (.dK (Os [] g)))
theorem jT(h:PPs X pos g j G)(J:g.all (·.isSome)=true)(L:g.length=j.length)(h0:g≠[])
  (m:g.length<=15):PE X (.Dict g j pos) (qr G):=by
 intro N s O H Q I q;have R:=I.hok.fresh (AN s.heap.objs.size);have S:=I.laid (a:=s.heap.objs.size) (o:=.dK []) (h':=s.heap.push { cls:=.type "dict",data:=.dict #[] }) (t':=s.toks) (λ_ _ q=>AJ _ q) (AN _) (WN s.heap I.big);refine wpAny_Dict_walk (knd:=DN X.prog X.w) J L h0 m (thn (h N _ O _ _ S (q _ R)) λws s2 ⟨ps,H2,B,rel,e,C,T,lk,U⟩=>?_);subst T;obtain⟨Y,c,rk⟩:=RT (P:=X.prog) (w:=X.w) rel;obtain⟨z,hd,yf,Z,dd⟩:=lP B.hok e;cases Z;refine⟨Y,c,dd,λh' l hs=>⟨.ref s.heap.objs.size,_,?_,rfl,U⟩⟩
 have hz:(Os [] C).length<=sizeLine:=by
  have h1:=Mv C [];rw[GU]at h1;rw[OS];lia
 have he:∃q,h'.get? s.heap.objs.size=some q:=let ⟨q,_,_,hq,_⟩:=l;⟨q,hq⟩
 exact Ud B (by rw[e];exact Db) hs he (X4 hz hd (rk.merge .nil) l)
structure M2(X:Cx)(o:Expr)(m:Str)(apos:Pos)(e f:Expr)(cpos:Pos):Prop where
 base:DZ o m X.env (Bt o X.env)=Bt o X.env
 few:((Cp cpos (AO [e,f] X.env)).all (λx=>!x.1)&&(Mf cpos (HG [] X.env)).all (λx=>x.1.isSome)
   &&decide (([e,f]:List Expr).length+([]:List Fe).length+(if ([]:List Fe).isEmpty then 0 else 1) < 30))=true
 line:(apos.endLine==cpos.line)=true
 trees:Cp cpos (AO [e,f] X.env)=[(false,Bt e X.env),(false,Bt f X.env)]
def IsD(H:Hp)(a:AV):Prop:=(∃g,Rd H a (.dK g))∨∃g,Rd H a (.dT g)
theorem oy(I:Inv X B C H s)(d:IsD H a) :
  s.TypeIs (.ref a) "dict"/\(∀b,A7 a=.ref b->∃g,s.heap.get? b=some g/\g.dict=none)/\(a==Do)=false:=by
 rcases d with⟨o,e⟩ | ⟨o,e⟩
 ·obtain⟨_,hd,G,_,j⟩:=PZ I.hok e
  refine⟨j.typeIs,λb q=>?_,hd⟩;cases q;obtain⟨g,_,_,l,m,_⟩:=j;exact⟨g,l,m.2.1⟩
 ·obtain⟨_,hd,J,_,j⟩:=RN I.hok e
  refine⟨j.typeIs,λb q=>?_,hd⟩;cases q;obtain⟨g,_,_,l,m,_⟩:=j;exact⟨g,l,m.2.1⟩
section
variable{X:Cx}{ζ:List (AV×Obj)}{σ:St}{H:Hp}{s:AL}{a:AV}{y d:V}{u r:AH}{o:Option V}{A:Bn}{E:AH->AL->Prop}
theorem pS(G:A.units+1 < Ej)(I:Inv X ζ σ H s)(g:Mn H a y o)(B:RelV y u)(C:RelV d r)(h:∀w' s',Inv X ζ σ H s'->RelV (o.getD d) w'->Q w' s') :
  Af (Am X.prog X.w) A (call (.builtin "dict.get") [.ref a,u,r]) Q E s:=by
 rcases g with⟨J,k,e,m,l⟩ | ⟨J,k,b,e,m,L,l⟩
 ·subst m
  obtain⟨z,hd,O,rel,j⟩:=PZ I.hok e;refine call_meetsIn LJ j.typeIs TM (SV _ _ _) (meets_dict_get_default (DN X.prog X.w) a (PX B) hd r) ⟨_,j.mapOf,h _ _ (I.tok _) ?_⟩;rw[l];exact(rel.val k).getD C
 ·subst m
  cases(show u=A7 b from B);obtain⟨z,hd,N,rel,j⟩:=RN I.hok e;refine call_meetsIn LJ j.typeIs TM (SV _ _ _) (meetsH_dict_get_default (O7 (DN X.prog X.w)) a b hd r) ⟨G1 G,k,N,Ov I.hok L,j,h _ _ (I.tok _) ?_⟩;rw[l];exact(rel.val k).getD C
end
def nG(m ty B:TE):TE:=λg H Q=>m g H λx j=>∃a,x=.ref a/\IsD j a/\ty g j λy C=>B g C λz l=>∃o,Mn l a y o/\Q (o.getD z) l
section
variable{X:Cx}{o e f:Expr}{apos cpos:Pos}{td ty tx:TE}
theorem df(C:X.A.units+1 < Ej)(ho:PE X o td)(G:PE X e ty)(J:PE X f tx)(m:M2 X o "get" apos e f cpos):PE X (.Call (.Attribute o "get" apos) [e,f] [] cpos) (nG td ty tx):=by
 intro j s l H Q I h;refine wpAny_Call_method m.base m.few m.line PySem.F.plainAttrs_dict LJ PySem.F.type_dict_get (thn (ho j s l H _ I h) λu L ⟨x,N,B,O,a,ex,d,P⟩=>?_);subst ex;obtain rfl:u=A7 a:=O;obtain⟨R,S,_⟩:=oy B d;refine⟨R,S,?_⟩;rw[m.trees]
 refine LL rfl (Ho (GY (thn (G j L l N _ B P) λiv T ⟨y,U,Y,Z,q2⟩=>
  GY (thn (J j T l U _ Y q2) λfv s3 ⟨z,H3,I3,rz,ov,g,q3⟩=>Jr ?_))))
 exact pS C I3 g Z rz λw' s4 I4 ug=>⟨_,H3,I4,ug,q3⟩
end
end
end L2
namespace Att
open PySem.W PySem.Calls
theorem Pw:∀(ns:ZLi) (g:List AH),WellAll P h g (ns.map sh)->IntsAre g ns:=by
 intro ns
 induction ns with
 | nil=>
  intro g w;rw[LR]at w;cases w;exact .nil
 | cons n ns j=>
  intro g w;rw[BB]at w
  cases w with
  | cons a b=>
   cases a;exact .cons _ _ (j _ b)
theorem Z8{l:OpenLaw}{n:Nat}(E:l.most=some n){P:Params}{h:CS}{args:List WData}{g:List AH}
  (A:l.row.toRowW.claim.pre args=true) (G:WellAll P h g args) :
  ∃a B ns,g=[A7 a]/\args=[WData.list (ns.map sh)]/\h.get? a=some { cls:=.type "list",data:=.seq B.toArray }/\IntsAre B ns/\ns.length<=n:=by
 have s:WShape.hasAll [] args [.list .int]=true:=(pre_splitW A).1;have C:l.pre.holds [] { args:=args }=true:=(pre_splitW A).2;obtain⟨d,r,rfl,H,I⟩:=hasAllW_cons s;obtain rfl:=hasAllW_nil I;obtain⟨S,rfl,J⟩:=hasW_list H;obtain⟨ns,rfl⟩:=items_int J
 have j:ns.length<=n:=by
  unfold OpenLaw.pre at C
  have m:(WTm.not (.lt (.lit (.int (n:Int))) (.len (.arg 0)))).holds [] { args:=[.list (ns.map .int)] }=true:=by
   have m:=(holds_andW C).1;rw[E]at m;exact m
  have o:=condW_of m (w_not (w_lt w_lit (w_len_list (w_arg rfl))));rw[AF]at o
  refine LK λq=>?_
  have L:(n:Int) < ((ns.length:Nat):Int):=by omega
  first
   | (rw[wX L]at o;exact zX o (by decide))
   | (simp at o;omega)
 cases G with
 | cons N O=>
  cases O
  cases N with
  | list Q R=>exact⟨_,_,ns,rfl,rfl,Q,Pw ns _ R,j⟩
theorem aE(l:OpenLaw)(args:List WData):l.row.toRowW.claim.post args (.bool true) args=true:=
 postW_of (r:=l.row.toRowW) (X:=(true==true))
  (show qB [] (.bool true) .bool=true by first | rfl | decide | simp[qB,WShape.arms,WShape.armsAll])
  (show(WTm.eq .res (.lit (.bool true))).value [] { args:=args,res:=some (.bool true),after:=args }=some (.bool (true==true))from w_eq_bool (w_res rfl) w_lit) rfl
theorem WW{l:OpenLaw}{n:Nat}{q:Bb}{j:List Str}{J:(Str->Option AH)->CS->Prop}{L:By->CS->Prop}{d:DefRec}
  (R:l.most=some n) (S:d.params.defaults=[])
  (call:∀(w:By) (m g:AL) (H mb:Str->Option AH) (C:AV) (o:Obj) (I cd s:AH) (a:AV) (B:List AH) (ns:ZLi),
   Ground q j [] J w m H mb g.heap->L w g.heap ->
   g.heap.get? C=some o->o.data=.func (docDef d.name d.params d.body d.scope I cd s)->g.heap.CodeRec cd d.name->H d.name=some (.ref C) ->
   g.heap.get? a=some { cls:=.type "list",data:=.seq B.toArray }->IntsAre B ns->ns.length<=n->g.gens = #[] ->
   LQ (Am l.prog w) Rr (.call (.ref C) ⟨[.ref a],[]⟩) (λr s'=>r=.ok (.ret (.bool true))/\OldK g.heap s'.heap/\s'.os=g.os/\Iv s'.gens) g) :
  WalkO q j J L l.row.toRowW d [] (λf B=>Zh f B):=by
 intro w m g H mb G Y C o I cd s T kV U hd X N Z hg O P as uf Q hrd Ξ w8;obtain rfl:T=.none:=Dflts.none N S;obtain rfl:kV=.none:=Dflts.noKw N;obtain⟨a,B,ns,rfl,rfl,wZ,A,E⟩:=Z8 R uf Ξ;refine enter_call (Ju (call w m g H mb C o I cd s a B ns G Y U (fd_plain hd) X Z wZ A E hg) λr s' hq=>?_);obtain⟨rfl,h2,h3,h4⟩:=hq;exact⟨.inl ⟨.bool true,.bool true,[],rfl,λ_=>rfl,.bool true,aE l _,λ_=>⟨qW,λ_ hm=>(nomatch hm)⟩⟩,h2,h3,h4⟩
end Att
namespace L2
theorem Se:∀{g:List AH} {ns:ZLi},IntsAre g ns->B6 (ns.map V.int) g
 | _,_,.nil=>.nil
 | _,_,.cons n t h=>.cons ⟨t,rfl⟩ (Se h)
def ke(H:Hp):Prop:=∀b,H b=none∨∃o g,H b=some (.frz o (.lst g))
theorem em{P}{w}{K}{l mb}{CX}{k}{L a}{fd}{x}{sp}{s₁}{j}{ns}
  (R:K.In s₁.heap) (S:s₁.heap.Ns BJ l) (hb:s₁.heap.Ns W0 mb) (N:∀x:Str,x≠"__name__"->mb x=Ev x) (Ο:s₁.heap.NoLimit) (hg:s₁.gens = #[])
  (I:s₁.heap.get? a=some { cls:=.type "list",data:=.seq j.toArray }) (hi:IntsAre j ns) (T:ns.length<=sizeLine) (hr:Hx k Rr)
  (F:∀base:CS,K.In base->base.Ns BJ l->EO P w K l base CX k L fd [x] sp) (yD:∀(s:AL) (u:AH),Wp s fd ⟨[u],[]⟩ [(x,u)])
  (ye:∀H:Hp,ke H->SqL K H a (ns.map V.int)->sp [.ref a] H (λv _=>v=.bl true) λ_ _ _=>False)
  (Ρ:∀H e s',CX [] H s₁ (λ_ _ _=>False) e s'->False) :
  LQ (Am P w) Rr (.call (.ref L) ⟨[.ref a],[]⟩) (λr s'=>r=.ok (.ret (.bool true))/\OldK s₁.heap s'.heap/\s'.os=s₁.os/\Iv s'.gens) s₁:=by
 have U:=Se hi;have Τ:=hi.length
 have g:∀H:Hp,ke H->SqL K H a (ns.map V.int)->HOk P w H s₁.heap->(∀b,H b≠none->b=a)->(H a≠none->K.lookup a=none) ->
   LQ (Am P w) Rr (.call (.ref L) ⟨[.ref a],[]⟩) (λr s'=>r=.ok (.ret (.bool true))/\OldK s₁.heap s'.heap/\s'.os=s₁.os/\Iv s'.gens) s₁:=by
  intro H X hS A Y hK
  have Z:∀{b:AV} {o:Obj},s₁.heap.get? b=some o->H b=none->(UQ s₁.heap H).get? b=some o:=λe n=>fO e n
  have yz:∀{b:AV} {o:Obj} {B:Array bV} {ep:Nat},s₁.heap.get? b=some o->o.data=.dict B ep->H b=none:=λ{b o B ep} e d=>by
   cases q:H b with
   | none=>rfl
   | some u=>
    have O:b=a:=Y b (by rw[q];simp);subst O;rw[I]at e;cases e;have d':Data.seq j.toArray _=Data.dict B ep:=d;cases d'
  have J:∀{b:AV} {m:Str->Option AH},s₁.heap.Ns b m->(UQ s₁.heap H).Ns b m:=λ{b m} ⟨o,B,ep,e,d,r⟩=>⟨o,B,ep,Z e (yz e d),d,r⟩
  have C:K.In (UQ s₁.heap H):=λb o e=>Z (R b o e) (by
   cases q:H b with
   | none=>rfl
   | some u=>
    have O:b=a:=Y b (by rw[q];simp);subst O
    rw[hK (by rw[q];simp)]at e;cases e)
  have hM:Mod K l (UQ s₁.heap H):=⟨C,J S,⟨mb,J hb,N⟩,let ⟨mc,h1,h2⟩:=Ο;⟨mc,J h1,h2⟩⟩;have e0:YD P w K l (UQ s₁.heap H) Rr [] s₁ H:=⟨rfl,hM,λb o e=>jf e,W6 (ag _ _),trivial,λb hb=>zX (show b∈([]:List AV)from hb) (by simp),A,.of_eq hg⟩
  refine Ju ((F _ C (J S)).run Rr [] s₁ H ⟨[.ref a],[]⟩ [.ref a] [.ref a] _ _ hr e0 (yD s₁ (.ref a)) (.cons rfl .nil) (ye H X hS)) λr s' h=>?_
  cases r with
  | error e=>exact(Ρ H e s' h).elim
  | ok fl=>
   cases fl with
   | next=>exact EE h
   | brk=>exact EE h
   | cont=>exact EE h
   | ret u=>
    obtain⟨v,H',os,E,un,Υ,r',q⟩:=h;have q':v=.bl true:=q;subst q';obtain rfl:u=Rt true:=r';refine⟨rfl,OldK.of_keep λb o e=>?_,os,E⟩
    cases q:H b with
    | none=>exact un.keep b o e q (by intro z;exact zX (show b∈([]:List AV)from z) (by simp)) (by simp)
    | some u=>
     rcases X b with z | ⟨ob,xs,z⟩
     ·rw[q]at z;cases z
     ·have z2:=un.frzs b ob _ z
      obtain⟨e1,_⟩:=A b _ z;obtain⟨e2,_⟩:=Υ b _ z2;rw[e]at e1;cases e1;exact e2
 cases Q:K.lookup a with
 | some o=>
  have e:=R a o Q;rw[I]at e;cases e
  refine g (λ_=>none) (λ_=>.inl rfl) (.inr ⟨_,j.toArray,_,Q,rfl,rfl,rfl,by rw[AQ,Τ];exact T,by simpa using U⟩) (λb u z=>by have G:(none:Option HO)=some u:=z;cases G) (λb z=>zX rfl z) λz=>zX rfl z
 | none=>
  refine g (λb=>if b=a then some (.frz { cls:=.type "list",data:=.seq j.toArray } (.lst (ns.map V.int)))else none) (λb=>?_) (.inl (.inr ⟨{ cls:=.type "list",data:=.seq j.toArray },qX rfl⟩)) (λb u z=>?_) (λb z=>?_) λ_=>Q
  ·by_cases hb:b=a
   ·exact .inr ⟨_,_,qX hb⟩
   ·exact .inl (qY hb)
  ·by_cases hb:b=a
   ·have G:=(qX hb).symm.trans z
    cases G;subst hb;exact⟨I,by rw[AF];exact T,j,_,U,I⟩
   ·have G:=(qY hb).symm.trans z
    cases G
  ·by_cases hb:b=a
   ·exact hb
   ·exact zX (qY hb) z
theorem iD{l:PySem.W.OpenLaw}{n k:Nat}{q:Bb}{m:List Str}{O:(Str->Option AH)->CS->Prop}{I:By->CS->Prop}{d:DefRec}{K:Params->AG}{CX:By->CXT}{sp:By->Sp}{x:Str}
  (P:l.most=some n) (Q:n<=sizeLine) (R:d.params.defaults=[]) (S:Hx k Rr)
  (U:∀(w:By) (h:CS),I w h->(K w.params).In h)
  (F:∀(w:By) (B:Str->Option AH) (E:AV) (h:CS),(K w.params).In h->h.Ns BJ B->B d.name=some (.ref E) ->
   ∃fd:Iy,(∀(s:AL) (u:AH),Wp s fd ⟨[u],[]⟩ [(x,u)]) /\
    ∀base:CS,(K w.params).In base->base.Ns BJ B->EO l.prog w (K w.params) B base (CX w) k E fd [x] (sp w))
  (X:∀(w:By) (H:Hp) (a:AV) (ns:ZLi),ns.length<=n->ke H->SqL (K w.params) H a (ns.map V.int)->sp w [.ref a] H (λv _=>v=.bl true) λ_ _ _=>False)
  (Z:∀(w:By) (H:Hp) (s:AL) (e:AH) (s':AL),CX w [] H s (λ_ _ _=>False) e s'->False) :
  PySem.W.WalkO q m O I l.row.toRowW d [] (λf J=>Zh f J):=by
 refine Att.WW P R λw L C B mb E o pm cd doc a J ns G Y ho hd uT wW wZ A j hg=>?_
 have N:=U w _ Y;obtain⟨fd,hb,hF⟩:=F w B E _ N G.T.g wW
 exact em N G.T.g G.T.b G.T.builtins G.T.nolimit hg wZ A (Av j Q) S hF hb (λH hO hS=>X w H a ns j hO hS) λH e s'=>Z w H C e s'
def jz(s:D6)(j:Nat):D6:=match s with
 | .ClassDef _ _ _ body _ _ _ _ _ _ _=>body.getD j (.Pass ⟨0,0,0,0⟩)
 | _=>.Pass ⟨0,0,0,0⟩
def Kv(s:D6):Arguments:=match s with
 | .FunctionDef _ a _ _ _ _ _ _ _ _=>a
 | _=>{ posonlyargs:=[],args:=[],vararg:=none,kwonlyargs:=[],kw_defaults:=[],kwarg:=none,defaults:=[] }
def IQ(s:D6):List D6:=match s with
 | .FunctionDef _ _ b _ _ _ _ _ _ _=>b
 | _=>[]
def BV(s:D6):Ru:=match s with
 | .FunctionDef _ _ _ _ _ _ g _ _ _=>g
 | _=>{ kind:=.function,names:=[],isGenerator:=false,isCoroutine:=false }
structure Fun(K:AG)(x qual:Str)(st:D6)(f:AV)(fd:Iy):Prop where
 ex:∃(oc:AH) (od:Option AV) (kV doc pm:AH) (an:Option AV) (tT ct:AH) (vE:Array (Option AH)),
  fd=IC x qual (Kv st) (IQ st) (BV st) .none kV doc pm an tT ct/\K.lookup f=some ⟨oc,od,.func fd,vE⟩/\QI K tT qual=true
 kp:Gc K (.ref f)=true
section
variable{K:AG}
theorem Fun.binds{x g}{st}{f}{fd}{ps}(F:Fun K x g st f fd)
  (h:∀(kV j l:AH) (m:Option AV) (o ct:AH) (s:List AH),s.length=ps.length->gz (IC x g (Kv st) (IQ st) (BV st) .none kV j l m o ct) ⟨s,[]⟩=pure (ps.zip s)):Binds K fd ps []:=by
 obtain⟨A,B,kV,j,l,m,o,ct,C,rfl,E,G⟩:=F.ex;exact .all (h kV j l m o ct)
theorem fb{x g}{st}{f}{A}{B o}{C}{kV j s m ct}(l:K.lookup f=some ⟨A,B,.func (IC x g (Kv st) (IQ st) (BV st) .none kV j s o m ct),C⟩)
  (c:QI K m g=true) (k:Gc K (.ref f)=true):Fun K x g st f (IC x g (Kv st) (IQ st) (BV st) .none kV j s o m ct):=⟨⟨A,B,kV,j,s,o,m,ct,C,rfl,l,c⟩,k⟩
end
section
variable{X:Cx}
theorem pv(i:Nat)(g:X.N[i]?=some x:=by rfl)(j:Vis X.env.scope x:=by first | exact Uw rfl | exact Re (Uw rfl) | exact Re (Re rfl))(hd:(x==("__debug__" : Str))=false:=by decide)
  (l:(x==("__classdict__" : Str))=false:=by decide):PE X (.Name x pos) (nB i):=nt g j hd l
theorem bG:Iu X (.builtin "len") (λxs H Q=>∃a g,xs=[V.ref a]/\H a=some (.dK g)/\Q (.int g.length) H):=by
 intro o s A H xs B Q I r h;obtain⟨a,g,rfl,j,q⟩:=h;obtain⟨u,rfl,l⟩:=vals1 r;cases l
 exact sW I (.inl j) λt C m=>⟨.int g.length,H,m,⟨t,rfl⟩,q⟩
end
inductive D where
 | non | bl (b:Bool) | int (i:Int) | str (x:Str) | tup (ds:List D) | fro (ds:List D) | ref (n:Nat) | exc (C:AV)
def SS(K:AG)(H:Hp)(a:AV)(j:List V):Prop:=
 (∃o,H a=some (.frz o (.lst j))) ∨
  ∃(o:Obj) (g:Array AH) (n:Nat),K.lookup a=some o/\o.cls=.type "list"/\o.dict=none/\o.data=.seq g n/\g.size<=sizeLine/\B6 j g.toList
theorem SS.sq{K}{H}{a}{vs}(h:SS K H a vs):SqL K H a vs:=by
 rcases h with h | h
 ·exact .inl (.inr h)
 ·exact .inr h
def Us(o:Obj)(C:AV):Prop:=o.cls=.ref C/\o.dict=none/\∃g,o.data=.fields g
mutual
inductive B2(K:AG)(ρ:List AV)(H:Hp):D->V->Prop where
 | non:B2 K ρ H .non .non
 | bl (b:Bool):B2 K ρ H (.bl b) (.bl b)
 | int (i:Int):B2 K ρ H (.int i) (.int i)
 | str (x:Str):B2 K ρ H (.str x) (.str x)
 | tup {ds:List D} {a:AV} {vs:List V}:H a=some (.tup vs)->A9 K ρ H ds vs->B2 K ρ H (.tup ds) (.ref a)
 | fro {ds:List D} {a:AV} {vs:List V}:SS K H a vs->A9 K ρ H ds vs->B2 K ρ H (.fro ds) (.ref a)
 | ref {n:Nat} {a:AV}:ρ[n]?=some a->B2 K ρ H (.ref n) (.ref a)
 | exc {C a:AV} {o:Obj} {u:HO}:H a=some (.frz o u)->Us o C->B2 K ρ H (.exc C) (.ref a)
inductive A9(K:AG)(ρ:List AV)(H:Hp):List D->List V->Prop where
 | nil:A9 K ρ H [] []
 | cons {d:D} {v:V} {ds:List D} {vs:List V}:B2 K ρ H d v->A9 K ρ H ds vs->A9 K ρ H (d :: ds) (v :: vs)
end
structure Le(K:AG)(ρ:List AV)(H:Hp)(ρ':List AV)(H':Hp):Prop where
 pre:∀(n:Nat) a,ρ[n]?=some a->ρ'[n]?=some a
 tup:∀a xs,H a=some (.tup xs)->H' a=some (.tup xs)
 frz:∀a o u,H a=some (.frz o u)->H' a=some (.frz o u)
 oth:∀a o,H a=some o->(∀n:Nat,ρ[n]?≠some a)->H' a=some o/\∀n:Nat,ρ'[n]?≠some a
theorem SS.mono{K}{H g}{a}{xs}(l:∀a o u,H a=some (.frz o u)->g a=some (.frz o u))(h:SS K H a xs):SS K g a xs:=by
 rcases h with⟨o,h⟩ | h
 ·exact .inl ⟨o,l _ _ _ h⟩
 ·exact .inr h
section
variable{K:AG}{ρ ρ' ρ'':List AV}{H H' vJ:Hp}
theorem Le.fro(l:Le K ρ H ρ' H'):∀a xs,SS K H a xs->SS K H' a xs:=λ_ _ h=>h.mono l.frz
theorem Le.refl:Le K ρ H ρ H:=⟨λ_ _ h=>h,λ_ _ h=>h,λ_ _ _ h=>h,λ_ _ h n=>⟨h,n⟩⟩
theorem Le.trans(a:Le K ρ H ρ' H')(b:Le K ρ' H' ρ'' vJ):Le K ρ H ρ'' vJ:=
 ⟨λn x h=>b.pre n x (a.pre n x h),λx g h=>b.tup x g (a.tup x g h),λx o u h=>b.frz x o u (a.frz x o u h),λx o h n=>b.oth x o (a.oth x o h n).1 (a.oth x o h n).2⟩
mutual
theorem B2.mono(l:Le K ρ H ρ' H'):∀{d:D} {v:V},B2 K ρ H d v->B2 K ρ' H' d v
 | _,_,.non=>.non
 | _,_,.bl b=>.bl b
 | _,_,.int i=>.int i
 | _,_,.str x=>.str x
 | _,_,.tup h r=>.tup (l.tup _ _ h) (A9.mono l r)
 | _,_,.fro h r=>.fro (l.fro _ _ h) (A9.mono l r)
 | _,_,.ref h=>.ref (l.pre _ _ h)
 | _,_,.exc h e=>.exc (l.frz _ _ _ h) e
theorem A9.mono(l:Le K ρ H ρ' H'):∀{ds:List D} {g:List V},A9 K ρ H ds g->A9 K ρ' H' ds g
 | _,_,.nil=>.nil
 | _,_,.cons r t=>.cons (B2.mono l r) (A9.mono l t)
end
mutual
theorem B2.more(l:∀(n:Nat) a,ρ[n]?=some a->ρ'[n]?=some a):∀{d:D} {v:V},B2 K ρ H d v->B2 K ρ' H d v
 | _,_,.non=>.non
 | _,_,.bl b=>.bl b
 | _,_,.int i=>.int i
 | _,_,.str x=>.str x
 | _,_,.tup h r=>.tup h (A9.more l r)
 | _,_,.fro h r=>.fro h (A9.more l r)
 | _,_,.ref h=>.ref (l _ _ h)
 | _,_,.exc h e=>.exc h e
theorem A9.more(l:∀(n:Nat) a,ρ[n]?=some a->ρ'[n]?=some a):∀{ds:List D} {g:List V},A9 K ρ H ds g->A9 K ρ' H ds g
 | _,_,.nil=>.nil
 | _,_,.cons r t=>.cons (B2.more l r) (A9.more l t)
end
mutual
theorem B2.keep(j:∀a xs,H a=some (.tup xs)->H' a=some (.tup xs))(g:∀a o u,H a=some (.frz o u)->H' a=some (.frz o u)):∀{d:D} {v:V},B2 K ρ H d v->B2 K ρ H' d v
 | _,_,.non=>.non
 | _,_,.bl b=>.bl b
 | _,_,.int i=>.int i
 | _,_,.str x=>.str x
 | _,_,.tup h r=>.tup (j _ _ h) (A9.keep j g r)
 | _,_,.fro h r=>.fro (h.mono g) (A9.keep j g r)
 | _,_,.ref h=>.ref h
 | _,_,.exc h e=>.exc (g _ _ _ h) e
theorem A9.keep(g:∀a xs,H a=some (.tup xs)->H' a=some (.tup xs))(j:∀a o u,H a=some (.frz o u)->H' a=some (.frz o u)):∀{ds:List D} {l:List V},A9 K ρ H ds l->A9 K ρ H' ds l
 | _,_,.nil=>.nil
 | _,_,.cons r t=>.cons (B2.keep g j r) (A9.keep g j t)
end
theorem A9.length:∀{ds:List D} {g:List V},A9 K ρ H ds g->ds.length=g.length
 | _,_,.nil=>rfl
 | _,_,.cons _ t=>by rw[A0,A0,A9.length t]
theorem A9.get:∀{ds:List D} {g:List V} {i:Nat} {d:D},A9 K ρ H ds g->ds[i]?=some d->∃v,g[i]?=some v/\B2 K ρ H d v
 | _,_,_,_,.nil,e=>by simp at e
 | _,_,0,_,.cons r _,e=>by simp at e;subst e;exact⟨_,rfl,r⟩
 | _,_,i+1,d,.cons _ t,e=>by
  obtain⟨v,j,l⟩:=A9.get (i:=i) (d:=d) t (by simpa using e);exact⟨v,by simpa using j,l⟩
theorem A9.get':∀{ds:List D} {g:List V} {i:Nat} {v:V},A9 K ρ H ds g->g[i]?=some v->∃d,ds[i]?=some d/\B2 K ρ H d v
 | _,_,_,_,.nil,e=>by simp at e
 | _,_,0,_,.cons r _,e=>by simp at e;subst e;exact⟨_,rfl,r⟩
 | _,_,i+1,d,.cons _ t,e=>by
  obtain⟨v,j,l⟩:=A9.get' (i:=i) (v:=d) t (by simpa using e);exact⟨v,by simpa using j,l⟩
theorem A9.append:∀{ds es:List D} {g j:List V},A9 K ρ H ds g->A9 K ρ H es j->A9 K ρ H (ds++es) (g++j)
 | _,_,_,_,.nil,s=>s
 | _,_,_,_,.cons r t,s=>.cons r (A9.append t s)
theorem A9.take:∀{ds:List D} {g:List V} (n:Nat),A9 K ρ H ds g->A9 K ρ H (ds.take n) (g.take n)
 | _,_,0,_=>.nil
 | _,_,_+1,.nil=>.nil
 | _,_,n+1,.cons r t=>.cons r (A9.take n t)
theorem A9.drop:∀{ds:List D} {g:List V} (n:Nat),A9 K ρ H ds g->A9 K ρ H (ds.drop n) (g.drop n)
 | _,_,0,r=>r
 | _,_,_+1,.nil=>.nil
 | _,_,n+1,.cons _ t=>A9.drop n t
theorem A9.of_ints:∀(ns:ZLi),A9 K ρ H (ns.map D.int) (ns.map V.int)
 | []=>.nil
 | n :: ns=>.cons (.int n) (A9.of_ints ns)
theorem A9.ints:∀{ns:ZLi} {g:List V},A9 K ρ H (ns.map D.int) g->g=ns.map V.int
 | [],_,.nil=>rfl
 | n :: ns,_,.cons r t=>by
  cases r;rw[A9.ints (ns:=ns) t];rfl
end
inductive Ob where
 | lst (ds:List D)
 | dK (j':List (Key×D))
 | dT (j':List (List Key×D))
 | ins (C:AV) (fs:List (Str×D))
 | fK (j':List (Key×D))
 | fT (j':List (List Key×D))
 | mem (L:Key->Int)
abbrev Sto:=List Ob
def memU:List Key:=(BM 1000).map λ(i:Nat)=>CQ (i:Int)
abbrev KVR{g:Type}(K:AG)(ρ:List AV)(H:Hp):List (g×D)->List (g×V)->Prop:=G2 λ(p:g×D) (q:g×V)=>p.1=q.1/\B2 K ρ H p.2 q.2
def FS(K:AG)(ρ:List AV)(H:Hp)(a:AV):Ob->Prop
 | .lst s=>∃m,H a=some (.lst m)/\A9 K ρ H s m
 | .dK j=>∃g,H a=some (.dK g)/\KVR K ρ H j g
 | .dT j=>∃g,H a=some (.dT g)/\KVR K ρ H j g
 | .ins C fs=>∃A o,H a=some (.ins C A o)/\KVR K ρ H fs o
 | .fK j=>∃l g,H a=some (.frz l (.dK g))/\KVR K ρ H j g
 | .fT j=>∃l g,H a=some (.frz l (.dT g))/\KVR K ρ H j g
 | .mem L=>∃g,H a=some (.dK g)/\(g.map (·.1)).Nodup/\∀x∈g,x.1∈memU/\x.2=V.int (L x.1)
structure CK(K:AG)(ρ:List AV)(S:Sto)(H:Hp):Prop where
 len:ρ.length=S.length
 nd:∀(i j:Nat) a,ρ[i]?=some a->ρ[j]?=some a->i=j
 ob:∀(n:Nat) o a,S[n]?=some o->ρ[n]?=some a->FS K ρ H a o
section
variable{K:AG}{ρ ρ':List AV}{H H':Hp}{S:Sto}{a p:AV}{o:Ob}{n:Nat}{ho:HO}
theorem KVR.mono{g:Type}(l:Le K ρ H ρ' H'){x:List (g×D)}{y:List (g×V)}(h:KVR K ρ H x y):KVR K ρ' H' x y:=G2.mapP h λ_ _ z=>⟨z.1,z.2.mono l⟩
theorem FS.has(h:FS K ρ H a o):H a≠none:=by
 cases o with
 | lst g=>obtain⟨_,e,_⟩:=h;rw[e];exact λz=>nomatch z
 | dK g=>obtain⟨_,e,_⟩:=h;rw[e];exact λz=>nomatch z
 | dT g=>obtain⟨_,e,_⟩:=h;rw[e];exact λz=>nomatch z
 | ins C fs=>obtain⟨_,_,e,_⟩:=h;rw[e];exact λz=>nomatch z
 | fK g=>obtain⟨_,_,e,_⟩:=h;rw[e];exact λz=>nomatch z
 | fT g=>obtain⟨_,_,e,_⟩:=h;rw[e];exact λz=>nomatch z
 | mem L=>obtain⟨_,e,_⟩:=h;rw[e];exact λz=>nomatch z
theorem FS.mono(l:Le K ρ H ρ' H')(e:H' a=H a)(h:FS K ρ H a o):FS K ρ' H' a o:=by
 cases o with
 | lst A=>obtain⟨g,j,m⟩:=h;exact⟨g,e.trans j,m.mono l⟩
 | dK A=>obtain⟨g,j,m⟩:=h;exact⟨g,e.trans j,m.mono l⟩
 | dT A=>obtain⟨g,j,m⟩:=h;exact⟨g,e.trans j,m.mono l⟩
 | ins C fs=>obtain⟨s,g,j,m⟩:=h;exact⟨s,g,e.trans j,m.mono l⟩
 | fK A=>obtain⟨s,g,j,m⟩:=h;exact⟨s,g,e.trans j,m.mono l⟩
 | fT A=>obtain⟨s,g,j,m⟩:=h;exact⟨s,g,e.trans j,m.mono l⟩
 | mem L=>obtain⟨g,j,m⟩:=h;exact⟨g,e.trans j,m⟩
theorem FS.keep(m:∀a xs,H a=some (.tup xs)->H' a=some (.tup xs))(s:∀a o u,H a=some (.frz o u)->H' a=some (.frz o u))(e:H' a=H a)(h:FS K ρ H a o):FS K ρ H' a o:=by
 cases o with
 | lst B=>obtain⟨g,j,l⟩:=h;exact⟨g,e.trans j,l.keep m s⟩
 | dK B=>obtain⟨g,j,l⟩:=h;exact⟨g,e.trans j,G2.mapP l λ_ _ z=>⟨z.1,z.2.keep m s⟩⟩
 | dT B=>obtain⟨g,j,l⟩:=h;exact⟨g,e.trans j,G2.mapP l λ_ _ z=>⟨z.1,z.2.keep m s⟩⟩
 | ins C fs=>obtain⟨A,g,j,l⟩:=h;exact⟨A,g,e.trans j,G2.mapP l λ_ _ z=>⟨z.1,z.2.keep m s⟩⟩
 | fK B=>obtain⟨A,g,j,l⟩:=h;exact⟨A,g,e.trans j,G2.mapP l λ_ _ z=>⟨z.1,z.2.keep m s⟩⟩
 | fT B=>obtain⟨A,g,j,l⟩:=h;exact⟨A,g,e.trans j,G2.mapP l λ_ _ z=>⟨z.1,z.2.keep m s⟩⟩
 | mem L=>obtain⟨g,j,l⟩:=h;exact⟨g,e.trans j,l⟩
theorem FS.mono'(l:∀(n:Nat) a,ρ[n]?=some a->ρ'[n]?=some a)(h:FS K ρ H a o):FS K ρ' H a o:=by
 cases o with
 | lst A=>obtain⟨g,j,m⟩:=h;exact⟨g,j,m.more l⟩
 | dK A=>obtain⟨g,j,m⟩:=h;exact⟨g,j,G2.mapP m λ_ _ z=>⟨z.1,z.2.more l⟩⟩
 | dT A=>obtain⟨g,j,m⟩:=h;exact⟨g,j,G2.mapP m λ_ _ z=>⟨z.1,z.2.more l⟩⟩
 | ins C fs=>obtain⟨s,g,j,m⟩:=h;exact⟨s,g,j,G2.mapP m λ_ _ z=>⟨z.1,z.2.more l⟩⟩
 | fK A=>obtain⟨s,g,j,m⟩:=h;exact⟨s,g,j,G2.mapP m λ_ _ z=>⟨z.1,z.2.more l⟩⟩
 | fT A=>obtain⟨s,g,j,m⟩:=h;exact⟨s,g,j,G2.mapP m λ_ _ z=>⟨z.1,z.2.more l⟩⟩
 | mem L=>exact h
theorem Gm(j:H p=none∨Mut (H p)):(∀a xs,H a=some (.tup xs)->upd H p ho a=some (.tup xs))/\∀a o u,H a=some (.frz o u)->upd H p ho a=some (.frz o u):=by
 have g:∀a u,H a=some u->¬Mut (some u)->a≠p:=λa u e l z=>by
  subst z
  rcases j with h | h
  ·rw[e]at h;cases h
  ·rw[e]at h;exact l h
 refine⟨λa xs e=>?_,λa o u e=>?_⟩
 ·rw[Bh (g a _ e λz=>z)];exact e
 ·rw[Bh (g a _ e λz=>z)];exact e
theorem Le.fresh(g:H p=none):Le K ρ H ρ (upd H p ho):=
 ⟨λ_ _ h=>h,(Gm (.inl g)).1,(Gm (.inl g)).2,λa o e n=>⟨by rw[Bh (Bx e g)];exact e,n⟩⟩
theorem Le.write(j:ρ[n]?=some p)(g:Mut (H p)):Le K ρ H ρ (upd H p ho):=
 ⟨λ_ _ h=>h,(Gm (.inr g)).1,(Gm (.inr g)).2,λa o e h=>⟨by rw[Bh λz=>h n (by rw[z];exact j)];exact e,h⟩⟩
theorem Ik{g:Type}{l:List g}{x:g}{m:Nat}{a:g}(e:(l++[x])[m]?=some a):(l[m]?=some a/\m < l.length)∨(m=l.length/\a=x):=by
 by_cases j:m < l.length
 ·rw[Aa j]at e;exact .inl ⟨e,j⟩
 ·rw[A4 (by lia)]at e
  have:m - l.length=0:=by
   have:=(AD.mp e).1;simp at this;omega
  rw[this]at e;exact .inr ⟨by lia,by simpa using e.symm⟩
theorem Le.alloc(g:H p=none):Le K ρ H (ρ++[p]) (upd H p ho):=by
 refine⟨λn a h=>by rw[Aa (AD.mp h).1];exact h,(Gm (.inl g)).1,(Gm (.inl g)).2,λa o e h=>⟨by rw[Bh (Bx e g)];exact e,λn q=>?_⟩⟩
 rcases Ik q with⟨q,_⟩ | ⟨_,q⟩
 ·exact h n q
 ·exact Bx e g q
theorem CK.there(h:CK K ρ S H){m:Nat}(e:ρ[m]?=some a):∃o,S[m]?=some o/\FS K ρ H a o:=by
 have g:m < S.length:=by rw[<-h.len];exact(AD.mp e).1
 exact⟨S[m],by simp[g],h.ob m _ a (by simp[g]) e⟩
theorem CK.notIn(h:CK K ρ S H)(g:H p=none){m:Nat}(e:ρ[m]?=some p):False:=by
 obtain⟨o,_,r⟩:=h.there e;exact r.has g
theorem CK.alloc(h:CK K ρ S H)(A:H p=none)(E:FS K (ρ++[p]) (upd H p ho) p o):CK K (ρ++[p]) (S++[o]) (upd H p ho)/\Le K ρ H (ρ++[p]) (upd H p ho)/\(ρ++[p])[S.length]?=some p:=by
 have le:Le K ρ H (ρ++[p]) (upd H p ho):=Le.alloc A
 have at':∀(m:Nat) a,(ρ++[p])[m]?=some a->(ρ[m]?=some a/\m < ρ.length)∨(m=ρ.length/\a=p):=λm a e=>Ik e
 refine⟨⟨by simp[h.len],λi j a G I=>?_,λm J a s L=>?_⟩,le,by rw[<-h.len];simp⟩
 ·rcases at' i a G with⟨B,_⟩ | ⟨B,N⟩ <;> rcases at' j a I with⟨g,_⟩ | ⟨g,C⟩
  ·exact h.nd i j a B g
  ·rw[C]at B;exact(h.notIn A B).elim
  ·rw[N]at g;exact(h.notIn A g).elim
  ·lia
 ·rcases at' m a L with⟨l,O⟩ | ⟨rfl,rfl⟩
  ·rw[Aa (by rw[<-h.len];exact O)]at s
   refine(h.ob m J a s l).mono le (Bh λz=>?_);rw[z]at l;exact h.notIn A l
  ·rw[h.len]at s
   simp at s;subst s;exact E
theorem CK.write(h:CK K ρ S H)(j:ρ[n]?=some a)(l:FS K ρ (upd H a ho) a o)(le:Le K ρ H ρ (upd H a ho)):CK K ρ (S.set n o) (upd H a ho)/\Le K ρ H ρ (upd H a ho):=by
 refine⟨⟨by simp[h.len],h.nd,λm s b g hb=>?_⟩,le⟩
 by_cases e:m=n
 ·subst e
  rw[j]at hb;cases hb;rw[BH (by rw[<-h.len];exact(AD.mp j).1)]at g;cases g;exact l
 ·rw[A1 (CY e)]at g
  refine(h.ob m s b g hb).mono le (Bh λz=>?_);subst z;exact e (h.nd m n b hb j)
theorem Le.back{m:Sto}(l:Le K ρ H ρ' H')(s:CK K ρ S H)(s':CK K ρ' m H')(j:H' p=none):H p=none:=by
 cases q:H p with
 | none=>rfl
 | some o=>
  by_cases g:∃n:Nat,ρ[n]?=some p
  ·obtain⟨n,g⟩:=g
   exact(s'.notIn j (l.pre n p g)).elim
  ·have:=(l.oth p o q λn h=>g ⟨n,h⟩).1
   rw[j]at this;cases this
theorem CK.adopt(h:CK K ρ S H)(C:∀m:Nat,ρ[m]?≠some p)(E:FS K (ρ++[p]) H p o):CK K (ρ++[p]) (S++[o]) H/\(ρ++[p])[S.length]?=some p:=by
 have le:∀a ob,FS K ρ H a ob->FS K (ρ++[p]) H a ob:=λa ob r=>by
  have G:∀(n:Nat) a,ρ[n]?=some a->(ρ++[p])[n]?=some a:=λn a h=>by rw[Aa (AD.mp h).1];exact h
  exact r.mono' G
 refine⟨⟨by simp[h.len],λi j a I J=>?_,λm ob a l A=>?_⟩,by rw[<-h.len];simp⟩
 ·rcases Ik I with⟨s,_⟩ | ⟨s,L⟩ <;> rcases Ik J with⟨g,_⟩ | ⟨g,B⟩
  ·exact h.nd i j a s g
  ·rw[B]at s;exact(C i s).elim
  ·rw[L]at g;exact(C j g).elim
  ·lia
 ·rcases Ik A with⟨A,N⟩ | ⟨rfl,rfl⟩
  ·rw[Aa (by rw[<-h.len];exact N)]at l
   exact le a ob (h.ob m ob a l A)
  ·rw[h.len]at l
   simp at l;subst l;exact E
end
inductive Res(α:Type) where
 | ok (a:α) (S:Sto) | err (c:AV) (S:Sto) | bad
noncomputable def Res.bind{g β:Type}(r:Res g)(f:g->Sto->Res β):Res β:=match r with
 | .ok a S=>f a S
 | .err c S=>.err c S
 | .bad=>.bad
abbrev Lo:=List (Option D)
abbrev ME:=Lo->Sto->Res D
abbrev MT:=Lo->Sto->Res Bool
abbrev ML:=Lo->Sto->Res (List D)
inductive Fl where
 | nx (e:Lo) | rt (d:D) | bk (e:Lo) | ct (e:Lo) | ex (c:AV) (e:Lo)
abbrev MS:=Lo->Sto->Res Fl
abbrev MG:=D->Lo->Sto->Res Lo
abbrev Mm:=Sto->Option (List D)
abbrev MI:=Lo->Sto->Res Mm
structure FC(K:AG)(ρ:List AV)(H:Hp)(e:Lo)(σ:St):Prop where
 len:e.length=σ.length
 at':∀(i:Nat) d,e[i]?=some (some d)->∃v,σ[i]?=some (some v)/\B2 K ρ H d v
section
variable{K:AG}{ρ ρ':List AV}{H H':Hp}{e:Lo}{σ:St}
theorem FC.mono(l:Le K ρ H ρ' H')(h:FC K ρ H e σ):FC K ρ' H' e σ:=⟨h.len,λi d q=>by
 obtain⟨v,g,j⟩:=h.at' i d q
 exact⟨v,g,j.mono l⟩⟩
theorem FC.set(h:FC K ρ H e σ)(r:B2 K ρ H d v)(i:Nat):FC K ρ H (e.set i (some d)) (σ.set i (some v)):=by
 refine⟨by simp[h.len],λj m q=>?_⟩
 by_cases g:i=j
 ·subst g
  have l:i < e.length:=by
   have:=(AD.mp q).1;simpa using this
  rw[BH l]at q;cases q;exact⟨v,by rw[BH (by rw[<-h.len];exact l)],r⟩
 ·rw[A1 g]at q ⊢
  exact h.at' j m q
end
abbrev EW:=AV->St->Hp->Prop
abbrev EH:=AV->Hp->Prop
abbrev noE:EW:=λ_ _ _=>False
abbrev noH:EH:=λ_ _=>False
def CC{l:Type}(K:AG)(E:EH)(ρ:List AV)(H:Hp)(r:Res l)(k:l->Sto->Prop):Prop:=match r with
 | .ok a S=>k a S
 | .err c S=>∀g j,Le K ρ H g j->CK K g S j->E c j
 | .bad=>False
section
variable{K:AG}{E:EH}{ρ ρ1:List AV}{H H1:Hp}
theorem CC.seq(h:CC K E ρ H (r.bind F) k)(f:∀a S,CC K E ρ H (F a S) k->k' a S):CC K E ρ H r k':=by
 cases r with
 | ok a S=>exact f a S h
 | err c S=>exact h
 | bad=>exact h
theorem CC.later(h:CC K E ρ H r k)(l:Le K ρ H ρ1 H1):CC K E ρ1 H1 r k:=by
 cases r with
 | ok a S=>exact h
 | err c S=>exact λg j m=>h g j (l.trans m)
 | bad=>exact h
theorem CC.imp(h:CC K E ρ H r k)(f:∀a S,k a S->k' a S):CC K E ρ H r k':=by
 cases r with
 | ok a S=>exact f a S h
 | err c S=>exact h
 | bad=>exact h
theorem CC.go(h:CC K E ρ H r k)(l:Le K ρ H ρ1 H1)(f:∀a S,k a S->k' a S):CC K E ρ1 H1 r k':=(h.later l).imp f
end
def okR{g:Type}:Res g->Res g
 | .ok a S=>.ok a S
 | _=>.bad
theorem CC.okR{g:Type}{K:AG}{E:EH}{ρ:List AV}{H:Hp}{r:Res g}{k:g->Sto->Prop}(h:CC K E ρ H (L2.okR r) k):∃a S,r=.ok a S/\k a S:=by
 cases r with
 | ok a S=>exact⟨a,S,rfl,h⟩
 | err c S=>exact h.elim
 | bad=>exact h.elim
section
variable(K:AG)(E:EW)
def gE(m:ME):TE:=λo H Q=>∃j e S,FC K j H e o/\CK K j S H/\CC K (λc=>E c o) j H (m e S) λd s=>∀g l x,Le K j H g l->CK K g s l->B2 K g l d x->Q x l
def gT(m:MT):TT:=λo H Q=>∃j e S,FC K j H e o/\CK K j S H/\CC K (λc=>E c o) j H (m e S) λb s=>∀g l,Le K j H g l->CK K g s l->Q b l
def gA(m:ML):TA:=λo H Q=>∃j e S,FC K j H e o/\CK K j S H/\CC K (λc=>E c o) j H (m e S) λA B=>∀g l s,Le K j H g l->CK K g B l->A9 K g l A s->Q s l
def gL(m:ML):TE:=λo H Q=>∃l e S,FC K l H e o/\CK K l S H/\CC K (λc=>E c o) l H (m e S) λA B=>∀g j p s,Le K l H g j->CK K g B j->A9 K g j A s->j p=some (.lst s)->(∀n:Nat,g[n]?≠some p)->H p=none->Q (.ref p) j
def gQ(m:ML):TE:=λs H Q=>∃l e S,FC K l H e s/\CK K l S H/\CC K (λc=>E c s) l H (m e S) λA B=>∀g j p o,Le K l H g j->CK K g B j->A9 K g j A o->(SqL K j p o∨SqT K j p o)->Q (.ref p) j
def RH(K:AG)(E:EW)(ρ:List AV)(H:Hp)(o:Sto)(D:YE):Fl->Prop
 | .ex c m=>∀g j l,Le K ρ H g j->CK K g o j->FC K g j m l->E c l j
 | .nx m=>∀g j l,Le K ρ H g j->CK K g o j->FC K g j m l->D.nx l j
 | .bk m=>∀g j l,Le K ρ H g j->CK K g o j->FC K g j m l->D.bk l j
 | .ct m=>∀g j l,Le K ρ H g j->CK K g o j->FC K g j m l->D.ct l j
 | .rt d=>∀g j x,Le K ρ H g j->CK K g o j->B2 K g j d x->D.rt x j
def gS(m:MS):TS:=λD j H=>∃g e S,FC K g H e j/\CK K g S H/\CC K noH g H (m e S) λfl l=>RH K E g H l D fl
def gG(m:MG):TG:=λv s H Q=>∃j e S d,B2 K j H d v/\FC K j H e s/\CK K j S H/\CC K noH j H (m d e S) λA B=>∀g o l,Le K j H g o->CK K g B o->FC K g o A l->Q l o
def O5(l:List AV)(s:Hp)(J:It)(v:Mm):Prop:=∀m H S o (i:Nat),Le K l s m H->CK K m S H->v S=some o ->
 (o[i]?=none->J.stop i H)/\∀d,o[i]?=some d->J.go i H/\∀x j,J.yld i H x j->∃g,Le K m H g j/\CK K g S j/\B2 K g j d x
def gI(m:MI):TI:=λo H R=>∃j e S,FC K j H e o/\CK K j S H/\CC K (λc=>E c o) j H (m e S) λv s=>∀g l J,Le K j H g l->CK K g s l->O5 K g l J v->R J l
end
abbrev GE(X:Cx)(E:EW)(e:Expr)(m:ME):Prop:=PE X e (gE X.K E m)
abbrev GT(X:Cx)(E:EW)(e:Expr)(m:MT):Prop:=PT X e (gT X.K E m)
abbrev GA(X:Cx)(E:EW)(es:List Expr)(m:ML):Prop:=PA X es (gA X.K E m)
abbrev GL(X:Cx)(E:EW)(e:Expr)(m:ML):Prop:=PE X e (gL X.K E m)
abbrev GQ(X:Cx)(E:EW)(e:Expr)(m:ML):Prop:=PE X e (gQ X.K E m)
abbrev GS(X:Cx)(E:EW)(s:D6)(m:MS):Prop:=PS X s (gS X.K E m)
abbrev GSs(X:Cx)(E:EW)(s:List D6)(m:MS):Prop:=PSs X s (gS X.K E m)
abbrev GG(X:Cx)(t:Expr)(m:MG):Prop:=PG X t (gG X.K m)
abbrev GI(X:Cx)(E:EW)(g t:Expr)(m:MI):Prop:=PI X g t (gI X.K E m)
theorem PE.imp(h:PE X e t)(i:∀g H Q,t' g H Q->t g H Q):PE X e t':=λj s g H Q I q=>h j s g H Q I (i g H Q q)
theorem PT.imp(h:PT X e t)(i:∀g H Q,t' g H Q->t g H Q):PT X e t':=λj s g H Q I q=>h j s g H Q I (i g H Q q)
theorem PW.imp(h:PW X e t)(i:∀g H Q,t' g H Q->t g H Q):PW X e t':=λj l s g H Q I q=>h j l s g H Q I (i g H Q q)
theorem PA.imp(h:PA X e t)(i:∀g H Q,t' g H Q->t g H Q):PA X e t':=λj l s g H Q I q=>h j l s g H Q I (i g H Q q)
theorem PS.imp(h:PS X e t)(i:∀D g H,t' D g H->t D g H):PS X e t':=λj s g H D I q=>h j s g H D I (i D g H q)
theorem PSs.imp(h:PSs X e t)(i:∀D g H,t' D g H->t D g H):PSs X e t':=λj s g H D I q=>h j s g H D I (i D g H q)
theorem PG.imp(h:PG X e t)(i:∀v g H Q,t' v g H Q->t v g H Q):PG X e t':=λj s g H v u Q I r q=>h j s g H v u Q I r (i v g H Q q)
theorem PI.imp(h:PI X j e t)(i:∀g H R,t' g H R->t g H R):PI X j e t':=λl s g H R I q=>h l s g H R I (i g H R q)
theorem OpR.imp(h:OpR X f r)(i:∀x y H Q,r' x y H Q->r x y H Q):OpR X f r':=λg s j H x y v u Q I l m q=>h g s j H x y v u Q I l m (i x y H Q q)
theorem IxR.imp(h:IxR X r)(i:∀x y H Q,r' x y H Q->r x y H Q):IxR X r':=λg sl j s l H x y v u Q I m o q=>h g sl j s l H x y v u Q I m o (i x y H Q q)
def AE(i:Nat):ME:=λe S=>match e[i]? with
 | some (some d)=>.ok d S
 | _=>.bad
def mC(d:D):ME:=λ_ S=>.ok d S
section
variable{X:Cx}{E:EW}{e a b:Expr}{pos:Pos}{ma mb:ME}
theorem AB(h:PE X e (nB i)):GE X E e (AE i):=h.imp<|by
 rintro B H Q ⟨j,l,S,m,o,g⟩
 unfold AE at g;split at g
 ·rename_i C hd
  obtain⟨v,s,A⟩:=m.at' i _ hd;exact⟨v,s,g j H v .refl o A⟩
 ·exact g.elim
theorem fZ(h:PE X e (tC v))(hd:∀ρ H,B2 X.K ρ H d v):GE X E e (mC d):=h.imp<|by
 rintro m H Q ⟨ρ,l,S,o,g,j⟩
 exact j ρ H v .refl g (hd _ _)
theorem ge_int{i j pos}:GE X E (.Constant (.int i) j pos) (mC (.int i)):=fZ n8 λ_ _=>.int i
theorem LF{b j pos}:GE X E (.Constant (.bool b) j pos) (mC (.bl b)):=fZ rM λ_ _=>.bl b
theorem UV{j pos}:GE X E (.Constant .none j pos) (mC .non):=fZ ny λ_ _=>.non
theorem pH{x j pos}:GE X E (.Constant (.str x) j pos) (mC (.str x)):=fZ nv λ_ _=>.str x
theorem fX(g:Gl X x)(j:X.mg x=some (.int i tk))(hd:(x==("__debug__" : Str))=false:=by decide):GE X E (.Name x pos) (mC (.int i)):=
 fZ (Yu (v:=.int i) g j ⟨tk,rfl⟩ hd) λ_ _=>.int i
def m2(f:D->D->Sto->Res D)(ma mb:ME):ME:=λe S=>(ma e S).bind λx g=>(mb e g).bind λy j=>okR (f x y j)
def rD(K:AG)(f:D->D->Sto->Res D):R2:=λu v H Q=>∃j S x y d m,CK K j S H/\B2 K j H x u/\B2 K j H y v/\f x y S=.ok d m /\
 ∀g l z,Le K j H g l->CK K g m l->B2 K g l d z->Q z l
theorem Oi{K:AG}{f:D->D->Sto->Res D}{A:St}{H:Hp}{Q:VK}(h:gE K E (m2 f ma mb) A H Q):tOp (rD K f) (gE K E ma) (gE K E mb) A H Q:=by
 obtain⟨G,l,S,B,I,g⟩:=h;refine⟨G,l,S,B,I,g.seq λx J g j H1 u m L N=>⟨j,l,J,B.mono m,L,(g.later m).seq λy O g o H2 v C P R=>?_⟩⟩;obtain⟨d,T,e,k⟩:=g.okR;exact⟨o,O,x,y,d,T,P,N.mono C,R,e,λs U z Y Z r'=>k s U z (m.trans (C.trans Y)) Z r'⟩
theorem BZ(ho:OpR X (Du g) (rD X.K f))(j:GE X E a ma)(hb:GE X E b mb):GE X E (.BinOp a g b pos) (m2 f ma mb):=(rK ho j hb).imp λ_ _ _ h=>Oi h
theorem sP(ho:IxR X (rD X.K f))(g:GE X E a ma)(hb:GE X E b mb)(j:Ur b:=by intro _ _;rfl):GE X E (.Subscript a b pos) (m2 f ma mb):=(rL ho g hb j).imp λ_ _ _ h=>Oi h
def mB(m:ME):MT:=λe S=>(m e S).bind λd g=>match d with
 | .bl b=>.ok b g
 | _=>.bad
noncomputable def V7(d:D)(S:Sto):Option Bool:=match d with
 | .non=>some false
 | .bl b=>some b
 | .int i=>some (i != 0)
 | .tup g=>some (!g.isEmpty)
 | .fro g=>some (!g.isEmpty)
 | .ref n=>match S[n]? with
  | some (.lst g)=>some (!g.isEmpty)
  | some (.dK j)=>some (!j.isEmpty)
  | _=>none
 | _=>none
def V8(m:ME):MT:=λe S=>(m e S).bind λd g=>match V7 d g with
 | some b=>.ok b g
 | none=>.bad
theorem A9.empty{K}{ρ}{H}{ds}{g}(h:A9 K ρ H ds g):ds.isEmpty=g.isEmpty:=by cases h <;> rfl
theorem KVR.empty{g:Type}{K:AG}{ρ:List AV}{H:Hp}{x:List (g×D)}{y:List (g×V)}(h:KVR K ρ H x y):x.isEmpty=y.isEmpty:=by cases h <;> rfl
theorem iY{K:AG}{ρ:List AV}{H:Hp}{S:Sto}{d:D}{x:V}{b:Bool}(s:CK K ρ S H)(r:B2 K ρ H d x)(h:V7 d S=some b):pY K x H b:=by
 cases r with
 | non=>cases h;rfl
 | bl c=>cases h;rfl
 | int i=>cases h;rfl
 | str x=>cases h
 | tup g j=>cases h;rw[j.empty];exact .inr (.inl ⟨_,.inl (.inl g),rfl⟩)
 | fro g j=>cases h;rw[j.empty];exact .inl ⟨_,g.sq,rfl⟩
 | exc _ _=>cases h
 | @ref n a A=>
  obtain⟨o,B,m⟩:=s.there A;unfold V7 at h;simp only[B]at h
  cases o with
  | lst J=>cases h;obtain⟨G,e,l⟩:=m;rw[l.empty];exact .inl ⟨_,.inl (.inl e),rfl⟩
  | dK I=>cases h;obtain⟨G,e,l⟩:=m;rw[KVR.empty l];exact .inr (.inr ⟨_,e,rfl⟩)
  | dT I=>cases h
  | ins C fs=>cases h
  | fK _=>cases h
  | fT _=>cases h
  | mem _=>cases h
theorem Xy(h:GE X E e ma)(o:∀g,Wx e X.env g=(do let v <-g;p7 e.pos;qA [v] (lW v)):=by intro _;rfl):GT X E e (mB ma):=(nW h o).imp<|by
 rintro L H Q ⟨s,l,S,A,B,j⟩
 refine⟨s,l,S,A,B,j.seq λd N j m C x G I J=>?_⟩
 cases d <;> first | exact j.elim | skip
 cases J;exact⟨_,rfl,j m C G I⟩
theorem WE(h:GE X E e ma)(s:∀g,Wx e X.env g=(do let v <-g;p7 e.pos;qA [v] (lW v)):=by intro _;rfl):GT X E e (V8 ma):=(dJ h s).imp<|by
 rintro N H Q ⟨A,l,S,B,C,j⟩
 refine⟨A,l,S,B,C,j.seq λd G j m I x J o L=>?_⟩
 cases hb:V7 d G with
 | none=>rw[hb]at j;exact j.elim
 | some c=>
  rw[hb]at j;exact⟨c,iY o L hb,j m I J o⟩
theorem DW{j}{f}(ho:OpR X (B4 j) (rD X.K f))(o:GE X E a ma)(hb:GE X E b mb)(g:EU j b=false):GT X E (.Compare a [j] [b] pos) (mB (m2 f ma mb)):=(jF ho o hb g).imp<|by
 rintro N H Q ⟨s,l,S,A,B,g⟩
 refine Oi (Q:=λx C=>∃k,x=.bl k/\Q k C) ⟨s,l,S,A,B,g.seq λd O g m G x I J L=>?_⟩
 cases d <;> first | exact g.elim | skip
 cases L;exact⟨_,rfl,g m G I J⟩
def Pu(m:MT):MT:=λe S=>(m e S).bind λb g=>.ok (!b) g
def Ot(ma mb:MT):MT:=λe S=>(ma e S).bind λb g=>if b=true then mb e g else .ok false g
def mOr(ma mb:MT):MT:=λe S=>(ma e S).bind λb g=>if b=true then .ok true g else mb e g
variable{ta tb:MT}{rest:List Expr}
theorem Oy(h:GT X E a ta):GT X E (.UnaryOp .Not a pos) (Pu ta):=(nX h).imp<|by
 rintro G H Q ⟨m,l,S,o,s,g⟩
 exact⟨m,l,S,o,s,g.seq λd I g j A B C=>g j A B C⟩
theorem ik{K}{s}{H}{Q}(h:gT K E (Ot ta tb) s H Q):qz (gT K E ta) (gT K E tb) s H Q:=by
 obtain⟨C,l,S,A,G,g⟩:=h;refine⟨C,l,S,A,G,g.seq λc I g j J m B=>?_⟩
 cases c with
 | true=>rw[qX rfl]at g ⊢;exact⟨j,l,I,A.mono m,B,g.go m λ_ _ k o L N O=>k o L (m.trans N) O⟩
 | false=>rw[qY Ac]at g ⊢;exact g j J m B
theorem nC{K}{s}{H}{Q}(h:gT K E (mOr ta tb) s H Q):tOr (gT K E ta) (gT K E tb) s H Q:=by
 obtain⟨C,l,S,A,G,g⟩:=h;refine⟨C,l,S,A,G,g.seq λc I g j J m B=>?_⟩
 cases c with
 | false=>rw[qY Ac]at g ⊢;exact⟨j,l,I,A.mono m,B,g.go m λ_ _ k o L N O=>k o L (m.trans N) O⟩
 | true=>rw[qX rfl]at g ⊢;exact g j J m B
abbrev GW(X:Cx)(E:EW)(e:Expr)(m:MT):Prop:=PW X e (gT X.K E m)
theorem Ma(g:GT X E a ta):GW X E (.BoolOp .And [a] pos) ta:=jD g
theorem NF(g:GT X E a ta):GW X E (.BoolOp .Or [a] pos) ta:=nU g
theorem Ow(g:GT X E a ta)(hb:GW X E (.BoolOp .And (b :: rest) pos) tb):GW X E (.BoolOp .And (a :: b :: rest) pos) (Ot ta tb):=(nV g hb).imp λ_ _ _ h=>ik h
theorem N7(g:GT X E a ta)(hb:GW X E (.BoolOp .Or (b :: rest) pos) tb):GW X E (.BoolOp .Or (a :: b :: rest) pos) (mOr ta tb):=(rG g hb).imp λ_ _ _ h=>nC h
theorem Ox(h:GW X E e t):GT X E e t:=PW.pt h
def eW(ma mb:ME):ME:=λe S=>(ma e S).bind λd g=>match d with
 | .bl true=>mb e g
 | .bl false=>.ok (.bl false) g
 | _=>.bad
theorem pI{g}(h:GE X E a ma):GE X E (.BoolOp g [a] pos) ma:=nw h
theorem pK(B:GE X E a ma)(hb:GE X E (.BoolOp .And (b :: rest) pos) mb):GE X E (.BoolOp .And (a :: b :: rest) pos) (eW ma mb):=(oB B hb).imp<|by
 rintro T H Q ⟨C,l,S,s,G,g⟩
 refine⟨C,l,S,s,G,g.seq λc I g j J x m A L=>?_⟩
 cases c with
 | bl c=>
  cases L;refine⟨c,rfl,?_⟩
  cases c with
  | true=>rw[qX rfl];exact⟨j,l,I,s.mono m,A,g.go m λ_ _ k o N z O P R=>k o N z (m.trans O) P R⟩
  | false=>rw[qY Ac];exact g j J _ m A (.bl false)
 | _=>exact g.elim
def m3(f g:D->D->Sto->Res D)(ma mb l:ME):ME:=λe S=>(ma e S).bind λx m=>(mb e m).bind λy o=>(okR (f x y o)).bind λz j=>match z with
 | .bl true=>(l e j).bind λw s=>okR (g y w s)
 | .bl false=>.ok (.bl false) j
 | _=>.bad
def BY:ML:=λ_ S=>.ok [] S
def AU(m:ME)(r:ML):ML:=λe S=>(m e S).bind λd g=>(r e g).bind λj l=>.ok (d :: j) l
variable{es:List Expr}{ml:ML}
theorem BC:GA X E [] BY:=Gj.imp<|by
 rintro o H Q ⟨g,l,S,s,j,m⟩
 exact m g H [] .refl j .nil
theorem AR(C:GE X E e ma)(G:GA X E es ml)(j:AO (e :: es) X.env=(false,Bt e X.env) :: AO es X.env:=by rfl):GA X E (e :: es) (AU ma ml):=(EF C G j).imp<|by
 rintro U H Q ⟨I,l,S,A,j,g⟩
 exact⟨I,l,S,A,j,g.seq λd J g m Y x o L N=>⟨m,l,J,A.mono o,L,(g.later o).seq λZ S2 g s O P B R T=>g s O (x :: P) (o.trans B) R (.cons (N.mono B) T)⟩⟩
def KC(m:ML):ME:=λe S=>(m e S).bind λg j=>if g.length<=sizeLine then .ok (.tup g) j else .bad
theorem HK{K}{ρ}{H}{S}{p}{ho}(g:CK K ρ S H)(j:H p=none):CK K ρ S (upd H p ho)/\Le K ρ H ρ (upd H p ho):=by
 have le:Le K ρ H ρ (upd H p ho):=Le.fresh j;refine⟨⟨g.len,g.nd,λn o a m l=>(g.ob n o a m l).mono le (Bh λz=>?_)⟩,le⟩;subst z;exact g.notIn j l
theorem Il{s}(h:GA X E es ml):GE X E (.Tuple es s pos) (KC ml):=(nu h).imp<|by
 rintro P H Q ⟨A,l,S,B,C,g⟩
 refine⟨A,l,S,B,C,g.seq λR T g j U G I J m=>?_⟩;split at g
 ·rename_i L
  refine⟨by rw[<-m.length];exact L,λp N=>?_⟩;obtain⟨O,o⟩:=HK (ho:=.tup G) J N;exact g j _ _ (I.trans o) O (.tup Bq (m.mono o))
 ·exact g.elim
def De(m:ML):ML:=λe S=>(m e S).bind λg j=>if g.length<=sizeLine then .ok g j else .bad
theorem F7(h:GA X E es ml):GL X E (.List es pos) (De ml):=(nz h).imp<|by
 rintro O H Q ⟨I,l,S,J,s,g⟩
 refine⟨I,l,S,J,s,g.seq λP R g j T A B m C=>?_⟩;split at g
 ·rename_i L
  refine⟨by rw[<-C.length];exact L,λp o=>?_⟩;obtain⟨N,G⟩:=HK (ho:=.lst A) m o;exact g j _ p A (B.trans G) N (C.mono G) Bq (λn q=>m.notIn o q) (B.back s m o)
 ·exact g.elim
def DV(m:ML):ME:=λe S=>(m e S).bind λj g=>.ok (.ref g.length) (g++[.lst j])
theorem Cf(h:GL X E e ml):GE X E e (DV ml):=PE.imp h<|by
 rintro U H Q ⟨B,l,S,C,G,m⟩
 refine⟨B,l,S,C,G,m.seq λI Y m g Z p J j L N O P R=>?_⟩
 have A:∀(n:Nat) a,g[n]?=some a->(g++[p])[n]?=some a:=λn a h=>by rw[Aa (AD.mp h).1];exact h
 obtain⟨T,s⟩:=L.adopt (o:=.lst I) P ⟨J,O,N.more A⟩;refine m _ _ _ ⟨λn a h=>A n a (j.pre n a h),j.tup,j.frz,λa o e h=>⟨(j.oth a o e h).1,λn q=>?_⟩⟩ T (.ref s)
 rcases Ik q with⟨q,_⟩ | ⟨_,q⟩
 ·exact(j.oth a o e h).2 n q
 ·exact Bx e R q
noncomputable def GZ(d:D)(S:Sto):Option (List D):=match d with
 | .tup g=>some g
 | .fro g=>some g
 | .ref n=>match S[n]? with
  | some (.lst g)=>some g
  | _=>none
 | _=>none
def Kn(m:ME):ML:=λe S=>(m e S).bind λd g=>match GZ d g with
 | some j=>.ok j g
 | none=>.bad
theorem Nk{K}{ρ}{H}{S}{d}{x}{ds}(l:CK K ρ S H)(r:B2 K ρ H d x)(h:GZ d S=some ds):∃p xs,x=.ref p/\A9 K ρ H ds xs/\(SqL K H p xs∨SqT K H p xs):=by
 cases r with
 | tup g j=>cases h;exact⟨_,_,rfl,j,.inr (.inl (.inl g))⟩
 | fro g j=>cases h;exact⟨_,_,rfl,j,.inl g.sq⟩
 | @ref n a m=>
  obtain⟨o,s,A⟩:=l.there m;unfold GZ at h;simp only[s]at h
  cases o with
  | lst es=>cases h;obtain⟨C,e,B⟩:=A;exact⟨_,_,rfl,B,.inl (.inl (.inl e))⟩
  | _=>cases h
 | _=>cases h
theorem ZC(h:GE X E e ma):GQ X E e (Kn ma):=PE.imp h<|by
 rintro O H Q ⟨s,l,S,A,B,g⟩
 refine⟨s,l,S,A,B,g.seq λx C g j G v I o J=>?_⟩
 cases m:GZ x C with
 | none=>rw[m]at g;exact g.elim
 | some P=>
  rw[m]at g;obtain⟨p,L,rfl,N,sq⟩:=Nk o J m;exact g j G p L I o N sq
end
noncomputable def Res.lift{g:Type}(r:Res g)(e:Lo)(f:g->Sto->Res Fl):Res Fl:=match r with
 | .ok a S=>f a S
 | .err c S=>.ok (.ex c e) S
 | .bad=>.bad
theorem CC.lift{m:Type}{K:AG}{E:EW}{ρ g:List AV}{H j:Hp}{o:St}{e:Lo}{D:YE}{r:Res m}{F:m->Sto->Res Fl}{k':m->Sto->Prop}(h:CC K noH g j (r.lift e F) λfl s=>RH K E ρ H s D fl)(C:FC K g j e o)(l:Le K ρ H g j)
  (f:∀a S,(CC K noH g j (F a S) λfl s=>RH K E ρ H s D fl)->k' a S):CC K (λc=>E c o) g j r k':=by
 cases r with
 | ok a S=>exact f a S h
 | err c S=>exact λA G B I=>h A G o (l.trans B) I (C.mono B)
 | bad=>exact h
def sNx:MS:=λe S=>.ok (.nx e) S
def T5:MS:=λ_ _=>.bad
def BU(a b:MS):MS:=λe S=>(a e S).bind λf g=>match f with
 | .nx j=>b j g
 | f=>.ok f g
def C6(m:ME):MS:=λe S=>(m e S).lift e λ_ g=>.ok (.nx e) g
def EY(m:ME):MS:=λe S=>(m e S).lift e λd g=>.ok (.rt d) g
def sIf(t:MT)(a b:MS):MS:=λe S=>(t e S).lift e λc g=>if c=true then a e g else b e g
def Qm(m:ME)(g:MG):MS:=λe S=>(m e S).lift e λd j=>(g d e j).bind λl o=>.ok (.nx l) o
def tgN(i:Nat):MG:=λd e S=>.ok (e.set i (some d)) S
def Bu(i:Nat)(m:ME):MS:=Qm m (tgN i)
section
variable{X:Cx}{E:EW}{st:D6}{rest:List D6}{e:Expr}{pos:Pos}{a b:MS}{t:MT}
theorem RH.later{K}{ρ s}{H A}{S}{D}{f}(l:Le K ρ H s A)(h:RH K E ρ H S D f):RH K E s A S D f:=by
 cases f with
 | nx e=>exact λg m j o=>h g m j (l.trans o)
 | bk e=>exact λg m j o=>h g m j (l.trans o)
 | ct e=>exact λg m j o=>h g m j (l.trans o)
 | ex c e=>exact λg m j o=>h g m j (l.trans o)
 | rt d=>exact λg m x o=>h g m x (l.trans o)
theorem DP:GSs X E [] sNx:=jH.imp<|by
 rintro D g H ⟨j,l,S,m,o,s⟩
 exact s j H g .refl o m
theorem AW(s:GS X E st a)(A:GSs X E rest b):GSs X E (st :: rest) (BU a b):=(dN s A).imp<|by
 rintro D P H ⟨B,l,S,C,G,j⟩
 refine⟨B,l,S,C,G,j.seq λg I j=>?_⟩
 cases g with
 | nx J=>exact λm Q L o N O=>⟨m,J,I,O,N,j.go o λ_ _ k=>k.later o⟩
 | rt d=>exact j
 | bk d=>exact j
 | ct d=>exact j
 | ex c d=>exact j
theorem Ay(g:GS X E st a):GSs X E [st] a:=jG g
theorem Lv:GS X E st T5:=(dP (X:=X) (st:=st)).imp λD j H ⟨m,l,S,o,s,g⟩=>g.elim
theorem DG(B:GE X E e m)(g:GR e none pos.line X.env=pure false:=by rfl):GS X E (.Expr e pos) (C6 m):=(jI B g).imp<|by
 rintro D C H ⟨G,l,S,j,g,o⟩
 exact⟨G,l,S,j,g,o.lift j .refl λd L o s I x A J N=>o s I C A J (j.mono A)⟩
theorem Cr(s:GE X E e m):GS X E (.Return (some e) pos) (EY m):=(nZ s).imp<|by
 rintro D L H ⟨A,l,S,o,B,g⟩
 exact⟨A,l,S,o,B,g.lift o .refl λd N g j C x G I J=>g j C x G I J⟩
theorem En{c}{s A}(G:GT X E c t)(I:GSs X E s a)(hb:GSs X E A b):GS X E (.If c s A pos) (sIf t a b):=(rH G I hb).imp<|by
 rintro D N H ⟨J,l,S,o,L,g⟩
 refine⟨J,l,S,o,L,g.lift o .refl λc B g m O j C=>?_⟩
 cases c with
 | true=>rw[qX rfl]at g ⊢;exact⟨m,l,B,o.mono j,C,g.go j λ_ _ k=>k.later j⟩
 | false=>rw[qY Ac]at g ⊢;exact⟨m,l,B,o.mono j,C,g.go j λ_ _ k=>k.later j⟩
theorem j7(h:PG X g (ZH i)):GG X g (tgN i):=h.imp<|by
 rintro v A H Q ⟨j,l,S,d,hd,m,o,s⟩
 exact s j H _ .refl o (m.set hd i)
theorem fS{j:Expr}{g:MG}(J:GE X E e m)(L:GG X j g)(s:swapsWithSole [j] e pos.line X.env=pure false:=by rfl)(hw:swappedStores [j] e X.env=pure none:=by rfl)
  (N:(Ew [j] X.env).map (·.2)=[QF j X.env]:=by rfl):GS X E (.Assign [j] e pos) (Qm m g):=(nj J L s hw N).imp<|by
 rintro D σ H ⟨O,l,S,A,s,o⟩
 exact⟨O,l,S,A,s,o.lift A .refl λd P o B H1 x C Q R=>⟨B,l,P,d,R,A.mono C,Q,(o.later C).seq λe1 S2 o G T I U Y Z=>o G T I (C.trans U) Y Z⟩⟩
theorem pD{i}{x}{g}(C:X.N.Nodup)(hi:X.N[i]?=some x)(G:Loc X.env.scope x)(I:GE X E e m)(j:GR e (some (.Name x g)) pos.line X.env=pure false:=by rfl)
  (J:X.fn x=true∨X.env.scope.names.lookup x=some .local:=by first | exact .inl rfl | exact .inr rfl | assumption):GS X E (.Assign [.Name x g] e pos) (Bu i m):=(nY C hi G I j J).imp<|by
 rintro D R H ⟨L,l,S,o,j,s⟩
 exact⟨L,l,S,o,j,s.lift o .refl λd T s A O x B P Q=>s A O _ B P ((o.mono B).set Q i)⟩
def Im(v:Mm)(g:MG)(b:MS):Nat->Nat->Lo->Sto->Res Fl
 | k,i,e,S=>match v S with
  | none=>.bad
  | some m=>match m[i]? with
   | none=>.ok (.nx e) S
   | some d=>match k with
    | 0=>.bad
    | k+1=>(g d e S).bind λo s=>(b o s).bind λf l=>match f with
     | .nx j=>Im v g b k (i+1) j l
     | .ct j=>Im v g b k (i+1) j l
     | .bk j=>.ok (.nx j) l
     | .rt d=>.ok (.rt d) l
     | .ex c j=>.ok (.ex c j) l
def DE(v:Mm)(S:Sto):Nat:=match v S with
 | none=>0
 | some g=>g.length
def Hb(m:MI)(g:MG)(b:MS):MS:=λe S=>(m e S).lift e λv j=>Im v g b (DE v j) 0 e j
theorem E8{tg iter}{body}{mi}{g}(hp:O9 (Am X.prog X.w) X.A X.env X.xe)(hc:X.calm=true)(hi:GI X E tg iter mi)(hg:GG X tg g)(hb:GSs X E body b)
  (hs:∀x,Fb iter X.env x=pure x:=by intro _;rfl):GS X E (.For tg iter body [] pos) (Hb mi g b):=(ng hp hc hi hg hb hs).imp<|by
 rintro D σ H ⟨ρ,l,S,hl,hs,hm⟩
 refine⟨ρ,l,S,hl,hs,hm.lift hl .refl λv S1 hm L H1 J Y s1 vo=>?_⟩;refine⟨λi n N O=>∃j P C,Le X.K L H1 j O/\FC X.K j O P N/\CK X.K j C O/\CC X.K noH j O (Im v g b n i P C) λfl S'=>RH X.K E ρ H S' D fl,⟨DE v S1,L,l,S1,.refl,hl.mono Y,s1,hm.later Y⟩,?_⟩;rintro i n N O ⟨j,P,C,Q,r2,s2,m⟩;unfold Im at m
 cases hv:v C with
 | none=>rw[hv]at m;exact m.elim
 | some ds=>
  rw[hv]at m;dsimp only at m;obtain⟨v1,v2⟩:=vo j O C ds i Q s2 hv
  cases hd:ds[i]? with
  | none=>
   rw[hd]at m;exact .inl ⟨v1 hd,m j O N (Y.trans Q) s2 r2⟩
  | some d=>
   rw[hd]at m;dsimp only at m;obtain⟨go,yl⟩:=v2 d hd
   cases n with
   | zero=>exact m.elim
   | succ n=>
    dsimp only at m;refine .inr ⟨go,λσ' R=>∃j P C,Le X.K L H1 j R/\FC X.K j R P σ'/\CK X.K j C R/\CC X.K noH j R (Im v g b n (i+1) P C) λfl S'=>RH X.K E ρ H S' D fl,λσ' R q=>⟨n,CG n,q⟩,λx R y=>?_⟩;obtain⟨ρ3,T,s3,rd⟩:=yl x R y;refine⟨ρ3,P,C,d,rd,r2.mono T,s3,(m.later T).seq λe3 S3 m ρ4 H4 σ4 Z s4 r4=>?_⟩;refine⟨ρ4,e3,S3,r4,s4,(m.later Z).seq λf4 S4 m=>?_⟩
    cases f4 with
    | nx e5=>exact λo U s B G I=>⟨o,e5,S4,Q.trans (T.trans (Z.trans B)),I,G,m.later B⟩
    | ct e5=>exact λo U s B G I=>⟨o,e5,S4,Q.trans (T.trans (Z.trans B)),I,G,m.later B⟩
    | bk e5=>exact λo U s B G I=>m o U s (Y.trans (Q.trans (T.trans (Z.trans B)))) G I
    | ex c e5=>exact λo U s B G I=>m o U s (Y.trans (Q.trans (T.trans (Z.trans B)))) G I
    | rt d5=>exact λo U x5 B G I=>m o U x5 (Y.trans (Q.trans (T.trans (Z.trans B)))) G I
def E3(c:MT)(b:MS):Nat->MS
 | 0=>λ_ _=>.bad
 | n+1=>λe S=>(c e S).lift e λt l=>if t=true then(b e l).bind λf j=>match f with
   | .nx g=>E3 c b n g j
   | .ct g=>E3 c b n g j
   | .bk g=>.ok (.nx g) j
   | .rt d=>.ok (.rt d) j
   | .ex c g=>.ok (.ex c g) j
  else .ok (.nx e) l
theorem N8{c}{body}(N:Nat)(hp:O9 (Am X.prog X.w) X.A X.env X.xe)(hc:GT X E c t)(hb:GSs X E body b):GS X E (.While c body [] pos) (E3 t b N):=(dO hp hc hb).imp<|by
 rintro D σ H ⟨Q,l,S,hl,hs,hm⟩
 refine⟨λn J R=>∃g I L,Le X.K Q H g R/\FC X.K g R I J/\CK X.K g L R/\CC X.K noH g R (E3 t b n I L) λfl S'=>RH X.K E Q H S' D fl,⟨N,Q,l,S,.refl,hl,hs,hm⟩,?_⟩;rintro n J R ⟨g,I,L,O,r2,s2,m⟩
 cases n with
 | zero=>exact m.elim
 | succ n=>
  refine⟨g,I,L,r2,s2,m.lift r2 O λtc S3 m T H3 B s3=>?_⟩
  cases tc with
  | false=>rw[qY Ac]at m ⊢;exact m T H3 J (O.trans B) s3 (r2.mono B)
  | true=>
   rw[qX rfl]at m ⊢;refine⟨λU Y=>∃g I L,Le X.K Q H g Y/\FC X.K g Y I U/\CK X.K g L Y/\CC X.K noH g Y (E3 t b n I L) λfl S'=>RH X.K E Q H S' D fl,λU Y q=>⟨n,CG n,q⟩,?_⟩;refine⟨T,I,S3,r2.mono B,s3,(m.later B).seq λf4 S4 m=>?_⟩
   cases f4 with
   | nx Z=>exact λj P o s C G=>⟨j,Z,S4,O.trans (B.trans s),G,C,m.later s⟩
   | ct Z=>exact λj P o s C G=>⟨j,Z,S4,O.trans (B.trans s),G,C,m.later s⟩
   | bk Z=>exact λj P o s C G=>m j P o (O.trans (B.trans s)) C G
   | ex c Z=>exact λj P o s C G=>m j P o (O.trans (B.trans s)) C G
   | rt d5=>exact λj P x5 s C G=>m j P x5 (O.trans (B.trans s)) C G
end
section
variable{X:Cx}{E:EW}{tg e:Expr}{m:ME}{K:AG}
noncomputable def PK(d:D):Mm:=λS=>match d with
 | .ref n=>match S[n]? with
  | some (.lst g)=>some g
  | _=>none
 | .fro g=>some g
 | _=>none
def JE(ds:List D):Mm:=λ_=>some ds
def sM(m:ME):MI:=λe S=>(m e S).bind λd g=>match PK d g with
 | some _=>.ok (PK d) g
 | none=>.bad
def lL(m:ME):MI:=λe S=>(m e S).bind λd g=>match d with
 | .tup j=>.ok (JE j) g
 | _=>.bad
theorem VR(s:CK K ρ S H)(r:B2 K ρ H d (.ref a))(g:PK d S=some ds):∃xs,SqL K H a xs/\A9 K ρ H ds xs:=by
 cases r with
 | tup j l=>cases g
 | exc _ _=>cases g
 | fro j l=>cases g;exact⟨_,j.sq,l⟩
 | @ref n _ A=>
  obtain⟨o,B,C⟩:=s.there A;unfold PK at g;simp only[B]at g
  cases o with
  | lst J=>
   cases g;obtain⟨G,e,I⟩:=C;exact⟨G,.inl (.inl e),I⟩
  | _=>cases g
theorem XF(r:B2 K ρ H d (.ref a)):O5 K ρ H (Itl K a) (PK d):=by
 intro g J S L i l s B;obtain⟨j,sq,o⟩:=VR s (r.mono l) B;refine⟨λC=>⟨j,sq,by rw[<-o.length];exact Fg.mp C⟩,λd hd=>?_⟩;obtain⟨x,A,G⟩:=o.get hd;refine⟨⟨j,x,sq,A⟩,λy N ⟨e,I⟩=>?_⟩;subst e;have:=I j sq;rw[A]at this;cases this;exact⟨g,.refl,s,G⟩
theorem pF(h:GE X E e m):GI X E tg e (sM m):=(jO h).imp<|by
 rintro O H R ⟨B,l,S,C,G,g⟩
 refine⟨B,l,S,C,G,g.seq λd I g o J x L A s=>?_⟩
 cases j:PK d I with
 | none=>rw[j]at g;exact g.elim
 | some P=>
  rw[j]at g
  have:∃a,x=.ref a:=by
   cases s <;> first | exact⟨_,rfl⟩ | (cases j;done)
  obtain⟨a,rfl⟩:=this;obtain⟨N,sq,_⟩:=VR A s j;exact⟨a,rfl,⟨N,sq⟩,g o J _ L A (XF s)⟩
theorem QU(A:H a=some (.tup xs))(B:A9 K ρ H ds xs):O5 K ρ H (Itt K a) (JE ds):=by
 intro g C S N i l s G;cases G;have j:=B.mono l;have sq:SqT K C a xs:=.inl (.inl (l.tup _ _ A));refine⟨λI=>⟨xs,sq,by rw[<-j.length];exact Fg.mp I⟩,λd hd=>?_⟩;obtain⟨x,o,J⟩:=j.get hd;refine⟨⟨xs,x,sq,o⟩,λy O ⟨e,L⟩=>?_⟩;subst e;have:=L xs sq;rw[o]at this;cases this;exact⟨g,.refl,s,J⟩
theorem pE(h:GE X E e m):GI X E tg e (lL m):=(nk h).imp<|by
 rintro N H R ⟨s,l,S,A,B,g⟩
 refine⟨s,l,S,A,B,g.seq λd O g j C x G I J=>?_⟩
 cases d <;> first | exact g.elim | skip
 cases J with
 | tup o L=>exact⟨_,rfl,⟨_,.inl (.inl o)⟩,g j C _ G I (QU o L)⟩
noncomputable def Ii(lo:Int)(n:Nat):List D:=(BM n).map λi:Nat=>D.int (lo+i)
theorem Sj(lo:Int)(n i:Nat):(Ii lo n)[i]?=if i < n then some (.int (lo+i))else none:=by
 unfold Ii;rw[Ah]
 by_cases h:i < n
 ·rw[CH h,qX h];rfl
 ·rw[qY h,Fg.mpr (by simpa using h)];rfl
theorem QV(lo:Int)(n:Nat):O5 K ρ H (Itr lo n) (JE (Ii lo n)):=by
 intro g B S C i l s o;cases o;rw[Sj];refine⟨λj=>?_,λd hd=>?_⟩
 ·split at j
  ·cases j
  ·rename_i h;exact LK h
 ·split at hd
  ·rename_i h
   cases hd;refine⟨h,λy G ⟨e,A⟩=>?_⟩;subst e;subst A;exact⟨g,.refl,s,.int _⟩
  ·cases hd
def iR1(ml:ML):MI:=λe S=>(ml e S).bind λg l=>match g with
 | [.int j]=>if -(2 ^ 62)<=j/\j < 2 ^ 62 then .ok (JE (Ii 0 j.toNat)) l else .bad
 | _=>.bad
def iR2(ml:ML):MI:=λe S=>(ml e S).bind λg l=>match g with
 | [.int i,.int j]=>if -(2 ^ 62)<=i/\i < 2 ^ 62/\-(2 ^ 62)<=j/\j < 2 ^ 62 then .ok (JE (Ii i (j - i).toNat)) l else .bad
 | _=>.bad
theorem GN(B:Gl X "range") (g:X.mg "range" = none) (C:GA X E [a] ml) (o:AO [a] X.env=[(false,Bt a X.env)]:=by rfl):GI X E tg (.Call (.Name "range" p) [a] [] pos) (iR1 ml):=(aG B g C o).imp<|by
 rintro P H R ⟨G,l,S,I,o,g⟩
 refine⟨G,l,S,I,o,g.seq λQ T g s J U L N O=>?_⟩;split at g
 ·rename_i j
  split at g
  ·rename_i A
   cases O with
   | cons r t=>
    cases t;cases r;exact⟨j,rfl,A.1,A.2,g s J _ L N (QV 0 j.toNat)⟩
  ·exact g.elim
 ·exact g.elim
theorem aj(A:Gl X "range") (g:X.mg "range" = none) (B:GA X E [a,b] ml) (o:AO [a,b] X.env=[(false,Bt a X.env),(false,Bt b X.env)]:=by rfl) (C:AO [b] X.env=[(false,Bt b X.env)]:=by rfl) :
  GI X E tg (.Call (.Name "range" p) [a,b] [] pos) (iR2 ml):=(aF A g B o C).imp<|by
 rintro T H R ⟨G,l,S,I,o,g⟩
 refine⟨G,l,S,I,o,g.seq λU Y g s J Z L N O=>?_⟩;split at g
 ·rename_i i j
  split at g
  ·rename_i P
   cases O with
   | cons r t=>
    cases t with
    | cons Q t=>
     cases t;cases r;cases Q;exact⟨i,j,rfl,P,g s J _ L N (QV i _)⟩
  ·exact g.elim
 ·exact g.elim
end
def Fj:List D->Lo->Sto->Res Lo
 | [],e,S=>.ok e S
 | _,_,_=>.bad
def Bw(g:MG)(r:List D->Lo->Sto->Res Lo):List D->Lo->Sto->Res Lo
 | d :: j,e,S=>(g d e S).bind λl m=>r j l m
 | [],_,_=>.bad
def FR(n:Nat)(r:List D->Lo->Sto->Res Lo):MG:=λd e S=>match d with
 | .tup g=>if g.length=n then r g e S else .bad
 | _=>.bad
section
variable{X:Cx}
def gGs(K:AG)(r:List D->Lo->Sto->Res Lo):TGs:=λs A H Q=>∃j e S o,A9 K j H o s/\FC K j H e A/\CK K j S H/\CC K noH j H (r o e S) λB C=>∀g m l,Le K j H g m->CK K g C m->FC K g m B l->Q l m
abbrev GGs(X:Cx)(ts:List Expr)(r:List D->Lo->Sto->Res Lo):Prop:=PGs X ts (gGs X.K r)
theorem PGs.imp(h:PGs X ts t)(i:∀g j H Q,t' g j H Q->t g j H Q):PGs X ts t':=λl s j H g m Q I r q=>h l s j H g m Q I r (i g j H Q q)
theorem HU:GGs X [] Fj:=jP.imp<|by
 rintro B m H Q ⟨o,l,S,g,hd,s,A,j⟩
 cases g with
 | nil=>cases hd;exact⟨rfl,j o H m .refl A s⟩
 | cons d g=>exact j.elim
theorem Co(E:GG X e g)(G:GGs X es r)
  (m:(Ew (e :: es) X.env).map (·.2)=QF e X.env :: (Ew es X.env).map (·.2):=by rfl):GGs X (e :: es) (Bw g r):=(dZ E G m).imp<|by
 rintro vs σ H Q ⟨I,l,S,o,hd,J,m,j⟩
 cases o with
 | nil=>exact j.elim
 | cons d o=>
  cases hd with
  | cons L N=>
   exact⟨_,_,rfl,I,l,S,d,L,J,m,j.seq λO P j s H1 R A T U=>⟨s,O,P,o,N.mono A,U,T,j.go A λ_ _ k B Y C Z s2 r2=>k B Y C (A.trans Z) s2 r2⟩⟩
theorem Ji(o:X.calm=true)(h:GGs X es r)
  (s:(Ew es X.env).length=n:=by rfl) (A:(Ew es X.env).findIdx? (·.1)=none:=by rfl):GG X (.Tuple es k pos) (FR n r):=(nq o h s A).imp<|by
 rintro v J H Q ⟨B,l,S,d,hd,C,E,g⟩
 cases d <;> first | exact g.elim | skip
 rename_i G
 cases hd with
 | tup I m=>
  unfold FR at g;dsimp only at g;split at g
  ·rename_i j
   exact⟨_,_,rfl,.inl (.inl I),by rw[<-m.length];exact j,B,l,S,G,m,C,E,g⟩
  ·exact g.elim
end
def spM(K:AG)(n:Nat)(f:List D->Sto->Res D):Sp:=λo H Q E=>∃l m S,m.length=n/\A9 K l H m o/\CK K l S H/\CC K (λc j=>E (.ref c) none j) l H (f m S) λd s=>
 ∀g j x,Le K l H g j->CK K g s j->B2 K g j d x->Q x j
theorem spM.len{K}{n}{f}{g}{H}{Q}{E}(h:spM K n f g H Q E):g.length=n:=by
 obtain⟨m,o,S,j,l,_⟩:=h;rw[<-l.length];exact j
def Cd(n:Nat)(f:List D->Sto->Res D)(m:ML):ME:=λe S=>(m e S).bind λg j=>if g.length=n then f g j else .bad
def Q4(C:AV)(n:Nat)(f:List D->Sto->Res D)(m:ML):ME:=λe S=>(m e S).bind λj g=>if j.length+1=n then(f (.ref g.length :: j) (g++[.ins C []])).bind (λd l=>match d with
  | .non=>.ok (.ref g.length) l
  | _=>.bad)else .bad
def Zp(E:EW)(g:St):XK:=λv o H=>o=none/\∃c,v=.ref c/\E c g H
section
variable{X:Cx}{E:EW}{k n:Nat}{x:Str}{e:Expr}{es:List Expr}
theorem CC.xk{o:Type}{K:AG}{A:St}{ρ g:List AV}{H B:Hp}{r:Res o}{k k':o->Sto->Prop}(h:CC K (λc=>E c A) ρ H r k)(l:Le K ρ H g B)(f:∀a S,k a S->k' a S):CC K (λc j=>Zp E A (.ref c) none j) g B r k':=by
 cases r with
 | ok a S=>exact f a S h
 | err c S=>exact λm j C s=>⟨rfl,c,rfl,h m j (l.trans C) s⟩
 | bad=>exact h
theorem CI(F:EO X.prog X.w X.K X.mg X.base CX k f fd ps (spM X.K n g))(C:NO CX X (Zp E))(G:Hx k X.A)(I:Gl X x)(j:X.mg x=some (.ref f))(J:Gc X.K (.ref f)=true)(hb:Binds X.K fd ps [])
  (L:GA X E (e :: es) ml) (N:(x==("__debug__" : Str))=false:=by decide) (O:AO (e :: es) X.env=(false,Bt e X.env) :: AO es X.env:=by rfl) (P:(Cp pos (AO es X.env)).any (·.1)=false:=by rfl) :
  GE X E (.Call (.Name x p) (e :: es) [] pos) (Cd n g ml):=(jW (E:=Zp E) F G I j J hb .nil C L N O P).imp<|by
 rintro σ H Q ⟨R,l,S,T,U,j⟩
 refine⟨R,l,S,T,U,j.seq λY Z j o H1 xs B s1 r1=>?_⟩;split at j
 ·rename_i m
  rw[A3];exact⟨o,Y,Z,m,r1,s1,j.xk B λ_ _ k s H' z l' s' r'=>k s H' z (B.trans l') s' r'⟩
 ·exact j.elim
theorem ZE(M:Mk X.K C f)(F:EO X.prog X.w X.K X.mg X.base CX k f fd ps (spM X.K n g))(Y:NO CX X (Zp E))(Z:Hx (k+1) X.A)(hg:Gl X x)(j:X.mg x=some (.ref C))(hb:Binds X.K fd ps [])
  (B:GA X E (e :: es) ml) (uz:(x==("__debug__" : Str))=false:=by decide) (he:AO (e :: es) X.env=(false,Bt e X.env) :: AO es X.env:=by rfl) (tX:(Cp pos (AO es X.env)).any (·.1)=false:=by rfl) :
  GE X E (.Call (.Name x p) (e :: es) [] pos) (Q4 C n g ml):=(jS (E:=Zp E) M F Z hg j hb .nil Y B uz he tX).imp<|by
 rintro σ H Q ⟨ρ,l,S,hl,hs,j⟩
 refine⟨ρ,l,S,hl,hs,j.seq λds R j G H1 xs T s1 r1 a I B J tU=>?_⟩;split at j
 ·rename_i m
  rw[A3];obtain⟨s2,L⟩:=HK (ho:=.own a) s1 J
  have N:upd H1 I (.own a) a=none:=by rw[Bh (CY tU)];exact B
  obtain⟨s3,O,s⟩:=s2.alloc (p:=a) (ho:=.ins C I []) (o:=.ins C []) N ⟨I,[],Bq,.nil⟩;refine⟨G++[a],.ref R.length :: ds,R++[.ins C []],by simpa using m,.cons (.ref s) (r1.mono (L.trans O)),s3,CC.xk (j.seq λz S2 j=>j) (T.trans (L.trans O)) λz S2 j P H' y U s' r'=>?_⟩
  cases z <;> first | exact j.elim | skip
  cases r';exact⟨rfl,j P H' _ (T.trans (L.trans (O.trans U))) s' (.ref (U.pre _ _ s))⟩
 ·exact j.elim
end
theorem KVR.lookup{K}{ρ}{H}(f:Str):∀{x:List (Str×D)} {y:List (Str×V)} {d:D},KVR K ρ H x y->x.lookup f=some d->∃v,y.lookup f=some v/\B2 K ρ H d v
 | _,_,_,.nil,h=>by simp at h
 | (g,a) :: x,(o,b) :: y,d,.cons r t,h=>by
  obtain⟨j,l⟩:=r;dsimp only at j l;subst j;rw[BX]at h ⊢
  cases m:(f==g)with
  | true=>rw[m]at h;cases h;exact⟨b,rfl,l⟩
  | false=>rw[m]at h;exact KVR.lookup f t h
def Pr(f:Str)(v:D):List (Str×D)->List (Str×D)
 | []=>[(f,v)]
 | (g,x) :: r=>if g=f then(g,v) :: r else(g,x) :: Pr f v r
theorem KVR.putF{K}{ρ}{H}(f:Str){d}{v}(l:B2 K ρ H d v):∀{x:List (Str×D)} {y:List (Str×V)},KVR K ρ H x y->KVR K ρ H (Pr f d x) (putF f v y)
 | _,_,.nil=>.cons ⟨rfl,l⟩ .nil
 | (g,a) :: x,(s,b) :: y,.cons r t=>by
  obtain⟨m,o⟩:=r;dsimp only at m o;subst m;unfold Pr L2.putF
  by_cases j:g=f
  ·rw[qX j,qX j];exact .cons ⟨rfl,l⟩ t
  ·rw[qY j,qY j];exact .cons ⟨rfl,o⟩ (KVR.putF f l t)
theorem KVR.length{g:Type}{K:AG}{ρ:List AV}{H:Hp}{x:List (g×D)}{y:List (g×V)}(h:KVR K ρ H x y):x.length=y.length:=EA h
def NC(C:AV)(f:Str)(m:ME):ME:=λe S=>(m e S).bind λd g=>match d with
 | .ref n=>match g[n]? with
  | some (.ins j fs)=>if j=C then(match fs.lookup f with | some v=>.ok v g | none=>.bad)else .bad
  | _=>.bad
 | _=>.bad
def Sg(C:AV)(f:Str)(mo mv:ME):MS:=λe S=>(mv e S).lift e λv j=>(mo e j).lift e λd g=>match d with
 | .ref n=>match g[n]? with
  | some (.ins l fs)=>if l=C/\fs.length < 1000 then .ok (.nx e) (g.set n (.ins C (Pr f v fs)))else .bad
  | _=>.bad
 | _=>.bad
section
variable{X:Cx}{E:EW}{o e value:Expr}{m mv:ME}
theorem RF(G:Cls X.K C)(I:Ir X.K C f)(J:GE X E e m)(hb:DZ e f X.env (Bt e X.env)=Bt e X.env:=by rfl):GE X E (.Attribute e f pos) (NC C f m):=(n9 J hb).imp<|by
 rintro σ H Q ⟨L,l,S,N,O,g⟩
 refine⟨L,l,S,N,O,g.seq λx P g s R v T B U=>?_⟩
 cases x <;> first | exact g.elim | skip
 rename_i n;dsimp only at g
 cases j:P[n]? with
 | none=>rw[j]at g;exact g.elim
 | some Y=>
  rw[j]at g
  cases Y <;> first | exact g.elim | skip
  rename_i C' fs;dsimp only at g;split at g
  ·rename_i Z
   rw[Z]at j
   cases U with
   | ref uS=>
    obtain⟨dx,wC,e1,e2⟩:=B.ob n _ _ j uS
    cases A:fs.lookup f with
    | none=>rw[A]at g;exact g.elim
    | some w=>
     rw[A]at g;obtain⟨v,h3,h4⟩:=KVR.lookup f e2 A;exact⟨_,_,dx,wC,v,rfl,e1,G,I,h3,g s R v T B h4⟩
  ·exact g.elim
theorem Xz(hc:Cls X.K C)(hn:Ir X.K C f)(ha:GE X E o m)(hv:GE X E value mv)(J:GR value (some (.Attribute o f A)) pos.line X.env=pure false:=by rfl):GS X E (.Assign [.Attribute o f A] value pos) (Sg C f m mv):=(nh ha hv J).imp<|by
 rintro D σ H ⟨ρ,l,S,B,J,g⟩
 refine⟨ρ,l,S,B,J,g.lift B .refl λv S1 g L H1 y s s1 r1=>⟨L,l,S1,B.mono s,s1,(g.later s).lift (B.mono s) s λx S2 g j R u N T r2=>?_⟩⟩
 cases x <;> first | exact g.elim | skip
 rename_i n;dsimp only at g
 cases ho:S2[n]? with
 | none=>rw[ho]at g;exact g.elim
 | some ob=>
  rw[ho]at g
  cases ob <;> first | exact g.elim | skip
  rename_i C' fs;dsimp only at g;split at g
  ·rename_i O
   obtain⟨O,G⟩:=O;rw[O]at ho
   cases r2 with
   | ref P=>
    obtain⟨I,Q,U,Y⟩:=T.ob n _ _ ho P;have le:Le X.K j R j (upd R _ (.ins C I (putF f y Q))):=Le.write P (by rw[U];trivial);obtain⟨s3,Z⟩:=T.write (ho:=.ins C I (putF f y Q)) (o:=.ins C (Pr f v fs)) P ⟨I,_,Bq,(KVR.putF f (r1.mono N) Y).mono le⟩ le;refine⟨_,C,I,Q,rfl,U,hc,hn,by rw[<-KVR.length Y];exact G,?_⟩;exact g j _ σ (s.trans (N.trans Z)) s3 (B.mono (s.trans (N.trans Z)))
  ·exact g.elim
end
theorem C7.get(x:C7 P w H h a o):∃u,h.get? a=some u:=by
 cases o with
 | lst g=>obtain⟨_,_,_,_,e⟩:=x;exact⟨_,e⟩
 | tup g=>obtain⟨_,_,_,o,e,_⟩:=x;exact⟨_,e⟩
 | dK j=>obtain⟨_,_,_,_,o,_,_,e,_⟩:=x;exact⟨_,e⟩
 | dT j=>obtain⟨_,_,_,_,o,_,_,e,_⟩:=x;exact⟨_,e⟩
 | set S n=>obtain⟨o,_,_,_,e,_⟩:=x;exact⟨_,e⟩
 | ins C l fs=>obtain⟨_,_,_,e,_⟩:=x;exact⟨_,e⟩
 | own y=>exact x
 | xd fs=>obtain⟨_,⟨_,_,_,e,_⟩,_⟩:=x;exact⟨_,e⟩
 | rng lo m=>obtain⟨_,_,_,e⟩:=x;exact⟨_,e⟩
 | frz s u=>obtain⟨e,_⟩:=x;exact⟨_,e⟩
 | tbl A=>exact⟨_,(show h.get? a=some _ from x)⟩
 | met f y=>exact⟨_,(show h.get? a=some _ from x)⟩
 | ext B=>obtain⟨_,e,_⟩:=x;exact e
def SU(Nw:AV->Prop)(F:Option AH->Prop)(g C:AV)(H:Hp)(h:CS):Prop:=
 H g=none/\Nw g/\∃(j:Obj) (l:Array AH) (s:AH),h.get? g=some j/\j.cls=.ref C/\(j.dict=none/\j.data=.fields l)/\l[0]?=some s /\
  ((F none/\l[1]?=some .none)∨∃(T:AV) (m:Obj) (o:Array AH) (fl:AH),F (some fl)/\l[1]?=some (.ref T)/\T≠g/\H T=none/\Nw T/\h.get? T=some m/\m.data=.fields o/\o[3]?=some fl)
theorem SU.imp(x:SU Nw F g C H h)(f:∀o,F o->G o):SU Nw G g C H h:=by
 obtain⟨j,l,m,s,A,B,E,I,J,L⟩:=x;refine⟨j,l,m,s,A,B,E,I,J,?_⟩
 rcases L with⟨a,b⟩ | ⟨T,N,O,fl,a,b⟩
 ·exact .inl ⟨f _ a,b⟩
 ·exact .inr ⟨T,N,O,fl,f _ a,b⟩
structure KH(X:Cx):Prop where
 st:X.stack=X.env :: X.outer
 fr:X.env.frame=some X.env.locals
 ex:X.ex=[]
def Nw(X:Cx)(b:AV):Prop:=X.s₀.heap.get? b=none/\∀p∈X.pn,p.1≠b
section
variable{X:Cx}{σ:St}{H:Hp}{s:AL}{h':CS}{ea C:AV}{F:Option AH->Prop}
theorem Inv.old(I:Inv X l σ H s)(O:KH X)(e:s.heap.get? b=none):H b=none/\Nw X b:=by
 refine⟨?_,?_,λp j z=>?_⟩
 ·cases q:H b with
  | none=>rfl
  | some u=>
   obtain⟨o,g⟩:=(I.hok b u q).get;rw[e]at g;cases g
 ·cases q:X.s₀.heap.get? b with
  | none=>rfl
  | some o=>
   obtain⟨m,g⟩:=I.base.there b o q (by rw[O.ex];simp);rw[e]at g;cases g
 ·have:=(I.pin p (As _ j)).1
  rw[z,e]at this;cases this
theorem Inv.recs(I:Inv X [] σ H s)(O:KH X)(l:∀b∈ch,H b=none/\Nw X b/\∃o B,s.heap.get? b=some o/\o.data=.fields B)
  (st:(K6 s.heap (frs X.stack++ch)).StaysIn h') (up:s.heap.UpToSlots h'):Inv X [] σ H { s with heap:=h' }:=by
 have E:∀b o,b∉frs X.stack->b∉ch->s.heap.get? b=some o->h'.get? b=some o:=λb o Q R e=>
  st b o (Wf _ e λz=>(Au.mp z).elim Q R)
 have G:∀b∈ch,b≠X.env.locals:=λb hb z=>by
  obtain⟨_,_,o,B,e,d⟩:=l b hb;obtain⟨m,⟨J,Z,ep,g,j,_⟩,_⟩:=I.loc;rw[z,g]at e;cases e;rw[j]at d;cases d
 have L:∀b∈ch,∀x c,X.env.cells.lookup x=some c->c≠b:=λb hb x c q z=>by
  obtain⟨_,_,o,B,e,d⟩:=l b hb;obtain⟨v,J,g,j⟩:=I.cell x c q;rw[z,e]at g;cases g;rw[d]at j;cases j
 refine I.stepN (g':=s.gens) (t':=s.toks) (d':=s.drawn) (ch:=ch) (λb hb=>⟨.inr (l b hb).2.1.1,G b hb,L b hb,λp S=>(l b hb).2.1.2 p (by rwa [A3]at S)⟩)
  (λb o T A N e _=>E b o (λz=>(Aq.mp (I.stkSub b z)).elim T A) N e) (λb o _ U _ e _=>?_) (λ_ _ _ _ n=>n) (λb o N e=>?_) (λ_ _ q=>q) (λ_ _ _ q=>q) (λb ps q=>⟨#[],by rw[q];simp⟩) (λm Y=>up.ns Y) (λa o e=>?_) I.bare
 ·obtain⟨J,g,A⟩:=(I.funs.mem U).2
  rw[e]at g;cases g;exact up b o e A
 ·by_cases hb:b∈frs X.stack
  ·obtain⟨J,g,A⟩:=(I.stack.mem hb).2
   rw[e]at g;cases g;obtain⟨sl,q⟩:=up b o e A;exact⟨_,q⟩
  ·exact⟨o,E b o hb N e⟩
 ·have P:∀b u,H b=some u->∀v,s.heap.get? b=some v->h'.get? b=some v:=λb u q v r=>
   E b v (λz=>by rw[I.stkFree b z]at q;cases q) (λz=>by rw[(l b z).1]at q;cases q) r
  refine(I.hok a o e).stay (λb u hb q=>?_) (λ_ q=>q) λ_ _ q=>q
  rcases hb with z | z
  ·subst z;exact P _ _ e u q
  ·exact P _ _ z u q
abbrev fP(X:Cx)(h:CS)(ch:List AV):CS:=K6 h (frs X.stack++ch)
theorem Sv(hb:b∈ch):(fP X h ch).get? b=none:=LW _ (Aw _ hb)
theorem L8(f:Array AH->Array AH)(o:Obj):(DK f o).dict=o.dict:=by
 obtain⟨c,d,g,sl⟩:=o
 cases g <;> rfl
theorem WM
  (J:A.frames=some (env :: g)) (O:s.heap.FunFrames base (env :: g)) (hf:env.frame=some L) (P:s.heap.get? e=some oe) (hd:oe.data=.fields R) (hsz:1 < R.size)
  (k:∀m T S ts,T≠e->s.heap.get? T=none->(∀b o,b≠e->b∉frs (env :: g)->s.heap.get? b=some o->m.get? b=some o)->(∀b o,b≠e->s.heap.get? b=some o->∃sl,m.get? b=some { o with slots:=sl }) ->
   m.get? e=some (DK (·.setIfInBounds 1 (.ref T)) oe)->m.get? T=some S->S.data=.fields ts->ts[3]?=some (EG L)->Q () { s with heap:=m }) :
  Af M A (do let a <-frameOf env;let l <-entryPlaceOf L hadNext;let b <-TX head a .none (EG L) .none l;Wv (.ref e) 1 b) Q E s:=by
 have Φ:e∉frs (env :: g):=λz=>by
  obtain⟨_,o,U,N⟩:=O.mem z;rw[P]at U;cases U;exact N R hd
 refine AA (wpAny_frameOf_fun J O hf λj I=>AA (wpAny_entryPlaceOf λl Y=>?_));unfold TX newFields;refine AA (CU ?_ (Y.sizeOk5 _ _ _ _ _));have Z:j.get? e=some oe:=(I.2.1 e Φ).trans P;have e2:=AJ (h:=j) { cls:=.type "traceback",dict:=none,data:=.fields ([head,.ref L,.none,EG L,.none]++(if l.isEmpty then Bd 6 Be else l)).toArray } Z;refine F0 e2 hd hsz ?_;have B:j.objs.size≠e:=ED (AX Z);have dd:=CW hd (·.setIfInBounds 1 (A7 j.objs.size))
 have old:∀b o,b≠e->j.get? b=some o->((j.push { cls:=.type "traceback",dict:=none,data:=.fields ([head,.ref L,.none,EG L,.none]++(if l.isEmpty then Bd 6 Be else l)).toArray }).update e (DK (·.setIfInBounds 1 (A7 j.objs.size)))).get? b=some o:=λb o G q=>by
  rw[Ef _ _ (CY G)];exact AJ _ q
 refine k _ j.objs.size { cls:=.type "traceback",dict:=none,data:=.fields ([head,.ref L,.none,EG L,.none]++(if l.isEmpty then Bd 6 Be else l)).toArray } _ B (YQ (W6 I.1.symm)) (λb o G N q=>old b o G ((I.2.1 b N).trans q)) (λb o G q=>?_) (Et _ e2 (Ex dd)) ?_ rfl ?_
 ·obtain⟨sl,z⟩:=I.2.2 b o q
  exact⟨sl,old b _ G z⟩
 ·rw[Ef _ _ (CY B)]
  exact Ag j rfl
 ·rcases Y with rfl | ⟨_,_,_,_,_,_,_,rfl⟩ <;> simp
theorem Vh(keep:∀b o,b∉frs X.stack->b∉ch->h.get? b=some o->h'.get? b=some o):(fP X h ch).StaysIn h':=λb o q=>by
 have hb:b∉frs X.stack++ch:=λz=>by
  have:=LW (h:=h) (frs X.stack++ch) z;rw[show(fP X h ch).get? b=(K6 h (frs X.stack++ch)).get? b from rfl,this]at q;cases q
 exact keep b o (λz=>hb (As _ z)) (λz=>hb (Aw _ z)) (M4 _ q)
theorem UG(I:Inv X [] σ H s)(O:KH X)(hA:A.frames=some X.stack)(x:SU (Nw X) F ea C H s.heap)
  (hF:∀o,F o->o=none∨o=some .none∨o=some (EG X.env.locals))
  (k:∀h',Inv X [] σ H { s with heap:=h' }->SU (Nw X) (· = some (EG X.env.locals)) ea C H h'->Q () { s with heap:=h' }):Af M A (bK (.ref ea) X.env) Q E s:=by
 obtain⟨L,N,S,vs,a0,l,U,⟨g0,g⟩,Y,g5⟩:=x
 have P:A.frames=some (X.env :: X.outer):=by rw[hA,O.st]
 have yd:frs (X.env :: X.outer)=frs X.stack:=by rw[O.st]
 have fr:s.heap.FunFrames X.base (X.env :: X.outer):=by rw[<-O.st];exact I.stack
 rcases g5 with⟨_,B⟩ | ⟨T,G,J,fl,hf,B,ne,m1,m2,gT,dT,Z⟩
 ·have j:=(FH.mp B).1
  unfold bK;simp only[O.fr];refine AA (B9 l g B ?_);rw[qY (by decide)]
  refine WM P fr O.fr l g j λh2 T G J nT fT kp up q1 q2 q3 q4=>?_
  rw[yd]at kp;have R:=I.old O fT
  have hc:∀b∈[ea],H b=none/\Nw X b/\∃o vs,s.heap.get? b=some o/\o.data=.fields vs:=λb hb=>by
   cases AS.mp hb;exact⟨L,N,S,vs,l,g⟩
  refine k h2 (I.recs O hc (Vh λb o z1 z2 q=>kp b o (λz=>z2 (AS.mpr z)) z1 q) λb o q m=>up b o (λz=>?_) q) ?_
  ·rw[z,l]at q
   cases q;exact m vs g
  ·exact⟨L,N,_,_,a0,q1,by rw[KI];exact U,⟨by rw[L8];exact g0,CW g _⟩,by rw[PJ (by decide)];exact Y,.inr ⟨T,G,J,_,rfl,by simp[j],nT,R.1,R.2,q2,q3,q4⟩⟩
 ·rcases hF _ hf with e | e | e
  ·cases e
  ·cases e
   have j:=(FH.mp B).1;unfold bK;simp only[O.fr];refine AA (B9 l g B ?_);rw[qX (show(A7 T != Be)=true from by simp)];refine AA (B9 gT dT Z ?_);rw[qY (show ¬((Be==EG X.env.locals)=true)from by simp[EG])];refine AA (F0 gT dT (FH.mp Z).1 ?_)
   have oth:∀b,b≠T->(s.heap.update T (DK (·.setIfInBounds 3 Be))).get? b=s.heap.get? b:=λb hb=>Ef _ _ (CY hb)
   have w9:∀b o,s.heap.get? b=some o->(∀vs,o.data≠.fields vs)->b≠T:=λb o hb m q=>by
    rw[q,gT]at hb;cases hb;exact m J dT
   have fr2:(s.heap.update T (DK (·.setIfInBounds 3 Be))).FunFrames X.base (X.env :: X.outer):=fr.of_keeps λb o hb m=>⟨o,(oth b (w9 b o hb m)).trans hb,rfl⟩
   have gU:(s.heap.update T (DK (·.setIfInBounds 3 Be))).get? T=some (DK (·.setIfInBounds 3 Be) G):=Et _ gT (Ex (CW dT _))
   have hc:∀b∈[ea,T],H b=none/\Nw X b/\∃o vs,s.heap.get? b=some o/\o.data=.fields vs:=λb hb=>by
    rcases Aq.mp hb with rfl | hb
    ·exact⟨L,N,S,vs,l,g⟩
    ·cases AS.mp hb
     exact⟨m1,m2,G,J,gT,dT⟩
   refine WM (s:={ s with heap:=s.heap.update T (DK (·.setIfInBounds 3 Be)) }) P fr2 O.fr ((oth ea (CY ne)).trans l) g j λh2 T2 oT2 ts2 nT fT kp up q1 q2 q3 q4=>?_
   rw[yd]at kp
   have fT':s.heap.get? T2=none:=by
    have z:T2≠T:=λz=>by rw[z]at fT;exact zX (fT.symm.trans gU) (by simp)
    rw[<-oth T2 z];exact fT
   have R:=I.old O fT';refine k h2 (I.recs O hc (Vh λb o z1 z2 q=>kp b o (λz=>z2 (by rw[z];exact Ao)) z1 ((oth b λz=>z2 (by rw[z];exact AT _ (AS.mpr rfl))).trans q)) λb o q m=>up b o (λz=>?_) ((oth b (w9 b o q m)).trans q)) ?_
   ·rw[z,l]at q
    cases q;exact m vs g
   ·exact⟨L,N,_,_,a0,q1,by rw[KI];exact U,⟨by rw[L8];exact g0,CW g _⟩,by rw[PJ (by decide)];exact Y,.inr ⟨T2,oT2,ts2,_,rfl,by simp[j],nT,R.1,R.2,q2,q3,q4⟩⟩
  ·cases e
   have hTn:(fP X s.heap [ea,T]).get? T=none:=Sv (AT _ (AS.mpr rfl));refine wpAny_noteFrame_againW (base:=fP X s.heap [ea,T]) (cls:=.ref C) (a0:=a0) O.fr ⟨S,vs,T,G,J,l,⟨U,Y⟩,g,B,hTn,ne,gT,dT,Z⟩ ?_;exact k s.heap I ⟨L,N,S,vs,a0,l,U,⟨g0,g⟩,Y,.inr ⟨T,G,J,_,rfl,B,ne,m1,m2,gT,dT,Z⟩⟩
theorem Mb(f:Option AV)(I:Inv X [] σ H s)(O:KH X)(x:SU (Nw X) F ea C H s.heap)(S:¬F none)
  (k:∀h',Inv X [] σ H { s with heap:=h' }->SU (Nw X) (· = some (f.elim Be λa=>EG a)) ea C H h'->Q () { s with heap:=h' }):Af M A (setFlight (.ref ea) f) Q E s:=by
 obtain⟨G,J,L,vs,U,j,Y,⟨Z,l⟩,g4,g5⟩:=x
 rcases g5 with⟨z,_⟩ | ⟨T,oT,m,fl,hf,N,P,R,m2,gT,dT,h3⟩
 ·exact(S z).elim
 ·have hc:∀b∈[ea,T],H b=none/\Nw X b/\∃o vs,s.heap.get? b=some o/\o.data=.fields vs:=λb hb=>by
   rcases Aq.mp hb with rfl | hb
   ·exact⟨G,J,L,vs,j,l⟩
   ·cases AS.mp hb
    exact⟨R,m2,oT,m,gT,dT⟩
  have g:3 < m.size:=(FH.mp h3).1;unfold setFlight;refine AA (B9 j l N ?_);rw[qX (show(A7 T != Be)=true from by simp)];refine F0 gT dT g ?_
  have oth:∀b,b≠T->(s.heap.update T (DK (·.setIfInBounds 3 (f.elim Be λa=>EG a)))).get? b=s.heap.get? b:=λb hb=>Ef _ _ (CY hb)
  have w9:∀b o,s.heap.get? b=some o->(∀vs,o.data≠.fields vs)->b≠T:=λb o hb B q=>by
   rw[q,gT]at hb;cases hb;exact B m dT
  refine k _ (I.recs O hc (λb o q=>?_) λb o q B=>⟨o.slots,(oth b (w9 b o q B)).trans q⟩) ?_
  ·have hb:b≠T:=λz=>by rw[z,Sv (AT _ (AS.mpr rfl))]at q;cases q
   exact(oth b hb).trans (M4 _ q)
  ·refine⟨G,J,L,vs,U,(oth ea (CY P)).trans j,Y,⟨Z,l⟩,g4,.inr ⟨T,_,_,_,rfl,N,P,R,m2,Et _ gT (Ex (CW dT _)),CW dT _,?_⟩⟩
   simp[g]
end
def trF(X:Cx)(o:Option AH):Prop:=o=none∨o=some .none∨o=some (EG X.env.locals)
def XE(X:Cx)(E:EW)(e:AH)(s':AL):Prop:=∃j C l g,e=.ref j/\Inv X [] l g s'/\SU (Nw X) (trF X) j C g s'.heap/\E C l g
def CXG(P:Bb)(w:By):CXT:=λg H s E e j=>∃m C l,e=.ref m/\j.os=s.os/\Iv j.gens/\Un (frs g) [] H l s.heap j.heap/\HOk P w l j.heap/\SU (λb=>s.heap.get? b=none) (· = some .none) m C l j.heap/\E (.ref C) none l
theorem XE.own(O:KH X):O9 (Am X.prog X.w) X.A X.env (XE X E):=by
 rintro e l ⟨G,C,J,H,rfl,I,x,w⟩
 refine UG I O I.ok.frames x (λo z=>z) λm L B=>?_
 have g:=B;obtain⟨U,Y,Z,vs,a0,N,g2,P,g4,Q⟩:=g
 rcases Q with⟨z,_⟩ | ⟨T,oT,ts,fl,hf,j,_⟩
 ·cases z
 ·show Af _ _ _ _ _ _
  refine AA (B9 (s:={ l with heap:=m }) N P.2 j ?_);rw[qY (by simp)];rw[O.fr]
  refine Mb (s:={ l with heap:=m }) (some X.env.locals) L O B (by simp) λh2 R S=>?_
  exact⟨G,C,J,H,rfl,R,S.imp λo z=>.inr (.inr z),w⟩
theorem XE.leave(O:KH X)(h:XE X E e s')
  (k:∀g C j l m,e=.ref g->Inv X [] j l m->SU (Nw X) (· = some .none) g C l m.heap->E C j l->Q () m):Af (Am X.prog X.w) X.A (leaving X.env e) Q P s':=by
 obtain⟨g,C,j,H,rfl,I,x,w⟩:=h;unfold leaving;refine AA (UG I O I.ok.frames x (λo z=>z) λB G J=>?_)
 refine Mb (s:={ s' with heap:=B }) none G O J (by simp) λR L N=>?_
 exact k g C j H _ rfl L N w
noncomputable abbrev Cx.p(X:Cx)(pn:List (AV×Obj)):Cx:={ X with pn:=pn }
abbrev Cx.w'(X:Cx)(pn:List (AV×Obj))(E:EW):Cx:={ X with pn:=pn,xe:=XE (X.p pn) E }
theorem Inv.with(I:Inv X m o H s)(z:AH->AL->Prop):Inv { X with xe:=z } m o H s:=by
 obtain⟨ok,a,b,c,d,e,f,g,i,j,l⟩:=I;obtain⟨A,B,C,E,G,J,L,N,O,P,Q,R,S,T,U,Y,Z,xm⟩:=ok;exact⟨⟨A,B,C,E,G,J,L,N,O,P,Q,R,S,T,U,Y,Z,xm⟩,a,b,c,d,e,f,g,i,j,l⟩
theorem Inv.without(I:Inv { X with xe:=z } g j H s):Inv X g j H s:=by
 have:=I.with X.xe
 exact this
theorem Inv.pinIn(I:Inv X m o H s):Inv (X.p (X.pn++m)) [] o H s:=by
 obtain⟨ok,a,b,c,d,e,f,g,i,j,l⟩:=I;obtain⟨A,B,C,E,G,J,L,N,O,P,Q,R,S,T,U,Y,Z,xm⟩:=ok;exact⟨⟨A,B,C,E,G,J,L,N,O,P,Q,R,S,T,U,Y,Z,xm⟩,a,b,c,d,e,f,g,λq hq=>i q (by rwa [A3]at hq),j,l⟩
theorem Inv.pinOut(I:Inv (X.p (X.pn++m)) [] o H s):Inv X m o H s:=by
 obtain⟨ok,a,b,c,d,e,f,g,i,j,l⟩:=I;obtain⟨A,B,C,E,G,J,L,N,O,P,Q,R,S,T,U,Y,Z,xm⟩:=ok;exact⟨⟨A,B,C,E,G,J,L,N,O,P,Q,R,S,T,U,Y,Z,xm⟩,a,b,c,d,e,f,g,λq hq=>i q (by show q∈(X.pn++m)++[];rwa [A3]),j,l⟩
structure Good(X:Cx)(E:EW):Prop where
 pass:NO (CXG X.prog X.w) X (Zp E)
 own:O9 (Am X.prog X.w) X.A X.env X.xe
 made:∀(ζ:List (AV×Obj)) (σ:St) (H:Hp) (s:AL) (h':CS) (ea C:AV) (args:List AH),Inv X ζ σ H s->E C σ H->CS.MadeExcOf s.heap h' ea (.ref C) args->X.xe (.ref ea) { s with heap:=h' }
theorem KH.p(O:KH X)(pn:List (AV×Obj)):KH (X.p pn):=⟨O.st,O.fr,O.ex⟩
theorem Bi(O:KH X):Good (X.w' pn E) E:=by
 have A:=O.p pn;refine⟨λm g H s e s' I h=>?_,XE.own A,λm g H s S B C R I w G=>?_⟩
 ·obtain⟨B,C,J,rfl,os,o,un,L,x,_,c,U,w⟩:=h
  cases U;have l:Inv (X.p pn) m g H s:=Inv.without (X:=X.p pn) I;have N:Inv (X.p pn) m g J s':=l.call' os un L o (λb z=>zX z (by simp))
  have Y:Inv (X.p pn) [] g J s':=N.pins_of λp P=>zX P (by simp)
  obtain⟨Z,n2,oe,vs,a0,Q,g2,g3,g4,g5⟩:=x;refine⟨B,C,g,J,rfl,Y,⟨Z,(l.old A n2).2,oe,vs,a0,Q,g2,g3,g4,?_⟩,w⟩
  rcases g5 with⟨z,_⟩ | ⟨T,oT,ts,fl,hf,h1,ne,m1,m2,r⟩
  ·cases z
  ·exact .inr ⟨T,oT,ts,fl,.inr (.inl hf),h1,ne,m1,(l.old A m2).2,r⟩
 ·have l:Inv (X.p pn) m g H s:=Inv.without (X:=X.p pn) I
  have N:Inv (X.p pn) m g H { s with heap:=S,toks:=s.toks }:=l.kept G.keeps;obtain⟨t,Q,_,_⟩:=G.there;have j:=l.old A G.new;exact⟨B,C,g,H,rfl,N.pins_of λp P=>zX P (by simp),⟨j.1,j.2,_,_,_,Q,rfl,⟨rfl,rfl⟩,rfl,.inl ⟨.inl rfl,rfl⟩⟩,w⟩
abbrev ZY:List AH:=[.type "ValueError",.type "Exception",.type "BaseException",.type "object"]
structure XCl(K:AG)(C:AV):Prop where
 ex:ge K C ZY "ValueError.__new__" = true
theorem XCl.obj{K}{C}(c:XCl K C):∃bm N nm q bs hdct sn sub ab col dd k0 k1 k2 k3 k5,K.lookup C=some (excClassObj nm q C N bs bm hdct sn sub ab col dd k0 k1 k2 k3 k5 "ValueError.__new__") /\
  QG K N=true/\PySem.W.nsIn K N "__init__" = some none/\PySem.W.tailIn K ZY bm=true:=by
 have q:=c.ex;unfold ge at q;split at q
 ·rename_i l m o s
  split at q
  ·rename_i Cx A H I J L nx O g j
   simp only[CF,beq_iff_eq,Jy]at q;obtain⟨⟨⟨⟨⟨P,Q⟩,B⟩,R⟩,E⟩,G⟩:=q;subst P;subst Q;obtain⟨S,T,f3,U,X,Y,Z,f8,f9,Χ,f11⟩:=m;dsimp only at g B E G;subst g;subst B;obtain⟨lx⟩:=o;dsimp only at j;subst j;exact⟨A,U,S,X,T,Y,Z,f8,f9,Χ,l,H,I,J,L,O,s,E,G,R⟩
  ·cases q
 ·cases q
theorem jh{K}{N}{h g}{m}(e:QG K N=true)(X:K.In h)(l:K.In g)(n:h.Ns N m):g.Ns N m:=by
 obtain⟨o,s,A,B,r⟩:=n;unfold QG at e;split at e
 ·rename_i j
  have z:=X _ _ j;rw[B]at z;cases z;exact⟨_,s,A,l _ _ j,r⟩
 ·cases e
def T4(C:AV)(ml:ML):MS:=λe S=>(ml e S).lift e λg j=>if g.length<=sizeLine then .ok (.ex C e) j else .bad
section
variable{E:EW}{x:Str}{e:Expr}{C:AV}
theorem fR(G:Good X E)(hc:X.calm=true)(c:XCl X.K C)(hg:Gl X x)(m:X.mg x=some (.ref C))(ha:GA X E (e :: es) ml)(uz:(x==("__debug__" : Str))=false:=by decide)
  (R:AO (e :: es) X.env=(false,Bt e X.env) :: AO es X.env:=by rfl) (tX:(Cp g (AO es X.env)).any (·.1)=false:=by rfl) :
  GS X E (.Raise (some (.Call (.Name x np) (e :: es) [] g)) none pos) (T4 C ml):=by
 intro T s B H D I ⟨ρ,l,S,L,hs,vL⟩;have hh:X.A.handled=none:=I.ok.hd hc;obtain⟨bm,N,nm,q,bs,hdct,sn,sub,ab,col,dd,k0,k1,k2,k3,k5,hC,j,vi,U⟩:=c.obj;have hN:s.heap.Ns N (s.heap.nsMap N):=.of_isNs (PySem.W.isNs_of_in I.kIn j)
 refine wpAny_Raise_call_subT (C:=C) (nm:=nm) (q:=q) (N:=N) (bs:=bs) (bm:=bm) (hdct:=hdct) (sn:=sn) (sub:=sub) (ab:=ab) (col:=col) (dd:=dd) (k0:=k0) (k1:=k1) (k2:=k2) (k3:=k3) (k5:=k5) (bmB:=ZY) PySem.F.excBase_ValueError
  ((W4 I.kIn U).hasType (by decide +kernel)) hh (by rw[R];show(false||(Cp g (AO es X.env)).any (·.1))=false;rw[tX];rfl) (PySem.W.nsMap_none_of_in I.kIn j vi)
  (N1 I hg m ⟨rfl,?_⟩ uz)
 have o:=ha g T s B H (λY O=>Y.length<=sizeLine/\E C B O) I ⟨ρ,l,S,L,hs,CC.lift vL L .refl λds S1 m P O xs Z s1 r1=>by
  split at m
  ·rename_i Q
   exact⟨by rw[<-r1.length];exact Q,m P O B Z s1 (L.mono Z)⟩
  ·exact m.elim⟩
 rw[R]at o ⊢;refine Ho (thn o λus s2 ⟨Y,H2,J,rv,Q,w⟩=>?_);exact⟨rfl,by rw[<-rv.length];exact Q,J.kIn _ _ hC,jh j I.kIn J.kIn hN,W4 J.kIn U,λh' ea hx=>G.made T B H2 s2 h' ea C us J w hx⟩
end
abbrev Cx.suite(X:Cx)(g:AV):Cx:={ X with A:=X.A.mark (some (.ref g)),calm:=false,xe:=λ_ _=>False }
theorem Inv.suite(I:Inv X m o H s)(A:AV):Inv (X.suite A) m o H s:=by
 obtain⟨ok,a,b,c,d,e,f,g,i,j,l⟩:=I;obtain⟨B,C,E,G,J,L,N,O,o9,P,Q,R,S,T,U,Y,Z,xm⟩:=ok;exact⟨⟨B,C,E,G,J,L,N,O,λz=>zX (show false=true from z) Ac,P,Q,R,S,T,U,Y,Z,xm⟩,a,b,c,d,e,f,g,i,j,l⟩
theorem Inv.unsuite(ok:X.Ok)(I:Inv (X.suite A) m o H s):Inv X m o H s:=by
 obtain⟨_,a,b,c,d,e,f,g,i,j,l⟩:=I;exact⟨ok,a,b,c,d,e,f,g,i,j,l⟩
theorem Inv.track(I:Inv X [] J H s)(j:H ea=none)(C:Nw X ea)(l:s.heap.get? ea=some o)(E:o.data=.fields Y) :
  Inv X [] J (upd H ea (.frz o (.ext λh=>∃u,h.get? ea=some u))) s:=by
 have L:X.env.locals≠ea:=λz=>by
  obtain⟨m,⟨N,Z,ep,A,g,_⟩,_⟩:=I.loc;rw[z,l]at A;cases A;rw[E]at g;cases g
 have O:∀x c,X.env.cells.lookup x=some c->c≠ea:=λx c q z=>by
  obtain⟨v,N,A,g⟩:=I.cell x c q;rw[z,l]at A;cases A;rw[E]at g;cases g
 refine⟨I.ok,I.os,I.bare,⟨I.base.keep,I.base.slot,λb u q n P=>?_,I.base.there,λb B q=>?_,λb u B q=>?_,λb Q q=>?_⟩,I.loc,I.cell,?_,λx c q=>?_,λp G=>?_,λb u q=>?_,I.len⟩
 ·rw[Bh λz=>by rw[z,C.1]at q;cases q]
  exact I.base.free b u q n P
 ·have:=I.base.tups b B q
  rw[Bh (Bx this j)];exact this
 ·have:=I.base.frzs b u B q
  rw[Bh (Bx this j)];exact this
 ·obtain⟨more,this⟩:=I.base.tbls b Q q
  exact⟨more,by rw[Bh (Bx this j)];exact this⟩
 ·rw[Bh L];exact I.free
 ·rw[Bh (O x c q)];exact I.freeC x c q
 ·obtain⟨R,S,T⟩:=I.pin p G
  exact⟨R,by rw[Bh (C.2 p (by rwa [A3]at G))];exact S,T⟩
 ·by_cases hb:b=ea
  ·subst hb
   rw[Bq]at q;cases q;exact⟨l,⟨o,l⟩,⟨o,l⟩,λh1 h2 ⟨u,U⟩ k=>⟨u,k u U⟩⟩
  ·rw[Bh hb]at q
   exact(I.hok b u q).stay (λ_ _ _ z=>z) (λc z=>by rw[Bh (Bx z j)];exact z) λc B z=>by rw[Bh (Bx z j)];exact z
theorem MY(I:Inv X [] P H s)(Y:X.N.Nodup)(hi:X.N[i]?=some n)(Z:X.env.scope.names.lookup n=some .local)
  (k:∀s',Inv X [] (P.set i none) H s'->Q () s'):Af M A (do bindName X.env n .none;unbindBehindTheSuite X.env n pos) Q E s:=by
 obtain⟨m,R,hl⟩:=id I.loc
 have G:(X.env.scope.kind==.class||(X.env.scope.kind==.module&&X.env.locals != X.env.globals))=false:=by rw[I.ok.kind];rfl
 have J:∀b o,X.s₀.heap.get? b=some o->b≠X.env.locals:=λb o e=>Ax (Ae (AX e) I.ok.above)
 obtain⟨oL,_,_,hoL,_⟩:=id R
 refine wpAny_nameGoes_keeps Z R G λh' v uS l=>k _ ?_
 have g:∀y c w',X.env.cells.lookup y=some c->s.heap.IsCell c w'->h'.IsCell c w':=λy c w' q z=>z.sameBut l (I.cne y c q)
 refine⟨I.ok,I.os,I.bare,⟨λb o e z hb B=>(l.2 b (J b o e)).trans (I.base.keep b o e z hb B),λb o e z hb B=>?_,I.base.free,λb o e B=>?_,I.base.tups,I.base.frzs,I.base.tbls⟩,⟨_,uS,λj y S T C e3=>?_⟩,λy c q=>?_,I.free,I.freeC,λp G=>?_,λb u q=>?_,by simpa using I.len⟩
 ·obtain⟨sl,q⟩:=I.base.slot b o e z hb B
  exact⟨sl,(l.2 b (J b o e)).trans q⟩
 ·obtain⟨o',q⟩:=I.base.there b o e B
  exact⟨o',(l.2 b (J b o e)).trans q⟩
 ·by_cases L:i=j
  ·subst L
   rw[U8 ]at C
   cases hq:P[i]? <;> rw[hq]at C <;> cases C
  ·rw[A1 L]at C
   obtain⟨u',r',q⟩:=hl j y S T C e3;refine⟨u',r',?_⟩
   rcases q with⟨O,e⟩ | ⟨O,c,e,z⟩
   ·refine .inl ⟨O,?_⟩
    have:y≠n:=λz=>L (Q0 Y (z▸hi) T)
    show(if y=n then v else m y)=_;rw[qY this];exact e
   ·exact .inr ⟨O,c,e,g y c _ e z⟩
 ·obtain⟨w',z⟩:=I.cell y c q
  exact⟨w',g y c w' q z⟩
 ·obtain⟨z1,z2,U,z4⟩:=I.pin p G
  exact⟨(l.2 p.1 U).trans z1,z2,U,z4⟩
 ·refine(I.hok b u q).stay (λc S hc z=>(l.2 c ?_).trans z) (λ_ z=>z) λ_ _ z=>z
  intro e
  rcases hc with z | z
  ·rw[z]at e;rw[e,I.free]at q;cases q
  ·rw[e,I.free]at z;cases z
structure YF(K:AG)(C G:AV):Prop where
 ty:LU K (.ref G)=some (.type "type")
 cl:(Ee K G).isSome=true
 ba:Mo K (.ref G) (.type "BaseException")=some true
 su:Mo K (.ref C) (.ref G)=some true
theorem Xo{K}{C G g}{j}{M}{A}{E}{Q}{s}(c:YF K C G)(X:K.In s.heap)(l:s.heap.get? g=some j)(m:j.cls=.ref C)(q:Q true s) :
  Af M A (excMatches (.ref g) (.ref G)) Q E s:=by
 have o:HI M s.heap (isInstance (.ref G) (.type "tuple")) false:=PySem.W.looks_instIn X (by unfold PySem.W.instIn;rw[c.ty];show Mo K (.type "type") (.type "tuple")=some false;kernel_rfl);have L2:HI M s.heap (bL (.ref G) (.type "BaseException")) true:=Wc X c.ba;have B:HI M s.heap (bL (.ref C) (.ref G)) true:=Wc X c.su
 have L4:HI M s.heap (isType (.ref G)) true:=by
  have z:=c.cl;unfold Ee at z;split at z
  ·rename_i H
   intro J L N O k q;unfold isType loadHead;exact AA (Wt (k _ _ (X _ _ H)) (AI q))
  ·cases z
 have I:HI M s.heap (typeOf (.ref g)) (.ref C):=m▸(qS l).andThen .now;unfold excMatches isExcClass;refine AA (o.at ?_);rw[qY Ac];refine AA (AI ?_);dsimp only;refine AA ?_;rw[GV];refine AA (AA (AA (L4.at ?_)));rw[qX rfl];refine L2.at ?_;simp only[GF,BW,if_false];refine AI ?_;dsimp only;rw[Gz];refine AI (AA (I.at (AA ?_)));rw[GV];refine AA (AA (B.at ?_));rw[qX rfl];exact AI (AI (AI q))
def Z9(cs:List AV)(i:Nat)(b h:MS):MS:=λe S=>(b e S).bind λf l=>match f with
 | .ex c m=>if c∈cs then(h (m.set i (some (.exc c))) l).bind λo j=>match o with
   | .nx g=>.ok (.nx (g.set i none)) j
   | .bk g=>.ok (.bk (g.set i none)) j
   | .ct g=>.ok (.ct (g.set i none)) j
   | .rt d=>.ok (.rt d) j
   | .ex _ _=>.bad
  else .bad
 | f=>.ok f l
theorem FC.forget{K}{ρ}{H}{e}{g}(i:Nat)(h:FC K ρ H e g):FC K ρ H (e.set i none) (g.set i none):=by
 refine⟨by simp[h.len],λj d q=>?_⟩
 by_cases l:i=j
 ·subst l
  rw[U8]at q
  cases m:e[i]? <;> rw[m]at q <;> cases q
 ·rw[A1 l]at q ⊢
  exact h.at' j d q
section
variable{E:EW}{g n:Str}{mb mh:MS}
theorem pC(O:KH X)(hN:X.N.Nodup)(hi:X.N[i]?=some n)(T:X.env.scope.names.lookup n=some .local)(hg:Gl X g)(A:X.mg g=some (.ref G))(uQ:∀c∈cs,YF X.K c G)
  (hb:∀yF E',GSs (X.w' yF E') E' body mb) (hh:∀yF B,GSs ((X.p yF).suite B) noE (b₀ :: suite) mh) (uz:(g==("__debug__" : Str))=false:=by decide) :
  GS (X.w' pn E) E (.Try body [.ExceptHandler (some (.Name g gp)) (some n) (b₀ :: suite) xp] [] [] pos) (Z9 cs i mb mh):=by
 intro L s σ H D I ⟨ρ,l,S,hl,hs,vL⟩;have I0:Inv (X.p pn) L σ H s:=Inv.without (X:=X.p pn) I;have I1:Inv (X.p (pn++L)) [] σ H s:=I0.pinIn;have O1:=O.p (pn++L)
 let DS:YE:={ nx:=λm R=>D.nx (m.set i none) R,rt:=D.rt,bk:=λm R=>D.bk (m.set i none) R,ct:=λm R=>D.ct (m.set i none) R }
 let ET:EW:=λC j Q=>C∈cs/\∀B o u,Q B=none->Us o C->gS X.K noE mh DS (j.set i (some (.ref B))) (upd Q B (.frz o u))
 have run:=hb (pn++L) ET [] s σ H D (I1.with _) ⟨ρ,l,S,hl,hs,vL.seq λf S1 A=>by
  cases f with
  | nx e'=>exact A
  | rt d=>exact A
  | bk d=>exact A
  | ct d=>exact A
  | ex c e1=>
   intro U Q j l' s' r';dsimp only at A;split at A
   ·rename_i hc
    refine⟨hc,λB o u T ho=>?_⟩;have le:Le X.K U Q U (upd Q B (.frz o u)):=Le.fresh T;have s2:=(HK (ho:=.frz o u) s' T).1;refine⟨U,e1.set i (some (.exc c)),S1,(r'.mono le).set (.exc Bq ho) i,s2,((CC.later A (l'.trans le)).seq λf2 S2 A=>?_)⟩
    cases f2 with
    | nx e2=>exact λP R m Y Z r2=>A P R _ (l'.trans (le.trans Y)) Z (r2.forget i)
    | bk e2=>exact λP R m Y Z r2=>A P R _ (l'.trans (le.trans Y)) Z (r2.forget i)
    | ct e2=>exact λP R m Y Z r2=>A P R _ (l'.trans (le.trans Y)) Z (r2.forget i)
    | rt d=>exact λP R x2 Y Z r2=>A P R x2 (l'.trans (le.trans Y)) Z r2
    | ex c' e2=>exact A.elim
   ·exact A.elim⟩
 refine wpAny_Try_except (Eu run (λf s1 q=>?_) λe s1 q=>?_)
 ·-- the body went through
  cases f with
  | next=>
   obtain⟨j,Q,J,z⟩:=q;exact JQ ⟨j,Q,(Inv.pinOut (X:=X.p pn) J.without).with _,z⟩
  | brk=>
   obtain⟨j,Q,J,z⟩:=q;exact⟨j,Q,(Inv.pinOut (X:=X.p pn) J.without).with _,z⟩
  | cont=>
   obtain⟨j,Q,J,z⟩:=q;exact⟨j,Q,(Inv.pinOut (X:=X.p pn) J.without).with _,z⟩
  | ret u=>
   obtain⟨v,j,Q,J,r,z⟩:=q;exact⟨v,j,Q,(Inv.pinOut (X:=X.p pn) J.without).with _,r,z⟩
 ·-- an exception is caught
  obtain⟨B,C,j,Q,rfl,J,x,hC,w⟩:=q
  refine UG (X:=X.p (pn++L)) J O1 J.ok.frames x (λo z=>z) λh1 J1 x1=>?_
  refine Mb (X:=X.p (pn++L)) (s:={ s1 with heap:=h1 }) none J1 O1 x1 (by simp) λh2 J2 x2=>?_
  refine wpAny_handleBy_cons (codeAny_handlers_test ?_) (by intro z;cases z);have J2s:=J2.suite B;refine N1 (X:=(X.p (pn++L)).suite B) J2s hg A ?_ uz;have x2':=x2;obtain⟨n1,n2,oe,vs,a0,g1,g2,⟨g0,g3⟩,_⟩:=x2';refine Xo (uQ C hC) J2.kIn g1 g2 ?_;refine codeAny_handlers_suite_as ?_
  refine Mb (X:=X.p (pn++L)) (s:={ s1 with heap:=h2 }) none J2 O1 x2 (by simp) λh3 J3 x3=>?_
  obtain⟨n1,n2,oe,vs,a0,g1,g2,⟨g0,g3⟩,_⟩:=x3;have J4:=J3.track n1 n2 g1 g3;refine Qe (X:=(X.p (pn++L)).suite B) (v:=.ref B) (J4.suite B) hN hi (.inl T) rfl (λs5 J5=>?_) (.inr T)
  refine Eu (hh (pn++L) B [] s5 _ _ DS J5 (w B oe _ n1 ⟨g2,g0,vs,g3⟩)) (λf s6 q=>?_) λ_ _ z=>z.elim
  have ok:(X.p (pn++L)).Ok:=J.ok
  cases f with
  | next=>
   obtain⟨σ6,H6,J6,z⟩:=q
   exact MY (X:=X.p (pn++L)) (J6.unsuite ok) hN hi T λs7 J7=>⟨_,H6,(Inv.pinOut (X:=X.p pn) J7).with _,z⟩
  | brk=>
   obtain⟨σ6,H6,J6,z⟩:=q
   exact MY (X:=X.p (pn++L)) (J6.unsuite ok) hN hi T λs7 J7=>⟨_,H6,(Inv.pinOut (X:=X.p pn) J7).with _,z⟩
  | cont=>
   obtain⟨σ6,H6,J6,z⟩:=q
   exact MY (X:=X.p (pn++L)) (J6.unsuite ok) hN hi T λs7 J7=>⟨_,H6,(Inv.pinOut (X:=X.p pn) J7).with _,z⟩
  | ret u=>
   obtain⟨v,σ6,H6,J6,r,z⟩:=q
   exact MY (X:=X.p (pn++L)) (J6.unsuite ok) hN hi T λs7 J7=>⟨v,_,H6,(Inv.pinOut (X:=X.p pn) J7).with _,r,z⟩
end
def E2(n:Nat)(ds:List D):Lo:=ds.map some++Bd (n - ds.length) none
theorem Xa{K}{ρ}{H}{N}{ds}{j}(r:A9 K ρ H ds j):FC K ρ H (E2 N.length ds) (start N j):=by
 refine⟨by simp[E2,start,r.length],λi d q=>?_⟩;unfold E2 at q;unfold start
 by_cases g:i < ds.length
 ·rw[Aa (by simpa using g),Ah]at q
  rw[Aa (by rw[AF,<-r.length];exact g),Ah]
  cases e:ds[i]? with
  | none=>rw[e]at q;cases q
  | some o=>
   rw[e]at q;cases q;obtain⟨v,l,m⟩:=r.get e;exact⟨v,by rw[l];rfl,m⟩
 ·rw[A4 (by simpa using g),Da]at q
  split at q <;> cases q
def E5(n:Nat)(mb:MS)(ds:List D)(S:Sto):Res D:=(okR (mb (E2 n ds) S)).bind λf g=>match f with
 | .rt d=>.ok d g
 | .nx _=>.ok .non g
 | .ex c _=>.err c g
 | _=>.bad
section
variable{P:Bb}{w:By}{K:AG}{mg:Str->Option AH}{base:CS}
theorem pO{x m}{st}{f}{fd}{N ps}{k n}(F:Fun K x m st f fd)(Sc:CL N ps (BV st))(hn:ps.length=n){mb}
  (uN:∀(R:AH) (A:Bn) (j:List Env) (s:AL) (H:Hp) (E:XK),Hx k (A.deeper (M1 m (BV st) s.heap.objs.size f R))->∀pn Z,GSs ((Ue (CXG P w) P w K mg base N m (BV st) f R A j s H E).w' pn Z) Z (IQ st) mb) :
  EO P w K mg base (CXG P w) (k+1) f fd ps (spM K n (E5 N.length mb)):=by
 obtain⟨oc,od,kV,doc,pm,an,R,ct,vE,rfl,lk,uT⟩:=F.ex
 refine sT lk uT Sc (λvs H Q E h=>by rw[hn];exact h.len) λA j s H vs Q E U h=>?_
 obtain⟨ρ,ds,S,h1,h2,h3,o⟩:=h;have O:KH (Ue (CXG P w) P w K mg base N m (BV st) f R A j s H E):=⟨rfl,rfl,rfl⟩;have hb:=uN R A j s H E U [] (λc _ B=>E (.ref c) none B);refine⟨gS K (λc _ B=>E (.ref c) none B) mb,λζ X σ B D I q=>Eu (hb ζ X σ B D (I.with _) q) (λfl s1 z=>?_) λe s1 z=>?_,ρ,_,S,Xa h2,h3,?_⟩
 ·cases fl with
  | next=>obtain⟨g,G,J,z⟩:=z;exact⟨g,G,J.without,z⟩
  | brk=>obtain⟨g,G,J,z⟩:=z;exact⟨g,G,J.without,z⟩
  | cont=>obtain⟨g,G,J,z⟩:=z;exact⟨g,G,J.without,z⟩
  | ret u=>obtain⟨v,g,G,J,r,z⟩:=z;exact⟨v,g,G,J.without,r,z⟩
 ·refine XE.leave O z λea C g G s2 e1 J x w=>⟨ea,C,G,e1,J.os,J.bare,J.base,J.hok,?_,w⟩
  obtain⟨n1,n2,oe,xq,a0,g1,g2,g3,g4,g5⟩:=x;refine⟨n1,n2.1,oe,xq,a0,g1,g2,g3,g4,?_⟩
  rcases g5 with z | ⟨T,oT,ts,fl,hf,h1,ne,m1,m2,r⟩
  ·exact .inl z
  ·exact .inr ⟨T,oT,ts,fl,hf,h1,ne,m1,m2.1,r⟩
 ·unfold E5 at o
  cases U:mb (E2 N.length ds) S with
  | bad=>rw[U]at o;exact o.elim
  | err c S'=>rw[U]at o;exact o.elim
  | ok fl S'=>
   rw[U]at o
   cases fl with
   | nx Y=>exact λL B g l X r=>o L B .non l X .non
   | rt d=>exact o
   | bk Y=>exact o.elim
   | ct Y=>exact o.elim
   | ex c Y=>exact λL B g l X r=>o L B l X
end
section
variable{X:Cx}
noncomputable def intOp(C:Int->Int->Prop)[∀i j,Decidable (C i j)](g:Int->Int->D):D->D->Sto->Res D
 | .int i,.int j,S=>if C i j then .ok (g i j) S else .bad
 | _,_,_=>.bad
theorem fH[∀i j,Decidable (C i j)](h:intOp C g a b S=.ok d l):∃i j,a=.int i/\b=.int j/\C i j/\d=g i j/\l=S:=by
 unfold intOp at h;split at h
 ·split at h
  ·rename_i i j _ m
   cases h;exact⟨_,_,rfl,rfl,m,rfl,rfl⟩
  ·cases h
 ·cases h
theorem Qy[∀i j,Decidable (C i j)](l:∀ρ H i j,B2 X.K ρ H (g i j) (v i j))(h:OpR X f (rI C v)):OpR X f (rD X.K (intOp C g)):=h.imp<|by
 rintro x y H Q ⟨ρ,S,a,b,d,E,m,o,s,A,k⟩
 obtain⟨i,j,rfl,rfl,B,rfl,rfl⟩:=fH A;cases o;cases s;exact⟨i,j,rfl,rfl,B,k ρ H _ .refl m (l _ _ _ _)⟩
theorem Nt(l:∀ρ H i j,B2 X.K ρ H (g i j) (v i j))(h:OpR X f (rI0 v)):OpR X f (rD X.K (intOp (λ_ _=>True) g)):=
 Qy (C:=λ_ _=>True) l (h.imp λx y H Q ⟨i,j,m,o,_,q⟩=>⟨i,j,m,o,q⟩)
instance(i j:Int):Decidable (gY i j):=inferInstanceAs (Decidable (_/\_))
instance(i j:Int):Decidable (kg i j):=inferInstanceAs (Decidable (_/\_/\_))
instance(i j:Int):Decidable (Wb i j):=inferInstanceAs (Decidable (_∨_))
abbrev Z1:=intOp (λ_ _=>True) λi j=>.int (i - j)
abbrev UI:=intOp Wb λi j=>.int (i * j)
abbrev Mw:=intOp gY λi j=>.int (i / j)
abbrev Kj:=intOp (λ_ j=>0 < j) λi j=>.int (i % j)
abbrev dS:=intOp kg λi j=>.int (i ^ j.toNat)
abbrev ltD:=intOp (λ_ _=>True) λi j=>.bl (decide (i < j))
abbrev leD:=intOp (λ_ _=>True) λi j=>.bl (decide (i<=j))
abbrev gtD:=intOp (λ_ _=>True) λi j=>.bl (decide (j < i))
abbrev geD:=intOp (λ_ _=>True) λi j=>.bl (decide (j<=i))
theorem UE:OpR X (Du .Sub) (rD X.K Z1):=Nt (λ_ _ _ _=>.int _) oG
theorem Qw:OpR X (Du .Mult) (rD X.K UI):=Qy (λ_ _ _ _=>.int _) oI
theorem MX:OpR X (Du .FloorDiv) (rD X.K Mw):=Qy (λ_ _ _ _=>.int _) ja
theorem F6:OpR X (Du .Mod) (rD X.K Kj):=Qy (λ_ _ _ _=>.int _) oJ
theorem Xi:OpR X (Du .Pow) (rD X.K dS):=Qy (λ_ _ _ _=>.int _) oH
theorem Qx:OpR X (B4 .Lt) (rD X.K ltD):=Nt (λ_ _ _ _=>.bl _) rQ
theorem Yx:OpR X (B4 .LtE) (rD X.K leD):=Nt (λ_ _ _ _=>.bl _) rR
theorem lC:OpR X (B4 .Gt) (rD X.K gtD):=Nt (λ_ _ _ _=>.bl _) rS
theorem lD:OpR X (B4 .GtE) (rD X.K geD):=Nt (λ_ _ _ _=>.bl _) rT
noncomputable def FO:D->D->Sto->Res D
 | .int i,.int j,S=>.ok (.int (i+j)) S
 | .tup g,.tup m,S=>if g.length+m.length<=sizeLine then .ok (.tup (g++m)) S else .bad
 | .ref l,.ref b,S=>match S[l]?,S[b]? with
  | some (.lst g),some (.lst m)=>if g.length+m.length<=sizeLine then .ok (.ref S.length) (S++[.lst (g++m)])else .bad
  | _,_=>.bad
 | _,_,_=>.bad
def rF(K:AG):R2:=λx y H Q=>∃a b g j,x=.ref a/\y=.ref b/\H a=some (.tup g)/\H b=some (.tup j)/\g.length+j.length<=sizeLine /\
 (g=[]->Q (.ref b) H)/\(j=[]->Q (.ref a) H)/\(∀p,H p=none->Q (.ref p) (upd H p (.tup (g++j))))
theorem jd:OpR X (Du .Add) (rF X.K):=by
 intro N s O H x y v u Q I P R h;obtain⟨a,b,xs,A,rfl,rfl,B,hb,S,T,U,Y⟩:=h;cases P;cases R;obtain⟨C,Z,p1,_⟩:=I.tuple (a:=a) (xs:=xs) (.inl (.inl B));obtain⟨tq,r2,p2,_⟩:=I.tuple (a:=b) (xs:=A) (.inl (.inl hb))
 by_cases l:xs=[]
 ·obtain⟨⟨cls,dd,data,sl⟩,E,G,n,hd⟩:=id p1
  obtain⟨⟨J,m,data2,o⟩,g,L,n2,j⟩:=id p2;simp only at G hd L j;subst G hd L j;have hi:C=[]:=Z.nil_iff.mpr l
  exact bb ⟨_,E,rfl⟩ ⟨_,g,rfl⟩ TH Ze KM Jv (JT _ _)
   (tuple_addW0 a b C.toArray tq.toArray n n2 dd m sl o (by simp[hi])) ⟨E,g,⟨.ref b,H,I,rfl,T l⟩⟩
 ·exact jc N s O H (.ref a) (.ref b) _ _ Q I rfl rfl ⟨a,b,xs,A,rfl,rfl,.inl (.inl B),.inl (.inl hb),l,S,U,λ_ p hp=>Y p hp⟩
theorem A9.nil_of{K}{ρ}{H}{xs}{g}(r:A9 K ρ H xs g)(e:g=[]):xs=[]:=by
 subst e;cases r;rfl
theorem Dq:OpR X (Du .Add) (rD X.K FO):=(oO.or (jd.or oM)).imp<|by
 rintro x y H Q ⟨l,S,a,b,d,S',j,Z,I,g,k⟩
 cases Z with
 | int i=>
  cases I <;> first | (cases g;done) | skip
  cases g;exact .inl ⟨_,_,rfl,rfl,k l H _ .refl j (.int _)⟩
 | @tup O a1 A B s=>
  cases I with
  | @tup P b1 ws R C=>
   unfold FO at g;dsimp only at g;split at g
   ·rename_i J
    cases g;refine .inr (.inl ⟨_,_,_,_,rfl,rfl,B,R,by rw[<-s.length,<-C.length];exact J,λe=>?_,λe=>?_,λp E=>?_⟩)
    ·rw[s.nil_of e,hU]at k
     exact k l H _ .refl j (.tup R C)
    ·rw[C.nil_of e,A3]at k
     exact k l H _ .refl j (.tup B s)
    ·obtain⟨L,G⟩:=HK (ho:=.tup (A++ws)) j E
     exact k l _ _ G L (.tup Bq ((s.append C).mono G))
   ·cases g
  | _=>cases g
 | @ref n a1 hn=>
  cases I with
  | @ref m b1 uS=>
   unfold FO at g;dsimp only at g;split at g
   ·rename_i O P B s
    split at g
    ·rename_i J
     cases g;obtain⟨A,e1,T⟩:=j.ob _ _ _ B hn;obtain⟨U,e2,Y⟩:=j.ob _ _ _ s uS;refine .inr (.inr ⟨_,_,_,_,rfl,rfl,e1,e2,by rw[<-T.length,<-Y.length];exact J,λp E=>?_⟩);have le:Le X.K l H (l++[p]) (upd H p (.lst (A++U))):=Le.alloc E;obtain⟨L,G,N⟩:=j.alloc (ho:=.lst (A++U)) (o:=.lst (O++P)) E ⟨_,Bq,(T.append Y).mono le⟩;exact k _ _ _ G L (.ref N)
    ·cases g
   ·cases g
  | _=>cases g
 | _=>cases g
def ixD:D->D->Sto->Res D:=λa b S=>match GZ a S,b with
 | some g,.int i=>match atI g i with
  | some d=>.ok d S
  | none=>.bad
 | _,_=>.bad
theorem kX{K}{ρ}{H}{ds}{g}{i}{d}(r:A9 K ρ H ds g)(h:atI ds i=some d):∃v,atI g i=some v/\B2 K ρ H d v:=by
 unfold atI at h ⊢;rw[<-r.length]
 cases l:ixN ds.length i with
 | none=>rw[l]at h;cases h
 | some j=>
  rw[l]at h;exact r.get h
theorem rX:IxR X (rD X.K ixD):=(ix_list.or ot).imp<|by
 rintro x y H Q ⟨l,S,a,b,d,G,j,A,B,g,k⟩
 unfold ixD at g;split at g
 ·rename_i I i C
  split at g
  ·rename_i J hd
   cases g;cases B;obtain⟨p,m,rfl,E,sq⟩:=Nk j A C;obtain⟨v,o,s⟩:=kX E hd
   rcases sq with sq | sq
   ·exact .inl ⟨p,m,_,v,rfl,rfl,sq,o,k l H v .refl j s⟩
   ·exact .inr ⟨p,m,_,v,rfl,rfl,sq,o,k l H v .refl j s⟩
  ·cases g
 ·cases g
def sH(neg:Bool)(x y:D)(S:Sto):Res D:=match y with
 | .non=>match x with
  | .non=>.ok (.bl (!neg)) S
  | _=>.ok (.bl neg) S
 | _=>.bad
theorem oQ:OpR X (B4 .Is) (rD X.K (sH false)):=oK.imp<|by
 rintro x y H Q ⟨j,S,a,b,d,s,l,m,o,g,k⟩
 cases o <;> first | (cases g;done) | skip
 refine⟨rfl,?_⟩
 cases m <;> (cases g;exact k j H _ .refl l (.bl _))
end
def mQ(f:List D->Sto->Res D)(m:ML):ME:=λe S=>(m e S).bind λg j=>okR (f g j)
section
variable{X:Cx}{E:EW}{e:Expr}{es:List Expr}{x:Str}{p pos:Pos}{ml:ML}{id T:String}{r:List V->Hp->VK->Prop}{f:List D->Sto->Res D}
def pZ(K:AG)(r:List V->Hp->VK->Prop)(f:List D->Sto->Res D):Prop:=∀l H S o q m d s (Q:VK),CK K l S H->A9 K l H o m->(SqL K H q m∨SqT K H q m)->f o S=.ok d s ->
 (∀g j z,Le K l H g j->CK K g s j->B2 K g j d z->Q z j)->r [.ref q] H Q
def pf(K:AG)(r:List V->Hp->VK->Prop)(f:List D->Sto->Res D):Prop:=∀l H S m o d s (Q:VK),CK K l S H->A9 K l H m o->f m S=.ok d s ->
 (∀g j z,Le K l H g j->CK K g s j->B2 K g j d z->Q z j)->r o H Q
def se(K:AG)(r:List V->Hp->VK->Prop)(f:List D->Option (List D)):Prop:=∀l H S o q m es (Q:VK),CK K l S H->A9 K l H o m->(SqL K H q m∨SqT K H q m)->f o=some es ->
 (∀g j p s,Le K l H g j->CK K g S j->A9 K g j es s->j p=some (.lst s)->(∀n:Nat,g[n]?≠some p)->H p=none->Q (.ref p) j)->r [.ref q] H Q
theorem UU(s:Iu X (.builtin id) r)(A:pZ X.K r f)(B:Gl X x)(g:X.mg x=none)(C:Ev x=some (.builtin id))(h:GQ X E e ml)(G:x≠"__name__":=by decide) (I:(x==("__debug__" : Str))=false:=by decide)
  (o:AO [e] X.env=(false,Bt e X.env) :: AO [] X.env:=by rfl):GE X E (.Call (.Name x p) [e] [] pos) (mQ f ml):=(Lq s B g C (EF h Gj o) G I o rfl).imp<|by
 rintro σ H Q ⟨J,l,S,L,N,g⟩
 refine⟨J,l,S,L,N,g.seq λO P g j R q U Y Z r1 sq=>?_⟩;obtain⟨d,S',e,k⟩:=g.okR
 exact A j R P O q U d S' Q Z r1 sq e λm H' z l' s' r'=>k m H' z (Y.trans l') s' r'
theorem ZF(o:Iu X (.builtin id) r)(s:pf X.K r f)(A:Gl X x)(g:X.mg x=none)(B:Ev x=some (.builtin id))(h:GA X E (e :: es) ml)(C:x≠"__name__":=by decide) (G:(x==("__debug__" : Str))=false:=by decide)
  (I:AO (e :: es) X.env=(false,Bt e X.env) :: AO es X.env:=by rfl) (J:(Cp pos (AO es X.env)).any (·.1)=false:=by rfl):GE X E (.Call (.Name x p) (e :: es) [] pos) (mQ f ml):=(Lq o A g B h C G I J).imp<|by
 rintro σ H Q ⟨L,l,S,N,O,g⟩
 refine⟨L,l,S,N,O,g.seq λP R g j U Y Z s1 r1=>?_⟩;obtain⟨d,S',e,k⟩:=g.okR
 exact s j U R P Y d S' Q s1 r1 e λm H' z l' s' r'=>k m H' z (Z.trans l') s' r'
def mN(f:List D->Option (List D))(m:ML):ML:=λe S=>(m e S).bind λg j=>match f g with
 | some es=>.ok es j
 | none=>.bad
theorem j6{f}(J:Iu X (.type T) r)(L:se X.K r f)(N:Gl X x)(g:X.mg x=none)(O:Ev x=some (.type T))(h:GQ X E e ml)(j:x≠"__name__":=by decide) (P:(x==("__debug__" : Str))=false:=by decide)
  (A:AO [e] X.env=(false,Bt e X.env) :: AO [] X.env:=by rfl):GL X E (.Call (.Name x p) [e] [] pos) (mN f ml):=(Sk J N g O (EF h Gj A) j P A rfl).imp<|by
 rintro σ H Q ⟨R,l,S,U,B,g⟩
 refine⟨R,l,S,U,B,g.seq λC Y g m Z q xs G I r1 sq=>?_⟩
 cases o:f C with
 | none=>rw[o]at g;exact g.elim
 | some es=>
  rw[o]at g
  exact L m Z Y C q xs es Q I r1 sq o λs H' p ys l' s' r' hp j x6=>g s H' p ys (G.trans l') s' r' hp j (G.back B I x6)
def rn(ds:List D)(S:Sto):Res D:=.ok (.int ds.length) S
theorem nK:pZ X.K (λxs H Q=>∃p ys,xs=[.ref p]/\(SqL X.K H p ys∨SqT X.K H p ys)/\Q (.int ys.length) H) rn:=λg H S o q xs d s Q j l sq m k=>by
 cases m;exact⟨q,xs,rfl,sq,k g H _ .refl j (by rw[l.length];exact .int _)⟩
def Nx:List D->Sto->Res D
 | [.int i,.int j],S=>.ok (.int (if j < i then j else i)) S
 | _,_=>.bad
def PR:List D->Sto->Res D
 | [.int i,.int j],S=>.ok (.int (if j > i then j else i)) S
 | _,_=>.bad
theorem kb:pf X.K (λxs H Q=>∃i j,xs=[.int i,.int j]/\Q (.int (if j < i then j else i)) H) Nx:=λl H S s xs d A Q m o g k=>by
 unfold Nx at g;split at g
 ·cases g
  cases o with
  | cons a t=>
   cases t with
   | cons b t=>
    cases t;cases a;cases b;exact⟨_,_,rfl,k l H _ .refl m (.int _)⟩
 ·cases g
theorem kc:pf X.K (λxs H Q=>∃i j,xs=[.int i,.int j]/\Q (.int (if j > i then j else i)) H) PR:=λl H S s xs d A Q m o g k=>by
 unfold PR at g;split at g
 ·cases g
  cases o with
  | cons a t=>
   cases t with
   | cons b t=>
    cases t;cases a;cases b;exact⟨_,_,rfl,k l H _ .refl m (.int _)⟩
 ·cases g
def Sq(ds:List D):Option (List D):=some ds
theorem iu:se X.K (λxs H Q=>∃p ys,xs=[.ref p]/\(SqL X.K H p ys∨SqT X.K H p ys)/\∀l,H l=none->Q (.ref l) (upd H l (.lst ys))) Sq:=λo H S C q xs es Q j s sq A k=>by
 cases A;refine⟨q,xs,rfl,sq,λl g=>?_⟩;obtain⟨B,m⟩:=HK (ho:=.lst xs) j g;exact k o _ l xs m B (s.mono m) Bq (λn e=>j.notIn g e) g
end
noncomputable def D9(X:Cx)(scope:Ru)(N':List Str)(l:List (Str×AV))(C:AV)(g:AL)(j:Hp)(ex:List AV)(pn:List (AV×Obj)):Cx where
 prog:=X.prog
 w:=X.w
 K:=X.K
 mg:=X.mg
 base:=X.base
 A:=X.A
 N:=N'
 s₀:=g
 H₀:=j
 env:=compEnvC scope l C X.env
 outer:=X.stack
 stack:=X.stack
 ex:=ex
 fn:=λx=>scope.names.lookup x==some .cell
 calm:=X.calm
 pn:=pn
 xe:=λ_ _=>False
theorem Uf:∀(names:List (Str×OW)) (g:List (Str×AV)),(∀y∈names,y.2=.free->∃c,env.cells.lookup y.1=some c)->(∀n c,g.lookup n=some c->env.cells.lookup n=some c) ->
  ∃l,(forIn names g (λ(x:Str×OW) (cs:List (Str×AV))=>match x with | (name,kind)=>if (kind==Fc)=true then do let a <-cellOf env name;pure (HZ ((name,a) :: cs))else pure (HZ cs)):Sem (List (Str×AV)))=pure l /\
   (∀n c,l.lookup n=some c->env.cells.lookup n=some c)/\(∀n c,g.lookup n=some c->∃J,l.lookup n=some J)/\∀y∈names,y.2=.free->∃c,l.lookup y.1=some c
 | [],g,_,s=>⟨g,rfl,s,λn c h=>⟨c,h⟩,λ_ h=>nomatch h⟩
 | (n,k) :: r,g,h,s=>by
  rw[GV]
  by_cases E:k=.free
  ·subst E
   obtain⟨c,I⟩:=h (n,.free) Ao rfl
   obtain⟨l,e,G,A,H⟩:=Uf r ((n,c) :: g) (λy j=>h y (AT _ j)) (λm d o=>by
    rw[BX]at o
    cases B:(m==n)with
    | true=>rw[B]at o;cases o;rw[eq_of_beq B];exact I
    | false=>rw[B]at o;exact s m d o)
   have L:cellOf env n=pure c:=by unfold cellOf;rw[I]
   refine⟨l,?_,G,λm d o=>A m (if m==n then c else d) ?_,λy j C=>?_⟩
   ·simp only[beq_self_eq_true,if_true,L,pure_bind]
    exact e
   ·rw[BX]
    cases B:(m==n)with
    | true=>rfl
    | false=>exact o
   ·rcases Aq.mp j with rfl | j
    ·exact A n c (by rw[BX,beq_self_eq_true])
    ·exact H y j C
  ·have hb:(k==Fc)=false:=by simpa using E
   obtain⟨l,e,G,A,H⟩:=Uf r g (λy j=>h y (AT _ j)) s;refine⟨l,?_,G,A,λy j C=>?_⟩
   ·simp only[hb,BW,if_false,pure_bind]
    exact e
   ·rcases Aq.mp j with rfl | j
    ·exact(E C).elim
    ·exact H y j C
theorem ZW(h:∀y∈scope.names,y.2=.free->∃c,env.cells.lookup y.1=some c):∃g,closureFor scope env=pure g /\
  (∀n c,g.lookup n=some c->env.cells.lookup n=some c)/\∀y∈scope.names,y.2=.free->∃c,g.lookup y.1=some c:=by
 obtain⟨g,e,j,_,l⟩:=Uf scope.names [] h (λn c z=>by simp at z);refine⟨g,?_,j,l⟩;unfold closureFor;exact(congrArg (λz=>z >>= λm=>pure m) e).trans (by rw[pure_bind])
def YC(X:Cx)(g:List Expr)(t:TT):Prop:=
 ∀(l:List (AV×Obj)) (s:AL) (j:St) (H:Hp) (Q:Bool->Hp->Prop),Inv X l j H s->t j H Q ->
  Af (Am X.prog X.w) X.A (forIn g true λc r=>if r=true then do let ok <-Wx c X.env (Bt c X.env);pure (HZ ok)else pure (HZ r)) (TP X l j Q) X.xe s
theorem dW:YC X [] (λ_ H Q=>Q true H):=λg s j H Q I h=>wpAny_tests_nil ⟨H,I,h⟩
theorem dU(h:PT X c t):YC X [c] t:=λg s j H Q I q=>wpAny_tests_one (h g s j H Q I q)
structure NQ(X:Cx)(scope:Ru)(own N':List Str):Prop where
 kind:scope.kind=.function
 names:∀y∈scope.names,y.2=.local->scope.names.lookup y.1=some .local
 free:∀y∈scope.names,y.2=.free->X.env.kindOf y.1=some .cell∨X.env.kindOf y.1=some .free
 len:N'.length=own.length+X.N.length
 up:∀i x,N'[own.length+i]?=some x->Vis (Jt scope X.env) x->(X.N[i]?=some x/\Vis X.env.scope x/\((Jt scope X.env).names.lookup x=some .cell∨(Jt scope X.env).names.lookup x=some .free)/\X.env.kindOf x≠some .local)/\(x,C2)∉scope.names/\(x,Fc)∈scope.names
 vis:∀x,((Jt scope X.env).names.lookup x=some .cell∨(Jt scope X.env).names.lookup x=some .free)->(x,Fc)∈scope.names∨(x,C2)∈scope.names
theorem FM:∀(names:List (Str×OW)) (n:Nat) (j:List (Str×AV)) (x:Str) (c:AV),(CA n names j).lookup x=some c ->
  ((x,C2)∈names/\n<=c)∨j.lookup x=some c
 | [],_,_,_,_,h=>.inr h
 | (y,k) :: r,n,j,x,c,h=>by
  unfold CA at h;split at h
  ·rename_i l
   have l:k=.cell:=by simpa using l
   subst l
   rcases FM r (n+1) _ x c h with⟨g,m⟩ | g
   ·exact .inl ⟨AT _ g,Pk m⟩
   ·rw[BX]at g
    cases hb:x==y with
    | true=>rw[hb]at g;cases g;rw[beq_iff_eq.mp hb];exact .inl ⟨Ao,AN _⟩
    | false=>rw[hb]at g;exact .inr g
  ·rcases FM r n j x c h with⟨g,m⟩ | g
   ·exact .inl ⟨AT _ g,m⟩
   ·exact .inr g
theorem DI:∀(names:List (Str×OW)) (n:Nat) (g:List (Str×AV)) (x:Str),(∃c,g.lookup x=some c)->∃c,(CA n names g).lookup x=some c
 | [],_,_,_,h=>h
 | (y,k) :: r,n,g,x,h=>by
  unfold CA;split
  ·refine DI r (n+1) _ x ?_
   rw[BX]
   cases hb:x==y with
   | true=>exact⟨_,rfl⟩
   | false=>exact h
  ·exact DI r n g x h
theorem D3:∀(names:List (Str×OW)) (n:Nat) (g:List (Str×AV)) (x:Str),(x,C2)∈names->∃c,(CA n names g).lookup x=some c/\n<=c
 | (y,k) :: r,n,g,x,h=>by
  unfold CA
  by_cases l:(x,C2)∈r
  ·split
   ·obtain⟨c,j,o⟩:=D3 r (n+1) ((y,n) :: g) x l
    exact⟨c,j,Pk o⟩
   ·exact D3 r n g x l
  ·rcases Aq.mp h with e | e
   ·cases e
    rw[qX (show(C2==C2)=true from rfl)];obtain⟨c,m⟩:=DI r (n+1) ((y,n) :: g) y ⟨n,by rw[BX,beq_self_eq_true]⟩
    rcases FM r (n+1) _ y c m with⟨j,_⟩ | j
    ·exact(l j).elim
    ·rw[BX,beq_self_eq_true]at j
     cases j;exact⟨n,m,AN _⟩
   ·exact(l e).elim
theorem Mj(m:(x,C2)∉names)(h:g.lookup x=some c):(CA n names g).lookup x=some c:=by
 obtain⟨o,l⟩:=DI names n g x ⟨c,h⟩
 rcases FM names n g x o l with⟨j,_⟩ | j
 ·exact(m j).elim
 ·rw[h]at j;cases j;exact l
theorem Jm:∀(names:List (Str×OW)) (n:Nat) (g:List (Str×AV)),(∀x c,g.lookup x=some c->c < n)->(∀x y c,g.lookup x=some c->g.lookup y=some c->x=y) ->
  ∀x y c,(CA n names g).lookup x=some c->(CA n names g).lookup y=some c->x=y
 | [],_,_,_,h=>h
 | (z,k) :: r,n,g,l,h=>by
  unfold CA;split
  ·have j:∀x c,((z,n) :: g).lookup x=some c->(x=z/\c=n)∨g.lookup x=some c:=λx c q=>by
    rw[BX]at q
    cases hb:x==z with
    | true=>rw[hb]at q;cases q;exact .inl ⟨beq_iff_eq.mp hb,rfl⟩
    | false=>rw[hb]at q;exact .inr q
   refine Jm r (n+1) _ (λx c q=>?_) λx y c s A=>?_
   ·rcases j x c q with⟨_,rfl⟩ | e
    ·exact CG _
    ·exact FD (l x c e)
   ·rcases j x c s with⟨e,B⟩ | e <;> rcases j y c A with⟨m,o⟩ | m
    ·rw[e,m]
    ·subst B;exact zX (l _ _ m) (DL _)
    ·subst o;exact zX (l _ _ e) (DL _)
    ·exact h x y c e m
  ·exact Jm r n g l h
theorem Jl:∀(names:List (Str×OW)) (h:CS) (g:List (Str×AV)) (x:Str) (c:AV),(CA h.objs.size names g).lookup x=some c->g.lookup x=some c∨((Ei h names).IsCell c none/\h.objs.size<=c)
 | [],_,_,_,_,q=>.inl q
 | (y,k) :: r,h,g,x,c,q=>by
  unfold CA at q;unfold Ei;split at q
  ·rename_i j
   rw[qX j];have:=Jl r (h.push { cls:=.type "cell",data:=.cell none }) ((y,h.objs.size) :: g) x c (by rw[CV];exact q)
   rcases this with e | ⟨e,l⟩
   ·rw[BX]at e
    cases hb:x==y with
    | true=>
     rw[hb]at e;cases e;exact .inr ⟨⟨_,U2 _ _ _ _ (Ag _ rfl),rfl⟩,AN _⟩
    | false=>rw[hb]at e;exact .inl e
   ·exact .inr ⟨e,by rw[CV]at l;exact Pk l⟩
  ·rename_i j
   rw[qY j];exact Jl r h g x c q
theorem XB
  (h:Q (newEnv scope s.heap.objs.size globals (CA (s.heap.push { cls:=.type "dict",data:=.dict #[] }).objs.size scope.names B) j none .none (some g) W0) { s with heap:=Ei (s.heap.push { cls:=.type "dict",data:=.dict #[] }) scope.names }) :
  Af M A (Ww scope globals B [] j none .none (some g)) Q E s:=by
 simp only[Ww,YL,if_true];refine AA (wpAny_alloc ?_);refine AA (wpAny_layCells _ (λo l cells=>by cases m:l==C2 <;> simp[m]) _ _ _ _ ?_);rw[Gz];exact AA (AI (AI h))
section
theorem X5(N:NQ X scope own N')(I:Inv X ζ Q O E)(G:∀b∈fp,NP X ζ O b)(vM:∀b∈fp,b < E.heap.objs.size)
  (g:∀n c,B.lookup n=some c->X.env.cells.lookup n=some c) (c2:∀y∈scope.names,y.2=.free->∃c,B.lookup y.1=some c)
  (R:E.heap.objs.size<=n) (S:∀x c,(CA n scope.names B).lookup x=some c->B.lookup x=some c∨(s.heap.IsCell c none/\n<=c)) (zW:∀c,n<=c->H c=none)
  (T:E.heap.objs.size<=C) (hn:s.heap.Ns C m) (wU:s.os=E.os) (hg:Iv s.gens)
  (u:Un (frs X.stack) fp O H E.heap s.heap) (U:HOk X.prog X.w H s.heap) (wD:H C=none) :
  Inv (D9 X scope N' (CA n scope.names B) C E O fp (X.pn++ζ)) [] (Bd own.length none++Q) H s:=by
 have l:∀x c v,B.lookup x=some c->E.heap.IsCell c v->s.heap.IsCell c v:=by
  rintro x c v e ⟨o,Y,hd⟩
  obtain⟨sl,q⟩:=u.any Y (I.freeC x c (g x c e)) λz=>(G c z).2.2.2.2.1 x c (g x c e) rfl
  exact⟨_,q,hd⟩
 have Z:∀x c,B.lookup x=some c->c < n:=λx c e=>by
  obtain⟨v,z⟩:=I.cell x c (g x c e);exact Ae z.lt R
 have ok':(D9 X scope N' (CA n scope.names B) C E O fp (X.pn++ζ)).Ok:=by
  refine⟨I.ok.mod,N.kind,I.ok.glob,I.ok.blt,T,Jm _ _ _ Z λx y c h1 h2=>I.ok.inj x y c (g x c h1) (g y c h2),λx hx=>?_,λx c z q=>?_,I.ok.hd,I.ok.frames,.inl rfl,λb hb=>?_,I.bs,Av I.ok.bsz I.sz,λb o e hb=>?_,λb hb vj=>?_,I.stack,I.stkFree⟩
  ·rcases N.vis x hx with h | h
   ·exact DI _ _ _ _ (c2 _ h rfl)
   ·obtain⟨c,hc,_⟩:=D3 scope.names n B x h
    exact⟨c,hc⟩
  ·have z:(scope.names.lookup x==some .cell)=true:=z
   obtain⟨c',A,hl⟩:=D3 scope.names n B x (Dc (beq_iff_eq.mp z));have q:(CA n scope.names B).lookup x=some c:=q;rw[A]at q;cases q;exact Av R hl
  ·refine⟨Ax (Ae (vM b hb) T),λx c e=>?_⟩
   rcases S x c e with e | ⟨_,e⟩
   ·exact(G b hb).2.2.2.2.1 x c (g x c e)
   ·exact ED (Ae (vM b hb) (Av R e))
  ·obtain⟨_,_,_,z,_⟩:=G b hb
   rcases z with z | z
   ·exact I.ok.noex b o e z
   ·exact zX (Ae (AX (I.ok.bs b o e).1) z) (DL _)
  ·obtain⟨_,z1,z2,_⟩:=G b hb
   rcases Aq.mp (I.stkSub b vj)with e | e
   ·exact z1 e
   ·exact z2 e
 refine⟨ok',wU,hg,u,⟨m,hn,λi x v e1 P e3=>?_⟩,λx c e=>?_,wD,λx c e=>?_,λp hp=>?_,U,?_⟩
 ·have hi:own.length<=i:=by
   apply LK
   intro tm;rw[Aa (by simpa using tm),Da,qX tm]at P;cases P
  obtain⟨j,rfl⟩:∃j,i=own.length+j:=⟨i - own.length,by lia⟩
  rw[A4 (by simp)]at P
  have e2':Q[j]?=some (some v):=by simpa using P
  obtain⟨⟨n1,n2,n3,n4⟩,n5,n6⟩:=N.up j x e1 e3;obtain⟨m0,zY,hl⟩:=I.loc;obtain⟨w',r,lk⟩:=hl j x v n1 e2' n2;refine⟨w',r,.inr ⟨n3,?_⟩⟩
  rcases lk with⟨k,_⟩ | ⟨_,c,hc,uj⟩
  ·exact(n4 k).elim
  ·obtain⟨c',A⟩:=c2 _ n6 rfl
   have e:=g x c' A;rw[hc]at e;cases e;exact⟨c,Mj n5 A,l x c _ A uj⟩
 ·rcases S x c e with e | ⟨e,_⟩
  ·obtain⟨v,z⟩:=I.cell x c (g x c e)
   exact⟨v,l x c v e z⟩
  ·exact⟨none,e⟩
 ·rcases S x c e with e | ⟨_,e⟩
  ·obtain⟨v,o,Y,hd⟩:=I.cell x c (g x c e)
   exact u.free c o Y (I.freeC x c (g x c e)) λz=>(G c z).2.2.2.2.1 x c (g x c e) rfl
  ·exact zW c e
 ·have vx:p∈X.pn++ζ:=by
   have hp:p∈(X.pn++ζ)++[]:=hp;rwa [A3]at hp
  obtain⟨e,n,ne,nf,d⟩:=I.pin p vx
  have J:p.1∉frs X.stack:=λz=>(Aq.mp (I.stkSub _ z)).elim ne nf
  have L:p.1∉fp:=λz=>(G _ z).2.2.2.2.2 p vx rfl
  exact⟨u.keep p.1 p.2 e n J L,u.free p.1 p.2 e n L,Ax (Ae (AX e) T),J,d⟩
 ·show(Bd own.length none++Q).length=N'.length
  rw[AK,MM,I.len,N.len]
def cT(k:Nat)(L:TI)(g:TG)(tc:TT)(te:TE):TE:=λB H Q=>L B H λJ C=>∀p,C p=none->∃W:Nat->Nat->St->Hp->List V->Prop,(∃m,W 0 m (Bd k none++B) (upd C p (.lst [])) []) /\
 ∀i m s o l,W i m s o l->o p=some (.lst l)/\((J.stop i o/\Q (.ref p) o)∨(J.go i o/\l.length < sizeLine/\∀x E,J.yld i o x E->g x s E λj N=>tc j N λb G=>
  if b=true then te j G λy I=>I p=some (.lst l)/\∃A,A < m/\W (i+1) A j (upd I p (.lst (l++[y]))) (l++[y])else ∃A,A < m/\W (i+1) A j G l))
theorem bA{X':Cx}{I ϖ iter:Expr}{L:List Expr}{pos:Pos}{J:It}{it p:AV}{tn:Nat->CS->Prop}{g:TG}{tc:TT}{te:TE}{R:lh->AL->Prop}{Q:Hp->Prop}
  (hc:X'.calm=true) (hx:X'.xe=λ_ _=>False) (T:YA X'.prog X'.w X'.K ϖ J fp it tn) (hg:PG X' ϖ g) (vN:YC X' L tc) (he:PE X' I te)
  (W:Nat->Nat->St->Hp->List V->Prop) (turn:∀i m j l xs,W i m j l xs->l p=some (.lst xs)/\((J.stop i l/\Q l)∨(J.go i l/\xs.length < sizeLine/\∀x vJ,J.yld i l x vJ->g x j vJ λG H2=>tc G H2 λb H3=>
   if b=true then te G H3 λy H4=>H4 p=some (.lst xs)/\∃C,C < m/\W (i+1) C G (upd H4 p (.lst (xs++[y]))) (xs++[y])else ∃C,C < m/\W (i+1) C G H3 xs)))
  (fin:∀j l s',Inv X' [] j l s'->Q l->R (.ok .next) s')
  {m0:Nat} {N:St} {H0:Hp} {s0:AL} (I0:Inv X' [] N H0 s0) (st0:tn 0 s0.heap) (f0:∀b∈fp,NP X' [] H0 b) (w0:W 0 m0 N H0 []) :
  LQ (Am X'.prog X'.w) X'.A (.compLoop (.ListComp I [⟨ϖ,iter,L,0⟩] scope pos) 0 (.ref it) (.ref p) X'.env) R s0:=by
 have uU:∀{l:Hp},(∀b∈fp,l b=none)->∀b∈fp,NP X' [] l b:=λhn b hb=>⟨hn b hb,(f0 b hb).2⟩
 refine codeAny_loop rfl (λn s'=>∃i j l xs,Inv X' [] j l s'/\tn i s'.heap/\(∀b∈fp,l b=none)/\W i n j l xs) (λn s1 hI=>?_) m0 ⟨0,N,H0,[],I0,st0,λb hb=>(f0 b hb).1,w0⟩;obtain⟨i,B,H1,xs,I1,tS,Z,w1⟩:=hI;show Af _ X'.A ((compTurn (.ListComp I [⟨ϖ,iter,L,0⟩] scope pos) 0 (.ref it) (.ref p) X'.env).onRaise (λx=>do bK x X'.env;theTreesLotGoes x)) _ _ s1;refine wpAny_noted ?_;rw[compTurn_list]
 have up:∀{α:Type} {t:Sem α} {P:α->AL->Prop} {E:AH->AL->Prop} {s:AL},Af (Am X'.prog X'.w) X'.A t P X'.xe s->Af (Am X'.prog X'.w) X'.A t P E s:=λh=>Eu h (λ_ _ z=>z) λ_ _ z=>by rw[hx]at z;exact z.elim
 obtain⟨hp,yG⟩:=turn i n B H1 xs w1;refine AA (wpAny_standAt (AA ?_))
 rcases yG with⟨stop,q⟩ | ⟨go,hz,step⟩
 ·refine up (thn (T.done X' rfl rfl rfl hc i [] s1 B H1 X'.xe I1 (uU Z) tS stop) λr s4 ⟨hr,I4⟩=>?_)
  subst hr;exact AI (fin B H1 s4 I4 q)
 ·refine up (thn (T.item X' rfl rfl rfl hc i [] s1 B H1 X'.xe I1 (uU Z) tS go) λr s4 ⟨u,hr,h4⟩=>?_)
  subst hr;refine AA (up (thn h4 λ_ s5 ⟨x,H5,I5,r5,y5,vV,fr5⟩=>?_));have Κ:=I5.pinned (uU fr5) (T.obj _ _ vV);refine AA (up (thn (hg _ s5 B H5 x u _ Κ r5 (step x H5 y5)) λ_ s6 ⟨O,H6,I6,q6⟩=>?_))
  have g7:∀{S:AL} {H:St} {U:Hp} {ys:List V},Inv X' ([]++Qp fp s5.heap) H U S->(∃C,C < n/\W (i+1) C H U ys)->∃m,m < n/\∃i j l xs,Inv X' [] j l S/\tn i S.heap/\(∀b∈fp,l b=none)/\W i m j l xs:=λ{S H U ys} Y ⟨C,hm,w7⟩=>by
   refine⟨C,hm,i+1,H,U,ys,Y.unpinned,T.keep _ _ _ vV λb hb o e=>(Y.pin (b,o) (Aw _ (Aw _ (Kk hb e)))).1,λb hb=>?_,w7⟩;obtain⟨o,e,d⟩:=T.obj _ _ vV b hb;exact(Y.pin (b,o) (Aw _ (Aw _ (Kk hb e)))).2.1
  refine AA (up (thn (vN _ s6 O H6 _ I6 q6) λok S ⟨U,Y,q7⟩=>?_))
  cases ok with
  | false=>
   rw[qY Ac]at q7;exact AI ⟨rfl,g7 Y q7⟩
  | true=>
   rw[qX rfl]at q7;refine AA (AA (up (thn (he _ S O U _ Y q7) λyv s8 ⟨y,H8,I8,r8,hp8,q8⟩=>?_)));refine AA (up (thn (Sn (X:=X') _ s8 O H8 (.ref p) [y] (.ref p) [yv] (λv H9=>v=.non/\H9=upd H8 p (.lst (xs++[y]))) I8 rfl (.cons r8 .nil) ⟨p,xs,y,rfl,rfl,hp8,hz,rfl,rfl⟩) λv9 s9 ⟨v,H9,I9,r9,e9,e10⟩=>?_));subst e10;exact AI (AI ⟨rfl,g7 I9 q8⟩)
end
section
theorem Sx(I:Inv X B L s j)(J:Inv (D9 X scope N' Y C j s fp (X.pn++B)) [] N l s')(O:j.heap.objs.size<=C)(P:∀b∈fp,NP X B s b)
  (A:EC C s'.heap h'):Inv X B L l { s' with heap:=h' }:=by
 have E:∀b o,j.heap.get? b=some o->b≠C:=λb o e=>Ax (Ae (AX e) O)
 have g:Un (frs X.stack) fp s l j.heap s'.heap:=J.base
 have u:Un (frs X.stack) fp s l j.heap h':=by
  refine⟨λb o e n hb m=>(A.2 b (E b o e)).trans (g.keep b o e n hb m),λb o e n hb m=>?_,g.free,λb o e m=>?_,g.tups,g.frzs,g.tbls⟩
  ·obtain⟨sl,q⟩:=g.slot b o e n hb m
   exact⟨sl,(A.2 b (E b o e)).trans q⟩
  ·obtain⟨Q,q⟩:=g.there b o e m
   exact⟨Q,(A.2 b (E b o e)).trans q⟩
 have H:l C=none:=J.free
 have G:HOk X.prog X.w l h':=λa o e=>(J.hok a o e).stay (λb u hb q=>(A.2 b λz=>by
  subst z
  rcases hb with z | z
  ·subst z;rw[H]at e;cases e
  ·rw[H]at z;cases z).trans q) (λ_ q=>q) λ_ _ q=>q
 exact I.call' (s':={ s' with heap:=h' }) (ch:=fp) J.os u G J.bare λb hb=>by
  obtain⟨_,R,Z,S,T,U⟩:=P b hb;exact⟨S,R,T,U⟩
theorem RP{σ:St}{E:AH->AL->Prop}{Qf:AV->Hp->Prop}{RR:AH->AV->lh->AL->Prop}{it:AV}{J:It}{tn:Nat->CS->Prop}(hc:X.calm=true)(Sc:NQ X scope own N')
  (hg:∀H C l B ex pn,PG (D9 X scope N' H C l B ex pn) ϖ g) (vN:∀H C l B ex pn,YC (D9 X scope N' H C l B ex pn) Y tc) (he:∀H C l B ex pn,PE (D9 X scope N' H C l B ex pn) Z te)
  (c1:∀n c,H.lookup n=some c->X.env.cells.lookup n=some c) (c2:∀y∈scope.names,y.2=.free->∃c,H.lookup y.1=some c)
  (U:Inv X ζ σ I s2) (T:YA X.prog X.w X.K ϖ J fp it tn) (t7:tn 0 s2.heap) (f2:∀b∈fp,NP X ζ I b)
  (q2:∀p,I p=none->∃W:Nat->Nat->St->Hp->List V->Prop,(∃m,W 0 m (Bd own.length none++σ) (upd I p (.lst [])) []) /\
   ∀i m L N xs,W i m L N xs->N p=some (.lst xs)/\((J.stop i N/\Qf p N)∨(J.go i N/\xs.length < sizeLine/\∀x vJ,J.yld i N x vJ->g x L vJ λO I=>tc O I λb G=>
    if b=true then te O G λy j=>j p=some (.lst xs)/\∃m',m' < m/\W (i+1) m' O (upd j p (.lst (xs++[y]))) (xs++[y])else ∃m',m' < m/\W (i+1) m' O G xs)))
  (hRR:∀D C H L N s',s2.heap.objs.size<=C->Inv (D9 X scope N' H C s2 I fp (X.pn++ζ)) [] L N s'->Qf D N->RR (.ref D) C (.ok .next) s') :
  Af (Am X.prog X.w) X.A (newList []) (λacc s₃=>Af (Am X.prog X.w) X.A (Ww scope X.env.globals H [] X.env.qual none .none (some X.env)) (λyH s₄=>
   LQ (Am X.prog X.w) X.A (.compStart (.ListComp Z [⟨ϖ,iter,Y,0⟩] scope pos) 0 (.ref it) acc { yH with scope:=Jt scope X.env }) (RR acc yH.locals) s₄) E s₃) E s2:=by
 have vM:∀b∈fp,b < s2.heap.objs.size:=λb hb=>by
  obtain⟨o,e,_⟩:=T.obj _ _ t7 b hb;exact AX e
 refine CU (XB ?_);dsimp only;generalize R:s2.heap.push { cls:=.type "list",dict:=none,data:=.seq ([]:List AH).toArray }=G;generalize S:G.push { cls:=.type "dict",data:=.dict #[] }=j
 have hC:G.objs.size=s2.heap.objs.size+1:=by rw[<-R,CV]
 have hC4:j.objs.size=G.objs.size+1:=by rw[<-S,CV]
 have hDC:s2.heap.objs.size≠G.objs.size:=by rw[hC];exact Ax (CG _)
 have wa:s2.heap.objs.size<=G.objs.size:=by rw[hC];exact Rf _
 have yI:s2.heap.objs.size<=j.objs.size:=by rw[hC4];exact gf wa
 have yJ:∀b o,G.get? b=some o->(Ei j scope.names).get? b=some o:=λb o e=>U2 _ _ _ _ (S▸AJ _ e)
 have old:∀b o,s2.heap.get? b=some o->(Ei j scope.names).get? b=some o:=λb o e=>yJ b o (R▸AJ _ e)
 have Ω:(Ei j scope.names).get? s2.heap.objs.size=some { cls:=.type "list",dict:=none,data:=.seq ([]:List AH).toArray }:=yJ _ _ (R▸Ag _ rfl)
 have δ:(Ei j scope.names).Ns G.objs.size λ_=>none:=by
  have:=(CS.Ns.new G (.type "dict")).keeps (U2 scope.names (G.push { cls:=.type "dict",data:=.dict #[] }));rw[S]at this;exact this
 have hD:I s2.heap.objs.size=none:=U.hok.fresh (AN _);have u:Un (frs X.stack) fp I (upd I s2.heap.objs.size (.lst [])) s2.heap (Ei j scope.names):=Un.laid old (AN _) hD;have hok:HOk X.prog X.w (upd I s2.heap.objs.size (.lst [])) (Ei j scope.names):=U.hok.laid old (AN _) ⟨CZ _,[],0,.nil,Ω⟩
 have zW:∀c,s2.heap.objs.size < c->upd I s2.heap.objs.size (.lst []) c=none:=λc h=>by rw[Bh (ED h)];exact U.hok.fresh (LY h)
 have wD:upd I s2.heap.objs.size (.lst []) G.objs.size=none:=zW _ (by rw[hC];exact CG _)
 have uM:∀x c,(CA j.objs.size scope.names H).lookup x=some c->H.lookup x=some c∨((Ei j scope.names).IsCell c none/\j.objs.size<=c):=λx c e=>Jl scope.names j H x c e
 obtain⟨W,⟨m0,w0⟩,turn⟩:=q2 s2.heap.objs.size hD
 have P:∀s₃:AL,s₃={ s2 with heap:=Ei j scope.names } ->
   LQ (Am X.prog X.w) X.A (.compLoop (.ListComp Z [⟨ϖ,iter,Y,0⟩] scope pos) 0 (.ref it) (.ref s2.heap.objs.size) (compEnvC scope (CA j.objs.size scope.names H) G.objs.size X.env))
    (RR (.ref s2.heap.objs.size) G.objs.size) s₃:=by
  rintro s₃ rfl
  have J0:Inv (D9 X scope N' (CA j.objs.size scope.names H) G.objs.size s2 I fp (X.pn++ζ)) [] (Bd own.length none++σ) (upd I s2.heap.objs.size (.lst [])) { s2 with heap:=Ei j scope.names }:=
   X5 (s:={ s2 with heap:=Ei j scope.names }) Sc U f2 vM c1 c2 yI uM (λc h=>zW c (by lia)) wa δ rfl U.bare u hok wD
  refine bA (X':=D9 X scope N' (CA j.objs.size scope.names H) G.objs.size s2 I fp (X.pn++ζ)) (fp:=fp) (Q:=Qf s2.heap.objs.size) hc rfl T (hg _ _ _ _ _ _) (vN _ _ _ _ _ _) (he _ _ _ _ _ _) W turn (λL N s' J q=>hRR _ _ _ L N s' wa J q) J0 (T.keep _ _ _ t7 λb _ o e=>old b o e) (λb hb=>?_) w0;obtain⟨z0,z1,z2,z3,z4,z5⟩:=f2 b hb;refine⟨by rw[Bh (Ax (vM b hb))];exact z0,Ax (Ae (vM b hb) wa),λz=>?_,.inl hb,λx c e=>?_,λp hp=>?_⟩
  ·exact(Aq.mp (U.stkSub _ z)).elim z1 z2
  ·rcases uM x c e with e | ⟨_,e⟩
   ·exact z4 x c (c1 x c e)
   ·exact ED (Ae (vM b hb) (Av yI e))
  ·have hp:p∈(X.pn++ζ)++[]:=hp
   rw[A3]at hp;exact z5 p hp
 exact codeAny_compStart_list (P _ rfl) (T.self X.A 0 _ _ _ (T.keep _ _ _ t7 λb _ o e=>old b o e) (P _ rfl))
theorem jV(Y:X.calm=true)(B:NQ X scope own N')(hi:PI X O iter Z)
  (hg:∀o C j l ex pn,PG (D9 X scope N' o C j l ex pn) O g) (vN:∀o C j l ex pn,YC (D9 X scope N' o C j l ex pn) E tc) (he:∀o C j l ex pn,PE (D9 X scope N' o C j l ex pn) G te)
  (hs:∀x,Fb iter X.env x=pure x:=by intro _;rfl):PE X (.ListComp G [⟨O,iter,E,0⟩] scope pos) (cT own.length Z g tc te):=by
 intro P s R H Q I h;rw[eval_ListComp];obtain⟨o,vO,c1,c2⟩:=ZW (scope:=scope) (env:=X.env) (λy hy hf=>I.ok.has y.1 (B.free y hy hf));refine Zc (use:=none) rfl hs vO B.kind B.names (thn (hi P s R H _ I h) λv s1 h1=>thn h1 λzS s2 h2=>?_);obtain⟨it,fp,tn,J,H2,rfl,S,T,t7,U,q2⟩:=h2
 refine RP (Qf:=λp L=>Q (.ref p) L) (RR:=λN C=>compPost (Am X.prog X.w) X.A X.xe none (EP X P R Q) N C) Y B hg vN he c1 c2 S T t7 U q2 λD C cl' σ' L s' hC J q=>?_
 obtain⟨m,hn,_⟩:=J.loc;exact⟨m,hn,λh' sb=>⟨.ref D,L,Sx S J hC U sb,rfl,q⟩⟩
theorem jK{i:Nat}{y:Str}{G wb:Pos}(hc:X.calm=true)(ε:GR (.ListComp B [⟨S,iter,E,0⟩] scope pos) (some (.Name y G)) wb.line X.env=pure true)
  (hN:X.N.Nodup) (Z:X.N[i]?=some y) (xr:Loc X.env.scope y) (U:NQ X scope own N') (hi:PI X S iter wi)
  (hg:∀L C j l ex pn,PG (D9 X scope N' L C j l ex pn) S g) (vN:∀L C j l ex pn,YC (D9 X scope N' L C j l ex pn) E tc) (he:∀L C j l ex pn,PE (D9 X scope N' L C j l ex pn) B te)
  (hs:∀x,Fb iter X.env x=pure x:=by intro _;rfl) (hf:X.fn y=true∨X.env.scope.names.lookup y=some .local:=by first | exact .inl rfl | exact .inr rfl | assumption) :
  PS X (.Assign [.Name y G] (.ListComp B [⟨S,iter,E,0⟩] scope pos) wb) (nH (cT own.length wi g tc te) (ZH i)):=by
 intro Y s σ H D I h;rw[exec_Assign_Name_used _ _ _ _ ε];refine AA (wpAny_standAt (AA ?_));show Af _ X.A (do let _ <-comprehension (.ListComp B [⟨S,iter,E,0⟩] scope pos) scope X.env _ (newList []) false (Bt iter X.env) (some (QF (.Name y G) X.env))) _ _ s;obtain⟨L,vO,c1,c2⟩:=ZW (scope:=scope) (env:=X.env) (λy Z hf=>I.ok.has y.1 (U.free y Z hf))
 refine AA (Eu (Zc (use:=some (QF (.Name y G) X.env)) (Q:=λ_ s'=>SP X Y D .next s') rfl hs vO U.kind U.names
  (thn (hi Y s σ H _ I h) λv s1 h1=>thn h1 λzS s2 h2=>?_)) (λ_ s' hq=>AI (AI hq)) λ_ _ e=>e)
 obtain⟨it,fp,tn,J,H2,rfl,O,T,t7,f2,q2⟩:=h2
 refine RP (Qf:=λp P=>D.nx (σ.set i (some (.ref p))) P) (RR:=λacc C=>compPost (Am X.prog X.w) X.A X.xe (some (QF (.Name y G) X.env)) (λ_ s'=>SP X Y D .next s') acc C) hc U hg vN he c1 c2 O T t7 f2 q2 λA C cl' σ' P s' R J q=>?_
 obtain⟨m,hn,_⟩:=J.loc;have I3:Inv X Y σ P s':=Sx O J R f2 (TV ..);have wD:P C=none:=J.free
 have uj:∀x c,X.env.cells.lookup x=some c->c≠C:=λx c e z=>by
  obtain⟨v,q⟩:=O.cell x c e;exact zX (Ae q.lt (by rw[z];exact R)) (DL _)
 have wF:C≠X.env.locals:=ED (Ae O.lt R);show Af _ X.A (QF (.Name y G) X.env (.ref A)) _ _ s';refine pr (Sf (v:=.ref A) I3 hN Z xr rfl (λs4 I4 ⟨a,sb,ha⟩=>?_) hf)
 have haC:C≠a:=by
  rcases ha with e | e
  ·rw[e];exact wF
  ·exact CY (uj _ _ e)
 refine⟨m,hn.sameBut sb haC,λh' sb'=>⟨_,P,?_,q⟩⟩
 refine I4.turned (t':=s4.toks) (it:=C) (λb o hb e=>(sb'.2 b hb).trans e) wD wF (.inr (Av O.sz R)) uj λp hp z=>?_
 exact zX (Ae (AX (O.pin p hp).1) (by rw[z];exact R)) (DL _)
end
def Fq(v:Mm)(g:MG)(c:MT)(m:ME):Nat->Nat->Lo->Sto->List D->Res (List D)
 | k,i,e,S,j=>match v S with
  | none=>.bad
  | some s=>match s[i]? with
   | none=>.ok j S
   | some d=>match k with
    | 0=>.bad
    | k+1=>if j.length < sizeLine then(okR (g d e S)).bind λl A=>(okR (c l A)).bind λb o=>if b=true then(okR (m l o)).bind λy B=>Fq v g c m k (i+1) l B (j++[y])else Fq v g c m k (i+1) l o j else .bad
def Dw(n:Nat)(mi:MI)(g:MG)(c:MT)(m:ME):ML:=λe S=>(mi e S).bind λv j=>Fq v g c m (DE v j) 0 (Bd n none++e) j []
def Hg:MT:=λ_ S=>.ok true S
section
abbrev kf(X:Cx)(E:EW)(g:List Expr)(c:MT):Prop:=YC X g (gT X.K E c)
theorem Gp:kf X E [] Hg:=by
 rintro g s j H Q I ⟨m,l,S,B,o,A⟩
 exact dW g s j H Q I (A m H .refl o)
theorem E9(h:GT X E e c):kf X E [e] c:=dU h
theorem FC.grow{K}{ρ}{H}{e}{j}(n:Nat)(h:FC K ρ H e j):FC K ρ H (Bd n none++e) (Bd n none++j):=by
 refine⟨by simp[h.len],λi d q=>?_⟩
 by_cases g:i < n
 ·rw[Aa (by simpa using g),Da,qX g]at q
  cases q
 ·rw[A4 (by simpa using g)]at q ⊢
  simp only[MM]at q ⊢;exact h.at' _ d q
theorem CC.ok_of{g:Type}{K:AG}{E:EH}{ρ:List AV}{H:Hp}{r:Res g}{k:g->Sto->Prop}{a:g}{S:Sto}(e:r=.ok a S)(h:k a S):CC K E ρ H r k:=by
 subst e;exact h
theorem Qv{g j:Type}{r:Res g}{F:g->Sto->Res j}{b:j}{S:Sto}(h:(okR r).bind F=.ok b S):∃a S1,r=.ok a S1/\F a S1=.ok b S:=by
 cases r with
 | ok a S1=>exact⟨a,S1,rfl,h⟩
 | err c S1=>cases h
 | bad=>cases h
theorem WS:∀(k i:Nat) (e:Lo) (S:Sto) (j:List D),Fq v g c m k i e S j≠.err G S':=by
 intro k
 induction k with
 | zero=>
  intro i e S j h;unfold Fq at h;split at h
  ·cases h
  ·split at h <;> cases h
 | succ k A=>
  intro i e S j h;unfold Fq at h;split at h
  ·cases h
  ·split at h
   ·cases h
   ·dsimp only at h
    split at h
    ·cases l:g _ e S with
     | ok B C=>
      rw[l]at h;dsimp only[okR,Res.bind]at h
      cases o:c B C with
      | ok b E=>
       rw[o]at h;dsimp only[okR,Res.bind]at h
       cases b with
       | true=>
        rw[qX rfl]at h
        cases s:m B E with
        | ok y H=>rw[s]at h;exact A _ _ _ _ h
        | err _ _=>rw[s]at h;cases h
        | bad=>rw[s]at h;cases h
       | false=>
        rw[qY Ac]at h;exact A _ _ _ _ h
      | err _ _=>rw[o]at h;cases h
      | bad=>rw[o]at h;cases h
     | err _ _=>rw[l]at h;cases h
     | bad=>rw[l]at h;cases h
    ·cases h
theorem Vf{K:AG}{n:Nat}{σ:St}{H:Hp}{Q:VK}(h:gL K E (Dw n mi g c m) σ H Q):cT n (gI K E mi) (gG K g) (gT K noE c) (gE K noE m) σ H Q:=by
 obtain⟨ρ,l,S,hl,hs,P⟩:=h;refine⟨ρ,l,S,hl,hs,P.seq λv X P ρ1 H1 J l1 s1 vo p hp=>?_⟩
 obtain⟨Y,U,P,k⟩:∃Y U,Fq v g c m (DE v X) 0 (Bd n none++l) X []=.ok Y U/\∀N H' p I,Le K ρ H N H'->CK K N U H'->A9 K N H' Y I->H' p=some (.lst I)->(∀n:Nat,N[n]?≠some p)->H p=none->Q (.ref p) H':=by
  cases hc:Fq v g c m (DE v X) 0 (Bd n none++l) X []with
  | ok Y U=>rw[hc]at P;exact⟨Y,U,rfl,P⟩
  | err c U=>exact(WS _ _ _ _ _ hc).elim
  | bad=>rw[hc]at P;exact P.elim
 obtain⟨s1',yK⟩:=HK (ho:=.lst []) s1 hp;have x6:H p=none:=l1.back hs s1 hp
 refine⟨λi j σ2 R I=>∃B e2 Z G,Le K ρ1 H1 B R/\FC K B R e2 σ2/\CK K B Z R/\A9 K B R G I/\R p=some (.lst I)/\(∀q:Nat,B[q]?≠some p)/\Fq v g c m j i e2 Z G=.ok Y U,
  ⟨DE v X,ρ1,_,X,[],yK,(hl.mono (l1.trans yK)).grow n,s1',.nil,Bq,λq e=>s1.notIn hp e,P⟩,?_⟩
 rintro i j σ2 R I ⟨B,e2,Z,G,l2,r2,s2,ra,yB,u9,A⟩;refine⟨yB,?_⟩;unfold Fq at A
 cases hv:v Z with
 | none=>rw[hv]at A;cases A
 | some vs=>
  rw[hv]at A;dsimp only at A;obtain⟨v1,v2⟩:=vo B R Z vs i l2 s2 hv
  cases hd:vs[i]? with
  | none=>
   rw[hd]at A;cases A;exact .inl ⟨v1 hd,k B R p I (l1.trans l2) s2 ra yB u9 x6⟩
  | some d=>
   rw[hd]at A;dsimp only at A;obtain⟨go,yl⟩:=v2 d hd
   cases j with
   | zero=>cases A
   | succ j=>
    dsimp only at A;split at A
    ·rename_i hz
     obtain⟨e3,S3,h3,A⟩:=Qv A;obtain⟨b,S4,h4,A⟩:=Qv A;refine .inr ⟨go,by rw[<-ra.length];exact hz,λx H' y=>?_⟩;obtain⟨ρ3,l3,s3,rd⟩:=yl x H' y;obtain⟨hp3,hn3⟩:=l3.oth p _ yB u9;refine⟨ρ3,e2,Z,d,rd,r2.mono l3,s3,CC.ok_of h3 λρ4 H4 σ4 l4 s4 r4=>?_⟩;obtain⟨hp4,hn4⟩:=l4.oth p _ hp3 hn3;refine⟨ρ4,e3,S3,r4,s4,CC.ok_of h4 λρ5 H5 T s5=>?_⟩;obtain⟨hp5,hn5⟩:=T.oth p _ hp4 hn4
     cases b with
     | false=>
      rw[qY Ac]at A ⊢;exact⟨j,CG j,ρ5,e3,S4,G,l2.trans (l3.trans (l4.trans T)),r4.mono T,s5,ra.mono (l3.trans (l4.trans T)),hp5,hn5,A⟩
     | true=>
      rw[qX rfl]at A ⊢;obtain⟨yv,S5,h5,A⟩:=Qv A;refine⟨ρ5,e3,S4,r4.mono T,s5,CC.ok_of h5 λs C y6 l6 s6 r6=>?_⟩;obtain⟨zZ,hn6⟩:=l6.oth p _ hp5 hn5
      have l7:∀O,Le K s C s (upd C p (.lst O))->True:=λ_ _=>trivial
      have up7:∀O:List V,CK K s S5 (upd C p (.lst O))/\(∀a o,FS K s C a o->a≠p->FS K s (upd C p (.lst O)) a o)/\∀e' w',B2 K s C e' w'->B2 K s (upd C p (.lst O)) e' w':=λO=>by
       have L:=Gm (H:=C) (p:=p) (ho:=.lst O) (.inr (by rw[zZ];trivial))
       have mono:∀e' w',B2 K s C e' w'->B2 K s (upd C p (.lst O)) e' w':=λe' w' r=>r.keep L.1 L.2
       have mob:∀a o,FS K s C a o->a≠p->FS K s (upd C p (.lst O)) a o:=λa o r ne=>r.keep L.1 L.2 (Bh ne)
       exact⟨⟨s6.len,s6.nd,λn o a q1 q2=>mob a o (s6.ob n o a q1 q2) λz=>hn6 n (by rw[<-z];exact q2)⟩,mob,mono⟩
      obtain⟨u1,u2,u3⟩:=up7 (I++[y6]);refine⟨zZ,j,CG j,s,e3,S5,G++[yv],?_,?_,u1,?_,Bq,hn6,A⟩
      ·have lx:=l2.trans (l3.trans (l4.trans (T.trans l6)))
       have L:=Gm (H:=C) (p:=p) (ho:=.lst (I++[y6])) (.inr (by rw[zZ];trivial))
       exact⟨lx.pre,λa zs q=>L.1 a zs (lx.tup a zs q),λa o u q=>L.2 a o u (lx.frz a o u q),λa o q z=>by
        have nap:a≠p:=Bx q hp;obtain⟨z1,z2⟩:=lx.oth a o q z
        exact⟨by rw[Bh nap];exact z1,z2⟩⟩
      ·have rr:=r4.mono (T.trans l6)
       exact⟨rr.len,λq d' hq=>by
        obtain⟨w',z1,z2⟩:=rr.at' q d' hq
        exact⟨w',z1,u3 _ _ z2⟩⟩
      ·have ra6:=ra.mono (l3.trans (l4.trans (T.trans l6)))
       have L:=Gm (H:=C) (p:=p) (ho:=.lst (I++[y6])) (.inr (by rw[zZ];trivial));exact(ra6.keep L.1 L.2).append (.cons (u3 _ _ r6) .nil)
    ·cases A
theorem D4(G:X.calm=true)(H:NQ X scope own N')(hi:GI X E B iter mi)
  (I:∀o C j l ex pn,GG (D9 X scope N' o C j l ex pn) B g) (J:∀o C j l ex pn,kf (D9 X scope N' o C j l ex pn) noE s c) (L:∀o C j l ex pn,GE (D9 X scope N' o C j l ex pn) noE A m)
  (N:∀x,Fb iter X.env x=pure x:=by intro _;rfl):GL X E (.ListComp A [⟨B,iter,s,0⟩] scope pos) (Dw own.length mi g c m):=
 (jV (g:=gG X.K g) (tc:=gT X.K noE c) (te:=gE X.K noE m) G H hi I J L N).imp λ_ _ _ h=>Vf h
theorem UR(hc:X.calm=true)(ε:GR (.ListComp B [⟨P,iter,G,0⟩] scope pos) (some (.Name y py)) wb.line X.env=pure true)
  (hN:X.N.Nodup) (hy:X.N[i]?=some y) (xr:Loc X.env.scope y) (Sc:NQ X scope own N') (hi:GI X E P iter mi)
  (hg:∀I C j s ex pn,GG (D9 X scope N' I C j s ex pn) P g) (vN:∀I C j s ex pn,kf (D9 X scope N' I C j s ex pn) noE G c) (he:∀I C j s ex pn,GE (D9 X scope N' I C j s ex pn) noE B m)
  (R:∀x,Fb iter X.env x=pure x:=by intro _;rfl) (hf:X.fn y=true∨X.env.scope.names.lookup y=some .local:=by first | exact .inl rfl | exact .inr rfl | assumption) :
  GS X E (.Assign [.Name y py] (.ListComp B [⟨P,iter,G,0⟩] scope pos) wb) (Bu i (DV (Dw own.length mi g c m))):=by
 refine(jK (g:=gG X.K g) (tc:=gT X.K noE c) (te:=gE X.K noE m) hc ε hN hy xr Sc hi hg vN he R hf).imp λD σ H ⟨L,l,S,T,R,U⟩=>?_
 refine Vf (E:=E) (Q:=λx H'=>D.nx (σ.set i (some x)) H') ⟨L,l,S,T,R,CC.seq (F:=λY Z=>Res.ok (L2.D.ref Z.length) (Z++[Ob.lst Y])) (k:=λd O=>CC X.K noH L H ((tgN i d l O).bind λe1 O=>.ok (.nx e1) O) λfl S'=>RH X.K E L H S' D fl) (CC.lift U T .refl λd O h=>h) λY Z U A H1 p xs J s1 r1 hp hn x6=>?_⟩
 have l0:∀(n:Nat) a,A[n]?=some a->(A++[p])[n]?=some a:=λn a h=>by rw[Aa (AD.mp h).1];exact h
 obtain⟨s2,at2⟩:=s1.adopt (o:=.lst Y) hn ⟨xs,hp,r1.more l0⟩
 have l2:Le X.K L H (A++[p]) H1:=⟨λn a h=>l0 n a (J.pre n a h),J.tup,J.frz,λa o e h=>⟨(J.oth a o e h).1,λn q=>by
  rcases Ik q with⟨q,_⟩ | ⟨_,q⟩
  ·exact(J.oth a o e h).2 n q
  ·exact Bx e x6 q⟩⟩
 exact U _ _ _ l2 s2 ((T.mono l2).set (.ref at2) i)
end
end L2
namespace L2
open PySem.SeqAt
noncomputable def NI:D->D->Option Bool
 | .non,.non=>some true
 | .bl a,.bl b=>some (a==b)
 | .int a,.int b=>some (a==b)
 | .str a,.str b=>some (a==b)
 | .non,.int _=>some false
 | .non,.str _=>some false
 | .non,.bl _=>some false
 | .non,.tup _=>some false
 | .int _,.non=>some false
 | .str _,.non=>some false
 | .bl _,.non=>some false
 | .tup _,.non=>some false
 | .int _,.tup _=>some false
 | .tup _,.int _=>some false
 | _,_=>none
def eqL(f:D->D->Option Bool):List D->List D->Option Bool
 | [],[]=>some true
 | [],_ :: _=>some false
 | _ :: _,[]=>some false
 | x :: g,y :: j=>match f x y,eqL f g j with
  | some a,some b=>some (a&&b)
  | _,_=>none
def eqP:Nat->D->D->Option Bool
 | 0,x,y=>NI x y
 | n+1,x,y=>match x,y with
  | .tup g,.tup j=>eqL (eqP n) g j
  | x,y=>NI x y
theorem Lz(h:eqL f (x :: xs) (y :: ys)=some b):∃a c,f x y=some a/\eqL f xs ys=some c/\b=(a&&c):=by
 unfold eqL at h;split at h
 ·rename_i a c g j
  cases h;exact⟨a,c,g,j,rfl⟩
 ·cases h
theorem ZR:∀{xs ys:List D} {b:Bool},eqL f xs ys=some b->(∀(j:Nat) x y,xs[j]?=some x->ys[j]?=some y->∃c,f x y=some c) /\
  b=((BM (min xs.length ys.length)).all (λj=>match xs[j]?,ys[j]? with | some x,some y=>(f x y).getD false | _,_=>false)&&xs.length==ys.length)
 | [],[],b,h=>by cases h;exact⟨λj x y h=>by simp at h,by simp⟩
 | [],y :: ys,b,h=>by cases h;exact⟨λj x y h=>by simp at h,by simp⟩
 | x :: xs,[],b,h=>by cases h;exact⟨λj x y _ h=>by simp at h,by simp⟩
 | x :: xs,y :: ys,b,h=>by
  obtain⟨a,c,m,o,rfl⟩:=Lz h;obtain⟨s,A⟩:=ZR o;refine⟨λj B C g l=>?_,?_⟩
  ·cases j with
   | zero=>simp at g l;subst g;subst l;exact⟨a,m⟩
   | succ j=>exact s j B C (by simpa using g) (by simpa using l)
  ·rw[A,A0,A0,show min (xs.length+1) (ys.length+1)=min xs.length ys.length+1 by lia,Wh,ls,qG]
   simp only[List.getElem?_cons_zero,m,PB,Function.comp_def,List.getElem?_cons_succ];rw[Bool.and_assoc]
   congr 1
   congr 1
   rw[Ri];simp
section
variable{K:AG}{ρ:List AV}{H:Hp}
theorem ZO(n k:Nat)(y:D):eqP n (.ref k) y=none:=by cases n <;> cases y <;> rfl
theorem ZP(n:Nat)(ds:List D)(y:D):eqP n (.fro ds) y=none:=by cases n <;> cases y <;> rfl
theorem ZQ(n:Nat)(c:AV)(y:D):eqP n (.exc c) y=none:=by cases n <;> cases y <;> rfl
theorem Nn(s:B2 K ρ H x v)(g:B2 K ρ H j v):x=j∨(∃ds l m,x=.tup ds/\j=.tup l/\A9 K ρ H ds m/\A9 K ρ H l m)∨(∀n y,eqP n x y=none)∨∀n y,eqP n j y=none:=by
 cases s with
 | non=>cases g;exact .inl rfl
 | bl b=>cases g;exact .inl rfl
 | int b=>cases g;exact .inl rfl
 | str b=>cases g;exact .inl rfl
 | fro _ _=>exact .inr (.inr (.inl λn y=>ZP n _ y))
 | ref _=>exact .inr (.inr (.inl λn y=>ZO n _ y))
 | exc _ _=>exact .inr (.inr (.inl λn y=>ZQ n _ y))
 | tup A B=>
  cases g with
  | fro _ _=>exact .inr (.inr (.inr λn y=>ZP n _ y))
  | ref _=>exact .inr (.inr (.inr λn y=>ZO n _ y))
  | exc _ _=>exact .inr (.inr (.inr λn y=>ZQ n _ y))
  | tup o C=>
   rw[A]at o;cases o;exact .inr (.inl ⟨_,_,_,rfl,rfl,B,C⟩)
theorem kH:∀(n:Nat) {x B y:D} {v:V} {b b':Bool},B2 K ρ H x v->B2 K ρ H B v->eqP n x y=some b->eqP n B y=some b'->b=b':=by
 intro n
 induction n with
 | zero=>
  intro x B y v b b' I J h j
  rcases Nn I J with rfl | ⟨C,L,m,rfl,rfl,_,_⟩ | q | q
  ·rw[h]at j;cases j;rfl
  ·have:eqP 0 (.tup C) y=eqP 0 (.tup L) y:=by cases y <;> rfl
   rw[<-this,h]at j;cases j;rfl
  ·rw[q]at h;cases h
  ·rw[q]at j;cases j
 | succ n Q=>
  intro x B y v b b' I J h j
  have lists:∀{E:List D} {m:List V} {G l:List D} {b b':Bool},A9 K ρ H E m->A9 K ρ H G m->eqL (eqP n) E l=some b->eqL (eqP n) G l=some b'->b=b':=by
   intro E
   induction E with
   | nil=>
    intro m G l b b' o s g A;cases o;cases s;rw[g]at A;cases A;rfl
   | cons d C N=>
    intro m G l b b' o s g A
    cases o with
    | cons R S=>
     cases s with
     | cons T U=>
      cases l with
      | nil=>cases g;cases A;rfl
      | cons y l=>
       obtain⟨p,q,X,Y,rfl⟩:=Lz g;obtain⟨Z,q',O,P,rfl⟩:=Lz A;rw[Q R T X O,N S U Y P]
  rcases Nn I J with rfl | ⟨C,L,m,rfl,rfl,o,s⟩ | q | q
  ·rw[h]at j;cases j;rfl
  ·by_cases c:∃l,y=.tup l
   ·obtain⟨l,rfl⟩:=c
    exact lists o s h j
   ·have:eqP (n+1) (.tup C) y=eqP (n+1) (.tup L) y:=by
     cases y <;> first | rfl | exact(c ⟨_,rfl⟩).elim
    rw[<-this,h]at j;cases j;rfl
  ·rw[q]at h;cases h
  ·rw[q]at j;cases j
theorem ES(h:NI x x=some b):b=true:=by
 cases x <;> first | (cases h;done) | (cases h;simp)
theorem RL:∀(n:Nat) {x:D} {b:Bool},eqP n x x=some b->b=true
 | 0,_,_,h=>ES h
 | n+1,x,b,h=>by
  have lists:∀{j:List D} {b:Bool},eqL (eqP n) j j=some b->b=true:=by
   intro j
   induction j with
   | nil=>intro b g;cases g;rfl
   | cons d s l=>
    intro b g;obtain⟨p,q,m,o,rfl⟩:=Lz g;rw[RL n m,l o];rfl
  cases x with
  | tup j=>exact lists h
  | non=>exact ES (x:=.non) h
  | bl c=>exact ES (x:=.bl c) h
  | int c=>exact ES (x:=.int c) h
  | str c=>exact ES (x:=.str c) h
  | ref c=>exact ES (x:=.ref c) h
  | fro c=>exact ES (x:=.fro c) h
  | exc c=>exact ES (x:=.exc c) h
theorem Mc(g:(∃f,y=.fro f)∨(∃r,y=.ref r)∨∃c,y=.exc c)(n:Nat):eqP n x y=none:=by
 rcases g with⟨f,rfl⟩ | ⟨r,rfl⟩ | ⟨c,rfl⟩ <;> (cases n <;> cases x <;> rfl)
theorem fj(n:Nat)(C:B2 K ρ H x v)(o:B2 K ρ H y v)(h:eqP n x y=some b):b=true:=by
 induction n generalizing x y v b with
 | zero=>
  rcases Nn C o with rfl | ⟨E,G,j,rfl,rfl,_,_⟩ | q | q
  ·exact RL 0 h
  ·cases h
  ·rw[q]at h;cases h
  ·cases o with
   | fro _ _=>rw[Mc (.inl ⟨_,rfl⟩)]at h;cases h
   | ref _=>rw[Mc (.inr (.inl ⟨_,rfl⟩))]at h;cases h
   | exc _ _=>rw[Mc (.inr (.inr ⟨_,rfl⟩))]at h;cases h
   | non=>cases(q 0 .non)
   | bl b=>cases(q 0 (.bl b))
   | int b=>cases(q 0 (.int b))
   | str b=>cases(q 0 (.str b))
   | tup _ _=>cases(q 0 .non)
 | succ n I=>
  have lists:∀{s A:List D} {j:List V} {b:Bool},A9 K ρ H s j->A9 K ρ H A j->eqL (eqP n) s A=some b->b=true:=by
   intro s
   induction s with
   | nil=>intro A j b l m g;cases l;cases m;cases g;rfl
   | cons d E B=>
    intro A j b l m g
    cases l with
    | cons J L=>
     cases m with
     | cons N O=>
      obtain⟨p,q,P,Q,rfl⟩:=Lz g;rw[I J N P,B L O Q];rfl
  rcases Nn C o with rfl | ⟨E,G,j,rfl,rfl,l,m⟩ | q | q
  ·exact RL (n+1) h
  ·exact lists l m h
  ·rw[q]at h;cases h
  ·cases o with
   | fro _ _=>rw[Mc (.inl ⟨_,rfl⟩)]at h;cases h
   | ref _=>rw[Mc (.inr (.inl ⟨_,rfl⟩))]at h;cases h
   | exc _ _=>rw[Mc (.inr (.inr ⟨_,rfl⟩))]at h;cases h
   | non=>cases(q 0 .non)
   | bl b=>cases(q 0 (.bl b))
   | int b=>cases(q 0 (.int b))
   | str b=>cases(q 0 (.str b))
   | tup _ _=>cases(q 0 .non)
end
section
variable{X:Cx}{ζ:List (AV×Obj)}{σ:St}{H:Hp}{s:AL}{ρ:List AV}
theorem HB(A:Bn):A.in1.units=A.units+1:=rfl
theorem B6.at_(r:B6 g l)(h:j < l.toArray.size):∃v,g[j]?=some v/\RelV v l.toArray[j]:=by
 have o:j < l.length:=by simpa using h
 have m:j < g.length:=by rw[r.length];exact o
 obtain⟨u,A,B⟩:=r.get (i:=j) (x:=g[j]) (by simp[m]);refine⟨g[j],by simp[m],?_⟩
 have:l.toArray[j]=u:=by
  have:=AD.mp A;obtain⟨_,e⟩:=this;simpa using e
 rw[this];exact B
theorem Tw(P:∀(x y:D) (b:Bool) (m o:V) (u v:AH),eqP n x y=some b->B2 X.K ρ H x m->B2 X.K ρ H y o->RelV m u->RelV o v->EqAt A s u v b)
  (h:eqL (eqP n) xs ys=some b) (B:A9 X.K ρ H xs Q) (C:A9 X.K ρ H ys R) (E:B6 Q g) (G:B6 R l) :
  ∃e:Nat->Bool,(∀j (I:j < g.toArray.size) (J:j < l.toArray.size),EqAt A s g.toArray[j] l.toArray[j] (e j))/\b=((BM (min g.toArray.size l.toArray.size)).all e&&g.toArray.size==l.toArray.size):=by
 obtain⟨S,T⟩:=ZR h;refine⟨λj=>match xs[j]?,ys[j]? with | some x,some y=>(eqP n x y).getD false | _,_=>false,λj I J=>?_,?_⟩
 ·obtain⟨v,U,Y⟩:=B6.at_ E I
  obtain⟨w,Z,ug⟩:=B6.at_ G J;obtain⟨x,L,rx⟩:=B.get' U;obtain⟨y,N,ry⟩:=C.get' Z;obtain⟨c,O⟩:=S j x y L N;have:=P x y c v w _ _ O rx ry Y ug;simp only[L,N,O,PB];exact this
 ·rw[T,B.length,C.length,E.length,G.length]
  simp
theorem O2(I:Inv X ζ σ H s)(j:A.units < Ej)(h:NI x y=some b)(G:B2 X.K ρ H x J)(l:B2 X.K ρ H y L)(m:RelV J u)(g:RelV L v) :
  EqAt A s u v b/\RcAt A s u v b/\RcNeAt A s u v (!b):=by
 cases G with
 | non=>
  cases m
  cases l with
  | non=>cases g;cases h;exact⟨EqAt.same _,RcAt.none_none,RcNeAt.none_none⟩
  | bl c=>cases g;cases h;exact⟨EqAt.none_bool _,RcAt.none_bool _,RcNeAt.none_bool _⟩
  | int i=>obtain⟨t,rfl⟩:=g;cases h;exact⟨EqAt.none_int _ _,RcAt.none_int _ _,RcNeAt.none_int _ _⟩
  | str z=>obtain⟨t,rfl⟩:=g;cases h;exact⟨EqAt.none_str _ _,RcAt.none_str _ _,RcNeAt.none_str _ _⟩
  | tup o B=>
   cases g;cases h;obtain⟨C,_,p,_⟩:=I.tuple (.inl (.inl o));exact⟨EqAt.none_tuple p j,RcAt.none_tuple p j,RcNeAt.none_tuple p j⟩
  | _=>cases h
 | bl a=>
  cases m
  cases l with
  | non=>cases g;cases h;exact⟨EqAt.bool_none _,RcAt.bool_none _,RcNeAt.bool_none _⟩
  | bl c=>cases g;cases h;exact⟨EqAt.bool_bool _ _,RcAt.bool_bool _ _,RcNeAt.bool_bool _ _⟩
  | _=>cases h
 | int a=>
  obtain⟨t,rfl⟩:=m
  cases l with
  | non=>cases g;cases h;exact⟨EqAt.int_none _ _,RcAt.int_none _ _,RcNeAt.int_none _ _⟩
  | int i=>obtain⟨E,rfl⟩:=g;cases h;exact⟨EqAt.int_int _ _ _ _,RcAt.int_int _ _ _ _,RcNeAt.int_int _ _ _ _⟩
  | tup o B=>
   cases g;cases h;obtain⟨C,_,p,_⟩:=I.tuple (.inl (.inl o));exact⟨EqAt.int_tuple _ _ p j,RcAt.int_tuple _ _ p j,RcNeAt.int_tuple _ _ p j⟩
  | _=>cases h
 | str a=>
  obtain⟨t,rfl⟩:=m
  cases l with
  | non=>cases g;cases h;exact⟨EqAt.str_none _ _,RcAt.str_none _ _,RcNeAt.str_none _ _⟩
  | str i=>obtain⟨E,rfl⟩:=g;cases h;exact⟨EqAt.str_str _ _ _ _,RcAt.str_str _ _ _ _,RcNeAt.str_str _ _ _ _⟩
  | _=>cases h
 | tup o B=>
  cases m;obtain⟨C,_,p,_⟩:=I.tuple (.inl (.inl o))
  cases l with
  | non=>cases g;cases h;exact⟨EqAt.tuple_none p j,RcAt.tuple_none p j,RcNeAt.tuple_none p j⟩
  | int i=>obtain⟨E,rfl⟩:=g;cases h;exact⟨EqAt.tuple_int _ _ p j,RcAt.tuple_int _ _ p j,RcNeAt.tuple_int _ _ p j⟩
  | _=>cases h
 | _=>cases h
theorem X3(I:Inv X ζ σ H s):∀(n:Nat) (A:Bn) (x y:D) (b:Bool) (g j:V) (u v:AH),A.units+n < Ej->eqP n x y=some b->B2 X.K ρ H x g->B2 X.K ρ H y j->RelV g u->RelV j v->EqAt A s u v b:=by
 intro n
 induction n with
 | zero=>exact λA x y b g j u v Q h m o B C=>(O2 I (by omega) h m o B C).1
 | succ n R=>
  intro A x y b g j u v Q h m o B C
  by_cases E:∃G J,x=.tup G/\y=.tup J
  ·obtain⟨G,J,rfl,rfl⟩:=E
   cases m with
   | @tup _ a vs L N=>
    cases o with
    | @tup _ c ws O P=>
     cases B;cases C
     by_cases l:a=c
     ·subst l
      rw[fj (n+1) (.tup L N) (.tup O P) h];exact EqAt.same _
     ·obtain⟨sN,S,p,_⟩:=I.tuple (.inl (.inl L))
      obtain⟨tq,T,U,_⟩:=I.tuple (.inl (.inl O));obtain⟨e,Y,rfl⟩:=Tw (A:=A.in1) (λx y b g j u v Z g2 g3 g4 g5=>R A.in1 x y b g j u v (by rw[HB];lia) Z g2 g3 g4 g5) h N P S T;exact EqAt.of_refs l (qR p U (by lia) Y)
  ·have hf:NI x y=some b:=by
    cases x <;> cases y <;> first | exact h | exact(E ⟨_,_,rfl,rfl⟩).elim
   exact(O2 I (by lia) hf m o B C).1
def Pv(d:D)(S:Sto):Option (List D):=match d with
 | .fro g=>some g
 | .ref n=>match S[n]? with
  | some (.lst g)=>some g
  | _=>none
 | _=>none
def eqB(x y:D)(S:Sto):Option Bool:=match Pv x S,Pv y S with
 | some g,some j=>if g.length=j.length then eqL (eqP 8) g j else some false
 | none,none=>eqP 8 x y
 | some _,none=>match y with
  | .tup _=>some false
  | .non=>some false
  | _=>none
 | none,some _=>match x with
  | .tup _=>some false
  | .non=>some false
  | _=>none
def eqD(neg:Bool)(x y:D)(S:Sto):Res D:=match eqB x y S with
 | some b=>.ok (.bl (if neg then !b else b)) S
 | none=>.bad
theorem Ko{K}{S}{d}{x}{ds}(g:CK K ρ S H)(r:B2 K ρ H d x)(h:Pv d S=some ds):∃p xs,x=.ref p/\A9 K ρ H ds xs/\SqL K H p xs:=by
 cases r with
 | fro j l=>cases h;exact⟨_,_,rfl,l,j.sq⟩
 | @ref n a m=>
  obtain⟨o,A,B⟩:=g.there m;unfold Pv at h;simp only[A]at h
  cases o with
  | lst E=>cases h;obtain⟨G,e,C⟩:=B;exact⟨_,_,rfl,C,.inl (.inl e)⟩
  | _=>cases h
 | _=>cases h
theorem fq{S}{x y}{b}{E G}{u v}(I:Inv X ζ σ H s)(hu:X.A.units+64 < Ej)(U:CK X.K ρ S H)(J:B2 X.K ρ H x E)(L:B2 X.K ρ H y G)(N:RelV E u)(O:RelV G v)(h:eqB x y S=some b) :
  RcAt X.A s u v b/\RcNeAt X.A s u v (!b):=by
 unfold eqB at h;split at h
 ·rename_i P ys Y Z
  obtain⟨p,vs,rfl,Q,sq⟩:=Ko U J Y;obtain⟨p',xq,rfl,yL,η⟩:=Ko U L Z;cases N;cases O;obtain⟨m,B,g,_⟩:=I.list sq;obtain⟨C,θ,B',_⟩:=I.list η;split at h
  ·rename_i l
   obtain⟨e,R,rfl⟩:=Tw (A:=X.A.in1) (λx y b E G u v g1 g2 g3 g4 g5=>X3 I 8 X.A.in1 x y b E G u v (by rw[HB];lia) g1 g2 g3 g4 g5) h Q yL B θ
   have j:m.toArray.size=C.toArray.size:=by
    simp only[AQ];rw[<-B.length,<-θ.length,<-Q.length,<-yL.length];exact l
   have e1:((BM (min m.toArray.size C.toArray.size)).all e&&m.toArray.size==C.toArray.size)=(BM m.toArray.size).all e:=by
    rw[<-j,Nat.min_self,beq_self_eq_true,Bool.and_true]
   rw[e1];exact⟨RcAt.lists g.isList B'.isList j (by lia) R,RcNeAt.lists g.isList B'.isList j (by lia) R⟩
  ·rename_i l
   cases h
   have j:(m.toArray.size != C.toArray.size)=true:=by
    simp only[AQ];rw[<-B.length,<-θ.length,<-Q.length,<-yL.length];simpa using l
   exact⟨RcAt.lists_lengths g.isList B'.isList j (by lia),RcNeAt.lists_lengths g.isList B'.isList j (by lia)⟩
 ·by_cases ht:∃P ys,x=.tup P/\y=.tup ys
  ·obtain⟨P,ys,rfl,rfl⟩:=ht
   cases J with
   | tup a1 a2=>
    cases L with
    | tup T b2=>
     cases N;cases O;obtain⟨m,B,p,_⟩:=I.tuple (.inl (.inl a1));obtain⟨C,ug,o,_⟩:=I.tuple (.inl (.inl T));obtain⟨e,R,rfl⟩:=Tw (n:=7) (A:=X.A.in1) (λx y b E G u v g1 g2 g3 g4 g5=>X3 I 7 X.A.in1 x y b E G u v (by rw[HB];lia) g1 g2 g3 g4 g5) h a2 b2 B ug;exact⟨qR p o (by lia) R,RcNeAt.tuples p o (by lia) R⟩
  ·have hf:NI x y=some b:=by
    cases x <;> cases y <;> first | exact h | exact(ht ⟨_,_,rfl,rfl⟩).elim
   exact(O2 I (by lia) hf J L N O).2
 ·rename_i P Y Z
  obtain⟨p,vs,rfl,Q,sq⟩:=Ko U J Y;cases N;obtain⟨m,B,g,_⟩:=I.list sq;split at h
  ·cases h
   cases L with
   | tup T b2=>
    cases O;obtain⟨C,ug,o,_⟩:=I.tuple (.inl (.inl T));exact⟨RcAt.list_tuple g.isList o (by lia),RcNeAt.list_tuple g.isList o (by lia)⟩
  ·cases h
   cases L;cases O;exact⟨RcAt.list_none g.isList (by lia),RcNeAt.list_none g.isList (by lia)⟩
  ·cases h
 ·rename_i P Y Z
  obtain⟨p,vs,rfl,Q,sq⟩:=Ko U L Z;cases O;obtain⟨m,B,g,_⟩:=I.list sq;split at h
  ·cases h
   cases J with
   | tup T b2=>
    cases N;obtain⟨C,ug,o,_⟩:=I.tuple (.inl (.inl T));exact⟨RcAt.tuple_list o g.isList (by lia),RcNeAt.tuple_list o g.isList (by lia)⟩
  ·cases h
   cases J;cases N;exact⟨RcAt.none_list g.isList (by lia),RcNeAt.none_list g.isList (by lia)⟩
  ·cases h
theorem Yy(l:X.A.units+64 < Ej):OpR X (B4 .Eq) (rD X.K (eqD false)):=by
 intro ζ s σ H x y v u Q I m o h;obtain⟨ρ,S,a,b,d,G,j,B,C,g,k⟩:=h;unfold eqD at g;split at g
 ·rename_i c E
  cases g;exact(fq I l j B C m o E).1 _ _ _ _ ⟨.bl c,H,I,rfl,k ρ H _ .refl j (.bl _)⟩
 ·cases g
theorem PN(l:X.A.units+64 < Ej):OpR X (B4 .NotEq) (rD X.K (eqD true)):=by
 intro ζ s σ H x y v u Q I m o h;obtain⟨ρ,S,a,b,d,G,j,B,C,g,k⟩:=h;unfold eqD at g;split at g
 ·rename_i c E
  cases g;exact(fq I l j B C m o E).2 _ _ _ _ ⟨.bl (!c),H,I,rfl,k ρ H _ .refl j (.bl _)⟩
 ·cases g
def Mz(x:D):List D->Option Bool
 | []=>some false
 | d :: g=>match eqP 8 d x,Mz x g with
  | some a,some b=>some (a||b)
  | _,_=>none
def inD(neg:Bool)(x y:D)(S:Sto):Res D:=match GZ y S with
 | some g=>match Mz x g with
  | some b=>.ok (.bl (if neg then !b else b)) S
  | none=>.bad
 | none=>.bad
theorem X7(h:Mz x (d :: ds)=some b):∃a c,eqP 8 d x=some a/\Mz x ds=some c/\b=(a||c):=by
 unfold Mz at h;split at h
 ·rename_i a c g j
  cases h;exact⟨a,c,g,j,rfl⟩
 ·cases h
open Classical in
theorem OJ(I:Inv X ζ σ H s)(Q:A.units+8 < Ej)(R:B2 X.K ρ H x S)(T:RelV S v):∀{ds:List D} {E:List V} {m:List AH} {b:Bool},A9 X.K ρ H ds E->B6 E m->Mz x ds=some b ->
  ∃e:AH->Bool,(∀y∈m,EqAt A s y v (e y))/\b=m.any e:=by
 intro ds E m b r q h
 let e:AH->Bool:=λy=>decide (∃d w,d∈ds/\B2 X.K ρ H d w/\RelV w y/\eqP 8 d x=some true)
 have all:∀{g:List D} {o:List V} {j:List AH} {B:Bool},(∀d∈g,d∈ds)->A9 X.K ρ H g o->B6 o j->Mz x g=some B->(∀y∈j,EqAt A s y v (e y))/\B=j.any e:=by
  intro g
  induction g with
  | nil=>intro o j B _ r q h;cases r;cases q;cases h;exact⟨(λ_ z=>nomatch z),rfl⟩
  | cons d g U=>
   intro o j B N r q h
   cases r with
   | cons G Y=>
    cases q with
    | @cons w y _ _ J Z=>
     obtain⟨a,c,L,h2,rfl⟩:=X7 h;obtain⟨i1,i2⟩:=U (λz l=>N z (AT _ l)) Y Z h2
     have O:e y=a:=by
      by_cases C:∃d w,d∈ds/\B2 X.K ρ H d w/\RelV w y/\eqP 8 d x=some true
      ·obtain⟨d',w',_,P,g2,g3⟩:=id C
       rw[RelV.inj g2 J]at P;have:=kH 8 P G g3 L;rw[<-this];exact wX C
      ·have:a=false:=by
        cases a with
        | false=>rfl
        | true=>exact(C ⟨d,_,N d Ao,G,J,L⟩).elim
       rw[this];exact wY C
     refine⟨λz l=>?_,by rw[Hn,O,<-i2]⟩
     rcases Aq.mp l with rfl | l
     ·rw[O]
      exact X3 I 8 A d x a _ _ _ _ Q L G R J T
     ·exact i1 z l
 obtain⟨e1,e2⟩:=all (λ_ h=>h) r q h;exact⟨e,e1,e2⟩
theorem rY(R:X.A.units+64 < Ej):OpR X (B4 .In) (rD X.K (inD false)):=by
 intro ζ s σ H x y v u Q I E N h;obtain⟨ρ,S,a,b,d,T,j,G,O,g,k⟩:=h;unfold inD at g;split at g
 ·rename_i U P
  split at g
  ·rename_i c J
   cases g;obtain⟨p,Y,rfl,L,sq⟩:=Nk j O P;cases N
   rcases sq with sq | sq
   ·obtain⟨l,m,o,_⟩:=I.list sq
    obtain⟨e,B,rfl⟩:=OJ I (A:=X.A.in1) (by rw[HB];lia) G E L m J;exact in_listAt e o.isList (λz C=>B z (by simpa using C)) ⟨.bl (l.toArray.any e),H,I,rfl,by rw[K8];exact k ρ H _ .refl j (.bl _)⟩
   ·obtain⟨l,m,o,_⟩:=I.tuple sq
    obtain⟨e,B,rfl⟩:=OJ I (A:=X.A.in1) (by rw[HB];lia) G E L m J;exact in_tupleAt e o (λz C=>B z (by simpa using C)) ⟨.bl (l.toArray.any e),H,I,rfl,by rw[K8];exact k ρ H _ .refl j (.bl _)⟩
  ·cases g
 ·cases g
theorem dn(R:X.A.units+64 < Ej):OpR X (B4 .NotIn) (rD X.K (inD true)):=by
 intro ζ s σ H x y v u Q I E N h;obtain⟨ρ,S,a,b,d,T,j,G,O,g,k⟩:=h;unfold inD at g;split at g
 ·rename_i U P
  split at g
  ·rename_i c J
   cases g;obtain⟨p,Y,rfl,L,sq⟩:=Nk j O P;cases N
   rcases sq with sq | sq
   ·obtain⟨l,m,o,_⟩:=I.list sq
    obtain⟨e,B,rfl⟩:=OJ I (A:=X.A.in1) (by rw[HB];lia) G E L m J;exact notIn_listAt e o.isList (λz C=>B z (by simpa using C)) ⟨.bl (!l.toArray.any e),H,I,rfl,by rw[K8];exact k ρ H _ .refl j (.bl _)⟩
   ·obtain⟨l,m,o,_⟩:=I.tuple sq
    obtain⟨e,B,rfl⟩:=OJ I (A:=X.A.in1) (by rw[HB];lia) G E L m J;exact notIn_tupleAt e o (λz C=>B z (by simpa using C)) ⟨.bl (!l.toArray.any e),H,I,rfl,by rw[K8];exact k ρ H _ .refl j (.bl _)⟩
  ·cases g
 ·cases g
end
def JA(mo ma:ME):ME:=λe S=>(mo e S).bind λd g=>match d with
 | .ref n=>match g[n]? with
  | some (.lst _)=>(ma e g).bind λy j=>match j[n]? with
   | some (.lst l)=>if l.length < sizeLine then .ok .non (j.set n (.lst (l++[y])))else .bad
   | _=>.bad
  | _=>.bad
 | _=>.bad
section
variable{X:Cx}{E:EW}{o e:Expr}{mo ma:ME}
theorem Yr{K}{ρ}{S}{H}{n}{x}{xs}(s:CK K ρ S H)(r:B2 K ρ H (.ref n) x)(h:S[n]?=some (.lst xs)):∃a vs,x=.ref a/\ρ[n]?=some a/\H a=some (.lst vs)/\A9 K ρ H xs vs:=by
 cases r with
 | ref g=>
  obtain⟨vs,e,j⟩:=s.ob n _ _ h g;exact⟨_,vs,rfl,g,e,j⟩
theorem Dk(ho:GE X E o mo)(U:GE X E e ma)(Y:DZ o "append" X.env (Bt o X.env)=Bt o X.env:=by rfl)
  (Z:((Cp g (AO [e] X.env)).all (λx=>!x.1)&&(Mf g (HG [] X.env)).all (λx=>x.1.isSome)
    &&decide ([e].length+([]:List Fe).length+(if ([]:List Fe).isEmpty then 0 else 1) < 30))=true:=by rfl)
  (tR:(s.endLine==g.line)=true:=by rfl) (A:AO [e] X.env=(false,Bt e X.env) :: AO [] X.env:=by rfl) (tj:(Cp g (AO [] X.env)).any (·.1)=false:=by rfl) :
  GE X E (.Call (.Attribute o "append" s) [e] [] g) (JA mo ma):=(Yv GB PySem.F.slot_list_append PySem.F.type_list_append Sn ho (EF U Gj A) Y Z tR A tj).imp<|by
 rintro σ H Q ⟨ρ,l,S,J,A,j⟩
 refine⟨ρ,l,S,J,A,j.seq λx S1 j B H1 v C L r1=>?_⟩
 cases x <;> first | exact j.elim | skip
 rename_i n;dsimp only at j;split at j
 ·rename_i ν h0
  obtain⟨a,vs,rfl,hn,e0,_⟩:=Yr L r1 h0;refine⟨.inl ⟨rfl,vs,.inl (.inl e0)⟩,B,l,S1,J.mono C,L,(j.later C).seq λy S2 j m N u O P r2=>?_⟩;split at j
  ·rename_i xs h3
   split at j
   ·rename_i hz
    have G:=O.pre n a hn;obtain⟨I,R,T⟩:=P.ob n _ _ h3 G;have le:Le X.K m N m (upd N a (.lst (I++[u]))):=Le.write G (by rw[R];trivial);obtain⟨s3,l3⟩:=P.write (ho:=.lst (I++[u])) (o:=.lst (xs++[y])) G ⟨_,Bq,(T.append (.cons r2 .nil)).mono le⟩ le;exact⟨a,I,u,rfl,rfl,R,by rw[<-T.length];exact hz,j m _ _ (C.trans (O.trans l3)) s3 .non⟩
   ·exact j.elim
  ·exact j.elim
 ·exact j.elim
end
def C3{g β:Type}[DecidableEq g](j:List (g×β))(k:g):Option β:=(j.find? λl=>decide (l.1=k)).map (·.2)
noncomputable def FX{j l:Type}[DecidableEq j](m:List (j×l))(k:j)(v:l):List (j×l):=
 if (m.any λg=>decide (g.1=k))=true then m.map (λg=>if g.1=k then(g.1,v)else g)else m++[(k,v)]
section
variable{κ:Type}[DecidableEq κ]{K:AG}{ρ:List AV}{H:Hp}
theorem KVR.val(k:κ):∀{x:List (κ×D)} {y:List (κ×V)},KVR K ρ H x y->(C3 x k=none->KR y k=none)/\∀d,C3 x k=some d->∃v,KR y k=some v/\B2 K ρ H d v
 | _,_,.nil=>⟨λ_=>rfl,λd h=>by cases h⟩
 | (g,a) :: x,(m,b) :: y,.cons r t=>by
  obtain⟨j,l⟩:=r;dsimp only at j l;subst j;unfold C3 KR;rw[Bo,Bo]
  by_cases e:g=k
  ·simp only[e,decide_true]
   exact⟨(λh=>nomatch h),(λd h=>by cases h;exact⟨b,rfl,l⟩)⟩
  ·simp only[e,decide_false]
   exact KVR.val k t
theorem KVR.any(k:κ):∀{x:List (κ×D)} {y:List (κ×V)},KVR K ρ H x y->(x.any λj=>decide (j.1=k))=y.any λj=>decide (j.1=k)
 | _,_,.nil=>rfl
 | (g,a) :: x,(l,b) :: y,.cons r t=>by
  rw[Hn,Hn,KVR.any k t,show g=l from r.1]
theorem KVR.repl(k:κ)(l:B2 K ρ H d v):∀{x:List (κ×D)} {y:List (κ×V)},KVR K ρ H x y->KVR K ρ H (x.map λj=>if j.1=k then(j.1,d)else j) (y.map λj=>if j.1=k then(j.1,v)else j)
 | _,_,.nil=>.nil
 | (g,a) :: x,(s,b) :: y,.cons r t=>by
  obtain⟨m,o⟩:=r;dsimp only at m o;subst m;rw[BB,BB];refine .cons ?_ (KVR.repl k l t)
  by_cases e:g=k
  ·rw[qX e,qX e];exact⟨rfl,l⟩
  ·rw[qY e,qY e];exact⟨rfl,o⟩
theorem KVR.put(k:κ)(g:B2 K ρ H d v)(h:KVR K ρ H x y):KVR K ρ H (FX x k d) (Ga y k v):=by
 unfold FX Ga;rw[KVR.any k h];split
 ·exact KVR.repl k g h
 ·exact Wg h ⟨rfl,g⟩
end
noncomputable def aV:D->Option Key
 | .int i=>some (.inl i)
 | .str x=>some (.inr x)
 | _=>none
def Sr:List D->Option (List Key)
 | []=>some []
 | d :: g=>match aV d,Sr g with
  | some k,some j=>some (k :: j)
  | _,_=>none
theorem N4{K}{ρ}{H}{d}{v}{k}(r:B2 K ρ H d v)(h:aV d=some k):v=kV k:=by
 cases r <;> first | (cases h;done) | (cases h;rfl)
theorem N2{K}{ρ}{H}:∀{ds:List D} {g:List V} {ks:List Key},A9 K ρ H ds g->Sr ds=some ks->g=ks.map kV
 | _,_,_,.nil,h=>by cases h;rfl
 | _,_,_,.cons r t,h=>by
  unfold Sr at h;split at h
  ·rename_i k ks j l
   cases h;rw[N4 r j,N2 t l];rfl
  ·cases h
def Ml(x y:D)(S:Sto):Option (Option D):=match x with
 | .ref n=>match S[n]? with
  | some (.dK g)=>match aV y with
   | some k=>some (C3 g k)
   | none=>none
  | some (.dT g)=>match y with
   | .tup j=>match Sr j with
    | some l=>some (C3 g l)
    | none=>none
   | _=>none
  | some (.fK g)=>match aV y with
   | some k=>some (C3 g k)
   | none=>none
  | some (.fT g)=>match y with
   | .tup j=>match Sr j with
    | some l=>some (C3 g l)
    | none=>none
   | _=>none
  | _=>none
 | _=>none
theorem QC{K}{ρ}{S}{H}{x y}{N O}{o}(s:CK K ρ S H)(P:B2 K ρ H x N)(E:B2 K ρ H y O)(h:Ml x y S=some o) :
  ∃a o',N=.ref a/\Mn H a O o'/\(o=none->o'=none)/\∀d,o=some d->∃v,o'=some v/\B2 K ρ H d v:=by
 unfold Ml at h;split at h
 ·rename_i n
  cases P with
  | @ref _ a G=>
   split at h
   ·rename_i I g
    split at h
    ·rename_i k j
     cases h;obtain⟨l,e,r⟩:=s.ob n _ _ g G;rw[N4 E j];obtain⟨m,A⟩:=KVR.val k r;exact⟨a,KR l k,rfl,Mn.k e,m,A⟩
    ·cases h
   ·rename_i I g
    split at h
    ·rename_i Q
     split at h
     ·rename_i B j
      cases h;obtain⟨l,e,r⟩:=s.ob n _ _ g G
      cases E with
      | tup C J=>
       obtain⟨m,A⟩:=KVR.val B r;rw[N2 J j]at C;exact⟨a,KR l B,rfl,Mn.t e C,m,A⟩
     ·cases h
    ·cases h
   ·rename_i I g
    split at h
    ·rename_i k j
     cases h;obtain⟨L,l,e,r⟩:=s.ob n _ _ g G;rw[N4 E j];obtain⟨m,A⟩:=KVR.val k r;exact⟨a,KR l k,rfl,(.inl ⟨_,_,.inr ⟨L,e⟩,rfl,rfl⟩),m,A⟩
    ·cases h
   ·rename_i I g
    split at h
    ·rename_i Q
     split at h
     ·rename_i B j
      cases h;obtain⟨L,l,e,r⟩:=s.ob n _ _ g G
      cases E with
      | tup C J=>
       obtain⟨m,A⟩:=KVR.val B r;rw[N2 J j]at C;exact⟨a,KR l B,rfl,(.inr ⟨_,_,_,.inr ⟨L,e⟩,rfl,C,rfl⟩),m,A⟩
     ·cases h
    ·cases h
   ·cases h
 ·cases h
def Mx(x y:D)(S:Sto):Res D:=match Ml x y S with
 | some (some d)=>.ok d S
 | _=>.bad
def LN(neg:Bool)(y x:D)(S:Sto):Res D:=match Ml x y S with
 | some o=>.ok (.bl (if neg then !o.isSome else o.isSome)) S
 | none=>.bad
section
variable{X:Cx}{E:EW}{mo mi mv:ME}
theorem kC(N:X.A.units+1 < Ej)(ho:GE X E o mo)(hi:GE X E i mi)(m:pe i:=by intro _ _;rfl):GE X E (.Subscript o i pos) (m2 Mx mo mi):=(jU N ho hi m).imp λO H Q h=>by
 refine(Oi h:tOp (rD X.K Mx) (gE X.K E mo) (gE X.K E mi) O H Q) |> λt=>?_
 obtain⟨P,l,S,R,m,k⟩:=t;refine⟨P,l,S,R,m,k.imp λx S1 k s T u U Y Z=>?_⟩;obtain⟨B,l2,S2,ue,u7,C⟩:=k s T u U Y Z;refine⟨B,l2,S2,ue,u7,C.imp λy S3 C G J v l3 s3 r3=>?_⟩;obtain⟨I,S4,x4,y4,d,S5,L,r4,r5,j,k4⟩:=C G J v l3 s3 r3;unfold Mx at j;split at j
 ·rename_i d' hd
  cases j;obtain⟨a,o',rfl,g,_,g2⟩:=QC L r4 r5 hd;obtain⟨w',rfl,ug⟩:=g2 _ rfl;exact⟨a,w',rfl,g,k4 I J w' .refl L ug⟩
 ·cases j
theorem ij{m}{H}{Q}(h:gE X.K E (m2 (LN false) mi mo) m H Q):qt (gE X.K E mi) (gE X.K E mo) m H Q:=by
 obtain⟨N,l,S,O,P,k⟩:=(Oi h:tOp (rD X.K (LN false)) (gE X.K E mi) (gE X.K E mo) m H Q);refine⟨N,l,S,O,P,k.imp λx S1 k o R u T U Y=>?_⟩;obtain⟨s,Z,S2,ue,u7,A⟩:=k o R u T U Y;refine⟨s,Z,S2,ue,u7,A.imp λy S3 A B G v l3 s3 r3=>?_⟩;obtain⟨C,S4,x4,y4,d,S5,I,r4,r5,j,k4⟩:=A B G v l3 s3 r3;unfold LN at j;split at j
 ·rename_i J hd
  cases j;obtain⟨a,L,rfl,g,g1,g2⟩:=QC I r5 r4 hd;refine⟨a,L,rfl,g,?_⟩
  have:L.isSome=J.isSome:=by
   cases J with
   | none=>rw[g1 rfl];rfl
   | some d=>obtain⟨w',rfl,_⟩:=g2 d rfl;rfl
  rw[this];exact k4 C G _ .refl I (.bl _)
 ·cases j
theorem XY{m}{H}{Q}(h:gE X.K E (m2 (LN true) mi mo) m H Q):Yh (gE X.K E mi) (gE X.K E mo) m H Q:=by
 obtain⟨N,l,S,O,P,k⟩:=(Oi h:tOp (rD X.K (LN true)) (gE X.K E mi) (gE X.K E mo) m H Q);refine⟨N,l,S,O,P,k.imp λx S1 k o R u T U Y=>?_⟩;obtain⟨s,Z,S2,ue,u7,A⟩:=k o R u T U Y;refine⟨s,Z,S2,ue,u7,A.imp λy S3 A B G v l3 s3 r3=>?_⟩;obtain⟨C,S4,x4,y4,d,S5,I,r4,r5,j,k4⟩:=A B G v l3 s3 r3;unfold LN at j;split at j
 ·rename_i J hd
  cases j;obtain⟨a,L,rfl,g,g1,g2⟩:=QC I r5 r4 hd;refine⟨a,L,rfl,g,?_⟩
  have:L.isSome=J.isSome:=by
   cases J with
   | none=>rw[g1 rfl];rfl
   | some d=>obtain⟨w',rfl,_⟩:=g2 d rfl;rfl
  rw[this];exact k4 C G _ .refl I (.bl _)
 ·cases j
theorem eV{K}{m}{o}{H}{Q}(h:gT K E (mB m) o H Q):gE K E m o H λx H1=>∃c,x=.bl c/\Q c H1:=by
 obtain⟨s,l,S,A,B,g⟩:=h;refine⟨s,l,S,A,B,g.seq λd J g j H1 x C G I=>?_⟩
 cases d <;> first | exact g.elim | skip
 cases I;exact⟨_,rfl,g j H1 C G⟩
theorem pB(g:X.A.units+1 < Ej)(hi:GE X E i mi)(ho:GE X E o mo)(j:EU .In o=false:=by rfl):GT X E (.Compare i [.In] [o] pos) (mB (m2 (LN false) mi mo)):=(dL (oC g hi ho) j).imp λ_ _ _ h=>ij (eV h)
theorem ai(g:X.A.units+1 < Ej)(hi:GE X E i mi)(ho:GE X E o mo)(j:EU .NotIn o=false:=by rfl):GT X E (.Compare i [.NotIn] [o] pos) (mB (m2 (LN true) mi mo)):=(dL (aI g hi ho) j).imp λ_ _ _ h=>XY (eV h)
def UJ:ME:=λ_ S=>.ok (.ref S.length) (S++[.dK []])
def eR:ME:=λ_ S=>.ok (.ref S.length) (S++[.dT []])
theorem WH:GE X E (.Dict [] [] pos) UJ:=(de (X:=X) (pos:=pos)).imp<|by
 rintro B H Q ⟨C,l,S,G,j,k⟩ p m
 obtain⟨s,A,g⟩:=j.alloc (ho:=.dK []) (o:=.dK []) m ⟨[],Bq,.nil⟩;exact k _ _ _ A s (.ref g)
theorem fY:GE X E (.Dict [] [] pos) eR:=(dc (X:=X) (pos:=pos)).imp<|by
 rintro B H Q ⟨C,l,S,G,j,k⟩ p m
 obtain⟨s,A,g⟩:=j.alloc (ho:=.dT []) (o:=.dT []) m ⟨[],Bq,.nil⟩;exact k _ _ _ A s (.ref g)
def WP(x y v:D)(S:Sto):Option Sto:=match x with
 | .ref n=>match S[n]? with
  | some (.dK g)=>match aV y with
   | some k=>if g.length < sizeLine then some (S.set n (.dK (FX g k v)))else none
   | none=>none
  | some (.dT g)=>match y with
   | .tup j=>match Sr j with
    | some l=>if g.length < sizeLine then some (S.set n (.dT (FX g l v)))else none
    | none=>none
   | _=>none
  | _=>none
 | _=>none
def E4(mo mi mv:ME):MS:=λe S=>(mv e S).lift e λv g=>(mo e g).lift e λx j=>(mi e j).lift e λy l=>match WP x y v l with
 | some m=>.ok (.nx e) m
 | none=>.bad
theorem N9(hu:X.A.units+1 < Ej)(ho:GE X E o mo)(hi:GE X E i mi)(hv:GE X E value mv)(Z:GR value (some (.Subscript o i I)) pos.line X.env=pure false:=by rfl):GS X E (.Assign [.Subscript o i I] value pos) (E4 mo mi mv):=(jJ hu ho hi hv Z).imp<|by
 rintro D σ H ⟨ρ,l,S,C,Z,m⟩
 refine⟨ρ,l,S,C,Z,m.lift C .refl λv S1 m ρ1 H1 Q s s1 r1=>⟨ρ1,l,S1,C.mono s,s1,(m.later s).lift (C.mono s) s λx S2 m ρ2 H2 xv B s2 r2=>⟨ρ2,l,S2,C.mono (s.trans B),s2,(m.later B).lift (C.mono (s.trans B)) (s.trans B) λy S3 m j R yv J T r3=>?_⟩⟩⟩;have L:=r1.mono (B.trans J);have r2':=r2.mono J;have N:=C.mono (s.trans (B.trans J));split at m
 ·rename_i S4 g
  unfold WP at g;split at g
  ·rename_i n
   cases r2' with
   | @ref _ a G=>
    split at g
    ·rename_i j' h4
     split at g
     ·rename_i U hk
      split at g
      ·rename_i hz
       cases g;obtain⟨O,e,r⟩:=T.ob n _ _ h4 G;rw[N4 r3 hk];have le:Le X.K j R j (upd R a (.dK (Ga O U Q))):=Le.write G (by rw[e];trivial);obtain⟨s5,P⟩:=T.write (ho:=.dK (Ga O U Q)) (o:=.dK (FX j' U v)) G ⟨_,Bq,(KVR.put U L r).mono le⟩ le;exact⟨a,_,rfl,WZ.k e (by rw[<-KVR.length r];exact hz),m j _ σ (s.trans (B.trans (J.trans P))) s5 (N.mono P)⟩
      ·cases g
     ·cases g
    ·rename_i j' h4
     split at g
     ·rename_i ds
      split at g
      ·rename_i Y hk
       split at g
       ·rename_i hz
        cases g;obtain⟨O,e,r⟩:=T.ob n _ _ h4 G
        cases r3 with
        | tup b1 b2=>
         rw[N2 b2 hk]at b1;have le:Le X.K j R j (upd R a (.dT (Ga O Y Q))):=Le.write G (by rw[e];trivial);obtain⟨s5,P⟩:=T.write (ho:=.dT (Ga O Y Q)) (o:=.dT (FX j' Y v)) G ⟨_,Bq,(KVR.put Y L r).mono le⟩ le;exact⟨a,_,rfl,WZ.t e b1 (by rw[<-KVR.length r];exact hz),m j _ σ (s.trans (B.trans (J.trans P))) s5 (N.mono P)⟩
       ·cases g
      ·cases g
     ·cases g
    ·cases g
  ·cases g
 ·exact m.elim
end
section
variable{X:Cx}{E:EW}{a b c:Expr}{pos:Pos}
theorem Z0{K}{f g}{N}{H}{Q}(h:gE K E (m3 f g ma mb Y) N H Q):cU (rD K f) (rD K g) (gE K E ma) (gE K E mb) (gE K E Y) N H Q:=by
 obtain⟨Z,l,S,C,hs,j⟩:=h;refine⟨Z,l,S,C,hs,j.seq λx S1 j G H1 u m s1 r1=>⟨G,l,S1,C.mono m,s1,(j.later m).seq λy O j I H2 v o s2 P=>?_⟩⟩
 cases B:f x y O with
 | bad=>rw[B]at j;exact j.elim
 | err _ _=>rw[B]at j;exact j.elim
 | ok z R=>
  rw[B]at j;dsimp only[okR,Res.bind]at j;refine⟨I,O,x,y,z,R,s2,r1.mono o,P,B,λs H3 w A T r3=>?_⟩
  cases z with
  | bl k=>
   cases r3;refine⟨k,rfl,?_⟩
   cases k with
   | true=>
    rw[qX rfl];refine⟨s,l,R,C.mono (m.trans (o.trans A)),T,CC.seq (j.later (o.trans A)) λw S4 j J H4 wv U s4 r4=>?_⟩;obtain⟨d,S',e,k⟩:=j.okR;exact⟨J,S4,y,w,d,S',s4,P.mono (A.trans U),r4,e,λL H' z l' s' r'=>k L H' z (m.trans (o.trans (A.trans (U.trans l')))) s' r'⟩
   | false=>rw[qY Ac];exact j s H3 _ (m.trans (o.trans A)) T (.bl false)
  | _=>exact j.elim
theorem RE(ho:OpR X (B4 l) (rD X.K f))(m:OpR X (B4 j) (rD X.K g))(o:GE X E a ma)(hb:GE X E b mb)(s:GE X E c A)
  (B:lastMarks [l,j] [b,c]=false:=by with_unfolding_all rfl):GT X E (.Compare a [l,j] [b,c] pos) (mB (m3 f g ma mb A)):=(dM ho m o hb s B).imp λ_ _ _ h=>Z0 (eV h)
def SM(m:ME):ME:=λe S=>(m e S).bind λd g=>match d with
 | .int i=>.ok (.int (-i)) g
 | _=>.bad
theorem Oz(h:GE X E a ma):GE X E (.UnaryOp .USub a pos) (SM ma):=(rJ mY h).imp<|by
 rintro I H Q ⟨m,l,S,o,s,g⟩
 refine⟨m,l,S,o,s,g.seq λd J g j A x B C G=>?_⟩
 cases d <;> first | exact g.elim | skip
 cases G;exact⟨_,rfl,g j A _ B C (.int _)⟩
end
abbrev MO:=Lo->Sto->Res (Option Int)
def gO(K:AG)(E:EW)(m:MO):TO:=λs H Q=>∃j e S,FC K j H e s/\CK K j S H/\CC K (λc=>E c s) j H (m e S) λo A=>∀g l,Le K j H g l->CK K g A l->Q o l
abbrev GO(X:Cx)(E:EW)(e:Option Expr)(m:MO):Prop:=PO X e (gO X.K E m)
def Vz:MO:=λ_ S=>.ok none S
def PP(m:ME):MO:=λe S=>(m e S).bind λd g=>match d with
 | .int i=>.ok (some i) g
 | _=>.bad
def Gv{α:Type}(xs:List α)(lo hi:Option Int):List α:=(xs.drop (HT.sIx xs.length 0 lo)).take (HT.sIx xs.length xs.length hi - HT.sIx xs.length 0 lo)
def bx(n:Nat)(lo hi:Option Int):Bool:=decide (HT.sIx n 0 lo=0/\HT.sIx n n hi=n)
def Tu(d:D)(lo hi:Option Int)(S:Sto):Res D:=match d with
 | .tup g=>if bx g.length lo hi=true then .bad else .ok (.tup (Gv g lo hi)) S
 | _=>match Pv d S with
  | some g=>.ok (.ref S.length) (S++[.lst (Gv g lo hi)])
  | none=>.bad
def Km(m:ME)(ml g:MO):ME:=λe S=>(m e S).bind λd j=>(ml e j).bind λlo l=>(g e l).bind λo s=>okR (Tu d lo o s)
section
variable{X:Cx}{E:EW}{e:Expr}{lo hi:Option Expr}{pos p2:Pos}{m:ME}{ml mh:MO}
theorem PO.imp(h:PO X o t)(i:∀g H Q,t' g H Q->t g H Q):PO X o t':=λj s g H Q I q=>h j s g H Q I (i g H Q q)
theorem US:GO X E none Vz:=PO.imp jN λs H Q ⟨g,l,S,A,j,o⟩=>o g H .refl j
theorem OA(h:GE X E e m):GO X E (some e) (PP m):=PO.imp (jM h)<|by
 rintro J H Q ⟨o,l,S,s,A,g⟩
 refine⟨o,l,S,s,A,g.seq λd L g j B x C G I=>?_⟩
 cases d <;> first | exact g.elim | skip
 cases I;exact⟨_,rfl,g j B C G⟩
theorem WR{K}{ρ}{H}{ds}{g}(r:A9 K ρ H ds g)(lo hi:Option Int):A9 K ρ H (Gv ds lo hi) (RO g lo hi):=by
 unfold Gv RO;rw[r.length];exact(r.drop _).take _
theorem OC(he:GE X E e m)(A:GO X E lo ml)(hu:GO X E hi mh):GE X E (.Subscript e (.Slice lo hi none p2) pos) (Km m ml mh):=(db (iw.or nJ) he A hu).imp<|by
 rintro σ H Q ⟨ρ,l,S,A,hs,s⟩
 refine⟨ρ,l,S,A,hs,s.seq λd S1 s J H1 x B s1 r1=>⟨J,l,S1,A.mono B,s1,(s.later B).seq λlo S2 s L H2 C s2=>⟨L,l,S2,A.mono (B.trans C),s2,(s.later C).seq λhi N s G O P R=>?_⟩⟩⟩;obtain⟨d',S',e,k⟩:=s.okR;have Y:=r1.mono (C.trans P)
 have lst:∀g,Pv d N=some g->Res.ok (.ref N.length) (N++[.lst (Gv g lo hi)])=Res.ok d' S'->rB X.K x lo hi O Q:=λg j e=>by
  cases e;obtain⟨p,T,rfl,rr,sq⟩:=Ko R Y j;refine⟨p,T,rfl,sq,λq j=>?_⟩;have le:Le X.K G O (G++[q]) (upd O q (.lst (RO T lo hi))):=Le.alloc j;obtain⟨U,I,yN⟩:=R.alloc (ho:=.lst (RO T lo hi)) (o:=.lst (Gv g lo hi)) j ⟨_,Bq,(WR rr lo hi).mono le⟩;exact k _ _ _ (B.trans (C.trans (P.trans I))) U (.ref yN)
 cases d with
 | tup g=>
  unfold Tu at e;dsimp only at e;split at e
  ·cases e
  ·rename_i hw
   cases e
   cases Y with
   | @tup _ a Z h1 h2=>
    refine .inr ⟨a,Z,rfl,.inl (.inl h1),λz=>hw ?_,λq j=>?_⟩
    ·unfold bx
     rw[h2.length];exact wX z
    ·obtain⟨U,I⟩:=HK (ho:=.tup (RO Z lo hi)) R j
     exact k _ _ _ (B.trans (C.trans (P.trans I))) U (.tup Bq ((WR h2 lo hi).mono I))
 | non=>cases e
 | bl _=>cases e
 | int _=>cases e
 | str _=>cases e
 | exc _=>cases e
 | fro g=>exact .inl (lst g rfl e)
 | ref n=>
  unfold Tu at e;dsimp only at e;split at e
  ·rename_i g j
   exact .inl (lst g j e)
  ·cases e
end
section
variable{X:Cx}{E:EW}{e:Expr}{p pos:Pos}{m:ME}
def FZ(m:ME):ME:=λe S=>(m e S).bind λd g=>match GZ d g with
 | some j=>.ok (.tup j) g
 | none=>.bad
theorem Fp(T:Gl X "tuple") (s:X.mg "tuple" = none) (h:GE X E e m) (N:AO [e] X.env=(false,Bt e X.env) :: AO [] X.env:=by rfl):GE X E (.Call (.Name "tuple" p) [e] [] pos) (FZ m):=
 (Sk SO T s Ph (EF h Gj N) (by decide) (by decide) N rfl).imp<|by
 rintro σ H Q ⟨U,l,S,Y,Z,s⟩
 refine⟨U,l,S,Y,Z,s.seq λd S1 s B A x O G r1=>?_⟩
 cases g:GZ d S1 with
 | none=>rw[g]at s;exact s.elim
 | some ds=>
  rw[g]at s
  have P:∀a j,x=.ref a->SqL X.K A a j->A9 X.K B A ds j->∃p I,[x]=[.ref p]/\((SqL X.K A p I/\∀l,A l=none->Q (.ref l) (upd A l (.tup I)))∨(SqT X.K A p I/\Q (.ref p) A)):=λa j e sq J=>by
   subst e;refine⟨a,j,rfl,.inl ⟨sq,λq g=>?_⟩⟩;obtain⟨s2,R⟩:=HK (ho:=.tup j) G g;exact s _ _ _ (O.trans R) s2 (.tup Bq (J.mono R))
  cases r1 with
  | @tup _ a j C L=>cases g;exact⟨a,j,rfl,.inr ⟨.inl (.inl C),s B A _ O G (.tup C L)⟩⟩
  | @fro _ a j C L=>cases g;exact P a j rfl C.sq L
  | @ref n a hn=>
   obtain⟨o,ho,ro⟩:=G.there hn;unfold GZ at g;simp only[ho]at g
   cases o with
   | lst es=>cases g;obtain⟨j,e,J⟩:=ro;exact P a j rfl (.inl (.inl e)) J
   | _=>cases g
  | _=>cases g
variable{o:Expr}
def atL(d:D)(S:Sto):Option (Nat×List D):=match d with
 | .ref n=>match S[n]? with
  | some (.lst g)=>some (n,g)
  | _=>none
 | _=>none
theorem NM{K}{ρ}{S}{H}{d}{x}{n}{xs}(s:CK K ρ S H)(r:B2 K ρ H d x)(h:atL d S=some (n,xs)):d=.ref n/\S[n]?=some (.lst xs)/\∃a vs,x=.ref a/\ρ[n]?=some a/\H a=some (.lst vs)/\A9 K ρ H xs vs:=by
 unfold atL at h;split at h
 ·split at h
  ·rename_i g hd
   cases h;exact⟨rfl,hd,Yr s r hd⟩
  ·cases h
 ·cases h
theorem T8{K}{ρ}{S}{H}{n}{a}{l g}{ys}(s:CK K ρ S H)(j:ρ[n]?=some a)(e:H a=some (.lst l))(r:A9 K ρ H ys g) :
  CK K ρ (S.set n (.lst ys)) (upd H a (.lst g))/\Le K ρ H ρ (upd H a (.lst g)):=by
 have le:Le K ρ H ρ (upd H a (.lst g)):=Le.write j (by rw[e];trivial);exact s.write (ho:=.lst g) (o:=.lst ys) j ⟨_,Bq,r.mono le⟩ le
end
section
noncomputable def Gn:List D->Option ZLi
 | []=>some []
 | .int b :: g=>(Gn g).map (b :: ·)
 | _ :: _=>none
theorem Ij:∀{ds:List D} {ns:ZLi},Gn ds=some ns->ds=ns.map D.int
 | [],_,h=>by cases h;rfl
 | .int b :: ds,ns,h=>by
  unfold Gn at h
  cases g:Gn ds with
  | none=>rw[g]at h;cases h
  | some j=>rw[g]at h;cases h;rw[Ij g];rfl
 | .non :: _,_,h=>by cases h
 | .bl _ :: _,_,h=>by cases h
 | .str _ :: _,_,h=>by cases h
 | .tup _ :: _,_,h=>by cases h
 | .fro _ :: _,_,h=>by cases h
 | .ref _ :: _,_,h=>by cases h
 | .exc _ :: _,_,h=>by cases h
noncomputable def tyD(d:D)(S:Sto):Option String:=match d with
 | .non=>some "NoneType"
 | .bl _=>some "bool"
 | .int _=>some "int"
 | .str _=>some "str"
 | .tup _=>some "tuple"
 | .ref n=>match S[n]? with
  | some (.lst _)=>some "list"
  | some (.dK _)=>some "dict"
  | some (.dT _)=>some "dict"
  | _=>none
 | .fro _=>none
 | .exc _=>none
theorem md{K}{ρ}{S}{H}{d}{x}{T}(s:CK K ρ S H)(r:B2 K ρ H d x)(h:tyD d S=some T):OL K H x (.type T):=by
 cases r with
 | non=>cases h;exact .non
 | bl b=>cases h;exact .bl b
 | int i=>cases h;exact .int i
 | str i=>cases h;exact .str i
 | tup A _=>cases h;exact .tup A
 | fro _ _=>cases h
 | exc _ _=>cases h
 | @ref n a B=>
  obtain⟨o,C,g⟩:=s.there B;unfold tyD at h;simp only[C]at h
  cases o with
  | lst j=>cases h;obtain⟨l,e,m⟩:=g;exact .lst e
  | dK j=>cases h;obtain⟨l,e,m⟩:=g;exact .dK e
  | dT j=>cases h;obtain⟨l,e,m⟩:=g;exact .dT e
  | ins _ _=>cases h
  | fK _=>cases h
  | fT _=>cases h
  | mem _=>cases h
def lK(c T:String):Option Bool:=if T==c then some true else if T=="bool"&&c=="int" then some true else if ["NoneType", "bool", "int", "str", "tuple", "list", "dict"].contains T&&["bool", "int", "str", "tuple", "list", "dict"].contains c then some false else none
end
def F4{α:Type}(r g:Res α):Res α:=match r with
 | .bad=>g
 | r=>r
theorem aK{g:Type}(r r':Res g):F4 r r'=r∨F4 r r'=r':=by cases r <;> simp[F4]
def op2(f g:D->D->Sto->Res D):D->D->Sto->Res D:=λx y S=>F4 (f x y S) (g x y S)
theorem eY(f g:D->D->Sto->Res D)(ma mb:ME)(l:Lo)(S:Sto):m2 (op2 f g) ma mb l S=m2 f ma mb l S∨m2 (op2 f g) ma mb l S=m2 g ma mb l S:=by
 unfold m2
 cases ma l S with
 | ok x m=>
  dsimp only[Res.bind]
  cases mb l m with
  | ok y j=>
   dsimp only[Res.bind];unfold op2
   rcases aK (f x y j) (g x y j)with e | e <;> rw[e] <;> simp
  | err c j=>exact .inl rfl
  | bad=>exact .inl rfl
 | err c m=>exact .inl rfl
 | bad=>exact .inl rfl
section
theorem pL{m g m2}(G:GE X E e g)(J:GE X E e m2)(h:∀l S,m l S=g l S∨m l S=m2 l S):GE X E e m:=by
 rintro j s o H Q I ⟨A,l,S,B,C,a⟩
 rcases h l S with q | q
 ·rw[q]at a;exact G j s o H Q I ⟨A,l,S,B,C,a⟩
 ·rw[q]at a;exact J j s o H Q I ⟨A,l,S,B,C,a⟩
theorem fQ(B:GT X E e C)(G:GT X E e J)(h:∀l S,t l S=C l S∨t l S=J l S):GT X E e t:=by
 rintro g s j H Q I ⟨m,l,S,o,A,a⟩
 rcases h l S with q | q
 ·rw[q]at a;exact B g s j H Q I ⟨m,l,S,o,A,a⟩
 ·rw[q]at a;exact G g s j H Q I ⟨m,l,S,o,A,a⟩
theorem pG(C:GI X E g e G)(J:GI X E g e L)(h:∀l S,t l S=G l S∨t l S=L l S):GI X E g e t:=by
 rintro j s m H R I ⟨o,l,S,A,B,a⟩
 rcases h l S with q | q
 ·rw[q]at a;exact C j s m H R I ⟨o,l,S,A,B,a⟩
 ·rw[q]at a;exact J j s m H R I ⟨o,l,S,A,B,a⟩
theorem lF{m g m2}(h:∀l S,m l S=g l S∨m l S=m2 l S)(l:Lo)(S:Sto):mB m l S=mB g l S∨mB m l S=mB m2 l S:=by
 unfold mB
 rcases h l S with q | q <;> rw[q] <;> simp
abbrev inA(neg:Bool):=op2 (inD neg) (LN neg)
theorem LD(j:X.A.units+64 < Ej)(hi:GE X E i mi)(ho:GE X E o mo)(g:EU .In o=false:=by with_unfolding_all rfl):GT X E (.Compare i [.In] [o] pos) (mB (m2 (inA false) mi mo)):=
 fQ (DW (rY j) hi ho g) (pB (by lia) hi ho g) (lF λ_ _=>eY _ _ _ _ _ _)
theorem E7(j:X.A.units+64 < Ej)(hi:GE X E i mi)(ho:GE X E o mo)(g:EU .NotIn o=false:=by with_unfolding_all rfl):GT X E (.Compare i [.NotIn] [o] pos) (mB (m2 (inA true) mi mo)):=
 fQ (DW (dn j) hi ho g) (ai (by lia) hi ho g) (lF λ_ _=>eY _ _ _ _ _ _)
abbrev ixA:=op2 ixD Mx
theorem Bz(j:X.A.units+64 < Ej)(ho:GE X E o mo)(hi:GE X E i mi)(g:Ur i:=by intro _ _;rfl):GE X E (.Subscript o i pos) (m2 ixA mo mi):=
 pL (sP rX ho hi g) (kC (by lia) ho hi g) λ_ _=>eY _ _ _ _ _ _
def Ha(d:D):Mm:=match d with
 | .tup g=>JE g
 | d=>PK d
def Dy(m:ME):MI:=λe S=>(m e S).bind λd g=>match Ha d g with
 | some _=>.ok (Ha d) g
 | none=>.bad
theorem DC(h:GE X E e m):GI X E j e (Dy m):=pG (pF h) (pE h) λl S=>by
 unfold Dy sM lL
 cases m l S with
 | ok d g=>
  dsimp only[Res.bind]
  cases d <;> first | exact .inl rfl | exact .inr rfl
 | err c g=>exact .inl rfl
 | bad=>exact .inl rfl
def Jf(m:ME):ME:=λe S=>(m e S).bind λd g=>match GZ d g with
 | some j=>.ok (.int j.length) g
 | none=>.bad
theorem HC(j:Gl X "len") (o:X.mg "len" = none) (h:GE X E e m) (s:AO [e] X.env=(false,Bt e X.env) :: AO [] X.env:=by rfl):GE X E (.Call (.Name "len" p) [e] [] pos) (Jf m):=
 (UU Ul nK j o g8 (ZC h) (by decide) (by decide) s).imp λG H Q ⟨A,l,S,B,C,a⟩=>⟨A,l,S,B,C,by
  have q:mQ rn (Kn m) l S=Jf m l S:=by
   unfold mQ Kn Jf
   cases m l S with
   | ok d g=>
    dsimp only[Res.bind]
    cases GZ d g <;> rfl
   | err c g=>rfl
   | bad=>rfl
  rw[q];exact a⟩
theorem UW(g:X.calm=true)(j:Gl X "min") (l:X.mg "min" = none) (h:GA X E [a,b] ml) (m:AO [a,b] X.env=(false,Bt a X.env) :: AO [b] X.env:=by rfl) (o:(Cp pos (AO [b] X.env)).any (·.1)=false:=by rfl):GE X E (.Call (.Name "min" p) [a,b] [] pos) (mQ Nx ml):=
 ZF (bC g) kb j l QK h (by decide) (by decide) m o
theorem ZD(g:X.calm=true)(j:Gl X "max") (l:X.mg "max" = none) (h:GA X E [a,b] ml) (m:AO [a,b] X.env=(false,Bt a X.env) :: AO [b] X.env:=by rfl) (o:(Cp pos (AO [b] X.env)).any (·.1)=false:=by rfl):GE X E (.Call (.Name "max" p) [a,b] [] pos) (mQ PR ml):=
 ZF (bE g) kc j l QM h (by decide) (by decide) m o
theorem UY(g:Gl X "list") (j:X.mg "list" = none) (h:GE X E e m) (l:AO [e] X.env=(false,Bt e X.env) :: AO [] X.env:=by rfl):GE X E (.Call (.Name "list" p) [e] [] pos) (DV (mN Sq (Kn m))):=
 Cf (j6 Uk iu g j tE (ZC h) (by decide) (by decide) l)
end
def Nz(mo ma:ME):ME:=λe S=>(mo e S).bind λd j=>match atL d j with
 | some (n,_)=>(ma e j).bind λy g=>match atL d g,atL y g with
  | some (_,l),some (k,m)=>if k≠n/\l.length+m.length<=sizeLine then .ok .non (g.set n (.lst (l++m)))else .bad
  | _,_=>.bad
 | none=>.bad
section
theorem am(ho:GE X E o mo)(Y:GE X E e ma)(Z:DZ o "extend" X.env (Bt o X.env)=Bt o X.env:=by rfl)
  (ud:((Cp g (AO [e] X.env)).all (λx=>!x.1)&&(Mf g (HG [] X.env)).all (λx=>x.1.isSome)
    &&decide ([e].length+([]:List Fe).length+(if ([]:List Fe).isEmpty then 0 else 1) < 30))=true:=by rfl)
  (tR:(m.endLine==g.line)=true:=by rfl) (s:AO [e] X.env=(false,Bt e X.env) :: AO [] X.env:=by rfl) (tj:(Cp g (AO [] X.env)).any (·.1)=false:=by rfl) :
  GE X E (.Call (.Attribute o "extend" m) [e] [] g) (Nz mo ma):=(Yv GB Rx Rv aQ ho (EF Y Gj s) Z ud tR s tj).imp<|by
 rintro σ H Q ⟨ρ,l,S,J,s,j⟩
 refine⟨ρ,l,S,J,s,j.seq λd L j A H1 v B N O=>?_⟩
 cases C:atL d L with
 | none=>rw[C]at j;exact j.elim
 | some z=>
  obtain⟨n,ν⟩:=z;rw[C]at j;dsimp only at j;obtain⟨rfl,h0,a,yf,rfl,hn,e0,_⟩:=NM N O C;refine⟨.inl ⟨rfl,yf,.inl (.inl e0)⟩,A,l,L,J.mono B,N,(j.later B).seq λy S2 j G H2 u P I r2=>?_⟩;split at j
  ·rename_i n' xs k ys h2 h3
   split at j
   ·rename_i hz
    obtain⟨e',h4,a',vs,ea,u9,R,T⟩:=NM I (O.mono P) h2;cases e';cases ea;obtain⟨ey,h5,p,ws,rfl,hk,e3,U⟩:=NM I r2 h3;obtain⟨s3,l3⟩:=T8 I u9 R (T.append U);exact⟨a,p,vs,ws,rfl,rfl,R,e3,by rw[<-T.length,<-U.length];exact hz.2,j G _ _ (B.trans (P.trans l3)) s3 .non⟩
   ·exact j.elim
  ·exact j.elim
end
def isB(t A:String):Option Bool:=if ["NoneType", "bool", "int", "str", "tuple", "list", "dict"].contains A then lK t A else none
def isN(A:String):Option Bool:=if ["NoneType", "bool", "int", "str", "tuple", "list", "dict"].contains A then some false else none
def mIs(g:String->Option Bool)(tabC:AV->Option Bool)(m:ME):ME:=λe S=>(m e S).bind λd j=>match d with
 | .exc C=>match tabC C with
  | some b=>.ok (.bl b) j
  | none=>.bad
 | d=>match tyD d j with
  | some T=>match g T with
   | some b=>.ok (.bl b) j
   | none=>.bad
  | none=>.bad
noncomputable def iK(g:Ru)(x:Str):Bool:=decide (g.names.lookup x=some .local)||decide (g.names.lookup x=some .cell)||decide (g.names.lookup x=some .free)
def gD(X:Cx)(scope:Ru)(own N':List Str):Bool:=
 decide (scope.kind=.function)&&scope.names.all (λy=>!decide (y.2=.local)||decide (scope.names.lookup y.1=some .local)) &&
 scope.names.all (λy=>!decide (y.2=.free)||decide (X.env.kindOf y.1=some .cell)||decide (X.env.kindOf y.1=some .free))&&decide (N'.length=own.length+X.N.length) &&
 ((N'.drop own.length).zip X.N).all (λp=>!iK (Jt scope X.env) p.1||(decide (p.1=p.2)&&iK X.env.scope p.1&&(decide ((Jt scope X.env).names.lookup p.1=some .cell)||decide ((Jt scope X.env).names.lookup p.1=some .free))&&!decide (X.env.kindOf p.1=some .local)&&!scope.names.any (λz=>decide (z=(p.1,C2)))&&scope.names.any (λz=>decide (z=(p.1,Fc))))) &&
 (Jt scope X.env).names.all (λy=>(!decide (y.2=.cell)&&!decide (y.2=.free))||scope.names.any (λz=>decide (z=(y.1,Fc)))||scope.names.any (λz=>decide (z=(y.1,C2))))
theorem VP:iK g x=true↔Vis g x:=by
 unfold iK Vis;simp[or_assoc]
theorem DQ(h:gD X scope own N'=true):NQ X scope own N':=by
 unfold gD at h;simp only[CF]at h;obtain⟨⟨⟨⟨⟨H,m⟩,o⟩,s⟩,A⟩,B⟩:=h;rw[K9]at m o A B;refine⟨of_decide_eq_true H,λy l e=>?_,λy l e=>?_,of_decide_eq_true s,λi x e v=>?_,λx j=>?_⟩
 ·have:=m y l
  simpa[e]using this
 ·have:=o y l
  simpa[e]using this
 ·have C:=of_decide_eq_true s
  have S:own.length+i < N'.length:=(AD.mp e).1
  have j:i < X.N.length:=by lia
  have I:(x,X.N[i])∈(N'.drop own.length).zip X.N:=by
   rw[List.mem_iff_getElem?];refine⟨i,?_⟩;rw[TQ];exact⟨by rw[Gb];exact e,by simp[j]⟩
  have:=A _ I;rw[VP.mpr v]at this;simp only[GF,lw,CF,Bool.or_eq_true,decide_eq_true_eq,Jy,decide_eq_false_iff_not]at this;obtain⟨⟨⟨⟨⟨J,L⟩,O⟩,P⟩,E⟩,Q⟩:=this;refine⟨⟨by rw[J];simp[j],VP.mp L,O,P⟩,λq=>?_,?_⟩
  ·rw[bn]at E
   exact E _ q (wX rfl)
  ·obtain⟨z,G,e⟩:=Hj.mp Q
   rw[of_decide_eq_true e]at G;exact G
 ·have g:∀k,(Jt scope X.env).names.lookup x=some k->(k=.cell∨k=.free)->(x,Fc)∈scope.names∨(x,C2)∈scope.names:=λk e R=>by
   have:=B _ (Dc e)
   rcases R with rfl | rfl
   ·simpa using this
   ·simpa using this
  rcases j with e | e
  ·exact g _ e (.inl rfl)
  ·exact g _ e (.inr rfl)
structure Dfn(K:AG)(mg:Str->Option AH)(x qual:Str)(st:D6)(ps:List Str) where
 f:AV
 fd:Iy
 F:Fun K x qual st f fd
 b:Binds K fd ps []
 m:mg x=some (.ref f)
theorem Dfn.kp{K}{j}{x g}{st}{ps}(d:Dfn K j x g st ps):Gc K (.ref d.f)=true:=d.F.kp
structure Mtd(K:AG)(x qual:Str)(st:D6)(ps:List Str) where
 f:AV
 fd:Iy
 F:Fun K x qual st f fd
 b:Binds K fd ps []
structure Own(K:AG)(mg:Str->Option AH)(x:Str)(C f:AV):Prop where
 cl:Cls K C
 mk':Mk K C f
 m:mg x=some (.ref C)
structure Xcl(K:AG)(mg:Str->Option AH)(x:Str)(C:AV):Prop where
 xc:XCl K C
 m:mg x=some (.ref C)
abbrev wN:Nat:=1000000
structure XIs(K:AG)(C:AV):Prop where
 cl:(Ee K C).isSome=true
 ga:C4 K (.ref C) "__getattribute__" = some (some (.builtin "BaseException.__getattribute__"))
 gn:C4 K (.ref C) "__getattr__" = some none
 ca:C4 K (.ref C) "__class__" = some (some (.builtin "object.__class__"))
 sp:YH K (.builtin "object.__class__") "__get__" = some (some (.builtin "getset_descriptor.__get__"))
 tk:bO K (.builtin "object.__class__")=some true
 ob:Mp K C (.type "object")=some true
 be:Mp K C (.type "BaseException")=some true
theorem Us.inst(g:h.get? a=some o)(x:Us o C):bd h a o C none:=by
 obtain⟨j,l,s,m⟩:=x;refine⟨g,j,?_,?_⟩
 ·unfold PySem.W.notCls;rw[m]
 ·rw[l];trivial
section
variable{prog:Bb}{w:By}{A:Bn}{E:AH->AL->Prop}{s:AL}{K:AG}{a C:AV}{o:Obj}
theorem ax(c:XIs K C)(X:K.In s.heap)(g:s.heap.get? a=some o)(x:Us o C)(h:Q () s):Af M A (qP "BaseException.__getattribute__" ⟨[.ref a,nameV],[]⟩) Q E s:=by
 have I:=x.inst g;obtain⟨j,H,d,t,os⟩:=s;have l:=I.type (M:=M);have m:HI M j (isInstance (.ref a) (.type "BaseException")) true:=l.andThen (PySem.W.looks_mroIn X c.be)
 have B:builtinKind "BaseException.__getattribute__" = some .slot:=by decide +kernel
 have G:splitId "BaseException.__getattribute__" = some ("BaseException", "__getattribute__"):=by decide +kernel
 have J:=PySem.F.args_bexc_ga (.ref a) nameV;simp only[qP,B,G];refine AA (m.at ?_)
 repeat(any_goals (first | assumption | wp_step))
theorem av(c:XIs K C)(X:K.In s.heap)(g:s.heap.get? a=some o)(x:Us o C)(h:Q (.done (.ret (.ref C))) s) :
  Af (Am prog w) A (Builtin.«object.__getattribute__» ⟨[.ref a,.str "__class__" tk],[]⟩) Q E s:=by
 have I:=x.inst g;obtain⟨G,H,d,t,os⟩:=s;have j:=I.type (M:=Am prog w)
 have l:bQ K C none "__class__" = some (.bind (.builtin "getset_descriptor.__get__") (.builtin "object.__class__")):=by
  obtain⟨J,m⟩:=SX.mp c.cl;unfold bQ;rw[m,c.ca];simp only[AC];rw[c.sp];simp only[AC];rw[c.tk];rfl
 have B:=PySem.W.looks_find (M:=Am prog w) X I l;unfold Builtin.«object.__getattribute__»;refine AA (AI ?_);dsimp only;refine AA (AI (AA (j.at (AA (B.at ?_)))));dsimp only;unfold gq;dsimp only;refine AA (Cz (QE (PySem.W.class_get X I c.ob ?_)));exact AI h
theorem aw(c:XIs K C)(X:K.In s.heap)(g:s.heap.get? a=some o)(x:Us o C)(h:Q (some (.ref C)) { s with toks:=s.toks+1 }):Af (Am prog w) A (gw (.ref a) "__class__") Q E s:=by
 have I:=x.inst g;obtain⟨B,G,d,t,os⟩:=s;have j:=I.type (M:=Am prog w);have l:=LV (M:=Am prog w) X c.ga;have L2:=LV (M:=Am prog w) X c.gn;unfold gw getAttrBy? getAttrBy;refine AA (wpAny_mkText (AA (FP (Cz (AA (j.at (AA (l.at ?_))))))))
 have m:(onTheHeap (A7 C)&&TJ "BaseException.__getattribute__"==TJ "object.__getattribute__")=false:=by show(true&&_)=false;decide +kernel
 dsimp only;rw[qY (by rw[m];exact Ac)];unfold getAttrByItsOwn hookBefore;refine AA ?_;rw[qX (show onTheHeap (A7 C)=true from rfl)];refine L2.at (AA (FP (Cz ?_)));unfold callGetattribute;rw[qY (by simp)];unfold boundAndCalled;refine AA (gt (QJ.ga.bind (.ref a)) ?_);refine QE (gy QJ.ga.plain PySem.F.entry_bexc_ga (ax c X g x (av c X g x ?_)));exact AI (AI h)
theorem e8(c:XIs K C):PySem.W.KitX K (.ref a) (.ref C) (λh=>∃o,h.get? a=some o/\Us o C) where
 ty:=λM h X ⟨o,g,x⟩=>(x.inst g).type
 it:=λM h X _=>by
  have z:=c.cl;unfold Ee at z;split at z
  ·rename_i j
   intro m B G H k q;unfold isType loadHead;exact AA (Wt (k _ _ (X _ _ j)) (AI q))
  ·cases z
 ne:=λh tp I J n sl X l=>by
  refine Bool.eq_false_iff.mpr λq=>?_
  have e:C=tp:=A7.inj (beq_iff_eq.mp q);subst e;have z:=c.cl;unfold Ee at z;split at z
  ·rename_i j
   have y:=(X _ _ j).symm.trans l;cases y
  ·cases z
 ca:=λX ⟨o,g,x⟩ k=>aw c X g x k
end
def rIs(K:AG)(c:V)(cv:AH):List V->Hp->VK->Prop:=λg H Q=>(∃x t b,g=[x,c]/\OL K H x t/\Bm K t cv=some b/\Q (.bl b) H) ∨
 ∃a o u C b,g=[.ref a,c]/\H a=some (.frz o u)/\Us o C/\XIs K C/\Bm K (.ref C) cv=some b/\Q (.bl b) H
section
variable{X:Cx}{E:EW}{e ce:Expr}{c:V}
theorem kS(m:∀u,RelV c u->u=cv):Iu X (.builtin "isinstance") (rIs X.K c cv):=by
 intro J s L H N O Q I r h
 rcases h with⟨x,t,b,rfl,ty,e,q⟩ | ⟨a,o,u,C,b,rfl,A,B,G,e,q⟩
 ·obtain⟨v,w,rfl,j,l⟩:=vals2 r
  rw[m w l]
  exact aY I j ty e λtk=>⟨.bl b,H,I.tok tk,rfl,q⟩
 ·obtain⟨v,w,rfl,j,l⟩:=vals2 r
  rw[m w l];cases(show v=A7 a from j);obtain⟨g,_⟩:=(show C7 X.prog X.w H s.heap a (.frz o u)from I.hok a _ A)
  exact CT (e8 G) I.kIn ⟨o,g,B⟩ e (λz=>nomatch z) λtk=>⟨.bl b,H,I.tok tk,rfl,q⟩
theorem WF(Y:∀u,RelV c u->u=cv)(Z:∀T b,o T=some b->Bm X.K (.type T) cv=some b)(O:∀C b,tabC C=some b->XIs X.K C/\Bm X.K (.ref C) cv=some b)
  (hg:Gl X "isinstance") (j:X.mg "isinstance" = none) (h:GE X E e m) (xt:PE X ce (tC c))
  (P:AO [e,ce] X.env=(false,Bt e X.env) :: AO [ce] X.env:=by rfl) (uk:AO [ce] X.env=(false,Bt ce X.env) :: AO [] X.env:=by rfl) (tX:(Cp pos (AO [ce] X.env)).any (·.1)=false:=by rfl) :
  GE X E (.Call (.Name "isinstance" p) [e,ce] [] pos) (mIs o tabC m):=
 (Lq (kS Y) hg j tF (EF h (EF xt Gj uk) P) (by decide) (by decide) P tX).imp<|by
 rintro σ H Q ⟨G,l,S,hl,hs,j⟩
 refine⟨G,l,S,hl,hs,j.seq λd I j A J x R L U=>?_⟩
 have xw:∀(z:CC X.K (λc=>E c σ) G H (match tyD d I with | some T=>(match o T with | some b=>Res.ok (D.bl b) I | none=>.bad) | none=>.bad) λd S'=>∀s B x,Le X.K G H s B->CK X.K s S' B->B2 X.K s B d x->Q x B),rIs X.K c cv [x,c] J Q:=λj=>by
  cases N:tyD d I with
  | none=>rw[N]at j;exact j.elim
  | some T=>
   rw[N]at j;dsimp only at j
   cases hb:o T with
   | none=>rw[hb]at j;exact j.elim
   | some b=>
    rw[hb]at j;exact .inl ⟨x,_,b,rfl,md L U N,Z T b hb,j A J _ R L (.bl _)⟩
 cases d with
 | exc C=>
  dsimp only at j
  cases hb:tabC C with
  | none=>rw[hb]at j;exact j.elim
  | some b=>
   rw[hb]at j
   cases U with
   | exc g x=>exact .inr ⟨_,_,_,C,b,rfl,g,x,(O C b hb).1,(O C b hb).2,j A J _ R L (.bl _)⟩
 | _=>exact xw j
end
end L2
namespace Srt
structure Ord(U:BK->Prop)(lt:BK->BK->Bool):Prop where
 asym:∀x y,U x->U y->lt x y=true->lt y x=false
 ntr:∀x y z,U x->U y->U z->lt y x=false->lt z y=false->lt z x=false
theorem Ord.irr(o:Ord U lt)(h:U x):lt x x=false:=by
 cases e:lt x x with
 | false=>rfl
 | true=>exact(o.asym x x h h e).symm.trans e |>.symm▸rfl
def ix(xs:Array BK)(i:Nat):BK:=xs.getD i (.none,.none)
theorem KD(h:xs[i]?=ys[j]?):ix xs i=ix ys j:=by
 unfold ix;rw[Dj,Dj,h]
theorem Df(h:i < xs.size):xs[i]?=some (ix xs i):=by
 unfold ix;rw[Dj,getElem?_pos xs i h];rfl
theorem aX(l:g < xs.size)(hd:d<=g)(k:Nat) :
  ix (lf xs g d) k=if k=g - d then ix xs g else if g - d < k/\k<=g then ix xs (k - 1)else ix xs k:=by
 have e:=getElem?_bubble l d hd k;split
 ·rename_i h;rw[qX h]at e;exact KD e
 ·rename_i h
  rw[qY h]at e;split
  ·rename_i j;rw[qX j]at e;exact KD e
  ·rename_i j;rw[qY j]at e;exact KD e
theorem EL(g:j<=xs.size)(k:Nat) :
  ix (KL xs i j ((j - i) / 2)) k=if i<=k/\k < j then ix xs (i+j - 1 - k)else ix xs k:=by
 have e:=getElem?_mirror_all (i:=i) g k;split
 ·rename_i h;rw[qX h]at e;exact KD e
 ·rename_i h;rw[qY h]at e;exact KD e
section
def LH(prog:Bb)(w:By)(A:Bn)(s:AL)(a₀:Array BK)(g:OU)(lt:BK->BK->Bool):Prop:=
 ∀x y,x∈a₀->y∈a₀->∀(Q:Bool->AL->Prop) (E:AH->AL->Prop),Q (lt x y) s->Af (Am prog w) A (keyLt' g x.1 y.1) Q E s
structure Good(a₀:Array BK)(κ:OU)(st:BD):Prop where
 perm:(AY st).Perm a₀
 kind:kindOf st=κ
 failed:Ix st=none
theorem Good.size{st:BD}(g:Good a₀ j st):(AY st).size=a₀.size:=g.perm.size_eq
theorem Good.mem{st:BD}(g:Good a₀ l st){i:Nat}(h:i < a₀.size):ix (AY st) i∈a₀:=by
 have j:i < (AY st).size:=by rw[g.size];exact h
 have e:=Df j;have:=DB e;exact Bj.mp ((FG.mp g.perm).mem_iff.mp (Bj.mpr this))
theorem Good.setArr{st:BD}(g:Good a₀ j st){xs:Array BK}(l:xs.Perm (AY st)):Good a₀ j (setArr st xs):=⟨l.trans g.perm,g.kind,g.failed⟩
theorem QQ{st:BD}{x y:BK}{Q:Option Bool->BD->Prop}(C:LH prog w A s a₀ j lt)(g:Good a₀ j st)(l:x∈a₀)(m:y∈a₀)(h:Q (some (lt x y)) st):wpS (Am prog w) A E s (lt' x y) Q st:=by
 rw[lt'_eq];refine Ai (Hk ?_);rw[g.kind];refine Ai (wpS_lift (FP ?_));refine C x y l m _ _ ⟨rfl,?_⟩;exact Aj h
theorem OY{st:BD}{i j:Nat}{Q:Option Bool->BD->Prop}(C:LH prog w A s a₀ m lt)(g:Good a₀ m st)(hi:i < a₀.size)(l:j < a₀.size)(h:Q (some (lt (ix (AY st) i) (ix (AY st) j))) st) :
  wpS (Am prog w) A E s (p9 i j) Q st:=by
 rw[ltAt'_eq];refine Ai (Hk ?_);show wpS _ _ _ _ (do let x <-elem' (AY st) i;let y <-elem' (AY st) j;lt' x y) Q st;rw[gx,gx,Df (by rw[g.size];exact hi),Df (by rw[g.size];exact l)];exact Ai (Aj (Ai (Aj (QQ C g (g.mem hi) (g.mem l) h))))
def Up(lt:BK->BK->Bool)(xs:Array BK)(lo hi:Nat):Prop:=∀i j,lo<=i->i<=j->j < hi->lt (ix xs j) (ix xs i)=false
def Dn(lt:BK->BK->Bool)(xs:Array BK)(lo hi:Nat):Prop:=∀i j,lo<=i->i<=j->j < hi->lt (ix xs i) (ix xs j)=false
def Out(xs ys:Array BK)(lo hi:Nat):Prop:=∀i,(i < lo∨hi<=i)->ix ys i=ix xs i
theorem Out.refl{xs:Array BK}{lo hi:Nat}:Out xs xs lo hi:=λ_ _=>rfl
theorem Out.trans{xs ys g:Array BK}{lo hi:Nat}(a:Out xs ys lo hi)(b:Out ys g lo hi):Out xs g lo hi:=λi h=>(b i h).trans (a i h)
theorem Up.out{xs ys:Array BK}{lo hi l h:Nat}(u:Up lt xs l h)(o:Out xs ys lo hi)(d:h<=lo∨hi<=l):Up lt ys l h:=λi j g m s=>by
 rw[o i (by lia),o j (by lia)];exact u i j g m s
theorem Up.grow{st:BD}(O:Ord (·∈a₀) lt)(g:Good a₀ B st){lo hi:Nat}(l:hi < a₀.size)(u:Up lt (AY st) lo hi)(h0:lo < hi)(h:lt (ix (AY st) hi) (ix (AY st) (hi - 1))=false):Up lt (AY st) lo (hi+1):=λi j m o C=>by
 by_cases s:j < hi
 ·exact u i j m o s
 ·have:j=hi:=by lia
  subst this
  by_cases A:i=j
  ·subst A;exact O.irr (g.mem l)
  ·exact O.ntr _ _ _ (g.mem (by lia)) (g.mem (show j - 1 < _ by omega)) (g.mem l) (u i (j - 1) m (by lia) (by lia)) h
theorem wpS_binarySort{st:BD}{lo n ok:Nat}{Q:Bool->BD->Prop}(C:LH prog w A s a₀ S lt)(O:Ord (·∈a₀) lt)(hn:lo+n<=a₀.size)(hok:ok<=n)(g:Good a₀ S st)(u:Up lt (AY st) lo (lo+ok))
  (h:∀m,Good a₀ S m->Up lt (AY m) lo (lo+n)->Out (AY st) (AY m) lo (lo+n)->Ab m=Ab st->Q true m):wpS (Am prog w) A E s (binarySort' lo n ok) Q st:=by
 rw[binarySort'_eq]
 refine Ai (Gw (DY (I:=λk c m=>c=(none,())/\Good a₀ S m/\Up lt (AY m) lo (lo+min k n)/\Out (AY st) (AY m) lo (lo+n)/\Ab m=Ab st)
  (Q:=λc m=>c=(none,())/\Good a₀ S m/\Up lt (AY m) lo (lo+n)/\Out (AY st) (AY m) lo (lo+n)/\Ab m=Ab st) ?step ?fin ?init) ?post)
 case post=>
  rintro c m ⟨rfl,X,Y,Z,p'⟩;exact Aj (h m X Y Z p')
 case init=>
  refine⟨rfl,g,λi j R T h3=>?_,.refl,rfl⟩
  by_cases h0:ok=0
  ·have:i=j:=by lia
   subst this;exact O.irr (g.mem (by omega))
  ·exact u i j R T (by lia)
 case fin=>
  rintro c m ⟨hc,X,Y,Z,p'⟩;refine⟨hc,X,?_,Z,p'⟩;rwa [show min (max (max ok 1) n) n=n by lia]at Y
 case step=>
  rintro k c H hak hkn ⟨rfl,B,U,o1,p1⟩;rw[show min k n=k by lia]at U
  have L:lo+k < a₀.size:=by lia
  refine Ai (Gw (DY (I:=λx c o=>o=H/\∃l r,c=(none,l,r)/\l<=r/\r<=k/\r - l<=k - x /\
    (∀i,i < l->lt (ix (AY H) (lo+k)) (ix (AY H) (lo+i))=false)/\(∀i,r<=i->i < k->lt (ix (AY H) (lo+k)) (ix (AY H) (lo+i))=true))
   (Q:=λc o=>o=H/\∃l r,c=(none,l,r)/\l<=k /\
    (∀i,i < l->lt (ix (AY H) (lo+k)) (ix (AY H) (lo+i))=false)/\(∀i,l<=i->i < k->lt (ix (AY H) (lo+k)) (ix (AY H) (lo+i))=true)) ?istep ?ifin ?iinit) ?ipost)
  case iinit=>exact⟨rfl,0,k,rfl,by lia,by lia,by lia,λi hi=>by lia,λi R T=>by lia⟩
  case ifin=>
   rintro c o ⟨rfl,l,r,rfl,hlr,J,hm,N,P⟩
   have:l=r:=by lia
   subst this;exact⟨rfl,l,l,rfl,J,N,P⟩
  case istep=>
   rintro x c o _ ξ ⟨rfl,l,r,rfl,hlr,J,hm,N,P⟩;dsimp only
   by_cases um:l ≥ r
   ·rw[qX um]
    have:l=r:=by lia
    subst this;exact Aj ⟨rfl,l,l,rfl,J,N,P⟩
   ·rw[qY um]
    refine Ai (OY C B L (by lia) ?_)
    cases G:lt (ix (AY o) (lo+k)) (ix (AY o) (lo+(l+r) / 2))with
    | true=>
     refine Aj ⟨rfl,l,(l+r) / 2,rfl,by lia,by lia,by omega,N,λi R T=>?_⟩
     cases e:lt (ix (AY o) (lo+k)) (ix (AY o) (lo+i))with
     | true=>rfl
     | false=>
      have:=O.ntr _ _ _ (B.mem (show lo+(l+r) / 2 < _ by lia)) (B.mem (show lo+i < _ by lia)) (B.mem L) (U (lo+(l+r) / 2) (lo+i) (by lia) (by lia) (by lia)) e;rw[G]at this;cases this
    | false=>
     refine Aj ⟨rfl,(l+r) / 2+1,r,rfl,by lia,by omega,by omega,λi R=>?_,P⟩;exact O.ntr _ _ _ (B.mem (show lo+i < _ by lia)) (B.mem (show lo+(l+r) / 2 < _ by lia)) (B.mem L) (U (lo+i) (lo+(l+r) / 2) (by lia) (by lia) (by lia)) G
  case ipost=>
   rintro c o ⟨rfl,l,r,rfl,hlk,N,P⟩;show wpS _ _ _ _ (do moveDown' (lo+k) (lo+l);pure (HZ (none,()))) _ _;rw[moveDown'_eq]
   have yP:lo+k < (AY o).size:=by rw[B.size];exact L
   have e:∀i,ix (lf (AY o) (lo+k) (lo+k - (lo+l))) i=if i=lo+l then ix (AY o) (lo+k)else if lo+l < i/\i<=lo+k then ix (AY o) (i - 1)else ix (AY o) i:=λi=>by
    rw[aX yP (by lia),show lo+k - (lo+k - (lo+l))=lo+l by lia]
   refine Ai (Dm (Aj ⟨rfl,B.setArr (bubble_perm _ _ _),?_,o1.trans λi hi=>?_,p1⟩))
   ·rw[show min (k+1) n=k+1 by lia]
    intro i j R T h3;show lt (ix (lf (AY o) (lo+k) (lo+k - (lo+l))) j) (ix (lf (AY o) (lo+k) (lo+k - (lo+l))) i)=false;rw[e,e]
    repeat' split
    all_goals first
     | (exfalso;lia)
     | exact O.irr (B.mem L)
     | (have q:=N (i - lo) (by lia);rw[show lo+(i - lo)=i by lia]at q;exact q)
     | (have q:=P (j - 1 - lo) (by omega) (by omega);rw[show lo+(j - 1 - lo)=j - 1 by lia]at q;exact O.asym _ _ (B.mem L) (B.mem (by lia)) q)
     | exact U _ _ (by omega) (by omega) (by lia)
   ·show ix (lf (AY o) (lo+k) (lo+k - (lo+l))) i=ix (AY o) i
    rw[e,qY (by lia),qY (by lia)]
end
section
theorem Jz{g:Type}{M:Ry}{r:String}{Q:PUnit->g->Prop}{st:g}(h:Q ⟨⟩ st):wpS M A E s (liftM (rule r):StateT g Sem PUnit) Q st:=wpS_lift (Ws ⟨rfl,h⟩)
theorem Dn.flip{xs:Array BK}{lo hi:Nat}(g:hi<=xs.size)(d:Dn lt xs lo hi):Up lt (KL xs lo hi ((hi - lo) / 2)) lo hi:=λi j l m o=>by
 rw[EL g,EL g,qX (by lia),qX (by lia)];exact d _ _ (by omega) (by omega) (by omega)
theorem Dn.part{xs:Array BK}{lo hi m:Nat}(g:hi<=xs.size)(o:lo<=m)(l:m<=hi)(d:Dn lt xs lo hi)(e:Up lt xs m hi):Dn lt (KL xs m hi ((hi - m) / 2)) lo hi:=λi j s A B=>by
 rw[EL g,EL g]
 by_cases C:m<=i
 ·rw[qX (by lia),qX (by lia)]
  exact e _ _ (by omega) (by omega) (by omega)
 ·rw[qY (by lia)]
  split
  ·exact d _ _ (by omega) (by lia) (by omega)
  ·exact d _ _ (by omega) (by omega) (by omega)
theorem Kf{xs:Array BK}{i j lo hi:Nat}(g:j<=xs.size)(l:lo<=i)(m:j<=hi):Out xs (KL xs i j ((j - i) / 2)) lo hi:=λk o=>by
 rw[EL g,qY (by lia)]
theorem Dn.grow{st:BD}(O:Ord (·∈a₀) lt)(g:Good a₀ B st){lo hi:Nat}(l:hi < a₀.size)(u:Dn lt (AY st) lo hi)(h0:lo < hi)(h:lt (ix (AY st) (hi - 1)) (ix (AY st) hi)=false):Dn lt (AY st) lo (hi+1):=λi j m o C=>by
 by_cases s:j < hi
 ·exact u i j m o s
 ·have:j=hi:=by lia
  subst this
  by_cases A:i=j
  ·subst A;exact O.irr (g.mem l)
  ·exact O.ntr _ _ _ (g.mem l) (g.mem (show j - 1 < _ by omega)) (g.mem (by lia)) h (u i (j - 1) m (by lia) (by lia))
theorem XR(O:Ord (·∈a₀) lt){st:BD}(g:Good a₀ o st){lo:Nat}(h:lo < a₀.size):Up lt (AY st) lo (lo+1):=λi j s A B=>by
 have l:i=lo:=by lia
 have m:j=lo:=by lia
 rw[l,m];exact O.irr (g.mem h)
theorem iC{st:BD}{lo tf n:Nat}{Q:Option Nat->BD->Prop}(C:LH prog w A s a₀ l lt)(O:Ord (·∈a₀) lt)(H:1<=n)(J:n<=tf)(L:lo+tf<=a₀.size)(g:Good a₀ l st)(u:Up lt (AY st) lo (lo+n))
  (h:∀n,1<=n->n<=tf->Up lt (AY st) lo (lo+n)->Q (some n) st):wpS (Am prog w) A E s (do
   let mut n:=n
   for _ in [n:tf] do
    let some m <-p9 (lo+n) (lo+n - 1) | return none
    if m then break
    n:=n+1
   return some n) Q st:=by
 refine Ai (Gw (DY (I:=λx c j=>j=st/\c=(none,x)/\Up lt (AY st) lo (lo+x))
  (Q:=λc j=>j=st/\∃n,c=(none,n)/\1<=n/\n<=tf/\Up lt (AY st) lo (lo+n)) ?step ?fin ⟨rfl,rfl,u⟩) ?post)
 case fin=>
  rintro c j ⟨rfl,rfl,u⟩
  have e:max n tf=tf:=by lia
  rw[e]at u ⊢;exact⟨rfl,tf,rfl,by lia,AN _,u⟩
 case step=>
  rintro x c j N P ⟨rfl,rfl,u⟩;dsimp only;refine Ai (OY C g (by lia) (by lia) ?_)
  cases o:lt (ix (AY j) (lo+x)) (ix (AY j) (lo+x - 1))with
  | true=>exact Aj ⟨rfl,x,rfl,by lia,by lia,u⟩
  | false=>exact Aj ⟨rfl,rfl,Up.grow (hi:=lo+x) O g (by lia) u (by lia) o⟩
 case post=>
  rintro c j ⟨rfl,n,rfl,B,G,u⟩;exact Aj (h n B G u)
theorem wpS_countRun{st}{lo tf}{Q}(C:LH prog w A s a₀ H lt)(O:Ord (·∈a₀) lt)(h1:1<=tf)(hn:lo+tf<=a₀.size)(g:Good a₀ H st)
  (h:∀l n,Good a₀ H l->1<=n->n<=tf->Up lt (AY l) lo (lo+n)->Out (AY st) (AY l) lo (lo+tf)->Ab l=Ab st->Q (some n) l):wpS (Am prog w) A E s (countRun' lo tf) Q st:=by
 rw[countRun'_eq]
 refine Ai (Gw (DY (I:=λx c l=>l=st/\c=(none,x)/\Up lt (AY st) lo (lo+x))
  (Q:=λc l=>l=st/\∃n,c=(none,n)/\1<=n/\n<=tf/\Up lt (AY st) lo (lo+n)/\(n=tf∨lt (ix (AY st) (lo+n)) (ix (AY st) (lo+n - 1))=true)) ?step ?fin ?init) ?post)
 case init=>
  refine⟨rfl,rfl,λi j a1 a2 a3=>?_⟩
  have:i=j:=by lia
  subst this;exact O.irr (g.mem (by lia))
 case fin=>
  rintro c l ⟨rfl,rfl,u⟩
  have e:max 1 tf=tf:=by lia
  rw[e]at u ⊢;exact⟨rfl,tf,rfl,h1,AN _,u,.inl rfl⟩
 case step=>
  rintro x c l yQ yg ⟨rfl,rfl,u⟩;dsimp only;refine Ai (OY C g (by lia) (by lia) ?_)
  cases N:lt (ix (AY l) (lo+x)) (ix (AY l) (lo+x - 1))with
  | true=>exact Aj ⟨rfl,x,rfl,yQ,by lia,u,.inr N⟩
  | false=>exact Aj ⟨rfl,rfl,Up.grow (hi:=lo+x) O g (by lia) u (by lia) N⟩
 case post=>
  rintro c l ⟨rfl,n,rfl,vW,u9,u,hd⟩;dsimp only
  by_cases yR:n=tf
  ·rw[qX (by simpa using yR)]
   exact Aj (h l n g vW u9 u .refl rfl)
  ·rw[qY (by simpa using yR)]
   have hd':=hd.resolve_left yR
   have P:∀(tS:BD),Good a₀ H tS->Dn lt (AY tS) lo (lo+(n+1))->Out (AY l) (AY tS) lo (lo+tf)->Ab tS=Ab l ->
     wpS (Am prog w) A E s (do
      liftM (rule "list.sort.descending-run")
      let mut n:=n+1
      let mut neq:=0
      for _ in [n:tf] do
       let some U <-p9 (lo+n) (lo+n - 1) | return none
       if U then
        if neq > 0 then Px (lo+n - (neq+1)) (lo+n)
        neq:=0
       else
        let some xy <-p9 (lo+n - 1) (lo+n) | return none
        if xy then break
        neq:=neq+1
       n:=n+1
      if neq > 0 then Px (lo+n - (neq+1)) (lo+n)
      Px lo (lo+n)
      for _ in [n:tf] do
       let some U <-p9 (lo+n) (lo+n - 1) | return none
       if U then break
       n:=n+1
      return some n) Q tS:=by
    intro tS X d1 o1 p1;refine Ai (Jz ?_)
    refine Ai (Gw (DY (I:=λx c B=>Good a₀ H B/\∃q,c=(none,x,q)/\q+1<=x/\Dn lt (AY B) lo (lo+x)/\Up lt (AY B) (lo+x - (q+1)) (lo+x)/\Out (AY l) (AY B) lo (lo+tf)/\Ab B=Ab l)
     (Q:=λc B=>Good a₀ H B/\∃n q,c=(none,n,q)/\n<=tf/\q+1<=n/\Dn lt (AY B) lo (lo+n)/\Up lt (AY B) (lo+n - (q+1)) (lo+n)/\Out (AY l) (AY B) lo (lo+tf)/\Ab B=Ab l) ?dstep ?dfin ?dinit) ?dpost)
    case dinit=>
     refine⟨X,0,rfl,by lia,d1,?_,o1,p1⟩;have:=XR O X (lo:=lo+n) (by lia);rwa [show lo+(n+1) - (0+1)=lo+n by lia,show lo+(n+1)=lo+n+1 by lia]
    case dfin=>
     rintro c B ⟨G,q,rfl,N,d2,S,J,L⟩
     have e:max (n+1) tf=tf:=by lia
     rw[e]at d2 S N ⊢;exact⟨G,tf,q,rfl,AN _,N,d2,S,J,L⟩
    case dstep=>
     rintro x c B yQ yg ⟨G,q,rfl,N,d2,S,J,L⟩;dsimp only;refine Ai (OY C G (by lia) (by lia) ?_)
     cases hs:lt (ix (AY B) (lo+x)) (ix (AY B) (lo+x - 1))with
     | true=>
      dsimp only;rw[qX rfl];have Y:=O.asym _ _ (G.mem (show lo+x < _ by lia)) (G.mem (show lo+x - 1 < _ by lia)) hs
      by_cases Z:q > 0
      ·rw[qX Z,Me]
       have o:lo+x<=(AY B).size:=by rw[G.size];lia
       have T:Good a₀ H (setArr B (KL (AY B) (lo+x - (q+1)) (lo+x) ((lo+x - (lo+x - (q+1))) / 2))):=G.setArr (Uu _ _ _ _);have d3:=Dn.part (lt:=lt) (lo:=lo) o (show lo<=lo+x - (q+1) by lia) (by omega) d2 S;refine Ai (Dm (Aj ⟨T,0,rfl,by lia,?_,?_,J.trans (Kf o (by lia) (by lia)),L⟩))
       ·refine Dn.grow (hi:=lo+x) O T (by lia) d3 (by lia) ?_
        show lt (ix (KL (AY B) (lo+x - (q+1)) (lo+x) ((lo+x - (lo+x - (q+1))) / 2)) (lo+x - 1)) (ix (KL (AY B) (lo+x - (q+1)) (lo+x) ((lo+x - (lo+x - (q+1))) / 2)) (lo+x))=false;rw[EL o,EL o,qX (by omega),qY (by lia)];exact O.ntr _ _ _ (G.mem (by lia)) (G.mem (show lo+x - 1 < _ by lia)) (G.mem (by omega)) Y (d2 _ _ (by lia) (by omega) (by lia))
       ·have:=XR O T (lo:=lo+x) (by lia)
        rwa [show lo+(x+1) - (0+1)=lo+x by lia,show lo+(x+1)=lo+x+1 by lia]
      ·rw[qY Z]
       refine Aj ⟨G,0,rfl,by lia,Dn.grow (hi:=lo+x) O G (by lia) d2 (by lia) Y,?_,J,L⟩;have:=XR O G (lo:=lo+x) (by lia);rwa [show lo+(x+1) - (0+1)=lo+x by lia,show lo+(x+1)=lo+x+1 by lia]
     | false=>
      dsimp only;rw[qY Ac];refine Ai (OY C G (by lia) (by lia) ?_)
      cases hl:lt (ix (AY B) (lo+x - 1)) (ix (AY B) (lo+x))with
      | true=>exact Aj ⟨G,x,q,rfl,by lia,N,d2,S,J,L⟩
      | false=>
       refine Aj ⟨G,q+1,rfl,by lia,Dn.grow (hi:=lo+x) O G (by lia) d2 (by lia) hl,?_,J,L⟩;rw[show lo+(x+1) - (q+1+1)=lo+x - (q+1) by lia];exact Up.grow (hi:=lo+x) O G (by lia) S (by omega) hs
    case dpost=>
     rintro c B ⟨G,m,q,rfl,hm,N,d2,S,J,L⟩;dsimp only
     have o:lo+m<=(AY B).size:=by rw[G.size];lia
     have last:∀uK,Good a₀ H uK->Dn lt (AY uK) lo (lo+m)->Out (AY l) (AY uK) lo (lo+tf)->Ab uK=Ab l->∀(R:StateT BD Sem (Option Nat)),R=(do
        let mut n:=m
        for _ in [n:tf] do
         let some U <-p9 (lo+n) (lo+n - 1) | return none
         if U then break
         n:=n+1
        return some n)->wpS (Am prog w) A E s (do Px lo (lo+m);R) Q uK:=by
      rintro uK T d3 o3 p3 R rfl
      have yS:lo+m<=(AY uK).size:=by rw[T.size];lia
      rw[Me];refine Ai (Dm ?_);have g4:Good a₀ H (setArr uK (KL (AY uK) lo (lo+m) ((lo+m - lo) / 2))):=T.setArr (Uu _ _ _ _)
      exact iC C O (by lia) hm hn g4 (Dn.flip yS d3) λk k1 k2 k3=>h _ k g4 k1 k2 k3 (o3.trans (Kf yS (by lia) (by lia))) p3
     by_cases Z:q > 0
     ·rw[qX Z,Me]
      refine Ai (Dm ?_);exact last _ (G.setArr (Uu _ _ _ _)) (Dn.part o (by lia) (by omega) d2 S) (J.trans (Kf o (by lia) (by lia))) L _ rfl
     ·rw[qY Z]
      exact last _ G d2 J L _ rfl
   have Y:=O.asym _ _ (g.mem (show lo+n < _ by lia)) (g.mem (show lo+n - 1 < _ by omega)) hd'
   by_cases zY:n > 1
   ·rw[qX zY]
    refine Ai (OY C g (by lia) (by omega) ?_)
    cases hr:lt (ix (AY l) lo) (ix (AY l) (lo+n - 1))with
    | true=>exact Aj (h l n g vW u9 u .refl rfl)
    | false=>
     dsimp only;rw[qY Ac,Me]
     have o:lo+n<=(AY l).size:=by rw[g.size];lia
     have X:Good a₀ H (setArr l (KL (AY l) lo (lo+n) ((lo+n - lo) / 2))):=g.setArr (Uu _ _ _ _)
     have al:∀i j,lo<=i->i < lo+n->lo<=j->j < lo+n->lt (ix (AY l) i) (ix (AY l) j)=false:=λi j i1 i2 j1 j2=>by
      have q1:=u j (lo+n - 1) (by omega) (by lia) (by omega);have q2:=u lo i (by lia) (by omega) (by omega);exact O.ntr _ _ _ (g.mem (by lia)) (g.mem (show lo < _ by lia)) (g.mem (by lia)) (O.ntr _ _ _ (g.mem (by lia)) (g.mem (show lo+n - 1 < _ by lia)) (g.mem (by lia)) q1 hr) q2
     refine Ai (Dm ?_);refine P _ X ?_ (Kf o (by lia) (by lia)) rfl;refine Dn.grow (hi:=lo+n) O X (by lia) (λi j a1 a2 a3=>?_) (by lia) ?_
     ·show lt (ix (KL (AY l) lo (lo+n) ((lo+n - lo) / 2)) i) (ix (KL (AY l) lo (lo+n) ((lo+n - lo) / 2)) j)=false
      rw[EL o,EL o,qX (by lia),qX (by lia)];exact al _ _ (by omega) (by omega) (by omega) (by omega)
     ·show lt (ix (KL (AY l) lo (lo+n) ((lo+n - lo) / 2)) (lo+n - 1)) (ix (KL (AY l) lo (lo+n) ((lo+n - lo) / 2)) (lo+n))=false
      rw[EL o,EL o,qX (by omega),qY (by lia),show lo+(lo+n) - 1 - (lo+n - 1)=lo by omega];exact O.ntr _ _ _ (g.mem (by lia)) (g.mem (show lo+n - 1 < _ by lia)) (g.mem (by lia)) Y hr
   ·rw[qY zY]
    have e:n=1:=by lia
    subst e;refine P _ g (Dn.grow (hi:=lo+1) O g (by lia) (λi j a1 a2 a3=>?_) (by lia) Y) .refl rfl
    have e1:i=lo:=by lia
    have e2:j=lo:=by lia
    rw[e1,e2];exact O.irr (g.mem (by lia))
end
def sQ:Bool->BK->Array BK->Nat->Nat->Nat->StateT BD Sem (Option Nat):=sortPriv% PySem.Builtin.gallop
section
abbrev BS:=Option (Option Nat)×Nat×Nat
theorem kU{st:BD}{p:Nat->Bool}{n lo hi:Nat}{F:Nat->BS->StateT BD Sem (ForInStep BS)}{T:BS->StateT BD Sem (Option Nat)}{Q:Option Nat->BD->Prop}(G:lo<=hi)(H:hi<=n)
  (N:∀i,i < lo->p i=true) (O:∀i,hi<=i->i < n->p i=false) (mono:∀i j,i<=j->j < n->p j=true->p i=true)
  (P:∀x l h (R:ForInStep BS->BD->Prop),l<=h->h<=n->(l ≥ h->R (.done (none,l,h)) st)->(l < h->p (l+(h - l) / 2)=true->R (.yield (none,l+(h - l) / 2+1,h)) st)->(l < h->p (l+(h - l) / 2)=false->R (.yield (none,l,l+(h - l) / 2)) st) ->
   wpS (Am prog w) A E s (F x (none,l,h)) R st)
  (S:∀l h,h<=n->(∀i,i < h->p i=true)->(∀i,h<=i->i < n->p i=false)->wpS (Am prog w) A E s (T (none,l,h)) Q st):wpS (Am prog w) A E s (forIn [0:n] (none,lo,hi) F >>= T) Q st:=by
 refine Ai (Gw (DY (I:=λx c g=>g=st/\∃l h,c=(none,l,h)/\l<=h/\h<=n/\h - l<=n - x/\(∀i,i < l->p i=true)/\(∀i,h<=i->i < n->p i=false))
  (Q:=λc g=>g=st/\∃l h,c=(none,l,h)/\h<=n/\(∀i,i < h->p i=true)/\(∀i,h<=i->i < n->p i=false)) ?step ?fin ⟨rfl,lo,hi,rfl,G,H,by lia,N,O⟩) ?post)
 case fin=>
  rintro c g ⟨rfl,l,h,rfl,L,m,U,o,B⟩
  have:l=h:=by lia
  subst this;exact⟨rfl,l,l,rfl,m,o,B⟩
 case step=>
  rintro x c g _ Z ⟨rfl,l,h,rfl,L,m,U,o,B⟩
  refine P x l h _ L m (λum=>?_) (λX C=>?_) λX C=>?_
  ·have:l=h:=by lia
   subst this;exact⟨rfl,l,l,rfl,m,o,B⟩
  ·exact⟨rfl,_,_,rfl,by lia,m,by omega,λi hi=>mono i (l+(h - l) / 2) (by lia) (by lia) C,B⟩
  ·refine⟨rfl,_,_,rfl,by lia,by lia,by omega,o,λi Y J=>?_⟩
   cases e:p i with
   | false=>rfl
   | true=>rw[mono _ i Y J e]at C;cases C
 case post=>
  rintro c g ⟨rfl,l,h,rfl,m,o,B⟩;exact S l h m o B
theorem ZG{st:BD}{q:Nat->Bool}{n mx:Nat}{F:Nat->BS->StateT BD Sem (ForInStep BS)}{T:BS->StateT BD Sem (Option Nat)}{Q:Option Nat->BD->Prop}(N:mx<=n)(C:q 0=true)
  (G:∀x a b (R:ForInStep BS->BD->Prop),a < b->(b ≥ mx->R (.done (none,a,b)) st)->(b < mx->q b=false->R (.done (none,a,b)) st)->(b < mx->q b=true->R (.yield (none,b,2 * b+1)) st)->wpS (Am prog w) A E s (F x (none,a,b)) R st)
  (H:∀a b,a < b->q a=true->(a=0∨a < mx)->(b < mx->q b=false)->wpS (Am prog w) A E s (T (none,a,b)) Q st):wpS (Am prog w) A E s (forIn [0:n] (none,0,1) F >>= T) Q st:=by
 refine Ai (Gw (DY (I:=λx c g=>g=st/\∃a b,c=(none,a,b)/\a < b/\x+1<=b/\q a=true/\(a=0∨a < mx))
  (Q:=λc g=>g=st/\∃a b,c=(none,a,b)/\a < b/\q a=true/\(a=0∨a < mx)/\(b < mx->q b=false)) ?step ?fin ⟨rfl,0,1,rfl,by lia,by lia,C,.inl rfl⟩) ?post)
 case fin=>
  rintro c g ⟨rfl,a,b,rfl,j,J,l,m⟩;exact⟨rfl,a,b,rfl,j,l,m,λh=>by lia⟩
 case step=>
  rintro x c g _ O ⟨rfl,a,b,rfl,j,J,l,m⟩
  refine G x a b _ j (λP=>?_) (λB o=>?_) λB o=>?_
  ·exact⟨rfl,a,b,rfl,j,l,m,λh=>by lia⟩
  ·exact⟨rfl,a,b,rfl,j,l,m,λ_=>o⟩
  ·exact⟨rfl,b,2 * b+1,rfl,by lia,by lia,o,.inr B⟩
 case post=>
  rintro c g ⟨rfl,a,b,rfl,j,l,m,L⟩;exact H a b j l m L
theorem G4{st:BD}{left:Bool}{key:BK}{arr:Array BK}{base n hint:Nat}{Q:Option Nat->BD->Prop}(C:LH prog w A s a₀ κ lt)(g:Good a₀ κ st)(p:Nat->Bool)
  (Y:key∈a₀) (ο:∀i,i < n->base+i < arr.size/\ix arr (base+i)∈a₀) (hp:∀i,i < n->p i=if left=true then lt (ix arr (base+i)) key else !lt key (ix arr (base+i)))
  (mono:∀i j,i<=j->j < n->p j=true->p i=true) (Z:hint < n)
  (h:∀k,k<=n->(∀i,i < k->p i=true)->(∀i,k<=i->i < n->p i=false)->Q (some k) st):wpS (Am prog w) A E s (sQ left key arr base n hint) Q st:=by
 have P:∀i,i < n->∀R:Option Bool->BD->Prop,R (some (p i)) st->wpS (Am prog w) A E s (do let x <-elem' arr (base+i);if left=true then lt' x key else do let y <-lt' key x;pure (y.map (!·))) R st:=by
  intro i B R hR;obtain⟨O,H⟩:=ο i B;rw[gx,Df O];refine Ai (Aj ?_);rw[hp i B]at hR
  cases left with
  | true=>exact QQ C g H Y hR
  | false=>exact Ai (QQ C g Y H (Aj hR))
 refine(Ai ?_:wpS _ _ _ _ (sQ left key arr base n hint) Q st);refine P hint Z _ ?_
 have fin:∀(lo B:Nat) {F:Nat->BS->StateT BD Sem (ForInStep BS)} {T:BS->StateT BD Sem (Option Nat)},lo<=B->B<=n->(∀i,i < lo->p i=true)->(∀i,B<=i->i < n->p i=false) ->
   (∀x l m (R:ForInStep BS->BD->Prop),l<=m->m<=n->(l ≥ m->R (.done (none,l,m)) st)->(l < m->p (l+(m - l) / 2)=true->R (.yield (none,l+(m - l) / 2+1,m)) st)->(l < m->p (l+(m - l) / 2)=false->R (.yield (none,l,l+(m - l) / 2)) st) ->
    wpS (Am prog w) A E s (F x (none,l,m)) R st)->(∀l m,T (none,l,m)=pure (some m))->wpS (Am prog w) A E s (forIn [0:n] (none,lo,B) F >>= T) Q st:=λlo B F T O H h3 h4 hF hT=>
  kU O H h3 h4 mono hF λl m q1 q2 q3=>by rw[hT];exact Aj (h m q1 q2 q3)
 cases hq:p hint with
 | true=>
  dsimp only;rw[qX rfl]
  refine ZG (q:=λi=>decide (hint+i < n)&&p (hint+i)) (mx:=n - hint) (by lia) (by simp[hq,Z]) (λx a b R X I J L=>?_) λa b X G ha hb=>?_
  ·dsimp only
   by_cases o:b ≥ n - hint
   ·rw[qX o];exact Aj (I o)
   ·rw[qY o]
    refine Ai (P (hint+b) (by lia) _ ?_);have hd:decide (hint+b < n)=true:=wX (by lia)
    cases e:p (hint+b)with
    | true=>exact Aj (L (by lia) (by simp[hd,e]))
    | false=>exact Aj (J (by lia) (by simp[hd,e]))
  ·dsimp only
   have U:p (hint+a)=true:=by simp at G;exact G.2
   have S:hint+a < n:=by simp at G;exact G.1
   refine fin (hint+a+1) (hint+min b (n - hint)) (by omega) (by omega) (λi B=>mono i (hint+a) (by lia) S U) (λi O H=>?_) (λx l m R l1 l2 I J L=>?_) λl m=>rfl
   ·by_cases N:b < n - hint
    ·have:=hb N
     have hd:decide (hint+b < n)=true:=wX (by lia);rw[hd,lv]at this
     cases e:p i with
     | false=>rfl
     | true=>rw[mono (hint+b) i (by lia) H e]at this;cases this
    ·omega
   ·dsimp only
    by_cases o:l ≥ m
    ·rw[qX o];exact Aj (I o)
    ·rw[qY o]
     refine Ai (P (l+(m - l) / 2) (by lia) _ ?_)
     cases e:p (l+(m - l) / 2)with
     | true=>exact Aj (J (by lia) e)
     | false=>exact Aj (L (by lia) e)
 | false=>
  dsimp only;rw[qY Ac]
  refine ZG (q:=λi=>decide (i<=hint)&&!p (hint - i)) (mx:=hint+1) (by lia) (by simp[hq]) (λx a b R X I J L=>?_) λa b X G ha hb=>?_
  ·dsimp only
   by_cases o:b ≥ hint+1
   ·rw[qX o];exact Aj (I o)
   ·rw[qY o]
    refine Ai (P (hint - b) (by omega) _ ?_);have hd:decide (b<=hint)=true:=wX (by lia)
    cases e:p (hint - b)with
    | true=>exact Aj (J (by lia) (by simp[hd,e]))
    | false=>exact Aj (L (by lia) (by simp[hd,e]))
  ·dsimp only
   have U:p (hint - a)=false:=by simp at G;exact G.2
   have S:a<=hint:=by simp at G;exact G.1
   refine fin (hint+1 - min b (hint+1)) (hint - a) (by omega) (by omega) (λi B=>?_) (λi O H=>?_) (λx l m R l1 l2 I J L=>?_) λl m=>rfl
   ·by_cases N:b < hint+1
    ·have:=hb N
     have hd:decide (b<=hint)=true:=wX (by lia);rw[hd,lv]at this;exact mono i (hint - b) (by omega) (by lia) (by simpa using this)
    ·omega
   ·cases e:p i with
    | false=>rfl
    | true=>rw[mono (hint - a) i O H e]at U;cases U
   ·dsimp only
    by_cases o:l ≥ m
    ·rw[qX o];exact Aj (I o)
    ·rw[qY o]
     refine Ai (P (l+(m - l) / 2) (by lia) _ ?_)
     cases e:p (l+(m - l) / 2)with
     | true=>exact Aj (J (by lia) e)
     | false=>exact Aj (L (by lia) e)
end
structure MI(R:BK->BK->Prop)(T o ra rb:List BK):Prop where
 perm:(o++(ra++rb)).Perm T
 srt:o.Pairwise R
 low:∀x∈o,∀y∈ra++rb,R x y
 sa:ra.Pairwise R
 sb:rb.Pairwise R
structure LO(R:BK->BK->Prop)(T r:List BK):Prop where
 perm:r.Perm T
 srt:r.Pairwise R
section
theorem MI.takeA(m:MI R T o (xs++s) rb)(h:∀x∈xs,∀y∈rb,R x y):MI R T (o++xs) s rb:=by
 have l:=Bv.mp m.sa;refine⟨by simpa[A8]using m.perm,Bv.mpr ⟨m.srt,l.1,λx g y j=>m.low x g y (by simp[j])⟩,λx g y j=>?_,l.2.1,m.sb⟩
 rcases Au.mp g with g | g
 ·exact m.low x g y (by rcases Au.mp j with h | h <;> simp[h])
 ·rcases Au.mp j with j | j
  ·exact l.2.2 x g y j
  ·exact h x g y j
theorem MI.takeB(m:MI R T o s (xs++rb))(h:∀x∈xs,∀y∈s,R x y):MI R T (o++xs) s rb:=by
 have l:=Bv.mp m.sb;refine⟨?_,Bv.mpr ⟨m.srt,l.1,λx g y j=>m.low x g y (by simp[j])⟩,λx g y j=>?_,m.sa,l.2.1⟩
 ·refine List.Perm.trans ?_ m.perm
  rw[A8];refine KN o ?_;rw[<-A8,<-A8];exact Rz rb W8
 ·rcases Au.mp g with g | g
  ·exact m.low x g y (by rcases Au.mp j with h | h <;> simp[h])
  ·rcases Au.mp j with j | j
   ·exact h x g y j
   ·exact l.2.2 x g y j
theorem MI.endA(m:MI R T o g []):LO R T (o++g):=by
 refine⟨by simpa using m.perm,Bv.mpr ⟨m.srt,m.sa,λx j y l=>m.low x j y (by simp[l])⟩⟩
theorem MI.endB(m:MI R T o [] g):LO R T (o++g):=by
 refine⟨by simpa using m.perm,Bv.mpr ⟨m.srt,m.sb,λx j y l=>m.low x j y (by simp[l])⟩⟩
theorem MI.last(m:MI R T o g j)(h:∀y∈j,∀x∈g,R y x):LO R T (o++(j++g)):=by
 refine⟨(KN o W8).trans m.perm,Bv.mpr ⟨m.srt,Bv.mpr ⟨m.sb,m.sa,h⟩,λx l y s=>m.low x l y (by rcases Au.mp s with h | h <;> simp[h])⟩⟩
end
theorem QB(h:i < a.size):a.toList.drop i=ix a i :: a.toList.drop (i+1):=by
 rw[Jq (by simpa using h)]
 congr 1
 have:=Df h;rw[getElem?_pos a i h]at this;simpa using this
theorem Ip{a:Array BK}{i k:Nat}(h:i+k<=a.size):a.toList.drop i=(a.extract i (i+k)).toList++a.toList.drop (i+k):=by
 have e:(a.extract i (i+k)).toList=(a.toList.drop i).take k:=by simp[PF]
 rw[e,<-SY,Dx]
theorem P7(h:i+k<=a.size)(g:x∈(a.extract i (i+k)).toList):∃j,j < k/\x=ix a (i+j):=by
 rw[Bj,Py]at g;obtain⟨j,l,rfl⟩:=g;refine⟨j,by lia,?_⟩;have:=Df (xs:=a) (i:=i+j) (by lia);rw[getElem?_pos a _ (by lia)]at this;simpa using this
theorem Ku(a:Array BK)(i:Nat):(a.extract i a.size).toList=a.toList.drop i:=by
 simp[PF];exact Bg (by simp)
theorem GM(g:x∈a.toList.drop i):∃j,i<=j/\j < a.size/\x=ix a j:=by
 obtain⟨k,l,rfl⟩:=YM.mp g;simp at l;refine⟨i+k,by lia,by omega,?_⟩;have:=Df (xs:=a) (i:=i+k) (by omega);rw[getElem?_pos a _ (by omega)]at this;simpa using this
theorem P0{g:Type}{M:Ry}{A:Bn}{E:AH->AL->Prop}{s:AL}{c:Prop}[Decidable c]{a b:StateT BD Sem g}{Q:g->BD->Prop}{st:BD}(j:c->wpS M A E s a Q st)(hb:¬c->wpS M A E s b Q st):wpS M A E s (if c then a else b) Q st:=by
 split
 ·exact j ‹_›
 ·exact hb ‹_›
theorem Ds{g:Type}{M:Ry}{A:Bn}{E:AH->AL->Prop}{s:AL}{x y:Nat}{a b:StateT BD Sem g}{Q:g->BD->Prop}{st:BD}(j:x=y->wpS M A E s a Q st)(hb:¬x=y->wpS M A E s b Q st):wpS M A E s (if (x==y)=true then a else b) Q st:=P0 (λh=>j (by simpa using h)) λh=>hb (by simpa using h)
theorem J8{M:Ry}{A:Bn}{E:AH->AL->Prop}{s:AL}{j l o:Type}{a b:Nat}{f:Nat->l->StateT j Sem (ForInStep l)}{k:l->StateT j Sem o}{R:o->j->Prop}(I:Nat->l->j->Prop){Q:l->j->Prop}
  (step:∀F,f=F->∀(i:Nat) (c:l) (st:j),a<=i->i < b->I i c st->wpS M A E s (F i c) (λr g=>match r with | .done m=>Q m g | .yield m=>I (i+1) m g) st)
  (fin:∀c st,I (max a b) c st->Q c st) {c:l} {st:j} (init:I a c st) (post:∀K,k=K->∀c g,Q c g->wpS M A E s (K c) R g):wpS M A E s (forIn [a:b] c f >>= k) R st:=Ai (Gw (DY I (step f rfl) fin init) (post k rfl))
theorem bv{j g:Type}{M:Ry}{A:Bn}{E:AH->AL->Prop}{s:AL}{c:g->Prop}{d:∀i,Decidable (c i)}{F t:g->StateT BD Sem j}{Q:j->BD->Prop}{st:BD}(h:∀i,wpS M A E s (F i) Q st)(l:(∀i,wpS M A E s (F i) Q st)->∀i,wpS M A E s (t i) Q st)(i:g):wpS M A E s (if c i then t i else F i) Q st:=P0 (λ_=>l h i) λ_=>h i
theorem Pz{m g l:Type}{M:Ry}{A:Bn}{E:AH->AL->Prop}{s:AL}{c:g->l->Prop}{d:∀i j,Decidable (c i j)}{F t:g->l->StateT BD Sem m}{x:g}{y:l}{Q:m->BD->Prop}{st:BD}(I:g->l->Prop)(h:∀i j,I i j->wpS M A E s (F i j) Q st)(o:(∀i j,I i j->wpS M A E s (F i j) Q st)->c x y->wpS M A E s (t x y) Q st)(B:¬c x y->I x y):∀i,x=i->∀j,y=j->wpS M A E s (if c i j then t i j else F i j) Q st:=λ_ e _ f=>e▸f▸P0 (o h) λn=>h x y (B n)
theorem OX{g:Type}{M:Ry}{A:Bn}{E:AH->AL->Prop}{s:AL}{c:Prop}{d:Decidable c}{x:g}{Q:ForInStep g->BD->Prop}{st:BD}(h:Q (.done x) st/\Q (.yield x) st):wpS M A E s (if c then pure (.done x)else pure (.yield x)) Q st:=P0 (λ_=>Aj h.1) λ_=>Aj h.2
section
variable{prog:Bb}{w:By}{A:Bn}{E:AH->AL->Prop}{s:AL}{a₀:Array BK}{κ:OU}{lt:BK->BK->Bool}
theorem QR{st:BD}{a:Array BK}{i:Nat}{Q:BK->BD->Prop}(h:i < a.size)(g:Q (ix a i) st):wpS (Am prog w) A E s (elem' a i) Q st:=by
 rw[gx,Df h];exact Aj g
theorem Ck{g:Type}{st:BD}{a:Array BK}{i:Nat}{f:BK->StateT BD Sem g}{Q:g->BD->Prop}(h:i < a.size)(j:wpS (Am prog w) A E s (f (ix a i)) Q st):wpS (Am prog w) A E s (elem' a i >>= f) Q st:=Ai (QR h j)
def mLo:Array BK->Array BK->StateT BD Sem (Array BK):=sortPriv% PySem.Builtin.mergeLo
def mHi:Array BK->Array BK->StateT BD Sem (Array BK):=sortPriv% PySem.Builtin.mergeHi
structure OM(a₀:Array BK)(κ:OU)(st st':BD):Prop where
 good:Good a₀ κ st'
 arr:AY st'=AY st
 pend:Ab st'=Ab st
theorem OM.gal{st g:BD}(h:OM a₀ κ st g)(n:Nat):OM a₀ κ st (HH (kindOf g) (AY g) (Ab g) n (Ix g)):=⟨⟨h.good.perm,h.good.kind,h.good.failed⟩,h.arr,h.pend⟩
abbrev Rl(lt:BK->BK->Bool)(x y:BK):Prop:=lt y x=false
theorem Vd(O:Ord (·∈a₀) lt){a:Array BK}(ma:∀i,i < a.size->ix a i∈a₀)(l:a.toList.Pairwise (Rl lt)):∀i j,i<=j->j < a.size->Rl lt (ix a i) (ix a j):=λi j m g=>by
 by_cases e:i=j
 ·subst e;exact O.irr (ma i g)
 ·have hd:=QB (a:=a) (i:=i) (by lia)
  have:=l.sublist (bj i a.toList);rw[hd]at this;refine(bS.mp this).1 _ ?_;rw[show a.toList.drop (i+1)=(a.extract (i+1) (i+1+(j - (i+1)))).toList++a.toList.drop (i+1+(j - (i+1)))from Ip (by lia),show i+1+(j - (i+1))=j by lia,QB g];simp
theorem UM(ma:∀x∈a.toList,x∈a₀):∀i,i < a.size->ix a i∈a₀:=λi g=>ma _ (Bj.mpr (DB (Df g)))
theorem P1{st:BD}{n:Nat}{Q:Unit->BD->Prop}(h:Q () (HH (kindOf st) (AY st) (Ab st) n (Ix st))):wpS (Am prog w) A E s ((sortPriv% PySem.Builtin.setMinGallop) n) Q st:=Dm h
abbrev L7:=Option (Array BK)×Array BK×Nat×Nat×Nat×Nat×Nat
abbrev GL(M:Array BK->Nat->Nat->Prop)(p q n t:Nat)(o:Array BK)(i j:Nat):Prop:=M o i j/\i+1 < p/\j < q/\t+n<=i+j
theorem iA{st:BD}{a b:Array BK}{Q:Array BK->BD->Prop}(C:LH prog w A s a₀ κ lt)(O:Ord (·∈a₀) lt)(g:Good a₀ κ st)
  (ma:∀x∈a.toList,x∈a₀) (mb:∀x∈b.toList,x∈a₀) (sa:a.toList.Pairwise (Rl lt)) (sb:b.toList.Pairwise (Rl lt)) (na:0 < a.size) (nb:0 < b.size)
  (h0:∀x∈a.toList,Rl lt (ix b 0) x) (h1:∀y∈b.toList,Rl lt y (ix a (a.size - 1)))
  (h:∀r B,OM a₀ κ st B->LO (Rl lt) (a.toList++b.toList) r.toList->Q r B):wpS (Am prog w) A E s (mLo a b) Q st:=by
 have R:=UM ma;have S:=UM mb;have ua:=Vd O R sa;have ub:=Vd O S sb
 have tr:∀x y z:BK,x∈a₀->y∈a₀->z∈a₀->Rl lt x y->Rl lt y z->Rl lt x z:=λx y z Z hy hz h1 h2=>O.ntr x y z Z hy hz h1 h2
 let M (out:Array BK) (l ib:Nat):Prop:=MI (Rl lt) (a.toList++b.toList) out.toList (a.toList.drop l) (b.toList.drop ib)
 have tA:∀out l ib,M out l ib->l < a.size->(∀j,ib<=j->j < b.size->Rl lt (ix a l) (ix b j))->M (out.push (ix a l)) (l+1) ib:=λout l ib m hia hr=>by
  have N:MI (Rl lt) (a.toList++b.toList) out.toList ([ix a l]++a.toList.drop (l+1)) (b.toList.drop ib):=by rw[Es,<-QB hia];exact m
  have:=N.takeA λx Z y hy=>by
   obtain⟨j,P,H,rfl⟩:=GM hy;rw[AS.mp Z];exact hr j P H
  simpa[M]using this
 have tB:∀out l ib,M out l ib->ib < b.size->(∀j,l<=j->j < a.size->Rl lt (ix b ib) (ix a j))->M (out.push (ix b ib)) l (ib+1):=λout l ib m ς hr=>by
  have N:MI (Rl lt) (a.toList++b.toList) out.toList (a.toList.drop l) ([ix b ib]++b.toList.drop (ib+1)):=by rw[Es,<-QB ς];exact m
  have:=N.takeB λx Z y hy=>by
   obtain⟨j,P,H,rfl⟩:=GM hy;rw[AS.mp Z];exact hr j P H
  simpa[M]using this
 have sA:∀out l ib k,M out l ib->l+k<=a.size->(∀i j,i < k->ib<=j->j < b.size->Rl lt (ix a (l+i)) (ix b j))->M (out++a.extract l (l+k)) (l+k) ib:=λout l ib k m hk hr=>by
  have N:MI (Rl lt) (a.toList++b.toList) out.toList ((a.extract l (l+k)).toList++a.toList.drop (l+k)) (b.toList.drop ib):=by rw[<-Ip hk];exact m
  have:=N.takeA λx Z y hy=>by
   obtain⟨j,P,H,rfl⟩:=GM hy;obtain⟨i,i1,rfl⟩:=P7 hk Z;exact hr i j i1 P H
  show MI _ _ (out++a.extract l (l+k)).toList _ _;rw[BO];exact this
 have sB:∀out l ib k,M out l ib->ib+k<=b.size->(∀i j,i < k->l<=j->j < a.size->Rl lt (ix b (ib+i)) (ix a j))->M (out++b.extract ib (ib+k)) l (ib+k):=λout l ib k m hk hr=>by
  have N:MI (Rl lt) (a.toList++b.toList) out.toList (a.toList.drop l) ((b.extract ib (ib+k)).toList++b.toList.drop (ib+k)):=by rw[<-Ip hk];exact m
  have:=N.takeB λx Z y hy=>by
   obtain⟨j,P,H,rfl⟩:=GM hy;obtain⟨i,i1,rfl⟩:=P7 hk Z;exact hr i j i1 P H
  show MI _ _ (out++b.extract ib (ib+k)).toList _ _;rw[BO];exact this
 have eB:∀out l ib,M out l ib->ib=b.size->LO (Rl lt) (a.toList++b.toList) (out++a.extract l a.size++b.extract ib b.size).toList:=λout l ib m e=>by
  subst e
  have N:MI (Rl lt) (a.toList++b.toList) out.toList (a.toList.drop l) []:=by
   have:b.toList.drop b.size=[]:=by simp
   rw[<-this];exact m
  rw[BO,BO,Ku,Ku,show b.toList.drop b.size=[] by simp,A3];exact N.endA
 have eA:∀out l ib,M out l ib->l=a.size->LO (Rl lt) (a.toList++b.toList) (out++a.extract l a.size++b.extract ib b.size).toList:=λout l ib m e=>by
  subst e
  have N:MI (Rl lt) (a.toList++b.toList) out.toList [] (b.toList.drop ib):=by
   have:a.toList.drop a.size=[]:=by simp
   rw[<-this];exact m
  rw[BO,BO,Ku,Ku,show a.toList.drop a.size=[] by simp,A3];exact N.endB
 have eL:∀out l ib,M out l ib->l+1=a.size->LO (Rl lt) (a.toList++b.toList) (out++b.extract ib b.size++a.extract l a.size).toList:=λout l ib m e=>by
  have:=m.last λy hy x Z=>by
   obtain⟨j,P,H,rfl⟩:=GM Z;obtain⟨i,i1,i2,rfl⟩:=GM hy
   have:j=a.size - 1:=by lia
   subst this;exact h1 _ (Bj.mpr (DB (Df i2)))
  rw[BO,BO,Ku,Ku,A8];exact this
 have m0:M #[] 0 0:=⟨by simp,by simp,by simp,by simpa using sa,by simpa using sb⟩
 have m1:M #[ix b 0] 0 1:=by
  have:=tB #[] 0 0 m0 nb λj _ hj=>h0 _ (Bj.mpr (DB (Df hj)))
  simpa using this
 let F (r:Array BK):Prop:=LO (Rl lt) (a.toList++b.toList) r.toList
 refine(Ai (Jz ?_):wpS _ _ _ _ (mLo a b) Q st);refine Ck nb ?_;refine(show wpS (Am prog w) A E s (if (1==b.size)=true then _ else _) Q st from ?_)
 refine Ds (λc1=>Aj (h _ st ⟨g,rfl,rfl⟩ (eB _ _ _ m1 c1))) λc1=>?_
 refine Ds (λc2=>Aj (h _ st ⟨g,rfl,rfl⟩ (eL _ _ _ m1 c2))) λc2=>?_
 refine Ai (Hk ?_)
 refine J8 (I:=λx c B=>OM a₀ κ st B/\∃out l ib mg,c=(none,out,l,ib,mg)/\GL M a.size b.size x 1 out l ib)
  (Q:=λc B=>OM a₀ κ st B/\∃r z,c=(some r,z)/\F r) ?step ?fin ?init ?post
 case init=>exact⟨⟨g,rfl,rfl⟩,_,_,_,_,rfl,m1,by lia,by lia,by lia⟩
 case fin=>
  rintro c B ⟨_,out,l,ib,mg,_,_,k1,k2,k3⟩
  lia
 case post=>
  rintro F hF c B ⟨s1,r,z,rfl,f⟩;subst hF;exact Aj (h r B s1 f)
 case step=>
  rintro G hG x c tS _ _ ⟨s1,out,l,ib,mg,rfl,m,k1,k2,k3⟩;subst hG
  refine J8 (I:=λy c B=>B=tS/\∃U J uA X Y,c=(none,U,J,uA,X,Y)/\GL M a.size b.size y (l+ib) U J uA)
   (Q:=λc B=>B=tS/\((∃r z,c=(some r,z)/\F r)∨∃U J uA X Y,c=(none,U,J,uA,X,Y)/\GL M a.size b.size 1 (l+ib) U J uA)) ?step1 ?fin1 ?init1 ?post1
  case init1=>exact⟨rfl,out,l,ib,0,0,rfl,m,k1,k2,by lia⟩
  case fin1=>
   rintro c B ⟨rfl,U,J,uA,X,Y,rfl,N,q1,q2,q3⟩;exact⟨rfl,.inr ⟨U,J,uA,X,Y,rfl,N,q1,q2,by lia⟩⟩
  case step1=>
   rintro G hG y c B _ _ ⟨rfl,U,J,uA,X,Y,rfl,N,q1,q2,q3⟩;subst hG
   have q4:J < a.size:=by lia
   refine Ck q2 (Ck q4 (Ai (QQ C s1.good (S _ q2) (R _ q4) ?_)))
   cases e:lt (ix b uA) (ix a J)with
   | true=>
    have m2:=tB U J uA N q2 λj P H=>tr _ _ _ (S _ q2) (R _ q4) (R _ H) (O.asym _ _ (S _ q2) (R _ q4) e) (ua J j P H)
    refine Ck q2 (Ds (λd=>Aj ⟨rfl,.inl ⟨_,_,rfl,eB _ _ _ m2 d⟩⟩) λd=>OX ?_)
    have z:uA+1 < b.size/\l+ib+(y+1)<=J+(uA+1):=by lia
    exact⟨⟨rfl,.inr ⟨_,J,uA+1,_,_,rfl,m2,q1,z.1,by lia⟩⟩,rfl,_,J,uA+1,_,_,rfl,m2,q1,z⟩
   | false=>
    have m2:=tA U J uA N q4 λj P H=>tr _ _ _ (R _ q4) (S _ q2) (S _ H) e (ub uA j P H)
    refine Ck q4 (Ds (λd=>Aj ⟨rfl,.inl ⟨_,_,rfl,eL _ _ _ m2 d⟩⟩) λd=>OX ?_)
    have z:J+1+1 < a.size/\l+ib+(y+1)<=J+1+uA:=by lia
    exact⟨⟨rfl,.inr ⟨_,J+1,uA,_,_,rfl,m2,z.1,q2,by lia⟩⟩,rfl,_,J+1,uA,_,_,rfl,m2,z.1,q2,z.2⟩
  case post1=>
   rintro G hG c B ⟨rfl,⟨r,z,rfl,f⟩ | ⟨U,J,uA,X,Y,rfl,N⟩⟩ <;> subst hG
   ·exact Aj ⟨s1,_,_,rfl,f⟩
   refine Ai (Jz ?_)
   refine J8 (I:=λy c t7=>OM a₀ κ st t7/\∃tP L uF uV X Y,c=(none,tP,L,uF,uV,X,Y)/\GL M a.size b.size 1 (l+ib) tP L uF)
    (Q:=λc t7=>OM a₀ κ st t7/\((∃r z,c=(some r,z)/\F r)∨∃tP L uF uV X Y,c=(none,tP,L,uF,uV,X,Y)/\GL M a.size b.size 1 (l+ib) tP L uF)) ?step2 ?fin2 ?init2 ?post2
   case init2=>exact⟨s1,U,J,uA,mg+1,X,Y,rfl,N⟩
   case fin2=>exact λc t7 h=>⟨h.1,.inr h.2⟩
   case post2=>
    rintro G hG c t7 ⟨s2,⟨r,z,rfl,f⟩ | ⟨tP,L,uF,uV,ac2,bc2,rfl,m2,p1,p2,p3⟩⟩ <;> subst hG
    ·exact Aj ⟨s2,_,_,rfl,f⟩
    ·exact Ai (P1 (Aj ⟨s2.gal _,tP,L,uF,uV+1,rfl,m2,p1,p2,by lia⟩))
   case step2=>
    rintro G hG y c t7 _ _ ⟨s2,tP,L,uF,uV,ac2,bc2,rfl,m2,p1,p2,p3⟩;subst hG;dsimp only
    revert uV
    refine bv (λυ=>?_) λt i=>t _
    refine Ai (P1 (Ck p2 ?_));have s3:=s2.gal υ;refine Ai (G4 (base:=L) (n:=a.size - L) (hint:=0) (arr:=a) (key:=ix b uF) (left:=false) C s3.good (λi=>!lt (ix b uF) (ix a (L+i))) (S _ p2) (λi hi=>⟨by lia,R _ (by lia)⟩) (λi hi=>rfl) (λi j xC hj e=>?_) (by lia) λk hk k1 k2=>?_)
    ·have e':lt (ix b uF) (ix a (L+j))=false:=by simpa using e
     have:=tr _ _ _ (R _ (by lia)) (R _ (by lia)) (S _ p2) (ua (L+i) (L+j) (by lia) (by lia)) e';simpa using this
    have far:∀j,L+k<=j->j < a.size->Rl lt (ix b uF) (ix a j):=λj P H=>by
     have:=k2 (j - L) (by lia) (by lia);rw[show L+(j - L)=j by lia]at this;exact O.asym _ _ (S _ p2) (R _ H) (by simpa using this)
    have m5:=sA tP L uF k m2 (by lia) λi j hi P H=>tr _ _ _ (R _ (by lia)) (S _ p2) (S _ H) (by simpa using k1 i hi) (ub uF j P H)
    generalize ho:tP=o;generalize hi:L=i
    revert o i
    refine Pz (λo i=>M o i uF/\i+1 < a.size/\i=L+k) ?_ (λt χ=>?_) λχ=>⟨m2,p1,by lia⟩
    case refine_2=>
     refine Ds (λd=>Aj ⟨s3,.inl ⟨_,_,rfl,eL _ _ _ m5 d⟩⟩) λd1=>?_
     exact Ds (λd=>Aj ⟨s3,.inl ⟨_,_,rfl,eA _ _ _ m5 d⟩⟩) λd2=>t _ _ ⟨m5,by lia,rfl⟩
    rintro xD T ⟨m3,c1,hi3⟩
    have c3:l+ib+1<=T+uF:=by lia
    have c4:T < a.size:=by lia
    have m4:=tB _ _ _ m3 p2 λj h=>far j (hi3▸h)
    refine Ck p2 (Ds (λd=>Aj ⟨s3,.inl ⟨_,_,rfl,eB _ _ _ m4 d⟩⟩) λd=>Ck c4 ?_)
    have c5:uF+1 < b.size:=by lia
    have c6:l+ib+1+1<=T+(uF+1):=by lia
    generalize xD.push (ix b uF)=out4 at m4 ⊢;generalize uF+1=ib4 at m4 c5 c6 ⊢;refine Ai (G4 (base:=ib4) (n:=b.size - ib4) (hint:=0) (arr:=b) (key:=ix a T) (left:=true) C s3.good (λi=>lt (ix b (ib4+i)) (ix a T)) (R _ c4) (λi hi=>⟨by lia,S _ (by lia)⟩) (λi hi=>rfl) (λi j xC hj e=>?_) (by lia) λk3 yU k4 k5=>?_)
    ·cases e2:lt (ix b (ib4+i)) (ix a T)with
     | true=>rfl
     | false=>
      have:=tr _ _ _ (R _ c4) (S _ (by lia)) (S _ (by lia)) e2 (ub (ib4+i) (ib4+j) (by lia) (by lia));exact nomatch (show true=false from(show lt (ix b (ib4+j)) (ix a T)=true from e).symm.trans this)
    have ψ:∀j,ib4+k3<=j->j < b.size->Rl lt (ix a T) (ix b j):=λj P H=>by
     have:=k5 (j - ib4) (by lia) (by lia);rwa [show ib4+(j - ib4)=j by lia]at this
    have m6:=sB _ T ib4 k3 m4 (by lia) λi j hi P H=>tr _ _ _ (S _ (by lia)) (R _ c4) (R _ H) (O.asym _ _ (S _ (by lia)) (R _ c4) (k4 i hi)) (ua T j P H)
    generalize ho:out4=o;generalize hi:ib4=i
    revert o i
    refine Pz (λo j=>M o T j/\j < b.size/\j=ib4+k3) ?_ (λt yU=>Ds (λd=>Aj ⟨s3,.inl ⟨_,_,rfl,eB _ _ _ m6 d⟩⟩) λd=>t _ _ ⟨m6,by lia,rfl⟩) λyU=>⟨m4,c5,by lia⟩
    rintro ω Cs ⟨m5,c7,hi5⟩
    have m7:=tA _ _ _ m5 c4 λj h=>ψ j (hi5▸h)
    refine Ck c4 (Ds (λd=>Aj ⟨s3,.inl ⟨_,_,rfl,eL _ _ _ m7 d⟩⟩) λd=>OX ?_)
    have z:T+1+1 < a.size/\Cs < b.size/\l+ib+1<=T+1+Cs:=by lia
    exact⟨⟨s3,.inr ⟨_,T+1,Cs,_,_,_,rfl,m7,z⟩⟩,s3,_,T+1,Cs,_,_,_,rfl,m7,z⟩
end
theorem MI.last2(m:MI R T o g j)(h:∀x∈g,∀y∈j,R x y):LO R T (o++(g++j)):=by
 refine⟨m.perm,Bv.mpr ⟨m.srt,Bv.mpr ⟨m.sa,m.sb,h⟩,λx l y s=>m.low x l y s⟩⟩
theorem LO.rev(f:LO (λx y=>Rl lt y x) T r):LO (Rl lt) T r.reverse:=⟨r.reverse_perm.trans f.perm,MK.mpr f.srt⟩
theorem Yg(h:i < a.size):(a.toList.take (i+1)).reverse=ix a i :: (a.toList.take i).reverse:=by
 have:=Df h;rw[getElem?_pos a i h]at this;rw[Ey,show a.toList[i]?=some (ix a i) by simpa using Df h];simp
theorem Ve{a:Array BK}{i n:Nat}(h:i<=n)(g:n<=a.size):(a.toList.take n).reverse=(a.extract i n).toList.reverse++(a.toList.take i).reverse:=by
 have e:(a.extract i n).toList=(a.toList.take n).drop i:=by simp[PF,List.drop_take]
 rw[e,<-List.reverse_append]
 congr 1
 have:=Dx i (a.toList.take n);rw[List.take_take,show min i n=i by lia]at this;exact this.symm
theorem GK(g:x∈(a.toList.take n).reverse):∃j,j < n/\j < a.size/\x=ix a j:=by
 rw[gi]at g;obtain⟨k,l,rfl⟩:=YM.mp g;simp at l;refine⟨k,by lia,by lia,?_⟩;have:=Df (xs:=a) (i:=k) (by lia);rw[getElem?_pos a _ (by lia)]at this;simpa using this
theorem V6(g:x∈(a.extract i n).toList.reverse):∃j,i<=j/\j < n/\j < a.size/\x=ix a j:=by
 rw[gi,Bj,Py]at g;obtain⟨j,l,rfl⟩:=g;refine⟨i+j,by lia,by omega,by omega,?_⟩;have:=Df (xs:=a) (i:=i+j) (by omega);rw[getElem?_pos a _ (by omega)]at this;simpa using this
theorem IY(a:Array BK)(n:Nat):(a.extract 0 n).toList=a.toList.take n:=by simp[PF]
section
abbrev GH(M:Array BK->Nat->Nat->Prop)(p q n t:Nat)(o:Array BK)(i j:Nat):Prop:=M o i j/\0 < i/\1 < j/\i<=p/\j<=q/\i+j+n<=t
theorem iB{st:BD}{a b:Array BK}{Q:Array BK->BD->Prop}(C:LH prog w A s a₀ κ lt)(O:Ord (·∈a₀) lt)(g:Good a₀ κ st)
  (ma:∀x∈a.toList,x∈a₀) (mb:∀x∈b.toList,x∈a₀) (sa:a.toList.Pairwise (Rl lt)) (sb:b.toList.Pairwise (Rl lt)) (pa:0 < a.size) (pb:0 < b.size)
  (h0:∀x∈a.toList,Rl lt (ix b 0) x) (h1:∀y∈b.toList,Rl lt y (ix a (a.size - 1)))
  (h:∀r B,OM a₀ κ st B->LO (Rl lt) (a.toList++b.toList) r.toList->Q r B):wpS (Am prog w) A E s (mHi a b) Q st:=by
 have P:=UM ma;have R:=UM mb;have ua:=Vd O P sa;have ub:=Vd O R sb
 have tr:∀x y z:BK,x∈a₀->y∈a₀->z∈a₀->Rl lt x y->Rl lt y z->Rl lt x z:=λx y z Z hy hz h1 h2=>O.ntr x y z Z hy hz h1 h2
 let M (out:Array BK) (l nb:Nat):Prop:=MI (λx y=>Rl lt y x) (a.toList++b.toList) out.toList (a.toList.take l).reverse (b.toList.take nb).reverse
 have tA0:∀out l nb,M out (l+1) nb->l < a.size->nb<=b.size->(∀j,j < nb->Rl lt (ix b j) (ix a l))->M (out.push (ix a l)) l nb:=λout l nb m wd uo hr=>by
  have N:MI (λx y=>Rl lt y x) (a.toList++b.toList) out.toList ([ix a l]++(a.toList.take l).reverse) (b.toList.take nb).reverse:=by rw[Es,<-Yg wd];exact m
  have:=N.takeA λx Z y hy=>by
   obtain⟨j,S,j2,rfl⟩:=GK hy;rw[AS.mp Z];exact hr j S
  simpa[M]using this
 have tB0:∀out l nb,M out l (nb+1)->nb < b.size->l<=a.size->(∀j,j < l->Rl lt (ix a j) (ix b nb))->M (out.push (ix b nb)) l nb:=λout l nb m uo wd hr=>by
  have N:MI (λx y=>Rl lt y x) (a.toList++b.toList) out.toList (a.toList.take l).reverse ([ix b nb]++(b.toList.take nb).reverse):=by rw[Es,<-Yg uo];exact m
  have:=N.takeB λx Z y hy=>by
   obtain⟨j,S,j2,rfl⟩:=GK hy;rw[AS.mp Z];exact hr j S
  simpa[M]using this
 have tA:∀out l nb,M out l nb->0 < l->l<=a.size->nb<=b.size->(∀j,j < nb->Rl lt (ix b j) (ix a (l - 1)))->M (out.push (ix a (l - 1))) (l - 1) nb:=λout l nb m h0 wd uo hr=>
  tA0 out (l - 1) nb (by rw[show l - 1+1=l by lia];exact m) (by omega) uo hr
 have tB:∀out l nb,M out l nb->0 < nb->nb<=b.size->l<=a.size->(∀j,j < l->Rl lt (ix a j) (ix b (nb - 1)))->M (out.push (ix b (nb - 1))) l (nb - 1):=λout l nb m h0 uo wd hr=>
  tB0 out l (nb - 1) (by rw[show nb - 1+1=nb by lia];exact m) (by omega) wd hr
 have sA:∀out l nb k,M out l nb->k<=l->l<=a.size->nb<=b.size->(∀i j,k<=i->i < l->j < nb->Rl lt (ix b j) (ix a i))->M (out++(a.extract k l).reverse) k nb:=λout l nb k m hk wd uo hr=>by
  have N:MI (λx y=>Rl lt y x) (a.toList++b.toList) out.toList ((a.extract k l).toList.reverse++(a.toList.take k).reverse) (b.toList.take nb).reverse:=by rw[<-Ve hk wd];exact m
  have:=N.takeA λx Z y hy=>by
   obtain⟨j,S,j2,rfl⟩:=GK hy;obtain⟨i,i1,i2,i3,rfl⟩:=V6 Z;exact hr i j i1 i2 S
  show MI _ _ (out++(a.extract k l).reverse).toList _ _;rw[BO,FF];exact this
 have sB:∀out l nb k,M out l nb->k<=nb->nb<=b.size->l<=a.size->(∀i j,k<=i->i < nb->j < l->Rl lt (ix a j) (ix b i))->M (out++(b.extract k nb).reverse) l k:=λout l nb k m hk uo wd hr=>by
  have N:MI (λx y=>Rl lt y x) (a.toList++b.toList) out.toList (a.toList.take l).reverse ((b.extract k nb).toList.reverse++(b.toList.take k).reverse):=by rw[<-Ve hk uo];exact m
  have:=N.takeB λx Z y hy=>by
   obtain⟨j,S,j2,rfl⟩:=GK hy;obtain⟨i,i1,i2,i3,rfl⟩:=V6 Z;exact hr i j i1 i2 S
  show MI _ _ (out++(b.extract k nb).reverse).toList _ _;rw[BO,FF];exact this
 have eA:∀out l nb,M out l nb->l=0->LO (Rl lt) (a.toList++b.toList) (a.extract 0 l++b.extract 0 nb++out.reverse).toList:=λout l nb m e=>by
  subst e
  have N:MI (λx y=>Rl lt y x) (a.toList++b.toList) out.toList [] (b.toList.take nb).reverse:=by simpa[M]using m
  have:=N.endB.rev;rw[BO,BO,IY,IY,FF];simpa using this
 have eB:∀out l nb,M out l nb->nb=0->LO (Rl lt) (a.toList++b.toList) (a.extract 0 l++b.extract 0 nb++out.reverse).toList:=λout l nb m e=>by
  subst e
  have N:MI (λx y=>Rl lt y x) (a.toList++b.toList) out.toList (a.toList.take l).reverse []:=by simpa[M]using m
  have:=N.endA.rev;rw[BO,BO,IY,IY,FF];simpa using this
 have eF:∀out l nb,M out l nb->nb=1->LO (Rl lt) (a.toList++b.toList) (b.extract 0 nb++a.extract 0 l++out.reverse).toList:=λout l nb m e=>by
  have:=m.last2 λx Z y hy=>by
   obtain⟨j,S,j2,rfl⟩:=GK Z;obtain⟨i,i1,i2,rfl⟩:=GK hy
   have:i=0:=by lia
   subst this;exact h0 _ (Bj.mpr (DB (Df j2)))
  have:=this.rev;rw[BO,BO,IY,IY,FF];simpa using this
 have m0:M #[] a.size b.size:=by
  refine⟨?_,by simp,by simp,?_,?_⟩
  ·rw[Bg (by simp),Bg (by simp)]
   simpa using List.Perm.append a.toList.reverse_perm b.toList.reverse_perm
  ·rw[Bg (by simp)];exact MK.mpr sa
  ·rw[Bg (by simp)];exact MK.mpr sb
 have m1:M #[ix a (a.size - 1)] (a.size - 1) b.size:=by
  have:=tA #[] a.size b.size m0 pa (AN _) (AN _) λj hj=>h1 _ (Bj.mpr (DB (Df hj)))
  simpa using this
 let F (r:Array BK):Prop:=LO (Rl lt) (a.toList++b.toList) r.toList
 refine(Ai (Jz ?_):wpS _ _ _ _ (mHi a b) Q st);refine Ck (i:=a.size - 1) (by omega) ?_;refine(show wpS (Am prog w) A E s (if (a.size - 1==0)=true then _ else _) Q st from ?_)
 refine Ds (λc1=>Aj (h _ st ⟨g,rfl,rfl⟩ (eA _ _ _ m1 c1))) λc1=>?_
 refine Ds (λc2=>Aj (h _ st ⟨g,rfl,rfl⟩ (eF _ _ _ m1 c2))) λc2=>?_
 refine Ai (Hk ?_)
 refine J8 (I:=λx c B=>OM a₀ κ st B/\∃out l nb mg,c=(none,l,nb,out,mg)/\GH M a.size b.size (1+x) (a.size+b.size) out l nb)
  (Q:=λc B=>OM a₀ κ st B/\∃r z,c=(some r,z)/\F r) ?step ?fin ?init ?post
 case init=>exact⟨⟨g,rfl,rfl⟩,_,a.size - 1,b.size,_,rfl,m1,by lia,by lia,by omega,by lia,by lia⟩
 case fin=>
  rintro c B ⟨_,out,l,nb,mg,_,_,k1,k2,k3,k4,k5⟩
  lia
 case post=>
  rintro G hG c B ⟨s1,r,z,rfl,f⟩;subst hG;exact Aj (h r B s1 f)
 case step=>
  rintro G hG x c tS _ _ ⟨s1,out,l,nb,mg,rfl,m,k1,k2,k3,k4,k5⟩;subst hG
  refine J8 (I:=λy c B=>B=tS/\∃U H J X Y,c=(none,H,J,U,X,Y)/\GH M a.size b.size y (l+nb) U H J)
   (Q:=λc B=>B=tS/\((∃r z,c=(some r,z)/\F r)∨∃U H J X Y,c=(none,H,J,U,X,Y)/\GH M a.size b.size 1 (l+nb) U H J)) ?step1 ?fin1 ?init1 ?post1
  case init1=>exact⟨rfl,out,l,nb,0,0,rfl,m,k1,k2,k3,k4,by lia⟩
  case fin1=>
   rintro c B ⟨rfl,U,H,J,X,Y,rfl,N,q1,q2,q3,q4,q5⟩;exact⟨rfl,.inr ⟨U,H,J,X,Y,rfl,N,q1,q2,q3,q4,by lia⟩⟩
  case step1=>
   rintro G hG y c B _ _ ⟨rfl,U,H,J,X,Y,rfl,N,q1,q2,q3,q4,q5⟩;subst hG
   have q6:H - 1 < a.size:=by lia
   have q7:J - 1 < b.size:=by lia
   refine Ck q7 (Ck q6 (Ai (QQ C s1.good (R _ q7) (P _ q6) ?_)))
   cases e:lt (ix b (J - 1)) (ix a (H - 1))with
   | true=>
    have m2:=tA U H J N q1 q3 q4 λj S=>tr _ _ _ (R _ (by lia)) (R _ q7) (P _ q6) (ub j (J - 1) (by lia) q7) (O.asym _ _ (R _ q7) (P _ q6) e)
    refine Ck q6 (Ds (λd=>Aj ⟨rfl,.inl ⟨_,_,rfl,eA _ _ _ m2 d⟩⟩) λd=>OX ?_)
    have z:0 < H - 1/\H - 1<=a.size/\H - 1+J+(y+1)<=l+nb:=by lia
    exact⟨⟨rfl,.inr ⟨_,H - 1,J,_,_,rfl,m2,z.1,q2,z.2.1,q4,by lia⟩⟩,rfl,_,H - 1,J,_,_,rfl,m2,z.1,q2,z.2.1,q4,z.2.2⟩
   | false=>
    have m2:=tB U H J N (by lia) q4 q3 λj S=>tr _ _ _ (P _ (by lia)) (P _ q6) (R _ q7) (ua j (H - 1) (by lia) q6) e
    refine Ck q7 (Ds (λd=>Aj ⟨rfl,.inl ⟨_,_,rfl,eF _ _ _ m2 d⟩⟩) λd=>OX ?_)
    have z:1 < J - 1/\J - 1<=b.size/\H+(J - 1)+(y+1)<=l+nb:=by lia
    exact⟨⟨rfl,.inr ⟨_,H,J - 1,_,_,rfl,m2,q1,z.1,q3,z.2.1,by lia⟩⟩,rfl,_,H,J - 1,_,_,rfl,m2,q1,z.1,q3,z.2.1,z.2.2⟩
  case post1=>
   rintro G hG c B ⟨rfl,⟨r,z,rfl,f⟩ | ⟨U,H,J,X,Y,rfl,N⟩⟩ <;> subst hG
   ·exact Aj ⟨s1,_,_,rfl,f⟩
   refine Ai (Jz ?_)
   refine J8 (I:=λy c t7=>OM a₀ κ st t7/\∃tP uX L uV X Y,c=(none,uX,L,tP,uV,X,Y)/\GH M a.size b.size 1 (l+nb) tP uX L)
    (Q:=λc t7=>OM a₀ κ st t7/\((∃r z,c=(some r,z)/\F r)∨∃tP uX L uV X Y,c=(none,uX,L,tP,uV,X,Y)/\GH M a.size b.size 1 (l+nb) tP uX L)) ?step2 ?fin2 ?init2 ?post2
   case init2=>exact⟨s1,U,H,J,mg+1,X,Y,rfl,N⟩
   case fin2=>exact λc t7 h=>⟨h.1,.inr h.2⟩
   case post2=>
    rintro G hG c t7 ⟨s2,⟨r,z,rfl,f⟩ | ⟨tP,uX,L,uV,ac2,bc2,rfl,m2,p1,p2,p3,p4,p5⟩⟩ <;> subst hG
    ·exact Aj ⟨s2,_,_,rfl,f⟩
    ·exact Ai (P1 (Aj ⟨s2.gal _,tP,uX,L,uV+1,rfl,m2,p1,p2,p3,p4,by lia⟩))
   case step2=>
    rintro G hG y c t7 _ _ ⟨s2,tP,uX,L,uV,ac2,bc2,rfl,m2,p1,p2,p3,p4,p5⟩;subst hG;dsimp only
    revert uV
    refine bv (λυ=>?_) λt i=>t _
    have s3:=s2.gal υ
    have p6:L - 1 < b.size:=by lia
    refine Ai (P1 (Ck p6 ?_));refine Ai (G4 (base:=0) (n:=uX) (hint:=uX - 1) (arr:=a) (key:=ix b (L - 1)) (left:=false) C s3.good (λi=>!lt (ix b (L - 1)) (ix a (0+i))) (R _ p6) (λi hi=>⟨by lia,P _ (by lia)⟩) (λi hi=>rfl) (λi j xC hj e=>?_) (by lia) λk hk k1 k2=>?_)
    ·have e':lt (ix b (L - 1)) (ix a (0+j))=false:=by simpa using e
     have:=tr _ _ _ (P _ (by lia)) (P _ (by lia)) (R _ p6) (ua (0+i) (0+j) (by lia) (by lia)) e';simpa using this
    have near:∀j,j < k->Rl lt (ix a j) (ix b (L - 1)):=λj S=>by
     have:=k1 j S;rw[LX]at this;simpa using this
    have m5:=sA tP uX L k m2 hk p3 p4 λi j i1 i2 S=>by
     have:=k2 i i1 i2;rw[LX]at this;exact tr _ _ _ (R _ (by lia)) (R _ p6) (P _ (by lia)) (ub j (L - 1) (by lia) p6) (O.asym _ _ (R _ p6) (P _ (by lia)) (by simpa using this))
    dsimp only;generalize hk6:uX - k=k6;generalize ho:tP=o;generalize hi:uX=i
    revert o i
    refine Pz (λo i=>M o i L/\0 < i/\i=k) ?_ (λt χ=>Ds (λd=>Aj ⟨s3,.inl ⟨_,_,rfl,eA _ _ _ m5 d⟩⟩) λd=>t (tP++(a.extract k uX).reverse) k ⟨m5,by lia,rfl⟩) λχ=>⟨m2,p1,by lia⟩
    rintro xD T ⟨m3,c1,hi3⟩
    have c4:T - 1 < a.size:=by lia
    have c5:T<=uX:=by lia
    have m4:=tB _ _ _ m3 (by lia) p4 (by lia) λj h=>near j (hi3▸h)
    refine Ck p6 (Ds (λd=>Aj ⟨s3,.inl ⟨_,_,rfl,eF _ _ _ m4 d⟩⟩) λd=>Ck c4 ?_)
    have c6:1 < L - 1/\L - 1 < b.size/\T+(L - 1)+2<=l+nb:=by lia
    generalize xD.push (ix b (L - 1))=out4 at m4 ⊢;generalize L - 1=nb4 at m4 c6 ⊢;obtain⟨c6,c7,c8⟩:=c6;refine Ai (G4 (base:=0) (n:=nb4) (hint:=nb4 - 1) (arr:=b) (key:=ix a (T - 1)) (left:=true) C s3.good (λi=>lt (ix b (0+i)) (ix a (T - 1))) (P _ c4) (λi hi=>⟨by lia,R _ (by lia)⟩) (λi hi=>rfl) (λi j xC hj e=>?_) (by lia) λk3 yU k4 k5=>?_)
    ·cases e2:lt (ix b (0+i)) (ix a (T - 1))with
     | true=>rfl
     | false=>
      have:=tr _ _ _ (P _ c4) (R _ (by lia)) (R _ (by lia)) e2 (ub (0+i) (0+j) (by lia) (by lia));exact nomatch (show true=false from(show lt (ix b (0+j)) (ix a (T - 1))=true from e).symm.trans this)
    have yV:∀j,j < k3->Rl lt (ix b j) (ix a (T - 1)):=λj S=>by
     have:=k4 j S;rw[LX]at this;exact O.asym _ _ (R _ (by lia)) (P _ c4) this
    have m6:=sB _ T nb4 k3 m4 yU (by lia) (by lia) λi j i1 i2 S=>by
     have:=k5 i i1 i2;rw[LX]at this;exact tr _ _ _ (P _ (by lia)) (P _ c4) (R _ (by lia)) (ua j (T - 1) (by lia) c4) this
    dsimp only;generalize hk7:nb4 - k3=k7;generalize ho:out4=o;generalize hi:nb4=i
    revert o i
    refine Pz (λo j=>M o T j/\1 < j/\j<=nb4/\j=k3) ?_ (λt hk4=>?_) λhk4=>⟨m4,c6,AN _,by lia⟩
    case refine_2=>
     refine Ds (λd=>Aj ⟨s3,.inl ⟨_,_,rfl,eF _ _ _ m6 d⟩⟩) λd2=>?_
     exact Ds (λd=>Aj ⟨s3,.inl ⟨_,_,rfl,eB _ _ _ m6 d⟩⟩) λd4=>t (out4++(b.extract k3 nb4).reverse) k3 ⟨m6,by lia,by lia,rfl⟩
    rintro ω yW ⟨m5,c9,c10,hi5⟩
    have m7:=tA _ _ _ m5 c1 (by lia) (by lia) λj h=>yV j (hi5▸h)
    refine Ck c4 (Ds (λd=>Aj ⟨s3,.inl ⟨_,_,rfl,eA _ _ _ m7 d⟩⟩) λd=>OX ?_)
    have z:0 < T - 1/\1 < yW/\T - 1<=a.size/\yW<=b.size/\T - 1+yW+1<=l+nb:=by lia
    exact⟨⟨s3,.inr ⟨_,T - 1,yW,_,_,_,rfl,m7,z⟩⟩,s3,_,T - 1,yW,_,_,_,rfl,m7,z⟩
end
def wr(arr:Array BK)(g:Nat)(l:List (BK×Nat)):Array BK:=l.foldl (λa (x:BK×Nat)=>match x with | (p,j)=>a.setIfInBounds (g+j) p) arr
theorem TY(g:Nat):∀(l:List BK) (k:Nat) (arr:Array BK),g+k+l.length<=arr.size->(wr arr g (l.zipIdx k)).toList=arr.toList.take (g+k)++l++arr.toList.drop (g+k+l.length)
 | [],k,arr,h=>by simp[wr]
 | x :: l,k,arr,h=>by
  rw[A0]at h;have e:wr arr g ((x :: l).zipIdx k)=wr (arr.setIfInBounds (g+k) x) g (l.zipIdx (k+1)):=rfl;rw[e,TY g l (k+1) _ (by simp;lia)]
  have j:g+k < arr.toList.length:=by simp;lia
  rw[R3,A0,show g+(k+1)=g+k+1 by lia];rw[Ey,List.take_set_of_le (AN _),BH j,List.drop_set_of_lt (by lia)];simp[show g+k+1+l.length=g+k+(l.length+1) by lia]
theorem ix_list(a:Array BK)(i:Nat):ix a i=(a.toList[i]?).getD (.none,.none):=by
 unfold ix;rw[Dj];simp
theorem fE(h:sa+m.size<=arr.size)(i:Nat):ix (wr arr sa m.toList.zipIdx) i=if i < sa then ix arr i else if i < sa+m.size then ix m (i - sa)else ix arr i:=by
 have e:=TY sa m.toList 0 arr (by simpa using h);rw[ix_list,show m.toList.zipIdx=m.toList.zipIdx 0 from rfl,e,W7]
 have j:(arr.toList.take sa).length=sa:=by simp;lia
 split
 ·rename_i g
  rw[A8,Aa (by lia),GD g,ix_list]
 ·rename_i g
  split
  ·rename_i l
   rw[A8,A4 (by lia),j,Aa (by simp;lia),ix_list]
  ·rename_i l
   rw[A4 (by simp;lia),Gb,ix_list]
   congr 2
   simp
   lia
theorem jR{arr m:Array BK}{g:Nat}(h:g+m.size<=arr.size)(j:m.toList.Perm (arr.extract g (g+m.size)).toList):(wr arr g m.toList.zipIdx).Perm arr:=by
 rw[FG];have e:=TY g m.toList 0 arr (by simpa using h);rw[show m.toList.zipIdx=m.toList.zipIdx 0 from rfl,e,W7]
 have l:arr.toList=arr.toList.take g++(arr.extract g (g+m.size)).toList++arr.toList.drop (g+m.toList.length):=by
  rw[A8,B1,<-Ip h,Dx]
 conv=>rhs;rw[l]
 exact Rz _ (KN _ j)
theorem Xu{a:Array BK}{lo hi i:Nat}(h:hi<=a.size)(g:i < hi - lo):ix (a.extract lo hi) i=ix a (lo+i):=by
 apply KD
 rw[Array.getElem?_extract];simp
 lia
section
variable{prog:Bb}{w:By}{A:Bn}{E:AH->AL->Prop}{s:AL}{a₀:Array BK}{κ:OU}{lt:BK->BK->Bool}
theorem cN{a:Array BK}{lo hi:Nat}(h:hi<=a.size)(u:Up lt a lo hi):(a.extract lo hi).toList.Pairwise (Rl lt):=by
 rw[Jp];intro i j m o B;simp at m o
 have e:∀k (g:k < (a.extract lo hi).toList.length),(a.extract lo hi).toList[k]=ix a (lo+k):=λk g=>by
  have l:k < (a.extract lo hi).size:=by rw[B1]at g;exact g
  have:=Df l;rw[getElem?_pos (a.extract lo hi) k l]at this
  have C:(a.extract lo hi).size=hi - lo:=by simp;lia
  rw[<-Xu h (by lia)];simpa using this
 rw[e,e];exact u _ _ (by lia) (by lia) (by omega)
theorem hZ{st g:BD}{Q:PUnit->BD->Prop}(h:Q ⟨⟩ g):wpS (Am prog w) A E s (set g:StateT BD Sem PUnit) Q st:=Aj h
theorem VD{st}{i l m pw sb nb pw2}{Q}(C:LH prog w A s a₀ κ lt)(O:Ord (·∈a₀) lt)(g:Good a₀ κ st)
  (e1:(Ab st)[i]?=some (l,m,pw)) (e2:(Ab st)[i+1]?=some (sb,nb,pw2)) (xB:sb=l+m) (wd:1<=m) (uo:1<=nb) (hs:sb+nb<=a₀.size)
  (U:Up lt (AY st) l (l+m)) (X:Up lt (AY st) sb (sb+nb))
  (h:∀o,Good a₀ κ o->Ab o=((Ab st).setIfInBounds i (l,m+nb,pw)).eraseIdxIfInBounds (i+1)->Up lt (AY o) l (l+(m+nb))->Out (AY st) (AY o) l (l+(m+nb))->Q true o) :
  wpS (Am prog w) A E s (mergeAt' i) Q st:=by
 subst xB;have hsz:=g.size
 have mem:∀j,j < a₀.size->ix (AY st) j∈a₀:=λj Y=>g.mem Y
 have tr:∀x y z:BK,x∈a₀->y∈a₀->z∈a₀->Rl lt x y->Rl lt y z->Rl lt x z:=λx y z hx hy B I H=>O.ntr x y z hx hy B I H
 refine(Ai (Hk ?_):wpS _ _ _ _ (mergeAt' i) Q st);rw[show(sortPriv% PySem.Builtin.SortState.pending) st=Ab st from rfl,e1,e2];refine Ai (hZ ?_);generalize J:((sortPriv% PySem.Builtin.SortState.mk) (kindOf st) (AY st) (((Ab st).setIfInBounds i (l,m+nb,pw)).eraseIdxIfInBounds (i+1)) (gallopOf st) (Ix st))=tS
 have g1:Good a₀ κ tS:=by subst J;exact⟨g.perm,g.kind,g.failed⟩
 have a1:AY tS=AY st:=by subst J;rfl
 have p1:Ab tS=((Ab st).setIfInBounds i (l,m+nb,pw)).eraseIdxIfInBounds (i+1):=by subst J;rfl
 refine Ai (QR (a:=AY st) (i:=l+m) (by lia) ?_);refine Ai (G4 (base:=l) (n:=m) (hint:=0) (arr:=AY st) (key:=ix (AY st) (l+m)) (left:=false) C g1 (λj=>!lt (ix (AY st) (l+m)) (ix (AY st) (l+j))) (mem _ (by lia)) (λj Y=>⟨by lia,mem _ (by lia)⟩) (λj Y=>rfl) (λx y yX hy e=>?_) (by lia) λk hk k1 k2=>?_)
 ·have e':lt (ix (AY st) (l+m)) (ix (AY st) (l+y))=false:=by simpa using e
  have:=tr _ _ _ (mem _ (by lia)) (mem _ (by lia)) (mem _ (by lia)) (U (l+x) (l+y) (by lia) (by lia) (by lia)) e';simpa using this
 have low:∀j,l<=j->j < l+k->Rl lt (ix (AY st) j) (ix (AY st) (l+m)):=λj G N=>by
  have:=k1 (j - l) (by lia);rw[show l+(j - l)=j by lia]at this;simpa using this
 have yY:∀i j,l<=i->i < l+k->l+m<=j->j < l+m+nb->Rl lt (ix (AY st) i) (ix (AY st) j):=λi j R i2 G N=>tr _ _ _ (mem _ (by lia)) (mem _ (by lia)) (mem _ (by lia)) (low i R i2) (X _ _ (by lia) (by omega) (by omega))
 have L:(∀j,l<=j->j < l+m->Rl lt (ix (AY st) j) (ix (AY st) (l+m)))->Up lt (AY st) l (l+(m+nb)):=λhh x y I H Z=>by
  by_cases c1:y < l+m
  ·exact U x y I H c1
  by_cases c2:x < l+m
  ·exact tr _ _ _ (mem _ (by lia)) (mem _ (by lia)) (mem _ (by lia)) (hh x I c2) (X _ _ (by lia) (by lia) (by lia))
  ·exact X x y (by lia) H (by lia)
 refine(show wpS (Am prog w) A E s (if (m - k==0)=true then _ else _) Q tS from ?_)
 by_cases c1:m - k=0
 ·rw[qX (by simpa using c1)]
  refine Aj (h tS g1 p1 ?_ (by rw[a1];exact .refl));rw[a1]
  exact L λj G N=>low j G (by lia)
 rw[qY (by simpa using c1)];refine Ai (QR (a:=AY st) (i:=l+k+(m - k) - 1) (by omega) ?_);rw[show l+k+(m - k) - 1=l+m - 1 by lia];refine Ai (G4 (base:=l+m) (n:=nb) (hint:=nb - 1) (arr:=AY st) (key:=ix (AY st) (l+m - 1)) (left:=true) C g1 (λj=>lt (ix (AY st) (l+m+j)) (ix (AY st) (l+m - 1))) (mem _ (by lia)) (λj Y=>⟨by lia,mem _ (by lia)⟩) (λj Y=>rfl) (λx y yX hy e=>?_) (by omega) λk3 yU k4 k5=>?_)
 ·cases e2:lt (ix (AY st) (l+m+x)) (ix (AY st) (l+m - 1))with
  | true=>rfl
  | false=>
   have:=tr _ _ _ (mem _ (by lia)) (mem _ (by lia)) (mem _ (by lia)) e2 (X (l+m+x) (l+m+y) (by lia) (by lia) (by lia));exact nomatch (show true=false from(show lt (ix (AY st) (l+m+y)) (ix (AY st) (l+m - 1))=true from e).symm.trans this)
 have S:∀j,l+m+k3<=j->j < l+m+nb->Rl lt (ix (AY st) (l+m - 1)) (ix (AY st) j):=λj G N=>by
  have:=k5 (j - (l+m)) (by lia) (by lia);rwa [show l+m+(j - (l+m))=j by lia]at this
 refine(show wpS (Am prog w) A E s (if (k3==0)=true then _ else _) Q tS from ?_)
 by_cases c2:k3=0
 ·rw[qX (by simpa using c2)]
  refine Aj (h tS g1 p1 ?_ (by rw[a1];exact .refl));rw[a1]
  exact L λj G N=>tr _ _ _ (mem _ (by lia)) (mem _ (by lia)) (mem _ (by lia)) (U j (l+m - 1) (by omega) (by lia) (by lia)) (S _ (by lia) (by lia))
 rw[qY (by simpa using c2)]
 let x:=(AY st).extract (l+k) (l+m)
 let y:=(AY st).extract (l+m) (l+m+k3)
 have xs:x.size=m - k:=by simp[x];lia
 have ys:y.size=k3:=by simp[y];lia
 have ixx:∀j,j < m - k->ix x j=ix (AY st) (l+k+j):=λj Y=>Xu (by lia) (by lia)
 have ixy:∀j,j < k3->ix y j=ix (AY st) (l+m+j):=λj Y=>Xu (by lia) (by lia)
 have xE:∀z∈x.toList,∃j,j < m - k/\z=ix (AY st) (l+k+j):=λz B=>by
  have B:z∈((AY st).extract (l+k) (l+k+(m - k))).toList:=by rw[show l+k+(m - k)=l+m by lia];exact B
  exact P7 (by lia) B
 have xF:∀z∈y.toList,∃j,j < k3/\z=ix (AY st) (l+m+j):=λz B=>P7 (by lia) B
 have fin:∀(r:Array BK) (o:BD),OM a₀ κ tS o->LO (Rl lt) (x.toList++y.toList) r.toList->∀t7:BD,AY t7=wr (AY o) (l+k) r.toList.zipIdx->kindOf t7=kindOf o->Ix t7=Ix o->Ab t7=Ab o->Q true t7:=by
  intro r o sm f t7 q1 q2 q3 q4
  have hr:r.size=m - k+k3:=by
   have:=f.perm.length_eq;simp only[AK,B1]at this
   lia
  have ha:AY o=AY st:=sm.arr.trans a1;rw[ha]at q1
  have hb:l+k+r.size<=(AY st).size:=by lia
  have mm:∀t,t < r.size->∃t',ix r t=ix (AY st) t'/\l+k<=t'/\t' < l+m+k3:=λt ht=>by
   have:ix r t∈r.toList:=Bj.mpr (DB (Df ht))
   rcases Au.mp (f.perm.mem_iff.mp this)with h | h
   ·obtain⟨j,G,e⟩:=xE _ h
    exact⟨_,e,by lia,by lia⟩
   ·obtain⟨j,G,e⟩:=xF _ h
    exact⟨_,e,by lia,by lia⟩
  have rs:=Vd O (a:=r) (λt ht=>by
   obtain⟨t',e,_,_⟩:=mm t ht;rw[e]
   exact mem _ (by lia)) f.srt
  refine h t7 ⟨?_,?_,?_⟩ (q4.trans (sm.pend.trans p1)) ?_ ?_
  ·rw[q1]
   refine(jR hb (f.perm.trans ?_)).trans g.perm
   have:(AY st).toList.drop (l+k)=x.toList++(AY st).toList.drop (l+m):=by
    have:=Ip (a:=AY st) (i:=l+k) (k:=m - k) (by lia);rw[show l+k+(m - k)=l+m by lia]at this;exact this
   have H:(AY st).toList.drop (l+m)=y.toList++(AY st).toList.drop (l+m+k3):=Ip (by lia);have Z:(AY st).toList.drop (l+k)=((AY st).extract (l+k) (l+k+r.size)).toList++(AY st).toList.drop (l+k+r.size):=Ip hb;rw[this,H,<-A8,show l+k+r.size=l+m+k3 by lia]at Z;rw[show l+k+r.size=l+m+k3 by lia];exact YO (List.append_cancel_right Z)
  ·rw[q2];exact sm.good.kind
  ·rw[q3];exact sm.good.failed
  ·rw[q1]
   intro i j I H Z;show Rl lt _ _;rw[fE hb,fE hb]
   by_cases R:i < l+k
   ·rw[qX R]
    by_cases G:j < l+k
    ·rw[qX G];exact U i j I H (by lia)
    rw[qY G]
    by_cases N:j < l+k+r.size
    ·rw[qX N]
     obtain⟨t,e,t1,t2⟩:=mm (j - (l+k)) (by omega);rw[e]
     by_cases t3:t < l+m
     ·exact U i t I (by lia) t3
     ·exact yY i t I R (by lia) (by lia)
    ·rw[qY N];exact yY i j I R (by lia) (by lia)
   rw[qY R,qY (show ¬j < l+k by lia)]
   by_cases i2:i < l+k+r.size
   ·rw[qX i2]
    by_cases N:j < l+k+r.size
    ·rw[qX N];exact rs _ _ (by lia) (by omega)
    ·rw[qY N]
     obtain⟨t,e,t1,t2⟩:=mm (i - (l+k)) (by omega);rw[e]
     by_cases t3:t < l+m
     ·exact tr _ _ _ (mem _ (by lia)) (mem _ (by lia)) (mem _ (by lia)) (U t (l+m - 1) (by lia) (by lia) (by lia)) (S j (by lia) (by lia))
     ·exact X t j (by lia) (by lia) (by lia)
   ·rw[qY i2,qY (show ¬j < l+k+r.size by lia)]
    exact X i j (by lia) H (by lia)
  ·rw[q1]
   intro i hi;rw[fE hb]
   by_cases R:i < l+k
   ·rw[qX R]
   ·rw[qY R,qY (by lia)]
 have T:∀{P:Prop},((∀z∈x.toList,z∈a₀)->(∀z∈y.toList,z∈a₀)->x.toList.Pairwise (Rl lt)->y.toList.Pairwise (Rl lt)->0 < x.size->0 < y.size->(∀z∈x.toList,Rl lt (ix y 0) z)->(∀z∈y.toList,Rl lt z (ix x (x.size - 1)))->P)->P:=by
  intro P hP
  refine hP (λz B=>?_) (λz B=>?_) (cN (by lia) λi j I H Z=>U i j (by lia) H Z) (cN (by lia) λi j I H Z=>X i j I H (by lia)) (by lia) (by lia) (λz B=>?_) λz B=>?_
  ·obtain⟨j,G,rfl⟩:=xE z B
   exact mem _ (by lia)
  ·obtain⟨j,G,rfl⟩:=xF z B
   exact mem _ (by lia)
  ·obtain⟨j,G,rfl⟩:=xE z B
   rw[ixy 0 (by lia)];have:=k2 (k+j) (by lia) (by lia);rw[show l+(k+j)=l+k+j by lia]at this;exact O.asym _ _ (mem _ (by lia)) (mem _ (by lia)) (by simpa using this)
  ·obtain⟨j,G,rfl⟩:=xF z B
   rw[xs,ixx _ (by lia),show l+k+(m - k - 1)=l+m - 1 by lia];exact O.asym _ _ (mem _ (by lia)) (mem _ (by lia)) (k4 j G)
 refine(show wpS (Am prog w) A E s (if m - k<=k3 then mLo x y >>= _ else mHi x y >>= _) Q tS from ?_);split
 ·refine Ai (T λb1 b2 b3 b4 b5 b6 b7 b8=>iA C O g1 b1 b2 b3 b4 b5 b6 b7 b8 λr o sm f=>?_)
  refine Ai (Dm (Ai (Hk (Aj ?_))));have q:=fin r o sm f (setArr o (wr (AY o) (l+k) r.toList.zipIdx)) rfl rfl rfl rfl;rw[<-show(Ix o).isNone=true by rw[sm.good.failed];rfl]at q;exact q
 ·refine Ai (T λb1 b2 b3 b4 b5 b6 b7 b8=>iB C O g1 b1 b2 b3 b4 b5 b6 b7 b8 λr o sm f=>?_)
  refine Ai (Dm (Ai (Hk (Aj ?_))));have q:=fin r o sm f (setArr o (wr (AY o) (l+k) r.toList.zipIdx)) rfl rfl rfl rfl;rw[<-show(Ix o).isNone=true by rw[sm.good.failed];rfl]at q;exact q
end
theorem jt[Decidable c](h:1 < z):(if c then z - 2 - 1 else z - 2)+1 < z:=by split <;> omega
def Stk(lt:BK->BK->Bool)(arr:Array BK):List (Nat×Nat×Nat)->Nat->Nat->Prop
 | [],lo,g=>lo=g
 | (s,n,_) :: r,lo,g=>s=lo/\1<=n/\Up lt arr s (s+n)/\Stk lt arr r (s+n) g
section
theorem Stk.le:∀{l:List (Nat×Nat×Nat)} {lo hi:Nat},Stk lt arr l lo hi->lo+l.length<=hi
 | [],lo,hi,h=>by cases h;simp
 | (s,n,_) :: r,lo,hi,⟨j,m,_,g⟩=>by
  have:=Stk.le g;rw[A0]
  lia
theorem Stk.app:∀{l r:List (Nat×Nat×Nat)} {lo hi:Nat},Stk lt arr (l++r) lo hi↔∃g,Stk lt arr l lo g/\Stk lt arr r g hi
 | [],r,lo,hi=>⟨λh=>⟨lo,rfl,h⟩,λ⟨_,e,h⟩=>by cases e;exact h⟩
 | (s,n,_) :: l,r,lo,hi=>by
  constructor
  ·rintro⟨j,m,o,A⟩
   obtain⟨g,a,b⟩:=Stk.app.mp A;exact⟨g,⟨j,m,o,a⟩,b⟩
  ·rintro⟨g,⟨j,m,o,A⟩,b⟩
   exact⟨j,m,o,Stk.app.mpr ⟨g,A,b⟩⟩
theorem Stk.pw(m:∀x,(f x).1=x.1/\(f x).2.1=x.2.1):∀{l:List (Nat×Nat×Nat)} {lo hi:Nat} (i:Nat),Stk lt arr l lo hi->Stk lt arr (l.modify i f) lo hi
 | [],lo,hi,i,h=>by cases i <;> exact h
 | (s,n,p) :: r,lo,hi,0,h=>by
  obtain⟨g,j⟩:=m (s,n,p);show Stk lt arr (f (s,n,p) :: r) lo hi;generalize f (s,n,p)=q at g j;obtain⟨E,G,H⟩:=q;dsimp only at g j;subst g j;exact h
 | (s,n,p) :: r,lo,hi,i+1,⟨o,A,B,C⟩=>⟨o,A,B,Stk.pw m i C⟩
theorem Stk.out:∀{l:List (Nat×Nat×Nat)} {lo hi x y:Nat},Stk lt arr l lo hi->Out arr arr' x y->(hi<=x∨y<=lo)->Stk lt arr' l lo hi
 | [],lo,hi,x,y,h,o,d=>h
 | (s,n,_) :: r,lo,hi,x,y,⟨j,m,A,g⟩,o,d=>by
  have:=g.le;exact⟨j,m,A.out o (by lia),Stk.out g o (by lia)⟩
end
section
theorem Out.wide(o:Out xs ys l h)(j:g<=l)(m:h<=h'):Out xs ys g h':=λi s=>o i (by lia)
theorem KP{st:BD}{i hi:Nat}{Q:Bool->BD->Prop}(C:LH prog w A s a₀ N lt)(O:Ord (·∈a₀) lt)(g:Good a₀ N st)(k:Stk lt (AY st) (Ab st).toList 0 hi)(hs:hi<=a₀.size)(X:i+1 < (Ab st).size)
  (h:∀j,Good a₀ N j->Stk lt (AY j) (Ab j).toList 0 hi->(Ab j).size+1=(Ab st).size->Out (AY st) (AY j) 0 hi->Q true j):wpS (Am prog w) A E s (mergeAt' i) Q st:=by
 obtain⟨m,o,pw,P⟩:∃m o pw,(Ab st)[i]?=some (m,o,pw):=⟨_,_,_,getElem?_pos (Ab st) i (by lia)⟩
 obtain⟨G,nb,B,R⟩:∃m o pw,(Ab st)[i+1]?=some (m,o,pw):=⟨_,_,_,getElem?_pos (Ab st) (i+1) X⟩
 obtain⟨l,r,H,Y⟩:∃l r,(Ab st).toList=l++(m,o,pw) :: (G,nb,B) :: r/\l.length=i:=by
  have Z:(Ab st).toList[i]?=some (m,o,pw):=by simpa using P
  have a2:(Ab st).toList[i+1]?=some (G,nb,B):=by simpa using R
  obtain⟨b1,c1⟩:=AD.mp Z;obtain⟨b2,c2⟩:=AD.mp a2;refine⟨(Ab st).toList.take i,(Ab st).toList.drop (i+2),?_,by rw[Bk];lia⟩
  conv=>lhs;rw[<-Dx i (Ab st).toList,Jq b1,Jq b2,c1,c2]
 rw[H]at k;obtain⟨I,S,⟨q1,q2,q3,⟨q4,q5,q6,J⟩⟩⟩:=Stk.app.mp k;have hle:=J.le;have T:=S.le
 refine VD C O g P R q4 q2 q5 (by lia) q3 q6 λj g' p' u' L=>?_
 have U:(Ab j).toList=l++(m,o+nb,pw) :: r:=by
  rw[p',Array.toList_eraseIdxIfInBounds,R3,H];rw[List.set_append_right _ _ (by lia),Y,Pi,List.set_cons_zero,List.eraseIdx_append_of_length_le (by lia),show i+1 - l.length=1 by lia];rfl
 refine h j g' ?_ ?_ (L.wide (by lia) (by lia))
 ·rw[U]
  refine Stk.app.mpr ⟨I,S.out L (.inl (by lia)),q1,by lia,u',?_⟩
  have e:G+nb=m+(o+nb):=by lia
  rw[e]at J;exact J.out L (.inr (by lia))
 ·have z1:=congrArg EB U
  have z2:=congrArg EB H;simp at z1 z2
  lia
theorem wpS_sortRuns{st:BD}{Q:Unit->BD->Prop}(C:LH prog w A s a₀ J lt)(O:Ord (·∈a₀) lt)(g:Good a₀ J st)(hp:Ab st = #[])
  (h:∀o,Good a₀ J o->Up lt (AY o) 0 a₀.size->Q () o):wpS (Am prog w) A E s sortRuns' Q st:=by
 rw[sortRuns'_eq];refine Ai (Hk ?_);dsimp only;rw[g.size];generalize minRun' a₀.size a₀.size 0=L
 refine Ai (Gw (DY (I:=λx c o=>∃lo,c=(none,lo)/\Good a₀ J o/\Stk lt (AY o) (Ab o).toList 0 lo/\lo<=a₀.size/\min x a₀.size<=lo)
  (Q:=λc o=>c=(none,a₀.size)/\Good a₀ J o/\Stk lt (AY o) (Ab o).toList 0 a₀.size) ?step ?fin ?init) ?post)
 case init=>exact⟨0,rfl,g,by rw[hp];rfl,by lia,by lia⟩
 case fin=>
  rintro c o ⟨lo,rfl,g',k',h1,h2⟩
  have:lo=a₀.size:=by lia
  subst this;exact⟨rfl,g',k'⟩
 case step=>
  rintro x c tS _ hx ⟨lo,rfl,g1,U,h1,h2⟩;dsimp only
  by_cases um:lo ≥ a₀.size
  ·rw[qX um]
   have:lo=a₀.size:=by lia
   subst this;exact Aj ⟨rfl,g1,U⟩
  rw[qY um];refine Ai (wpS_countRun C O (by lia) (by lia) g1 λX n Y P T u2 o2 p2=>?_);dsimp only
  have k2:Stk lt (AY X) (Ab X).toList 0 lo:=by
   rw[p2];exact U.out o2 (.inl (AN _))
  by_cases hm:n < L
  ·rw[qX hm]
   refine Ai (Jz ?_);refine Ai (wpS_binarySort C O (by lia) (by omega) Y u2 λZ g3 u3 o3 p3=>?_)
   have k3:Stk lt (AY Z) (Ab Z).toList 0 lo:=by
    rw[p3];exact k2.out o3 (.inl (AN _))
   rw[qY (by simp)];refine Ai (Hk ?_)
   cases hb:(Ab Z).back? with
   | none=>
    dsimp only;refine Ai (Dm (Aj ⟨lo+min (a₀.size - lo) L,rfl,⟨g3.perm,g3.kind,g3.failed⟩,?_,by lia,by lia⟩));show Stk lt (AY Z) ((Ab Z).push (lo,min (a₀.size - lo) L,0)).toList 0 (lo+min (a₀.size - lo) L);rw[Js];exact Stk.app.mpr ⟨lo,k3,rfl,by omega,u3,rfl⟩
   | some t=>
    obtain⟨s1,P,z⟩:=t;dsimp only;generalize power' a₀.size (2 * s1+P) (2 * s1+P+P+min (a₀.size - lo) L) a₀.size=pw
    refine Ai (Gw (DY (I:=λ_ c m=>c=(none,())/\Good a₀ J m/\Stk lt (AY m) (Ab m).toList 0 lo/\Up lt (AY m) lo (lo+min (a₀.size - lo) L))
     (Q:=λc m=>c=(none,())/\Good a₀ J m/\Stk lt (AY m) (Ab m).toList 0 lo/\Up lt (AY m) lo (lo+min (a₀.size - lo) L)) ?_ (λc m h=>h) ⟨rfl,g3,k3,u3⟩) ?_)
    ·rintro x' c' m _ _ ⟨rfl,B,G,H⟩
     refine Ai (Hk ?_)
     by_cases N:(Ab m).size > 1
     ·rw[qX N]
      obtain⟨s2,T,R,S⟩:∃s2 T R,(Ab m)[(Ab m).size - 2]?=some (s2,T,R):=⟨_,_,_,getElem?_pos (Ab m) ((Ab m).size - 2) (by lia)⟩
      rw[S];dsimp only
      by_cases ho:R<=pw
      ·rw[qX ho]
       exact Aj ⟨rfl,B,G,H⟩
      ·rw[qY ho]
       refine Ai (KP C O B G (by omega) (by lia) λvV g5 k5 _ o5=>?_);exact Aj ⟨rfl,g5,k5,H.out o5 (.inr (by lia))⟩
     ·rw[qY N]
      exact Aj ⟨rfl,B,G,H⟩
    ·rintro c' m ⟨rfl,B,G,H⟩
     dsimp only;refine Ai (Dm (Ai (Dm (Aj ⟨lo+min (a₀.size - lo) L,rfl,⟨B.perm,B.kind,B.failed⟩,?_,by lia,by lia⟩))));show Stk lt (AY m) ((((Ab m).modify ((Ab m).size - 1) λx=>(x.fst,x.2.fst,pw))).push (lo,min (a₀.size - lo) L,0)).toList 0 (lo+min (a₀.size - lo) L);rw[Js,YS];exact Stk.app.mpr ⟨lo,Stk.pw (f:=λx=>(x.fst,x.2.fst,pw)) (λx=>⟨rfl,rfl⟩) _ G,rfl,by omega,H,rfl⟩
  ·rw[qY hm]
   refine Ai (Hk ?_)
   cases hb:(Ab X).back? with
   | none=>
    dsimp only;refine Ai (Dm (Aj ⟨lo+n,rfl,⟨Y.perm,Y.kind,Y.failed⟩,?_,by lia,by lia⟩));show Stk lt (AY X) ((Ab X).push (lo,n,0)).toList 0 (lo+n);rw[Js];exact Stk.app.mpr ⟨lo,k2,rfl,by omega,u2,rfl⟩
   | some t=>
    obtain⟨s1,P,z⟩:=t;dsimp only;generalize power' a₀.size (2 * s1+P) (2 * s1+P+P+n) a₀.size=pw
    refine Ai (Gw (DY (I:=λ_ c m=>c=(none,())/\Good a₀ J m/\Stk lt (AY m) (Ab m).toList 0 lo/\Up lt (AY m) lo (lo+n))
     (Q:=λc m=>c=(none,())/\Good a₀ J m/\Stk lt (AY m) (Ab m).toList 0 lo/\Up lt (AY m) lo (lo+n)) ?_ (λc m h=>h) ⟨rfl,Y,k2,u2⟩) ?_)
    ·rintro x' c' m _ _ ⟨rfl,B,G,H⟩
     refine Ai (Hk ?_)
     by_cases N:(Ab m).size > 1
     ·rw[qX N]
      obtain⟨s2,T,R,S⟩:∃s2 T R,(Ab m)[(Ab m).size - 2]?=some (s2,T,R):=⟨_,_,_,getElem?_pos (Ab m) ((Ab m).size - 2) (by lia)⟩
      rw[S];dsimp only
      by_cases ho:R<=pw
      ·rw[qX ho]
       exact Aj ⟨rfl,B,G,H⟩
      ·rw[qY ho]
       refine Ai (KP C O B G (by omega) (by lia) λvV g5 k5 _ o5=>?_);exact Aj ⟨rfl,g5,k5,H.out o5 (.inr (by lia))⟩
     ·rw[qY N]
      exact Aj ⟨rfl,B,G,H⟩
    ·rintro c' m ⟨rfl,B,G,H⟩
     dsimp only;refine Ai (Dm (Ai (Dm (Aj ⟨lo+n,rfl,⟨B.perm,B.kind,B.failed⟩,?_,by lia,by lia⟩))));show Stk lt (AY m) ((((Ab m).modify ((Ab m).size - 1) λx=>(x.fst,x.2.fst,pw))).push (lo,n,0)).toList 0 (lo+n);rw[Js,YS];exact Stk.app.mpr ⟨lo,Stk.pw (f:=λx=>(x.fst,x.2.fst,pw)) (λx=>⟨rfl,rfl⟩) _ G,rfl,by omega,H,rfl⟩
 case post=>
  rintro c tS ⟨rfl,g1,U⟩;dsimp only
  refine Ai (Gw (DY (I:=λx c m=>c=(none,())/\Good a₀ J m/\Stk lt (AY m) (Ab m).toList 0 a₀.size/\((Ab m).size<=1∨(Ab m).size+x<=a₀.size))
   (Q:=λc m=>c=(none,())/\Good a₀ J m/\Stk lt (AY m) (Ab m).toList 0 a₀.size/\(Ab m).size<=1) ?_ ?_ ?_) ?_)
  ·rintro x c m _ _ ⟨rfl,B,G,d⟩
   refine Ai (Hk ?_)
   by_cases N:(Ab m).size<=1
   ·rw[qX N]
    exact Aj ⟨rfl,B,G,N⟩
   ·rw[qY N]
    refine Ai (KP C O B G (AN _) (jt (by lia)) λvV g5 k5 z5 o5=>?_);exact Aj ⟨rfl,g5,k5,.inr (by lia)⟩
  ·rintro c m ⟨rfl,B,G,d⟩
   exact⟨rfl,B,G,by lia⟩
  ·refine⟨rfl,g1,U,.inr ?_⟩
   have:=U.le;simp at this;omega
  ·rintro c m ⟨rfl,B,G,d⟩
   refine Aj (h m B ?_);generalize hl:(Ab m).toList=l at G
   have hd:l.length<=1:=by rw[<-hl];simpa using d
   match l,G,hd with
   | [],G,_=>exact λi j h1 h2 h3=>by have:(0:Nat)=a₀.size:=G;lia
   | [(s,n,_)],⟨e1,_,u,S⟩,_=>
    have S:s+n=a₀.size:=S;rw[S,e1]at u;exact u
end
noncomputable def ltL:ZLi->ZLi->Bool
 | [],[]=>false
 | [],_ :: _=>true
 | _ :: _,[]=>false
 | x :: g,y :: j=>if x=y then ltL g j else decide (x < y)
theorem Q6:∀x y,ltL x y=true->ltL y x=false
 | [],[],h=>by cases h
 | [],_ :: _,_=>rfl
 | _ :: _,[],h=>by cases h
 | x :: g,y :: j,h=>by
  unfold ltL at h ⊢
  by_cases e:x=y
  ·rw[qX e]at h;rw[qX e.symm];exact Q6 g j h
  ·rw[qY e]at h;rw[qY (CY e)];simp at h ⊢;lia
theorem UK:∀x y z,ltL y x=false->ltL z y=false->ltL z x=false
 | [],y,[],_,_=>rfl
 | [],[],_ :: _,_,_=>rfl
 | [],_ :: _,_ :: _,_,_=>rfl
 | x :: o,[],z,h,_=>by cases h
 | _,y :: s,[],_,h=>by cases h
 | x :: o,y :: s,z :: B,j,g=>by
  unfold ltL at j g ⊢
  by_cases m:y=x
  ·rw[qX m]at j
   subst m
   by_cases l:z=y
   ·rw[qX l]at g ⊢
    exact UK o s B j g
   ·rw[qY l]at g ⊢;exact g
  ·rw[qY m]at j
   by_cases l:z=y
   ·subst l;rw[qY m];exact j
   ·rw[qY l]at g
    by_cases A:z=x
    ·subst A;simp at j g;lia
    ·rw[qY A];simp at j g ⊢;lia
theorem Y7:∀x y,ltL x y=false->ltL y x=false->x=y
 | [],[],_,_=>rfl
 | [],_ :: _,h,_=>by cases h
 | _ :: _,[],_,h=>by cases h
 | x :: l,y :: m,g,j=>by
  unfold ltL at g j
  by_cases e:x=y
  ·rw[qX e]at g;rw[qX e.symm]at j;rw[e,Y7 l m g j]
  ·rw[qY e]at g;rw[qY (CY e)]at j;simp at g j;lia
def ltK(f:AH->ZLi)(x y:BK):Bool:=ltL (f x.1) (f y.1)
theorem jY(f:AH->ZLi)(U:BK->Prop):Ord U (ltK f):=⟨λx y _ _ h=>Q6 _ _ h,λx y z _ _ _ g j=>UK _ _ _ g j⟩
section
theorem Xh(o:Bool)(h:Q (decide (a < b)) s):Af (Am prog w) A (oneLt' o (.int a t) (.int b u)) Q E s:=by
 cases o with
 | true=>exact oneLt_int h
 | false=>
  rw[oneLt'_eq];simp only[BW,if_false];exact AA (wpAny_lt_int (Dl h))
def YB(s:AL)(v:AH)(ns:ZLi):Prop:=∃a g,v=.ref a/\s.heap.IsTuple a g/\IntsAre g.toList ns
noncomputable def sX(o:Bool):(AH×AH)×Nat->Option Bool×Unit->Sem (ForInStep (Option Bool×Unit)):=λe _=>match e with
 | ((p,q),i)=>eqBool p q >>= λc=>if (!c)=true then oneLt' (o&&i==0) p q >>= λb=>pure (.done (some b,()))else pure (.yield (none,()))
theorem fD(o:Bool)(x y:AH):keyLt' (p0 o) x y=(JD x >>= λr=>JD y >>= λq=>forIn (r.toList.zip q.toList).zipIdx ((none,()):Option Bool×Unit) (sX o) >>= λz=>match z.1 with
  | some b=>pure b
  | none=>pure (decide (r.size < q.size))):=by kernel_rfl
theorem gJ(o:Bool):∀{is j:List AH} {ns C:ZLi} (k:Nat) {Q:Bool->AL->Prop},IntsAre is ns->IntsAre j C->Q (ltL ns C) s ->
  Af (Am prog w) A (forIn ((is.zip j).zipIdx k) ((none,()):Option Bool×Unit) (sX o) >>= λz=>match z.1 with
   | some b=>pure b
   | none=>pure (decide (n0+is.length < n0+j.length))) Q E s:=by
 intro is
 induction is with
 | nil=>
  intro j ns C k Q l B g;cases l;rw[List.zip_nil_left,g9,Gz];refine AA (AI (AI ?_))
  cases B with
  | nil=>simpa[ltL]using g
  | cons m t h=>simpa[ltL]using g
 | cons v is G=>
  intro j ns C k Q l B g
  cases l with
  | cons n t l=>
   cases B with
   | nil=>
    rw[List.zip_nil_right,g9,Gz];refine AA (AI (AI ?_));rw[wY (by rw[A0,GU];lia)];exact g
   | cons m u B=>
    rw[OO,gh,GV];rw[bind_assoc];unfold ltL at g;refine AA ?_;refine AA (qN ?_)
    by_cases e:n=m
    ·rw[qX e]at g
     rw[qY (by simp[e])];refine AI ?_;have:=G (k+1) l B g;simpa[Nat.add_lt_add_iff_left]using this
    ·rw[qY e]at g
     rw[qX (by simp[e])];refine AA (Xh _ (AI ?_));exact AA (AI (AI g))
end
section
theorem Og(h:YB s v ns):∃g:Array AH,IntsAre g.toList ns/\s.TypeIs v "tuple"/\∀(E:AH->AL->Prop) (Q:Array AH->AL->Prop),Q g s->Af (Am prog w) A (JD v) Q E s:=by
 obtain⟨a,g,rfl,⟨o,j,l,n,hd⟩,m⟩:=h;exact⟨g,m,⟨o,j,l⟩,λE Q q=>listItems_at j hd q⟩
theorem kQ(o:Bool)(g:YB s x ns)(j:YB s y l)(h:Q (ltL ns l) s):Af (Am prog w) A (keyLt' (p0 o) x y) Q E s:=by
 obtain⟨r,m,_,wr⟩:=Og (prog:=prog) (w:=w) (A:=A) g;obtain⟨q,B,_,C⟩:=Og (prog:=prog) (w:=w) (A:=A) j;rw[fD];refine AA (wr E _ (AA (C E _ ?_)));have:=gJ (prog:=prog) (w:=w) (A:=A) (E:=E) (n0:=0) o 0 m B h;simp only[LX,B1]at this;exact this
theorem ao(h:YB s v (n :: ns))(j:∀t,Q (some (.int n t)) s):Af (Am prog w) A (Zg v) Q E s:=by
 obtain⟨r,g,ty,wr⟩:=Og (prog:=prog) (w:=w) (A:=A) h;refine(AA (Rj ty ?_):Af _ _ (Zg v) Q E s);refine(show Af (Am prog w) A (if (Ea "tuple" != Ea "tuple")=true then _ else _) Q E s from ?_);rw[qY (by simp)];refine AA (wr E _ (AI ?_));generalize m:r.toList=l at g
 cases g with
 | cons _ t o=>
  have:r[0]?=some (.int n t):=by
   rw[<-Wq,m];rfl
  rw[this];exact j t
theorem RI:∀{g:List AH},(∀v∈g,∃n ns,YB s v (n :: ns))->∀{Q:List (Option AH)->AL->Prop},(∀is ns,IntsAre is ns->is.length=g.length->Q (is.map some) s)->Af (Am prog w) A (g.mapM Zg) Q E s
 | [],_,Q,h=>by
  rw[List.mapM_nil];exact AI (h [] [] .nil rfl)
 | v :: g,j,Q,h=>by
  obtain⟨n,ns,l⟩:=j v Ao;rw[List.mapM_cons];refine AA (ao l λt=>AA (RI (λv m=>j v (AT _ m)) λis o B C=>AI ?_));exact h (.int n t :: is) (n :: o) (.cons n t B) (by rw[A0,C,A0])
theorem UA(h:IntsAre is ns)(h0:is≠[]):oneTypeOnly' is.toArray=pure (some (.type "int")):=by
 rw[oneTypeOnly'_eq,bg,mapM_typeOf_ints h];simp only[map_pure,pure_bind]
 cases is with
 | nil=>exact zX rfl h0
 | cons v is=>
  have g:(JC (λ_=>Ea "int") (v :: is)).toArray[0]?=some (Ea "int"):=by simp
  have j:((JC (λ_=>Ea "int") (v :: is)).toArray.all λx=>x==Ea "int")=true:=by
   simp only[List.all_toArray,qG,K9]
   exact λ_ _=>rfl
  rw[g];simp only[j,if_true]
theorem fA(j:∀v∈g,∃n ns,YB s v (n :: ns))(h0:g≠[])(h:Q (p0 true) s):Af (Am prog w) A (keyKind' g.toArray) Q E s:=by
 rw[keyKind'_eq,bg];refine AA ?_;rw[map_eq_pure_bind];refine AA (RI j λis ns l m=>AI ?_)
 have o:((is.map some).toArray.all λx=>x.isSome)=true:=by simp
 rw[qX o];refine AA (Ws ?_)
 have B:(is.map some).toArray.filterMap id=is.toArray:=by simp
 rw[B,UA l (by intro e;subst e;cases g with | nil=>exact h0 rfl | cons=>simp at m)];refine AA (AI (AI ?_));exact h
end
section
theorem HA(h:x∈LP g):x.1∈g/\x.1=x.2:=by
 have:x∈(LP g).toList:=Bj.mpr h;rw[pairsOf_toList]at this;exact⟨(mem_zip_self this).2,(mem_zip_self this).1⟩
theorem aJ(g:List AH):(LP g).map (·.2)=g.toArray:=by
 apply qi
 rw[KO,pairsOf_toList];simp[List.map_snd_zip]
def Uo(prog:Bb)(w:By)(A:Bn)(s:AL)(g:List AH)(f:AH->ZLi):Prop:=
 ∃j:OU,(∀(Q:OU->AL->Prop) (E:AH->AL->Prop),Q j s->Af (Am prog w) A (keyKind' g.toArray) Q E s)/\LH prog w A s (LP g) j (ltK f)
theorem SN(ho:s.heap.get? a=some (JR "list" m.toArray n)) (hz:m.length<=sizeLine)
  (U:2<=m.length->∀s':AL,(∀b o,b≠a->s.heap.get? b=some o->s'.heap.get? b=some o)->Uo prog w A s' m f)
  (h:∀out:Array AH,out.toList.Perm m->out.toList.Pairwise (λx y=>ltL (f y) (f x)=false)->P (.done (.ret .none)) { s with heap:=lY s.heap a m out }) :
  Af (Am prog w) A (Builtin.«list.sort» ⟨[.ref a],[]⟩) P E s:=by
 have ha:a < s.heap.objs.size:=AX ho
 have L:m.toArray.size=m.length:=by simp
 obtain⟨N,G⟩:∃N,(s.heap.update a (Hm λ_=>#[])).get? a=some (JR "list" #[] N):=⟨_,get?_update_seq ho (λ_=>#[])⟩
 have H:(((s.heap.update a (Hm λ_=>#[])).push (JR "tuple" m.toArray 0)).push (JR "list" #[] 0)).get? a=some (JR "list" #[] N):=
  AJ _ (AJ _ G)
 have old:∀b o,b≠a->s.heap.get? b=some o->(((s.heap.update a (Hm λ_=>#[])).push (JR "tuple" m.toArray 0)).push (JR "list" #[] 0)).get? b=some o:=λb o hb X=>
  AJ _ (AJ _ (by rw[Zl _ _ _ _ hb];exact X))
 have fin:∀j:BD,(AY j).Perm (LP m)->(AY j).toList.Pairwise (Rl (ltK f))->P (.done (.ret .none)) { s with heap:=lY s.heap a m ((AY j).map (·.2)) }:=by
  intro j B I
  have R:∀x∈(AY j).toList,x.1=x.2:=λx O=>by
   have:x∈(LP m).toList:=(FG.mp B).mem_iff.mp O;exact(HA (Bj.mp this)).2
  refine h _ ?_ ?_
  ·have:=(FG.mp B).map (·.2)
   rw[<-KO,<-KO,aJ]at this;simpa using this
  ·rw[KO,B3]
   refine I.imp_of_mem λ{x y} O Y r=>?_
   rw[<-R x O,<-R y Y];exact r
 have last:∀j:BD,(AY j).Perm (LP m)->Ix j=none->(AY j).toList.Pairwise (Rl (ltK f))->(((AY j).map (·.2)).size<=sizeLine+1):=λj B _ _=>by
  rw[Array.size_map,B.size_eq,pairsOf_size]
  lia
 rw[list_sort_plain];refine AA (listItems_at ho rfl (AA (Zf ho rfl (AA (gu G rfl (AA (wpAny_newTuple (AA (wpAny_newList (Cz ?_)))))) ) (by rw[L];exact hz) (CZ _))));show Af (Am prog w) A _ P E { s with heap:=((s.heap.update a (Hm λ_=>#[])).push (JR "tuple" m.toArray 0)).push (JR "list" #[] 0) };dsimp only
 by_cases J:m.toArray.size < 2
 ·rw[qX J,qX J]
  refine AA (AI ?_);rw[StateT.run_pure]
  have S:(AY (HH Wz (m.toArray.zip m.toArray) #[] 7 none)).toList.Pairwise (Rl (ltK f)):=by
   have:(AY (HH Wz (m.toArray.zip m.toArray) #[] 7 none)).toList.length < 2:=by
    rw[B1];show(LP m).size < 2;rw[pairsOf_size];omega
   generalize (AY (HH Wz (m.toArray.zip m.toArray) #[] 7 none)).toList=l at this
   match l,this with
   | [],_=>exact .nil
   | [x],_=>exact U6 _ _
   | _ :: _ :: _,h=>simp at h;lia
  refine AA (AI (AA (gu H rfl (AA (Zf H rfl ?_ (CZ _) (last (HH Wz (m.toArray.zip m.toArray) #[] 7 none) (OQ _) rfl S))))));simp only[bne_self_eq_false,BW,if_false];exact AI (fin (HH Wz (m.toArray.zip m.toArray) #[] 7 none) (OQ _) S)
 ·rw[qY J,qY J]
  obtain⟨Z,kk,C⟩:=U (by lia) { s with heap:=((s.heap.update a (Hm λ_=>#[])).push (JR "tuple" m.toArray 0)).push (JR "list" #[] 0) } old;refine AA (kk _ _ ?_)
  refine AA (Eu (Srt.wpS_sortRuns (a₀:=LP m) (st:=HH Z (m.toArray.zip m.toArray) #[] 7 none)
   (Q:=λ_ j=>(AY j).Perm (LP m)/\Ix j=none/\(AY j).toList.Pairwise (Rl (ltK f))) C (jY f _) ⟨OQ _,rfl,rfl⟩ rfl λj g u=>⟨g.perm,g.failed,?_⟩) ?_ λ_ _ e=>e)
  ·have:=cN (a:=AY j) (lo:=0) (hi:=(AY j).size) (AN _) (by rw[g.size];exact u)
   rwa [Ku,ko]at this
  rintro⟨⟨⟩,j⟩ s' ⟨rfl,B,T,I⟩;refine AA (gu H rfl (AA (Zf H rfl ?_ (CZ _) (last j B T I))));rw[T];simp only[bne_self_eq_false,BW,if_false];exact AI (fin j B I)
theorem Z2(h:∀v∈g,YB s v (f v)/\f v≠[])(h0:g≠[]):Uo prog w A s g f:=
 ⟨p0 true,λQ E q=>fA (λv j=>by
  obtain⟨l,m⟩:=h v j
  cases e:f v with
  | nil=>exact zX e m
  | cons n o=>exact⟨n,o,by rw[<-e];exact l⟩) h0 q,λx y B C Q E q=>kQ true (h _ (HA B).1).1 (h _ (HA C).1).1 q⟩
def dm(v:AH):ZLi:=[numOf v]
theorem Z4(h:IntsAre g ns)(o:2<=g.length):Uo prog w A s g dm:=by
 refine⟨oneType',λQ E q=>?_,λx y B C Q E q=>?_⟩
 ·match g,o,h with
  | v :: u :: r,_,h=>rw[keyKind_ints h];exact AI q
 ·obtain⟨n,t,j⟩:=h.all _ (HA B).1
  obtain⟨m,u,l⟩:=h.all _ (HA C).1;rw[keyLt'_oneType,j,l];refine oneLt_int ?_
  have:ltK dm x y=decide (n < m):=by
   unfold ltK dm;rw[j,l];show(if n=m then false else decide (n < m))=_;split
   ·rename_i e;simp[e]
   ·rfl
  rw[<-this];exact q
end
def SR(h:CS)(d:AV)(es:Array bV)(ep:Nat):Prop:=∃o,h.get? d=some o/\o.ExactDict/\o.data=.dict es ep
theorem SR.at'(x:SR h d es ep)(e:∀o,h.get? d=some o->h'.get? d=some o):SR h' d es ep:=let ⟨o,g,r⟩:=x;⟨o,e _ g,r⟩
theorem SR.ty{s:AL}{d:AV}{es:Array bV}{ep:Nat}(x:SR s.heap d es ep):s.TypeIs (.ref d) "dict":=let ⟨o,g,j,_⟩:=x;⟨o,g,j.1⟩
section
theorem dE{Q:AH->AL->Prop}(hd:(d==Do)=false)(j:SR s.heap d es ep)
  (B:Q (.ref s.heap.objs.size) { s with heap:=s.heap.push { cls:=.type "dict_keyiterator",data:=.fields #[.ref d,.int 0 0,.int es.size 0,.int ep 0] } }):Af (Am prog w) A (lZ (.ref d)) Q E s:=by
 have g:=j.ty;obtain⟨o,l,C,m⟩:=j;refine pp g TL (Cm TL g PySem.F.entry_dict_iter ?_ (PySem.F.args_dict_iter_1 _));unfold Builtin.«dict.__iter__»;refine AA ?_;unfold tO;refine AA (gZ g (show Af _ _ (pure (A7 d)) _ _ s from AI ?_));refine(show Af _ _ (QP d >>= _) _ _ s from ?_);unfold QP;rw[qY (by simp[hd])];refine AA (AI (AA (Rp l m (AA (U1 l m (AA (CU (AI ⟨_,rfl, "dict_keyiterator",_,⟨_,Ag _ rfl,rfl⟩,Cq.lookup,?_⟩))))))));simpa[EG]using B
theorem dD(g:s.heap.IsKeyIter it d i es.size ep)(C:SR s.heap d es ep)(hi:i < es.size)
  (G:∀h',h'.IsKeyIter it d (i+1) es.size ep->EC it s.heap h'->Q (some es[i].key) { s with heap:=h' }):Af (Am prog w) A (JS (.ref it)) Q E s:=by
 obtain⟨o,j,H,hd⟩:=id g;obtain⟨I,l,J,m⟩:=C;unfold JS;refine AA (FP (Cc (name:=Ff "__next__") g.typeIs Cq (Cm Cq g.typeIs Mq (AA (AI (AA (AA ?_)))) (Mg _))))
 first | refine AA (Er g.typeIs (AI (AA (OR j hd ?_)))) | refine AA (Gx g.typeIs (AI (AA (OR j hd ?_))))
 simp only[show LS "dict_keyiterator" = false by decide,BW,if_false];refine(show Af _ _ (if (A7 d==Be)=true then _ else _) _ _ s from ?_);rw[qY (λz:(A7 d==Be)=true=>Ac z)];refine AA (AI (AA (Rp l m ?_)));rw[qY (by simp)];refine AA (AI (AA (U1 l m ?_)));rw[qY (by simp)];refine AI ?_;simp only[show ¬((i:Int) < 0) by lia,if_false,Ak,D2 hi];refine AA ?_
 first | refine AA (Er g.typeIs (AI (AA (NW g.typeIs ?_)))) | refine AA (Gx g.typeIs (AI (AA (NW g.typeIs ?_))))
 refine(show Af _ _ (Wv (.ref it) 1 (EG ((i:Int)+1)) >>= _) _ _ s from ?_);have B:(s.heap.update it (DK (·.setIfInBounds 1 (EG ((i:Int)+1))))).IsKeyIter it d (i+1) es.size ep:=⟨_,Et _ j (Ex (CW hd _)),(KI ..).trans H,by rw[CW hd];simp[EG]⟩;refine AA (F0 j hd (by simp) (AA (Cz (AA (NW (s:={ s with heap:=s.heap.update it (DK (·.setIfInBounds 1 (EG ((i:Int)+1)))) }) B.typeIs ?_)))));exact(show Af _ _ (pure es[i].key) _ _ _ from AI (AI ⟨_,rfl,AI (G _ B (G3 ..))⟩))
theorem i8(h0:A.handled=none)(g:s.heap.IsKeyIter it d i es.size ep)(C:SR s.heap d es ep)(hi:es.size<=i)
  (G:∀h',YR it s.heap h'->Q none { s with heap:=h' }):Af (Am prog w) A (JS (.ref it)) Q E s:=by
 obtain⟨o,j,H,hd⟩:=id g;obtain⟨I,l,J,B⟩:=C;unfold JS;refine AA (FP (Cc (name:=Ff "__next__") g.typeIs Cq (Cm Cq g.typeIs Mq (AA (AI (AA (AA ?_)))) (Mg _))))
 first | refine AA (Er g.typeIs (AI (AA (OR j hd ?_)))) | refine AA (Gx g.typeIs (AI (AA (OR j hd ?_))))
 simp only[show LS "dict_keyiterator" = false by decide,BW,if_false];refine(show Af _ _ (if (A7 d==Be)=true then _ else _) _ _ s from ?_);rw[qY (λz:(A7 d==Be)=true=>Ac z)];refine AA (AI (AA (Rp l B ?_)));rw[qY (by simp)];refine AA (AI (AA (U1 l B ?_)));rw[qY (by simp)];refine AI ?_;simp only[show ¬((i:Int) < 0) by lia,if_false,Ak,Array.getElem?_eq_none hi];refine AA ?_
 first | refine AA (Er g.typeIs (AI (show Af _ _ (Wv (.ref it) 0 .none >>= _) _ _ s from ?_))) | refine AA (Gx g.typeIs (AI (show Af _ _ (Wv (.ref it) 0 .none >>= _) _ _ s from ?_)))
 refine AA (F0 j hd (by simp) (show Af _ _ (newExc (.type "StopIteration") [] >>= _) _ _ _ from AA ?_));simp only[newExc,newTuple];refine AA (CU (AA (m:=OT _ _) (gt (a:=Be) (by first | rfl | (simp only[OT];rfl)) (CU ?_ (by size_fits)))) (by size_fits));simp only[raiseNew];refine AA (wpAny_handled ?_);rw[show A.in1.handled=none from h0];refine AA (AI (wpAny_throw ?_));refine AA (TD (T:="StopIteration") (b:=true) ⟨_,Ag _ rfl,rfl⟩ Wy (AI ?_));exact G _ (((G3 ..).extBut.push _).push _)
theorem aD(h0:A.handled=none)(I:AV)(C:d≠I):Walks prog w A I [I,d] [I] es.size (λi v=>∃h:i < es.size,v=es[i].key) (λi h=>h.IsKeyIter I d i es.size ep/\SR h d es ep) where
 sub:=λx l=>by simp at l;simp[l]
 frame:=λ_ _ _ st keep=>⟨st.1.at λo e=>keep I (by simp) o e,st.2.at' λo e=>keep d (by simp) o e⟩
 item:=λi s Q E m st g=>dD st.1 st.2 m λj G B=>g _ j s.toks ⟨m,rfl⟩ ⟨G,st.2.at' λo e=>B.extBut d o C e⟩ λb o hb e=>B.extBut b o (λh=>hb (by simp[h])) e
 done:=λs Q E st g=>i8 h0 st.1 st.2 (AN _) λj H=>g j s.toks λb o hb e=>H b o (λh=>hb (by simp[h])) e
 self:=λ_ _ _ _ st g=>wpAny_pyIter_keyiter st.1 g
theorem Ys(lo:(d==Do)=false):PySem.W.KdlSrc prog w "dict" d d es.size (λi v=>∃h:i < es.size,v=es[i].key) (λh=>SR h d es ep) where
 type:=λ_ g=>g.ty
 there:=λ_ g=>⟨let ⟨_,j,_⟩:=g;AX j,let ⟨_,j,_⟩:=g;AX j⟩
 keep:=λ_ _ g m=>g.at' λo e=>m d (.inl rfl) o e
 notList:=by decide
 notTuple:=by decide
 hint:=λ_ _ _ _ g l=>PySem.W.kdl_hint_dict g.ty l
 iter:=λ_ _ s g=>⟨_,_,(λ_ _ l=>dE lo g l),aD s _ (Ax (let ⟨_,j,_⟩:=g;AX j)),⟨⟨_,Ag _ rfl,rfl,rfl⟩,g.at' λo e=>AJ _ e⟩⟩
end
end Srt
namespace L2
open Srt (ltL)
theorem Vv{A B:Type}{R:A->B->Prop}{C g:List B}(p:C.Perm g):∀{l1:List A},G2 R l1 C->∃E,G2 R E g/\E.Perm l1:=by
 induction p with
 | nil=>intro l1 h;cases h;exact⟨[],.nil,.refl _⟩
 | cons x _ G=>
  intro l1 h
  cases h with
  | cons r t=>
   obtain⟨H,j,m⟩:=G t;exact⟨_ :: H,.cons r j,m.cons _⟩
 | swap x y l=>
  intro l1 h
  cases h with
  | cons r t=>
   cases t with
   | cons I t=>exact⟨_ :: _ :: _,.cons I (.cons r t),List.Perm.swap _ _ _⟩
 | trans _ _ o s=>
  intro l1 h;obtain⟨a,j,m⟩:=o h;obtain⟨b,J,L⟩:=s j;exact⟨b,J,L.trans m⟩
theorem Np{j l o:Type}{R:j->l->Prop}{f:j->o}{g:l->o}:∀{m:List j} {s:List l},G2 R m s->(∀a∈m,∀b,R a b->g b=f a)->s.map g=m.map f
 | _,_,.nil,_=>rfl
 | _,_,.cons r t,h=>by rw[BB,BB,h _ Ao _ r,Np t λa A=>h a (AT _ A)]
theorem Qq{j g:Type}{R:j->g->Prop}:∀{l:List j} {m:List g} {b:g},G2 R l m->b∈m->∃a∈l,R a b
 | _,_,_,.nil,h=>nomatch h
 | _,_,b,.cons r t,h=>by
  rcases Aq.mp h with h | h
  ·subst h;exact⟨_,Ao,r⟩
  ·obtain⟨a,o,e⟩:=Qq t h
   exact⟨a,AT _ o,e⟩
noncomputable def SJ:V->Int
 | .int n=>n
 | _=>0
def aB(H:Hp):AH->ZLi
 | .int n _=>[n]
 | .ref b=>match H b with
  | some (.tup g)=>g.map SJ
  | _=>[]
 | _=>[]
theorem Op(r:ZLi):(r.map V.int).map SJ=r:=by
 rw[Bc];exact(Ci λa _=>rfl).trans (qF r)
def sd(K:AG)(H:Hp)(p:AV)(G:List V->Prop):Prop:=
 (∃j,(SqL K H p j∨SqT K H p j)/\G j)∨(∃g,H p=some (.dK g)/\G (g.map λx=>kV x.1)) ∨
  ∃g,H p=some (.dT g)/\∀bs:List AV,G2 (λ(k:List Key×V) b=>H b=some (.tup (k.1.map kV))) g bs->G (bs.map V.ref)
def TC(H:Hp)(f:V->ZLi)(g:List V):Prop:=(∀v∈g,∃n,v=.int n/\f v=[n])∨∀v∈g,∃b,v=.ref b/\H b=some (.tup ((f v).map V.int))/\f v≠[]
def rA(K:AG):List V->Hp->VK->Prop:=λj H Q=>∃p,j=[.ref p]/\sd K H p λg=>∃f:V->ZLi,TC H f g /\
 ∀out,out.Perm g->out.Pairwise (λx y=>ltL (f y) (f x)=false)->∀l,H l=none->Q (.ref l) (upd H l (.lst out))
theorem TC.rel(h:TC H f j):∀v∈j,∀u,RelV v u->aB H u=f v:=λv g u r=>by
 rcases h with h | h
 ·obtain⟨n,rfl,e⟩:=h v g
  obtain⟨t,rfl⟩:=r;exact e.symm
 ·obtain⟨b,rfl,e,_⟩:=h v g
  cases r;show(match H b with | some (.tup l)=>l.map SJ | _=>[])=_;rw[e];exact Op _
theorem Vi(hc:X.calm=true)(I:Inv X ζ σ H s)(h:sd X.K H p G) :
  ∃Y P,G Y/\B6 Y P/\P.length<=sizeLine/\∀(R:List AH->AL->Prop) (E:AH->AL->Prop),(∀(g:CS) (tk:Nat),(∀b o,s.heap.get? b=some o->g.get? b=some o)->R P { s with heap:=g,toks:=tk })->Af (Am X.prog X.w) X.A.in1 (collect (.ref p)) R E s:=by
 have hh:X.A.handled=none:=I.ok.hd hc
 rcases h with⟨Y,sq,g⟩ | ⟨B,e,g⟩ | ⟨B,e,g⟩
 ·rcases sq with sq | sq
  ·obtain⟨P,U,pl,J⟩:=I.list sq
   refine⟨Y,P,g,U,by rw[<-U.length];exact J,λR E k=>collect_list pl.isList (k _ s.toks λb o e=>?_) (by rw[<-U.length];exact J)⟩;rw[Zl _ _ _ _ (Ax (AX e))];exact AJ _ e
  ·obtain⟨P,U,⟨o,ho,uM,n,hd⟩,J⟩:=I.tuple sq
   have J':P.length<=sizeLine:=by rw[<-U.length];exact J
   exact⟨Y,P,g,U,J',λR E k=>wpAny_collect_seq p (.inr rfl) ho uM hd (λh' kp=>by simpa using k h' s.toks kp) (by simpa using J')⟩
 ·obtain⟨J,sm,Z,kv,o,es,ep,g1,g2,g3,g5,g6,_⟩:=(show C7 X.prog X.w H s.heap p (.dK B)from I.hok p _ e)
  have C:es.size=B.length:=by
   have a1:=g6.length;have a2:B.length=Z.length:=EA kv;rw[B1]at a1
   lia
  have hv:B6 (B.map λx=>kV x.1) (es.toList.map (·.key)):=by
   have Q:∀{l:List bV} {Z:List (Key×AH)} {B:List (Key×V)},Pairs (DN X.prog X.w) l Z->KV B Z->B6 (B.map λx=>kV x.1) (l.map (·.key)):=by
    intro l Z B hp
    induction hp generalizing B with
    | nil=>intro h;cases h;exact .nil
    | cons q1 q2 _ ih=>
     intro h
     cases h with
     | cons r t=>
      refine .cons ?_ (ih t);dsimp only;rw[r.1]
      rcases Di q1 with⟨i,t,e1,S⟩ | ⟨x,t,e1,S⟩
      ·rw[e1,S];exact⟨t,rfl⟩
      ·rw[e1,S];exact⟨t,rfl⟩
   exact Q g6 kv
  refine⟨_,es.toList.map (·.key),g,hv,by rw[AF,B1,C];exact J,λR E k=>?_⟩
  refine We (Srt.Ys (es:=es) (ep:=ep) sm) hh ⟨o,g1,g2,g3⟩ (by rw[C];exact J) λg' tk m kp T=>?_
  have:m.toList=es.toList.map (·.key):=by
   apply PH
   intro j
   by_cases L:j < es.size
   ·have N:j < m.size:=by rw[T.1];exact L
    obtain⟨_,S⟩:=T.2 j m[j] (by simp[N]);simp[L,N,S]
   ·have N:¬j < m.size:=by rw[T.1];exact L
    simp[L,N]
  rw[this];exact k g' tk kp
 ·obtain⟨J,sm,O,rr,o,es,ep,g1,g2,g3,g4,_⟩:=(show C7 X.prog X.w H s.heap p (.dT B)from I.hok p _ e)
  have C:es.size=B.length:=by
   have a1:=congrArg EB g4;have a2:B.length=O.length:=EA rr;rw[B1,AF]at a1
   lia
  have hb:G2 (λ(k:List Key×V) b=>H b=some (.tup (k.1.map kV))) B (O.map (·.2.1)):=by
   have Q:∀{B:List (List Key×V)} {O:List (List Key×AV×AH)},G2 (λ(p:List Key×V) (q:List Key×AV×AH)=>p.1=q.1/\H q.2.1=some (.tup (p.1.map kV))/\RelV p.2 q.2.2) B O->G2 (λ(k:List Key×V) b=>H b=some (.tup (k.1.map kV))) B (O.map (·.2.1)):=by
    intro B O h
    induction h with
    | nil=>exact .nil
    | cons r _ ih=>exact .cons r.2.1 ih
   exact Q rr
  have hk:es.toList.map (·.key)=(O.map (·.2.1)).map A7:=by
   rw[g4,Bc,Bc];rfl
  have hv:∀l:List AV,B6 (l.map V.ref) (l.map A7):=λl=>by
   induction l with
   | nil=>exact .nil
   | cons a l ih=>exact .cons rfl ih
  refine⟨_,(O.map (·.2.1)).map A7,g _ hb,hv _,by rw[AF,AF,<-EA rr];exact J,λR E k=>?_⟩
  refine We (Srt.Ys (es:=es) (ep:=ep) sm) hh ⟨o,g1,g2,g3⟩ (by rw[C];exact J) λg' tk m kp T=>?_
  have:m.toList=(O.map (·.2.1)).map A7:=by
   rw[<-hk]
   apply PH
   intro j
   by_cases L:j < es.size
   ·have N:j < m.size:=by rw[T.1];exact L
    obtain⟨_,S⟩:=T.2 j m[j] (by simp[N]);simp[L,N,S]
   ·have N:¬j < m.size:=by rw[T.1];exact L
    simp[L,N]
  rw[this];exact k g' tk kp
theorem Vn{X:Cx}{s:AL}{H:Hp}{f:V->ZLi}{j:List V}{g:List AH}(I:∀b xs,H b=some (.tup xs)->∃is:List AH,B6 xs is/\qH s.heap b is.toArray)(h:TC H f j)(G:B6 j g)(J:2<=g.length){A:Bn}:Srt.Uo X.prog X.w A s g (aB H):=by
 rcases id h with O | P
 ·have:∃ns,IntsAre g ns:=by
   have C:∀{j:List V} {g:List AH},B6 j g->(∀v∈j,∃n,v=.int n/\f v=[n])->∃ns,IntsAre g ns:=by
    intro j g r
    induction r with
    | nil=>exact λ_=>⟨[],.nil⟩
    | cons r _ R=>
     intro l
     obtain⟨ns,B⟩:=R λv S=>l v (AT _ S)
     obtain⟨n,rfl,_⟩:=l _ Ao;obtain⟨t,rfl⟩:=r;exact⟨n :: ns,.cons n t B⟩
   exact C G O
  obtain⟨ns,B⟩:=this;obtain⟨T,U,Y⟩:=Srt.Z4 (prog:=X.prog) (w:=X.w) (A:=A) (s:=s) B J;refine⟨T,U,λx y L N Q E q=>Y x y L N Q E ?_⟩;obtain⟨n,t,Z⟩:=B.all _ (Srt.HA L).1;obtain⟨m,u,e2⟩:=B.all _ (Srt.HA N).1
  have e:Srt.ltK Srt.dm x y=Srt.ltK (aB H) x y:=by
   unfold Srt.ltK Srt.dm;rw[Z,e2];rfl
  rw[e];exact q
 ·refine Srt.Z2 (λu hu=>?_) (by intro e;subst e;simp at J)
  obtain⟨v,l,r⟩:=Qq G hu;rw[h.rel v l u r];obtain⟨b,rfl,e,ne⟩:=P v l;cases r;refine⟨⟨b,?_⟩,ne⟩;obtain⟨is,r,o,ho,uM,n,hd⟩:=I b _ e;exact⟨is.toArray,rfl,⟨o,ho,uM,n,hd⟩,by simpa using intsAre_of r⟩
theorem bB{X}(U:X.calm=true):Iu X (.builtin "sorted") (rA X.K):=by
 intro Y s Z H P us Q I r h;obtain⟨p,rfl,C⟩:=h;obtain⟨u,rfl,rx⟩:=vals1 r;cases rx;obtain⟨vs,B,⟨f,j,q⟩,E,G,J⟩:=Vi U I C;refine Calls.call_function_entry kind_sorted plain_sorted entry_sorted (args_sorted1 _) ?_;unfold Builtin.«sorted»;refine AA (m:=checkCount "sorted" 1 1 _) (AI (AA (J _ _ λg tk kp=>?_)));refine AA (wpAny_newList ?_ G);have L:Inv X Y Z H { s with heap:=g,toks:=tk }:=I.kept kp;have N:(g.push (JR "list" B.toArray 0)).get? g.objs.size=some (JR "list" B.toArray 0):=Ag _ rfl;refine AA (Cz (Cm slot_list_sort ⟨_,N,rfl⟩ entry_list_sort (Srt.SN (f:=aB H) N G (λh2 s' keep=>?_) λout po so=>⟨_,rfl,AI ⟨_,rfl,?_⟩⟩) (args_list_sort _)))
 ·refine Vn (λb P e=>?_) j E h2
  obtain⟨_,is,r,o,S,uM,n,hd⟩:=(show C7 X.prog X.w H g b (.tup P)from L.hok b _ e);exact⟨is,r,o,keep b o (Ax (AX S)) (AJ _ S),uM,n,hd⟩
 ·obtain⟨l,T,pv⟩:=Vv po.symm E
  have O:l.Pairwise (λx y=>ltL (f y) (f x)=false):=by
   have e:out.toList.map (aB H)=l.map f:=Np T λa ha b rb=>j.rel a (pv.mem_iff.mp ha) b rb
   have:=(B3 (f:=aB H) (R:=λx y=>ltL y x=false)).mpr so;rw[e]at this;exact B3.mp this
  obtain⟨k,hk⟩:=sortedHeap_at (out:=out) N
  have A:l.length<=sizeLine:=by rw[pv.length_eq,E.length];exact G
  have I2:=L.laid (a:=g.objs.size) (o:=.lst l) (t':=tk) (h':=lY (g.push (JR "list" B.toArray 0)) g.objs.size B out)
   (λb u z=>by
    have lt:b < g.objs.size:=AX z;rw[sortedHeap_old (Ax lt) (by rw[size_push'];exact FD lt)]
    exact AJ _ z) (AN _) ⟨A,out.toList,k,T,hk⟩
  exact⟨.ref g.objs.size,_,I2,rfl,q l pv O _ (L.hok.fresh (AN _))⟩
def CO(ns:ZLi):ZLi:=ns.mergeSort (λa b=>decide (a<=b))
@[simp] def Z5:CO []=[]:=by unfold CO;simp
theorem Bs(ns:ZLi):(CO ns).Perm ns:=Zj ns _
theorem Lh(ns:ZLi):(CO ns).Pairwise (·<=·):=by
 have:=U7 (le:=λa b:Int=>decide (a<=b)) (by intro a b c g j;simp at g j ⊢;lia) (by intro a b;simp;lia) ns
 exact this.imp λh=>by simpa using h
def Li(g:List ZLi):List ZLi:=g.mergeSort (λa b=>!ltL b a)
theorem Ib(rs:List ZLi):(Li rs).Perm rs:=Zj rs _
theorem cg(g:List ZLi):(Li g).Pairwise (λa b=>ltL b a=false):=by
 have:=U7 (le:=λa b:ZLi=>!ltL b a) (by intro a b c j l;simp at j l ⊢;exact Srt.UK _ _ _ j l) (by
  intro a b
  cases e:ltL b a with
  | false=>simp
  | true=>simp[Srt.Q6 _ _ e]) g
 exact this.imp λh=>by simpa using h
theorem Z3{l l':List ZLi}(p:l.Perm l')(h:l.Pairwise (λa b=>ltL b a=false))(h':l'.Pairwise (λa b=>ltL b a=false)):l=l':=
 p.eq_of_pairwise (λa b _ _ g j=>Srt.Y7 a b j g) h h'
noncomputable def fC:Key->D
 | .inl i=>.int i
 | .inr x=>.str x
def Jh(d:D)(S:Sto):Option (List D):=match d with
 | .fro g=>some g
 | .tup g=>some g
 | .ref n=>match S[n]? with
  | some (.lst g)=>some g
  | some (.dK j)=>some (j.map λx=>fC x.1)
  | some (.dT j)=>some (j.map λx=>.tup (x.1.map fC))
  | _=>none
 | _=>none
def Mh(r:ZLi):D:=.tup (r.map D.int)
def Mt:List D->Option (List ZLi)
 | []=>some []
 | .tup g :: r=>match Gn g,Mt r with
  | some (n :: j),some l=>some ((n :: j) :: l)
  | _,_=>none
 | _ :: _=>none
def LB(ds:List D):Option (List D):=match Gn ds with
 | some g=>some ((CO g).map D.int)
 | none=>match Mt ds with
  | some j=>some ((Li j).map Mh)
  | none=>none
def DO(m:ME):ME:=λe S=>(m e S).bind λd g=>match Jh d g with
 | some j=>match LB j with
  | some l=>.ok (.ref g.length) (g++[.lst l])
  | none=>.bad
 | none=>.bad
section
theorem jp(x y:Int):ltL [y] [x]=decide (y < x):=by
 show(if y=x then false else decide (y < x))=_;split
 ·rename_i e;simp[e]
 ·rfl
def SD(H:Hp):V->ZLi
 | .int n=>[n]
 | .ref b=>match H b with
  | some (.tup g)=>g.map SJ
  | _=>[]
 | _=>[]
theorem Vo{K}{ρ}{H}:∀{ds:List D} {j:List ZLi} {l:List V},Mt ds=some j->A9 K ρ H ds l->l.map (SD H)=j/\∀v∈l,∃b,v=.ref b/\H b=some (.tup ((SD H v).map V.int))/\SD H v≠[]
 | [],_,_,h,.nil=>by cases h;exact⟨rfl,λv g=>nomatch g⟩
 | .tup G :: ds,j,_,h,.cons r t=>by
  unfold Mt at h;split at h
  ·rename_i n ns m o s
   cases h;obtain⟨A,B⟩:=Vo s t
   cases r with
   | @tup _ b I hb C=>
    have:=Ij o;subst this;have:=C.ints;subst this
    have e:SD H (.ref b)=n :: ns:=by
     show(match H b with | some (.tup E)=>E.map SJ | _=>[])=_;rw[hb];exact Op _
    refine⟨by rw[BB,e,A],λv g=>?_⟩
    rcases Aq.mp g with g | g
    ·subst g
     refine⟨b,rfl,?_,?_⟩
     ·rw[e];exact hb
     ·rw[e];exact List.cons_ne_nil _ _
    ·exact B v g
  ·cases h
 | .non :: _,_,_,h,_=>by cases h
 | .bl _ :: _,_,_,h,_=>by cases h
 | .int _ :: _,_,_,h,_=>by cases h
 | .str _ :: _,_,_,h,_=>by cases h
 | .fro _ :: _,_,_,h,_=>by cases h
 | .ref _ :: _,_,_,h,_=>by cases h
 | .exc _ :: _,_,_,h,_=>by cases h
theorem Vq{K}{ρ}{H}:∀{g:List V},(∀v∈g,∃b,v=.ref b/\H b=some (.tup ((SD H v).map V.int))/\SD H v≠[])->A9 K ρ H ((g.map (SD H)).map Mh) g
 | [],_=>.nil
 | v :: g,h=>by
  obtain⟨b,e,hb,_⟩:=h v Ao;refine .cons ?_ (Vq λu j=>h u (AT _ j));subst e;exact .tup hb (A9.of_ints _)
theorem cc{K:AG}{ρ:List AV}{H:Hp}{ds es:List D}{l:List V}(h:LB ds=some es)(r:A9 K ρ H ds l) :
  ∃f:V->ZLi,TC H f l/\∀out,out.Perm l->out.Pairwise (λx y=>ltL (f y) (f x)=false)->A9 K ρ H es out:=by
 unfold LB at h;split at h
 ·rename_i ns B
  cases h;have:=Ij B;subst this;have:=r.ints;subst this;refine⟨λv=>[SJ v],.inl λv g=>?_,λout j m=>?_⟩
  ·obtain⟨n,_,rfl⟩:=Ap.mp g
   exact⟨n,rfl,rfl⟩
  ·have C:out=(out.map SJ).map V.int:=by
    rw[Bc]
    conv=>lhs;rw[<-Ms out]
    refine Ci λv g=>?_
    obtain⟨n,_,rfl⟩:=Ap.mp (j.mem_iff.mp g);rfl
   have o:out.map SJ=CO ns:=by
    have E:(out.map SJ).Perm (CO ns):=by
     have:=j.map SJ;rw[Op]at this;exact this.trans (Bs ns).symm
    refine E.eq_of_pairwise (λa b _ _ G I=>R0 G I) ?_ (Lh ns);rw[B3]
    refine m.imp λ{x y} s=>?_
    rw[jp]at s;simp at s;exact s
   rw[C,o];exact A9.of_ints _
 ·split at h
  ·rename_i rs J
   cases h;obtain⟨L,A⟩:=Vo J r;refine⟨SD H,.inr A,λout j m=>?_⟩
   have o:out.map (SD H)=Li rs:=by
    refine Z3 ?_ (B3.mpr m) (cg rs);have:=j.map (SD H);rw[L]at this;exact this.trans (Ib rs).symm
   rw[<-o]
   exact Vq λv g=>A v (j.mem_iff.mp g)
  ·cases h
theorem Q9{K}{ρ}{H}:∀ks:List Key,A9 K ρ H (ks.map fC) (ks.map kV)
 | []=>.nil
 | .inl i :: ks=>.cons (.int i) (Q9 ks)
 | .inr x :: ks=>.cons (.str x) (Q9 ks)
theorem Q8{K}{ρ}{H}:∀{g:List (Key×D)} {j:List (Key×V)},KVR K ρ H g j->A9 K ρ H (g.map λx=>fC x.1) (j.map λx=>kV x.1)
 | _,_,.nil=>.nil
 | (k,_) :: _,(k',_) :: _,.cons r t=>by
  have e:k=k':=r.1;subst e
  cases k with
  | inl i=>exact .cons (.int i) (Q8 t)
  | inr x=>exact .cons (.str x) (Q8 t)
theorem WA{K}{ρ}{H}:∀{g:List (List Key×D)} {j:List (List Key×V)} {bs:List AV},KVR K ρ H g j->G2 (λ(k:List Key×V) b=>H b=some (.tup (k.1.map kV))) j bs->A9 K ρ H (g.map λx=>.tup (x.1.map fC)) (bs.map V.ref)
 | _,_,_,.nil,.nil=>.nil
 | (k,_) :: _,(k',_) :: _,_,.cons r t,.cons l m=>by
  have e:k=k':=r.1;subst e;exact .cons (.tup l (Q9 k)) (WA t m)
theorem Eh(U:X.calm=true)(Y:Gl X "sorted") (s:X.mg "sorted" = none) (h:GE X E e m) (O:AO [e] X.env=(false,Bt e X.env) :: AO [] X.env:=by rfl):GE X E (.Call (.Name "sorted" p) [e] [] pos) (DO m):=
 (Lq (bB U) Y s sw (EF h Gj O) (by decide) (by decide) O rfl).imp<|by
 rintro σ H Q ⟨Z,l,S,hl,hs,s⟩
 refine⟨Z,l,S,hl,hs,s.seq λd S1 s A B x l1 P r1=>?_⟩
 cases g:Jh d S1 with
 | none=>rw[g]at s;exact s.elim
 | some R=>
  rw[g]at s;dsimp only at s
  cases I:LB R with
  | none=>rw[I]at s;exact s.elim
  | some T=>
   rw[I]at s
   have fin:∀j:List V,A9 X.K A B T j->∀q,B q=none->Q (.ref q) (upd B q (.lst j)):=λj G q g=>by
    have le:Le X.K A B (A++[q]) (upd B q (.lst j)):=Le.alloc g;obtain⟨s4,l4,yN⟩:=P.alloc (ho:=.lst j) (o:=.lst T) g ⟨_,Bq,G.mono le⟩;exact s _ _ _ (l1.trans l4) s4 (.ref yN)
   have out:∀j,A9 X.K A B R j->∃f:V->ZLi,TC B f j/\∀out,out.Perm j->out.Pairwise (λx y=>ltL (f y) (f x)=false)->∀l,B l=none->Q (.ref l) (upd B l (.lst out)):=λj G=>by
    obtain⟨f,k1,k2⟩:=cc I G;exact⟨f,k1,λout po so=>fin out (k2 out po so)⟩
   cases r1 with
   | fro J L=>cases g;exact⟨_,rfl,.inl ⟨_,.inl J.sq,out _ L⟩⟩
   | tup J L=>cases g;exact⟨_,rfl,.inl ⟨_,.inr (.inl (.inl J)),out _ L⟩⟩
   | @ref n a hn=>
    obtain⟨o,ho,N⟩:=P.there hn;unfold Jh at g;simp only[ho]at g
    cases o with
    | lst ys=>cases g;obtain⟨j,e,G⟩:=N;exact⟨_,rfl,.inl ⟨j,.inl (.inl (.inl e)),out _ G⟩⟩
    | dK j'=>cases g;obtain⟨j,e,G⟩:=N;exact⟨_,rfl,.inr (.inl ⟨j,e,out _ (Q8 G)⟩)⟩
    | dT j'=>cases g;obtain⟨j,e,G⟩:=N;exact⟨_,rfl,.inr (.inr ⟨j,e,λbs hb=>out _ (WA G hb)⟩)⟩
    | ins C fs=>cases g
    | fK _=>cases g
    | fT _=>cases g
    | mem _=>cases g
   | _=>cases g
end
theorem Xw{K}{t}(h:∀A∈["NoneType", "bool", "int", "str", "tuple", "list", "dict"],Bm K (.type A) (.type t)=lK t A):∀A b,isB t A=some b->Bm K (.type A) (.type t)=some b:=λA b e=>by
 unfold isB at e;split at e
 ·rename_i g
  rw[h A (by simpa using g)];exact e
 ·cases e
theorem aZ{K}:∀A b,isB "tuple" A=some b->Bm K (.type A) (.type "tuple")=some b:=Xw λA h=>by
 simp only[Aq,BL,or_false]at h
 rcases h with rfl | rfl | rfl | rfl | rfl | rfl | rfl <;> kernel_rfl
theorem jx{K}:∀A b,isB "int" A=some b->Bm K (.type A) (.type "int")=some b:=Xw λA h=>by
 simp only[Aq,BL,or_false]at h
 rcases h with rfl | rfl | rfl | rfl | rfl | rfl | rfl <;> kernel_rfl
theorem fG{K}:∀A b,isB "bool" A=some b->Bm K (.type A) (.type "bool")=some b:=Xw λA h=>by
 simp only[Aq,BL,or_false]at h
 rcases h with rfl | rfl | rfl | rfl | rfl | rfl | rfl <;> kernel_rfl
def isV(A:String):Option Bool:=if A = "NoneType" then some false else none
theorem ou{K}:∀A b,isV A=some b->Bm K (.type A) (.type "ValueError")=some b:=λA b e=>by
 unfold isV at e;split at e
 ·rename_i g
  subst g;cases e
  kernel_rfl
 ·cases e
theorem ox{K}{C}(h:∀A∈["NoneType", "bool", "int", "str", "tuple", "list", "dict"],Bm K (.type A) (.ref C)=some false):∀A b,isN A=some b->Bm K (.type A) (.ref C)=some b:=λA b e=>by
 unfold isN at e;split at e
 ·rename_i g
  cases e;exact h A (by simpa using g)
 ·cases e
theorem ju{K}{C}(j:(Ee K C).isSome=true)(l:LU K (.ref C)=some (.type "type")):∀A∈["NoneType", "bool", "int", "str", "tuple", "list", "dict"],Bm K (.type A) (.ref C)=some false:=λA h=>by
 have g:∀A,Mo K (.type A) (.ref C)=some false->Bm K (.type A) (.ref C)=some false:=λA e=>by
  unfold Bm PySem.W.kitCls;rw[qY (by simp)];dsimp only;rw[qX (by rw[j,l];rfl)];exact e
 refine g A ?_;simp only[Aq,BL,or_false]at h
 rcases h with rfl | rfl | rfl | rfl | rfl | rfl | rfl <;> kernel_rfl
def cZ(K:AG):Sp:=λj H Q _=>∃(a:AV) (g:ZLi),j=[.ref a]/\SS K H a (g.map V.int)/\g.length<=63/\∀l,Q (.bl true) l
theorem ef{P}{w}{K}{g}{base}{k}{l}{fd}{f}(F:EO P w K g base (CXG P w) k l fd ["script"] (spM K 1 f))
  (h:∀ns:ZLi,ns.length<=63->∃m,f [.fro (ns.map D.int)] []=.ok (.bl true) m):EO P w K g base (CXG P w) k l fd ["script"] (cZ K):=F.imp<|by
 rintro J H Q E ⟨a,ns,e,s,A,q⟩
 subst e;obtain⟨m,e⟩:=h ns A;refine⟨[],[.fro (ns.map D.int)],[],rfl,.cons (.fro s (A9.of_ints ns)) .nil,⟨rfl,λi j a B=>by simp at B,λn o a C=>by simp at C⟩,?_⟩;rw[e]
 exact λG I x _ _ r=>by cases r;exact q I
theorem pN{K:AG}{H:Hp}{a:AV}{ns:ZLi}(g:ke H)(j:SqL K H a (ns.map V.int)):SS K H a (ns.map V.int):=by
 rcases j with(h | h) | h
 ·rcases g a with z | ⟨o,l,z⟩ <;> rw[z]at h <;> cases h
 ·exact .inl h
 ·exact .inr h
theorem RS{K}{C}{v}{b}(h:Mp K C v=some b):(Ee K C).isSome=true:=by
 obtain⟨g,a,_⟩:=TN.mp h;rw[a];rfl
theorem pT(h:CXG P w [] H s (λ_ _ _=>False) e s'):False:=by
 obtain⟨_,_,_,_,_,_,_,_,_,z⟩:=h;exact z
def lU(I:Lo->Sto->Prop)(R:Fl->Sto->Prop)(f:Fl)(S:Sto):Prop:=match f with
 | .nx e=>I e S
 | .ct e=>I e S
 | .bk e=>R (.nx e) S
 | .rt d=>R (.rt d) S
 | .ex c e=>R (.ex c e) S
theorem kD(I:Nat->Lo->Sto->Prop)(R:Fl->Sto->Prop)(l:∀i e S,I i e S->v S=some xs)
  (step:∀i d e S,xs[i]?=some d->I i e S->∃e1 S1,g d e S=.ok e1 S1/\∃f S2,b e1 S1=.ok f S2/\lU (I (i+1)) R f S2)
  (fin:∀e S,I xs.length e S->R (.nx e) S):∀(k i:Nat) (e:Lo) (S:Sto),I i e S->i<=xs.length->xs.length<=i+k->∃f S',Im v g b k i e S=.ok f S'/\R f S':=by
 intro k
 induction k with
 | zero=>
  intro i e S h o s
  have:i=xs.length:=by lia
  subst this;refine⟨.nx e,S,?_,fin e S h⟩;unfold Im;rw[l _ e S h];simp
 | succ k m=>
  intro i e S h o s;unfold Im;rw[l _ e S h];dsimp only
  by_cases A:i < xs.length
  ·have hd:xs[i]?=some xs[i]:=by simp[A]
   rw[hd];dsimp only;obtain⟨e1,S1,B,f,S2,C,t⟩:=step i _ e S hd h;rw[B];dsimp only[Res.bind];rw[C];dsimp only[Res.bind]
   cases f with
   | nx j=>exact m (i+1) j S2 t (by lia) (by lia)
   | ct j=>exact m (i+1) j S2 t (by lia) (by lia)
   | bk j=>exact⟨_,_,rfl,t⟩
   | rt d=>exact⟨_,_,rfl,t⟩
   | ex c j=>exact⟨_,_,rfl,t⟩
  ·have:i=xs.length:=by lia
   subst this;rw[show xs[xs.length]?=none by simp];exact⟨.nx e,S,rfl,fin e S h⟩
theorem RG(I:Nat->Lo->Sto->Prop)(R:Fl->Sto->Prop)(h0:I 0 e S)(j:∀i e S,I i e S->v S=some xs)
  (step:∀i d e S,xs[i]?=some d->I i e S->∃e1 S1,g d e S=.ok e1 S1/\∃f S2,b e1 S1=.ok f S2/\lU (I (i+1)) R f S2)
  (fin:∀e S,I xs.length e S->R (.nx e) S):∃f S',Im v g b (DE v S) 0 e S=.ok f S'/\R f S':=by
 have l:DE v S=xs.length:=by unfold DE;rw[j 0 e S h0]
 rw[l];exact kD I R j step fin _ _ _ _ h0 (CZ _) (by lia)
theorem gC(I:Nat->Lo->Sto->List D->Prop)(l:∀i e S j,I i e S j->v S=some xs)
  (step:∀i d e S j,xs[i]?=some d->I i e S j->j.length < sizeLine/\∃e1 S1,g d e S=.ok e1 S1/\∃b S2,c e1 S1=.ok b S2/\((b=true/\∃y S3,m e1 S2=.ok y S3/\I (i+1) e1 S3 (j++[y]))∨(b=false/\I (i+1) e1 S2 j))) :
  ∀(k i:Nat) (e:Lo) (S:Sto) (j:List D),I i e S j->i<=xs.length->xs.length<=i+k->∃r o,Fq v g c m k i e S j=.ok r o/\∃A,I xs.length A o r:=by
 intro k
 induction k with
 | zero=>
  intro i e S j h B C
  have:i=xs.length:=by lia
  subst this;refine⟨j,S,?_,e,h⟩;unfold Fq;rw[l _ e S j h];simp
 | succ k s=>
  intro i e S j h B C;unfold Fq;rw[l _ e S j h];dsimp only
  by_cases E:i < xs.length
  ·have hd:xs[i]?=some xs[i]:=by simp[E]
   rw[hd];dsimp only;obtain⟨G,e1,S1,H,b,S2,J,t⟩:=step i _ e S j hd h;rw[qX G,H];dsimp only[okR,Res.bind];rw[J];dsimp only[okR,Res.bind]
   rcases t with⟨rfl,y,S3,L,t⟩ | ⟨rfl,t⟩
   ·rw[qX rfl,L]
    exact s (i+1) e1 S3 _ t (by lia) (by lia)
   ·rw[qY Ac]
    exact s (i+1) e1 S2 j t (by lia) (by lia)
  ·have:i=xs.length:=by lia
   subst this;rw[show xs[xs.length]?=none by simp];exact⟨j,S,rfl,e,h⟩
theorem QD(I:Nat->Lo->Sto->List D->Prop)(h0:I 0 e S [])(l:∀i e S j,I i e S j->v S=some xs)
  (step:∀i d e S j,xs[i]?=some d->I i e S j->j.length < sizeLine/\∃e1 S1,g d e S=.ok e1 S1/\∃b S2,c e1 S1=.ok b S2/\((b=true/\∃y S3,m e1 S2=.ok y S3/\I (i+1) e1 S3 (j++[y]))∨(b=false/\I (i+1) e1 S2 j))) :
  ∃r o,Fq v g c m (DE v S) 0 e S []=.ok r o/\∃s,I xs.length s o r:=by
 have A:DE v S=xs.length:=by unfold DE;rw[l 0 e S [] h0]
 rw[A];exact gC I l step _ _ _ _ _ h0 (CZ _) (by lia)
theorem oi(h:-1000000<=j):-(2 ^ 62)<=j:=Int.le_trans (by decide) h
theorem pA{j:Int}(h:j<=1000000):j < 2 ^ 62:=JX h (by decide)
theorem fN{ml:ML}{e:Lo}{S S1:Sto}{j:Int}(h:ml e S=.ok [.int j] S1)(h0:-1000000<=j)(g:j<=1000000):iR1 ml e S=.ok (JE (Ii 0 j.toNat)) S1:=by
 unfold iR1;rw[h];dsimp only[Res.bind];rw[qX ⟨oi h0,pA g⟩]
theorem oz{ml:ML}{e:Lo}{S S1:Sto}{i j:Int}(h:ml e S=.ok [.int i,.int j] S1)(h0:-1000000<=i)(g:i<=1000000)(l:-1000000<=j)(m:j<=1000000):iR2 ml e S=.ok (JE (Ii i (j - i).toNat)) S1:=by
 unfold iR2;rw[h];dsimp only[Res.bind];rw[qX ⟨oi h0,pA g,oi l,pA m⟩]
theorem aC(lo:Int)(n:Nat):(Ii lo n).length=n:=by simp[Ii]
theorem dB{lo:Int}{n i:Nat}{d:D}(h:(Ii lo n)[i]?=some d):i < n/\d=.int (lo+i):=by
 rw[Sj]at h;split at h
 ·rename_i g
  cases h;exact⟨g,rfl⟩
 ·cases h
theorem rj(h:-1000000<=j)(g:j<=1000000):Wb i j:=.inr ⟨JW (by decide) h,JX g (by decide)⟩
theorem jk(h:-1000000<=j)(g:j<=1000000):UI (.int i) (.int j) S=.ok (.int (i * j)) S:=by
 show(if Wb i j then _ else _)=_;rw[qX (rj h g)]
theorem fh(h:0 < j)(g:j<=1000000):Mw (.int i) (.int j) S=.ok (.int (i / j)) S:=by
 show(if gY i j then _ else _)=_;rw[qX ⟨h,by lia⟩]
theorem Y3(h:0 < j):Kj (.int i) (.int j) S=.ok (.int (i % j)) S:=by
 show(if 0 < j then _ else _)=_;rw[qX h]
theorem Dh(g:ma e S=.ok x S1)(hb:mb e S1=.ok y S2)(j:f x y S2=.ok d S3):m2 f ma mb e S=.ok d S3:=by
 unfold m2;rw[g];dsimp only[Res.bind];rw[hb];dsimp only[Res.bind];rw[j];rfl
theorem Ic(h:m e S=.ok d S1):Bu i m e S=.ok (.nx (e.set i (some d))) S1:=by
 unfold Bu Qm;rw[h];rfl
theorem Je(h:m e S=.ok d S1):EY m e S=.ok (.rt d) S1:=by
 unfold EY;rw[h];rfl
theorem EZ(h:m e S=.ok d S1):C6 m e S=.ok (.nx e) S1:=by
 unfold C6;rw[h];rfl
theorem PY(h:t e S=.ok c S1):sIf t a b e S=if c=true then a e S1 else b e S1:=by
 unfold sIf;rw[h];rfl
theorem O0(h:m e S=.ok v S1):Hb m g b e S=Im v g b (DE v S1) 0 e S1:=by
 unfold Hb;rw[h];rfl
theorem Fx(h:m e S=.ok ds S1)(g:ds.length=n):Cd n f m e S=f ds S1:=by
 unfold Cd;rw[h];dsimp only[Res.bind];rw[qX g]
theorem B5(h:a e S=.ok (.nx e1) S1):BU a b e S=b e1 S1:=by unfold BU;rw[h];rfl
theorem Xd(h:a e S=.ok (.rt d) S1):BU a b e S=.ok (.rt d) S1:=by unfold BU;rw[h];rfl
theorem nL(h:a e S=.ok (.ex c e1) S1):BU a b e S=.ok (.ex c e1) S1:=by unfold BU;rw[h];rfl
theorem Ih(h:mb (E2 n ds) S=.ok (.rt d) S1):E5 n mb ds S=.ok d S1:=by unfold E5;rw[h];rfl
theorem T6(h:mb (E2 n ds) S=.ok (.nx e) S1):E5 n mb ds S=.ok .non S1:=by unfold E5;rw[h];rfl
theorem cw(h:mb (E2 n ds) S=.ok (.ex c e) S1):E5 n mb ds S=.err c S1:=by unfold E5;rw[h];rfl
def Keeps(S g:Sto):Prop:=S.length<=g.length/\∀j,j < S.length->g[j]?=S[j]?
theorem Keeps.refl(S:Sto):Keeps S S:=⟨AN _,λ_ _=>rfl⟩
theorem Keeps.trans(a:Keeps S S1)(b:Keeps S1 S2):Keeps S S2:=⟨Av a.1 b.1,λj h=>(b.2 j (Ae h a.1)).trans (a.2 j h)⟩
theorem Keeps.app(S:Sto)(G:Sto):Keeps S (S++G):=⟨by simp,λj h=>Aa h⟩
theorem Keeps.set(a:Keeps S S1)(h:S.length<=m)(o:Ob):Keeps S (S1.set m o):=⟨by simpa using a.1,λj g=>by rw[A1 (by lia)];exact a.2 j g⟩
theorem Keeps.at{S S1:Sto}(a:Keeps S S1){j:Nat}{o:Ob}(h:S[j]?=some o):S1[j]?=some o:=by
 rw[a.2 j (AD.mp h).1];exact h
theorem RZ(g:mo e S=.ok (.ref n) S1)(j:S1[n]?=some (.lst xs))(l:ma e S1=.ok y S2)(m:S2[n]?=some (.lst xs2))(o:xs2.length < sizeLine) :
  JA mo ma e S=.ok .non (S2.set n (.lst (xs2++[y]))):=by
 unfold JA;rw[g];dsimp only[Res.bind];rw[j];dsimp only;rw[l];dsimp only[Res.bind];rw[m];dsimp only;rw[qX o]
theorem aq(g:mo e S=.ok (.ref n) S1)(j:S1[n]?=some (.lst xs))(l:ma e S1=.ok (.ref k) S2)(m:S2[n]?=some (.lst xs2))(o:S2[k]?=some (.lst ys))(s:k≠n)(A:xs2.length+ys.length<=sizeLine) :
  Nz mo ma e S=.ok .non (S2.set n (.lst (xs2++ys))):=by
 unfold Nz;rw[g];dsimp only[Res.bind]
 have B:atL (.ref n) S1=some (n,xs):=by unfold atL;dsimp only;rw[j]
 have C:atL (.ref n) S2=some (n,xs2):=by unfold atL;dsimp only;rw[m]
 have E:atL (.ref k) S2=some (k,ys):=by unfold atL;dsimp only;rw[o]
 rw[B];dsimp only;rw[l];dsimp only[Res.bind];rw[C,E];dsimp only;rw[qX ⟨s,A⟩]
theorem iW(h:xs.length+ys.length<=sizeLine):FO (.tup xs) (.tup ys) S=.ok (.tup (xs++ys)) S:=by
 unfold FO;dsimp only;rw[qX h]
theorem EJ(h:S[n]?=some (.lst xs)):Ha (.ref n) S=some xs:=by
 unfold Ha PK;dsimp only;rw[h]
theorem Go(h:m e S=.ok (.ref n) S1)(g:S1[n]?=some (.lst xs)):Dy m e S=.ok (Ha (.ref n)) S1:=by
 unfold Dy;rw[h];dsimp only[Res.bind];rw[EJ g]
theorem N6(h:m e S=.ok (.tup xs) S1):Dy m e S=.ok (JE xs) S1:=by
 unfold Dy;rw[h];rfl
theorem Oq(h:ml e S=.ok ds S1):DV ml e S=.ok (.ref S1.length) (S1++[.lst ds]):=by
 unfold DV;rw[h];rfl
theorem DX(S:Sto)(o:Ob):(S++[o])[S.length]?=some o:=by simp
theorem EK(h:S[n]?=some (.lst ds)):GZ (.ref n) S=some ds:=by
 unfold GZ;dsimp only;rw[h]
theorem Kp(h:S[n]?=some (.lst ds)):Jh (.ref n) S=some ds:=by
 unfold Jh;dsimp only;rw[h]
theorem IX(h:m e S=.ok d S1)(hi:Jh d S1=some ds)(g:LB ds=some es):DO m e S=.ok (.ref S1.length) (S1++[.lst es]):=by
 unfold DO;rw[h];dsimp only[Res.bind];rw[hi];dsimp only;rw[g]
theorem Ni(h:m e S=.ok d S1)(g:GZ d S1=some ds):FZ m e S=.ok (.tup ds) S1:=by
 unfold FZ;rw[h];dsimp only[Res.bind];rw[g]
theorem Xs(h:m e S=.ok d S1)(g:GZ d S1=some ds):Jf m e S=.ok (.int ds.length) S1:=by
 unfold Jf;rw[h];dsimp only[Res.bind];rw[g]
theorem Tv(g:mv e S=.ok v S1)(ho:mo e S1=.ok (.ref n) S2)(j:S2[n]?=some (.ins C fs))(l:fs.length < 1000) :
  Sg C f mo mv e S=.ok (.nx e) (S2.set n (.ins C (Pr f v fs))):=by
 unfold Sg;rw[g];dsimp only[Res.lift];rw[ho];dsimp only[Res.lift];rw[j];dsimp only;rw[qX ⟨rfl,l⟩]
theorem Ub(h:m e S=.ok (.ref n) S1)(g:S1[n]?=some (.ins C fs))(j:fs.lookup f=some v):NC C f m e S=.ok v S1:=by
 unfold NC;rw[h];dsimp only[Res.bind];rw[g];dsimp only;rw[qX rfl,j]
theorem jn(h:ml e S=.ok ds S1)(g:ds.length+1=n)(j:f (.ref S1.length :: ds) (S1++[.ins C []])=.ok .non S2):Q4 C n f ml e S=.ok (.ref S1.length) S2:=by
 unfold Q4;rw[h];dsimp only[Res.bind];rw[qX g,j]
theorem B8(h:m e S=.ok d S1)(g:r e S1=.ok ds S2):AU m r e S=.ok (d :: ds) S2:=by
 unfold AU;rw[h];dsimp only[Res.bind];rw[g]
theorem OF(h:mi e S=.ok v S1):Dw n mi g c m e S=Fq v g c m (DE v S1) 0 (Bd n none++e) S1 []:=by
 unfold Dw;rw[h];rfl
theorem Rc(h:m e S=.ok (.bl b) S1):mB m e S=.ok b S1:=by
 unfold mB;rw[h];rfl
theorem eX(j:ma e S=.ok x S1)(hb:mb e S1=.ok y S2)(l:f x y S2=.ok (.bl true) S3)(m:o e S3=.ok w s)(A:g y w s=.ok d S5):m3 f g ma mb o e S=.ok d S5:=by
 unfold m3;rw[j];dsimp only[Res.bind];rw[hb];dsimp only[Res.bind];rw[l];dsimp only[Res.bind,okR];rw[m];dsimp only[Res.bind];rw[A]
theorem rl(j:ma e S=.ok x S1)(hb:mb e S1=.ok y S2)(l:f x y S2=.ok (.bl false) S3):m3 f g ma mb m e S=.ok (.bl false) S3:=by
 unfold m3;rw[j];dsimp only[Res.bind];rw[hb];dsimp only[Res.bind];rw[l];rfl
theorem Xt(h:decide (i<=j)=b):leD (.int i) (.int j) S=.ok (.bl b) S:=by subst h;rfl
theorem Xr(h:decide (i < j)=b):ltD (.int i) (.int j) S=.ok (.bl b) S:=by subst h;rfl
theorem pM(h:decide (j<=i)=b):geD (.int i) (.int j) S=.ok (.bl b) S:=by subst h;rfl
theorem pQ(h:decide (i=j)=b):eqD false (.int i) (.int j) S=.ok (.bl b) S:=by
 subst h;show Res.ok (D.bl (i==j)) S=_;rfl
theorem oV(h:decide (i≠j)=b):eqD true (.int i) (.int j) S=.ok (.bl b) S:=by
 subst h;show Res.ok (D.bl (!(i==j))) S=_
 by_cases e:i=j <;> simp[e]
theorem Xk(h:m e S=.ok b S1):Pu m e S=.ok (!b) S1:=by
 unfold Pu;rw[h];rfl
theorem iz(h:m e S=.err c S1):Bu i m e S=.ok (.ex c e) S1:=by
 unfold Bu Qm;rw[h];rfl
theorem dF(h:ml e S=.ok ds S1)(g:ds.length<=30):T4 C ml e S=.ok (.ex C e) S1:=by
 unfold T4;rw[h];dsimp only[Res.lift];rw[qX (Av g (by decide))]
theorem mw(hb:b e S=.ok (.nx e1) S1):Z9 cs i b h e S=.ok (.nx e1) S1:=by
 unfold Z9;rw[hb];rfl
theorem mz(hb:b e S=.ok (.ex c e1) S1)(g:c∈cs)(j:h (e1.set i (some (.exc c))) S1=.ok (.nx e2) S2):Z9 cs i b h e S=.ok (.nx (e2.set i none)) S2:=by
 unfold Z9;rw[hb];dsimp only[Res.bind];rw[qX g,j]
theorem XV(h:ml e S=.ok ds S1)(g:ds.length<=1000):KC ml e S=.ok (.tup ds) S1:=by
 unfold KC;rw[h];dsimp only[Res.bind];rw[qX (Av g (by decide))]
theorem fF(h:m e S=.ok (.exc C) S1)(hb:tabC C=some b):mIs g tabC m e S=.ok (.bl b) S1:=by
 unfold mIs;rw[h];dsimp only[Res.bind];rw[hb]
theorem sG(h:m e S=.ok d S1)(j:tyD d S1=some T)(hb:g T=some b):mIs g tabC m e S=.ok (.bl b) S1:=by
 unfold mIs;rw[h];dsimp only[Res.bind]
 cases d with
 | exc C=>cases j
 | _=>dsimp only;rw[j];dsimp only;rw[hb]
theorem oF(h:g e S=.ok true S1):mOr g j e S=.ok true S1:=by
 unfold mOr;rw[h];rfl
theorem dk(h:g e S=.ok false S1):mOr g j e S=j e S1:=by
 unfold mOr;rw[h];rfl
theorem ka(h:g e S=.ok true S1):Ot g j e S=j e S1:=by
 unfold Ot;rw[h];rfl
theorem kZ(h:g e S=.ok false S1):Ot g j e S=.ok false S1:=by
 unfold Ot;rw[h];rfl
theorem Yn(h:m e S=.ok d S1)(g:GZ d S1=some ds):Kn m e S=.ok ds S1:=by
 unfold Kn;rw[h];dsimp only[Res.bind];rw[g]
theorem dH(h:ml e S=.ok ds S1)(g:f ds S1=.ok d S2):mQ f ml e S=.ok d S2:=by
 unfold mQ;rw[h];dsimp only[Res.bind];rw[g];rfl
theorem Q7(h:S[n]?=some (.lst ds)):Pv (.ref n) S=some ds:=by
 unfold Pv;dsimp only;rw[h]
end L2
namespace PySem
open PySem.Sem (wp)
theorem Ls(l:AV)(items:Array AH)(n:Nat)(B:Option AV)(sl:Array (Option AH)) :
  Meets (Builtin.«enumerate.__new__» ⟨[.type "enumerate",.ref l],[]⟩) (λ_ R s=>s.heap.get? l=some { cls:=.type "tuple",dict:=B,data:=.seq items n,slots:=sl } /\
   R (.ok (.ret (.ref (s.heap.push { cls:=.type "tuple_iterator",data:=.fields #[.ref l,.int 0 0] }).objs.size)))
    { s with heap:=(s.heap.push { cls:=.type "tuple_iterator",data:=.fields #[.ref l,.int 0 0] }).push { cls:=.type "enumerate",data:=.fields #[.none,.bool false,.ref s.heap.objs.size,EG 0,.none,.none] } }):=
 .of_wp λo w A R s h=>by
  obtain⟨C,g,d,tk,os⟩:=s;obtain⟨j,h⟩:=h;have E:=sub_enumerate;have m:CS.IsTuple (AL.heap ⟨C,g,d,tk,os⟩) l items:=⟨_,j,rfl,n,rfl⟩
  wp_walk using Cj j
  refine wpAny_stack_any λst=>AI ?_
  split
  ·rename_i c _ _ _ _ _
   cases(c==Ea "enumerate")
   ·wp_walk using Cj j,D5 m
    exact⟨_,rfl,h⟩
   ·wp_walk using Cj j,D5 m
    exact⟨_,rfl,h⟩
  ·wp_walk using Cj j,D5 m
   exact⟨_,rfl,h⟩
section
variable{w:By}{A:Bn}{E:AH->AL->Prop}{s:AL}
theorem L9(C:s.heap.IsTuple l g)
  (h:∀h',bp h' (s.heap.objs.size+1) s.heap.objs.size 0 .none->h'.IsTupleIter s.heap.objs.size l 0->h'.objs.size=s.heap.objs.size+2 ->
   (∀b o,s.heap.get? b=some o->h'.get? b=some o)->Q (.ref (s.heap.objs.size+1)) { s with heap:=h' }) :
  Af (Am prog w) A (call (.type "enumerate") [.ref l]) Q E s:=by
 obtain⟨⟨c,G,H,sl⟩,I,j,n,hd⟩:=C
 replace j:c=.type "tuple":=j
 replace hd:H=.seq g n:=hd
 subst j hd
 refine callType_new F.called_enumerate (by decide) (F.typeCall_enumerate_1 _) (F.newCall_enumerate_1 _) (λobj=>F.args_object_init_2 obj _) F.entry_enumerate_new
  (Ls l g n G sl) ⟨I,?_⟩
 have m:(s.heap.push { cls:=.type "tuple_iterator",data:=.fields #[.ref l,.int 0 0] }).objs.size=s.heap.objs.size+1:=CV ..;show _/\_;rw[m]
 have B:bp ((s.heap.push { cls:=.type "tuple_iterator",data:=.fields #[.ref l,.int 0 0] }).push
   { cls:=.type "enumerate",data:=.fields #[.none,.bool false,.ref s.heap.objs.size,EG 0,.none,.none] }) (s.heap.objs.size+1) s.heap.objs.size 0 .none:=by
  have:=Ag (s.heap.push { cls:=.type "tuple_iterator",data:=.fields #[.ref l,.int 0 0] })
   (o:={ cls:=.type "enumerate",data:=.fields #[.none,.bool false,.ref s.heap.objs.size,EG 0,.none,.none] }) rfl
  rw[m]at this;exact this
 refine⟨⟨_,B,rfl⟩,h _ B ⟨_,AJ _ (Ag _ rfl),rfl,rfl⟩ (by rw[CV,m]) λb o x=>AJ _ (AJ _ x)⟩
theorem Nu{it t}{i}{g}{x}{Q}(j:s.heap.IsTupleIter it t i)
  (m:s.heap.IsTuple t g) (B:g[i]?=some x)
  (C:∀h',h'.IsTupleIter it t (i+1)->EC it s.heap h'->Q x { s with heap:=h' }) :
  Af (Am prog w) A (B0 (.ref it)) Q E s:=by
 obtain⟨o,l,G,hd⟩:=id j;obtain⟨J,H,_,L,I⟩:=m;unfold B0
 refine AA (Cc (name:=Ff "__next__") j.typeIs Fh
  (Cm Fh j.typeIs Uz ?_ (TW _)))
 show Af _ _ (Uv (.ref it) 0 >>= _) _ _ s;refine AA (B9 l hd (x:=.ref t) rfl ?_);show Af _ _ (if (A7 t==Be)=true then _ else _) _ _ s;rw[qY (show ¬((A7 t==Be)=true)from Ac)];show Af _ _ (Uv (.ref it) 1 >>= _) _ _ s;refine AA (B9 l hd (x:=.int i 0) rfl ?_);show Af _ _ (seqItems? (.ref t) >>= _) _ _ s;refine AA (KJ H I ?_);simp only[Ak,B];refine AA (F0 l hd (by simp) (AI ⟨x,rfl,AI (C _ ?_ (G3 ..))⟩))
 exact⟨_,Et _ l (Ex (CW hd _)),(KI ..).trans G,by
  rw[CW hd];simp[EG]⟩
theorem KB{it t}{i}{g}{Q}(B:A.handled=none)
  (j:s.heap.IsTupleIter it t i) (C:s.heap.IsTuple t g) (G:g[i]?=none)
  (H:∀h' e,YR it s.heap h'->(∃o,h'.get? e=some o/\o.cls=.type "StopIteration")->E (.ref e) { s with heap:=h' }) :
  Af (Am prog w) A (B0 (.ref it)) Q E s:=by
 obtain⟨o,l,L,hd⟩:=id j;obtain⟨N,I,_,O,J⟩:=C;unfold B0
 refine AA (Cc (name:=Ff "__next__") j.typeIs Fh
  (Cm Fh j.typeIs Uz ?_ (TW _)))
 show Af _ _ (Uv (.ref it) 0 >>= _) _ _ s;refine AA (B9 l hd (x:=.ref t) rfl ?_);show Af _ _ (if (A7 t==Be)=true then _ else _) _ _ s;rw[qY (show ¬((A7 t==Be)=true)from Ac)];show Af _ _ (Uv (.ref it) 1 >>= _) _ _ s;refine AA (B9 l hd (x:=.int i 0) rfl ?_);show Af _ _ (seqItems? (.ref t) >>= _) _ _ s;refine AA (KJ I J ?_);simp only[Ak,G];refine AA (Ws (AA (F0 l hd (by simp) ?_)));show Af _ _ (newExc (.type "StopIteration") [] >>= _) _ _ _;refine AA ?_;simp only[newExc,newTuple];refine AA (CU ?_ (by size_fits));refine AA (m:=OT _ _) (gt (a:=Be) (by first | rfl | (simp only[OT];rfl)) ?_);refine CU ?_ (by size_fits);simp only[raiseNew];refine AA (wpAny_handled ?_)
 first | rw[show A.in1.handled=none from B] | rw[B]
 refine AA (AI (wpAny_throw ?_));exact H _ _ (((G3 ..).extBut.push _).push _) ⟨_,Ag _ rfl,rfl⟩
theorem WY(G:A.handled=none)(it l:AV)(H:l≠it)(g:Array AH) :
  Draws prog w A it [it,l] g.size (λi v=>g[i]?=some v) (λi h=>h.IsTupleIter it l i/\h.IsTuple l g) where
 live:=λ_ _ st=>let ⟨o,j,_⟩:=st.1;⟨o,j⟩
 frame:=λ_ _ _ st m=>⟨st.1.at λo e=>m it (by simp) o e,let ⟨o,j,r⟩:=st.2;⟨o,m l (by simp) o j,r⟩⟩
 item:=λi s Q E B st I=>by
  refine Nu st.1 st.2 (x:=g[i]) (by simp[B]) λJ L C=>?_
  exact I _ J s.toks (by simp[B]) ⟨L,st.2.extBut C.extBut H⟩ C
 done:=λs Q E st N=>KB G st.1 st.2 (by simp) N
theorem Mi{e it l:AV}{i:Nat}{g:Array AH}{old:AH}{Q:Option AH->AL->Prop}(C:A.handled=none)
  (m:bp s.heap e it i old) (j:s.heap.IsTupleIter it l i) (G:s.heap.IsTuple l g) (H:g[i]?=none)
  (I:∀h',YR it s.heap h'->Q none { s with heap:=h' }):Af (Am prog w) A (JS (.ref e)) Q E s:=by
 have B:s.TypeIs (.ref e) "enumerate":=⟨_,m,rfl⟩;unfold JS
 refine AA (FP (Cc (name:=Ff "__next__") B bU
  (Cm bU B F.entry_enumerate_next ?_ (F.args_enumerate_next_1 _))))
 show Af _ _ (Uv (.ref e) 2 >>= _) _ _ _;refine AA (B9 m rfl (x:=.ref it) rfl ?_);refine AA (KB C j G H λh' x J L=>?_);obtain⟨o,N,O⟩:=L;refine AA (TD (T:="StopIteration") (b:=true) ⟨o,N,O⟩ Wy ?_);exact AI (I _ J)
end
end PySem
namespace L2
theorem Inv.turned2(I:Inv X B G H s)(k:∀b u,b≠e->b≠it->s.heap.get? b=some u->h'.get? b=some u)
  (j:NP X B H e) (l:NP X B H it) (C:s.heap.objs.size<=a) (new:C7 X.prog X.w (upd H a o) h' a o):Inv X B G (upd H a o) { s with heap:=h',toks:=t' }:=by
 have A:=I.hok.fresh C
 have E:∀b u,H b=some u->b≠e/\b≠it:=λb u q=>⟨λz=>(by rw[z,j.1]at q;cases q),λz=>(by rw[z,l.1]at q;cases q)⟩
 have out:∀b:AV,b∉[e,it]->b≠e/\b≠it:=λb hb=>⟨λz=>hb (by simp[z]),λz=>hb (by simp[z])⟩
 refine I.step (g':=s.gens) (d':=s.drawn) (ch:=[e,it]) (λb hb=>?_) (λb o _ _ g q _=>k b o (out b g).1 (out b g).2 q) (λb o _ _ g q _=>⟨o.slots,k b o (out b g).1 (out b g).2 q⟩) (λb o _ q n=>?_)
  (λb o g q=>⟨o,k b o (out b g).1 (out b g).2 q⟩) (λb J q=>by rw[Bh (Bx q A)];exact q) (λb o u q=>by rw[Bh (Bx q A)];exact q) (λb R q=>⟨#[],by rw[Bh (Bx q A),q];simp⟩) (λm L=>?_) (λb u q=>?_) I.bare
 ·have N:b=e∨b=it:=by simpa using hb
  rcases N with z | z
  ·subst z;exact⟨j.2.2.2.1,j.2.1,j.2.2.2.2.1,j.2.2.2.2.2⟩
  ·subst z;exact⟨l.2.2.2.1,l.2.1,l.2.2.2.2.1,l.2.2.2.2.2⟩
 ·rw[Bh (Ax (Ae (AX q) C))];exact n
 ·obtain⟨o,O,P,Q,r⟩:=L
  exact⟨o,O,P,k _ o (CY j.2.1) (CY l.2.1) Q,r⟩
 ·by_cases hb:b=a
  ·subst hb;rw[Bq]at q;cases q;exact new
  ·rw[Bh hb]at q
   refine(I.hok b u q).stay (λc v g r=>?_) (λc r=>by rw[Bh (Bx r A)];exact r) λc J r=>by rw[Bh (Bx r A)];exact r
   have:c≠e/\c≠it:=by
    rcases g with z | z
    ·rw[z];exact E b u q
    ·exact E c _ z
   exact k c v this.1 this.2 r
def Ite(sq:Hp->List V->Prop):It:=
 ⟨λi H=>∃g x,sq H g/\g[i]?=some x,λi H y j=>∃p x,H p=none/\y=.ref p/\j=upd H p (.tup [.int i,x])/\∀g,sq H g->g[i]?=some x,λi H=>∃g,sq H g/\g.length<=i⟩
section
variable{P:Bb}{w:By}{K:AG}{elts:List Expr}{x1:Nat}{pos:Pos}
theorem ay{X:Cx}{j:List (AV×Obj)}{m:St}{H:Hp}{s:AL}{E:AH->AL->Prop}{sq:Hp->List V->Prop}{e it:AV}{i:Nat}{x:V}{u:AH}{tk:Nat}{h':CS}{tn:Nat->CS->Prop}
  (I:Inv X j m H s) (tU:e≠it) (B:∀b∈[e,it],NP X j H b) (le:e < s.heap.objs.size) (O:it < s.heap.objs.size) (Q:RelV x u) (R:∀xs,sq H xs->xs[i]?=some x)
  (ho:IsEnumOut h' e it ((i:Int)+1) u s.heap.objs.size) (C:h'.get? s.heap.objs.size=some { cls:=.type "tuple",data:=.seq #[.int i tk,u] }) (S:∀b o,b≠e->b≠it->s.heap.get? b=some o->h'.get? b=some o)
  (T:∀h2,EC e h' h2->(∃old,bp h2 e it ((i+1:Nat):Int) old)->tn (i+1) h2) :
  Af (Am X.prog X.w) X.A (NR (.Tuple elts x1 pos) (.ref e) (.ref s.heap.objs.size)) (λ_ G=>∃y l,Inv X j m l G/\RelV y (.ref s.heap.objs.size)/\(Ite sq).yld i H y l/\tn (i+1) G.heap/\∀b∈[e,it],l b=none) E { s with heap:=h',toks:=tk+1 }:=by
 have g:=B e (by simp);have J:=B it (by simp);have L:e≠s.heap.objs.size:=Ax le;have U:it≠s.heap.objs.size:=Ax O
 have new:C7 X.prog X.w (upd H s.heap.objs.size (.tup [.int i,x])) h' s.heap.objs.size (.tup [.int i,x]):=
  ⟨⟨Av (show 2<=1000 by decide) (by decide),_,C,rfl⟩,[.int i tk,u],.cons ⟨tk,rfl⟩ (.cons Q .nil),_,C,rfl,_,rfl⟩
 have Y:=I.turned2 (t':=tk+1) S g J (AN _) new
 refine wpAny_letOwnedTupleGo_enum (s:={ s with heap:=h',toks:=tk+1 }) ho λh2 Z u7=>?_
 have N:EC e h' h2:=u7;have I2:=Y.turned (t':=tk+1) (h':=h2) (it:=e) (λb o hb q=>(N.2 b hb).trans q) (by rw[Bh L];exact g.1) g.2.1 g.2.2.2.1 g.2.2.2.2.1 g.2.2.2.2.2;refine⟨.ref s.heap.objs.size,_,I2,rfl,⟨s.heap.objs.size,x,I.hok.fresh (AN _),rfl,rfl,R⟩,T h2 N ⟨u,by rw[Int.natCast_add,Int.natCast_one];exact Z⟩,λb hb=>?_⟩
 have vj:b=e∨b=it:=by simpa using hb
 rcases vj with z | z
 ·rw[z,Bh L];exact g.1
 ·rw[z,Bh U];exact J.1
theorem XU(a e it:AV)(B:e≠it)(G:a≠it)(J:e≠a):YA P w K (.Tuple elts x1 pos) (Ite λH xs=>SqT K H a xs) [e,it] e (λi h=>(∃old,bp h e it i old)/\h.IsTupleIter it a i) where
 mem:=by simp
 obj:=λi h st b hb=>by
  have Z:b=e∨b=it:=by simpa using hb
  rcases Z with z | z
  ·subst z
   obtain⟨⟨old,g⟩,_⟩:=st
   exact⟨_,g,λv z=>by
    have z':qc _=Data.cell v:=z
    cases z'⟩
  ·subst z
   obtain⟨_,o,e,c,d⟩:=st;exact⟨o,e,λv z=>by rw[d]at z;cases z⟩
 keep:=λi h U st k=>⟨st.1.imp λold g=>k e (by simp) _ g,st.2.at λo q=>k it (by simp) o q⟩
 item:=by
  intro X L hw N O i ζ s σ H E I Q st R;subst L hw N;obtain⟨xs,x,C,S⟩:=R;obtain⟨l,T,p,hz⟩:=I.tuple C;have p':s.heap.IsTuple a l.toArray:=p;obtain⟨u,Y,ru⟩:=T.get S
  have tm:i < l.toArray.size:=by
   have:=(AD.mp Y).1;simpa using this
  obtain⟨⟨old,g⟩,j⟩:=st
  have li:it < s.heap.objs.size:=by obtain⟨o,q,_⟩:=j;exact AX q
  refine wpAny_pyNext_enum_itemD (WY (A:=X.A.in1) (I.ok.hd O) it a G l.toArray) g ⟨j,p'⟩ tm B (by simp[B,J]) λu' U tk ze ho ϓ hT hsz hk=>?_
  have:u'=u:=by
   have m:l[i]?=some u':=by simpa using ze
   rw[Y]at m;cases m;rfl
  subst this;exact⟨_,rfl,ay (sq:=λH xs=>SqT X.K H a xs) (tn:=λi h=>(∃old,bp h e it i old)/\h.IsTupleIter it a i) I B Q (AX g) li ru (λys hy=>by rw[I.tuple_inj hy C];exact S) ho hT hk λh2 u7 uk=>⟨uk,ϓ.1.at λo q=>(u7.2 it (CY B)).trans q⟩⟩
 done:=by
  intro X L hw N O i ζ s σ H E I Q st R;subst L hw N;obtain⟨xs,C,S⟩:=R;obtain⟨l,T,p,hz⟩:=I.tuple C;obtain⟨⟨old,g⟩,j⟩:=st;obtain⟨f0,f1,f2,f3,f4,f5⟩:=Q it (by simp);have hl:=T.length
  exact Mi (I.ok.hd O) g j (show s.heap.IsTuple a l.toArray from p) (by simp;lia) λU eb=>⟨rfl,I.turned (t':=s.toks) (λb o hb e=>eb b o hb e) f0 f1 f3 f4 f5⟩
 self:=λ_ _ _ _ _ st h=>by
  obtain⟨⟨old,g⟩,_⟩:=st;exact pq g h
end
section
variable{p:Pos}
noncomputable def O4(ds:List D):List D:=ds.zipIdx.map λx=>.tup [.int x.2,x.1]
def YX(v:Mm):Mm:=λS=>(v S).map O4
theorem RM(ds:List D)(i:Nat):(O4 ds)[i]?=(ds[i]?).map λd=>.tup [.int i,d]:=by
 unfold O4;rw[Ah,List.getElem?_zipIdx]
 cases ds[i]? <;> simp
theorem VQ{K}{ρ}{H}{J}{v}{sq}(I:O5 K ρ H J v)(L:∀i H,J.go i H->∃xs x,sq H xs/\xs[i]?=some x)(N:∀i H,J.stop i H->∃xs,sq H xs/\xs.length<=i)
  (O:∀i H x,(∀xs,sq H xs->xs[i]?=some x)->J.yld i H x H):O5 K ρ H (Ite sq) (YX v):=by
 intro B m S ds i l s o;unfold YX at o
 cases hd:v S with
 | none=>rw[hd]at o;cases o
 | some j=>
  rw[hd]at o;cases o;obtain⟨P,Q⟩:=I B m S j i l s hd;refine⟨λC=>?_,λd g=>?_⟩
  ·rw[RM]at C
   refine N i m (P ?_)
   cases A:j[i]? with
   | none=>rfl
   | some d=>rw[A]at C;cases C
  ·rw[RM]at g
   cases A:j[i]? with
   | none=>rw[A]at g;cases g
   | some R=>
    rw[A]at g;cases g;obtain⟨T,U⟩:=Q R A;refine⟨L i m T,λy H' X=>?_⟩;obtain⟨p,x,Y,rfl,rfl,Z⟩:=X;obtain⟨E,l3,s3,r3⟩:=U x m (O i m x Z);obtain⟨s4,G⟩:=HK (ho:=.tup [.int i,x]) s3 Y;exact⟨E,l3.trans G,s4,.tup Bq (.cons (.int _) (.cons (r3.mono G) .nil))⟩
end
def RU(f:Int->Int->Bool):ZLi->Option Int
 | []=>none
 | a :: r=>some (r.foldl (λm x=>if f x m=true then x else m) a)
theorem OI(f:Int->Int->Bool)(a:Int)(r:ZLi):∀k,k<=r.length->(a :: r).getD (Hl (λi j=>f ((a :: r).getD i 0) ((a :: r).getD j 0)) k) 0=(r.take k).foldl (λm x=>if f x m=true then x else m) a
 | 0,_=>by simp[Hl]
 | k+1,h=>by
  have o:=OI f a r k (by lia)
  have g:k < r.length:=by lia
  have s:r.take (k+1)=r.take k++[r[k]]:=by rw[Ey];simp[g]
  have l:(a :: r).getD (k+1) 0=r[k]:=by simp[g]
  rw[s,Jx,<-o];show(a :: r).getD (if f ((a :: r).getD (k+1) 0) ((a :: r).getD (Hl (λi j=>f ((a :: r).getD i 0) ((a :: r).getD j 0)) k) 0)=true then k+1 else Hl (λi j=>f ((a :: r).getD i 0) ((a :: r).getD j 0)) k) 0=_;rw[l];show _=(if f r[k] _=true then r[k]else _);split
  ·exact l
  ·rfl
theorem RY(g:Nat->Nat->Bool):∀k,Hl g k<=k
 | 0=>AN _
 | k+1=>by
  show(if g (k+1) (Hl g k)=true then k+1 else Hl g k)<=k+1;have:=RY g k
  split <;> lia
def ltZ(x m:Int):Bool:=decide (x < m)
def gtZ(x m:Int):Bool:=decide (x > m)
theorem WV(f:Int->Int->Bool)(h:RU f ns=some b):0 < ns.length/\ns[Hl (λi j=>f (ns.getD i 0) (ns.getD j 0)) (ns.length - 1)]?=some b:=by
 cases ns with
 | nil=>cases h
 | cons a r=>
  cases h;refine⟨by simp,?_⟩;have e:=OI f a r r.length (AN _);rw[ER]at e;have l:=RY (λi j=>f ((a :: r).getD i 0) ((a :: r).getD j 0)) r.length;rw[<-e,show(a :: r).length - 1=r.length by simp]
  have g:Hl (λi j=>f ((a :: r).getD i 0) ((a :: r).getD j 0)) r.length < (a :: r).length:=by rw[A0];exact Nat.lt_succ_of_le l
  rw[AZ g,BN,AZ g];rfl
theorem G6{ns:ZLi}{g:List AH}(r:B6 (ns.map V.int) g){i:Nat}{v:AH}(h:g[i]?=some v):∃t,v=.int (ns.getD i 0) t:=by
 have j:i < ns.length:=by
  have:=(AD.mp h).1;have m:=r.length;rw[AF]at m
  lia
 obtain⟨u,l,o⟩:=r.get (i:=i) (x:=.int (ns.getD i 0)) (by rw[Ah,AZ j,BN,AZ j];rfl);rw[h]at l;cases l;exact o
section
variable{X:Cx}
def dG(K:AG)(f:Int->Int->Bool):List V->Hp->VK->Prop:=λj H Q=>∃a g b,j=[.ref a]/\(SqL K H a (g.map V.int)∨SqT K H a (g.map V.int))/\RU f g=some b/\Q (.int b) H
theorem P6{s:AL}{o:Obj}{h':CS}(g:∀b u,b∉[s.heap.objs.size]->(s.heap.push o).get? b=some u->h'.get? b=some u):∀b u,s.heap.get? b=some u->h'.get? b=some u:=λb u e=>
 g b u (λj=>zX (AS.mp j▸AX e) (DL _)) (AJ _ e)
theorem ZI{s:AL}{o:Obj}{l:AV}(g:l < s.heap.objs.size):∀b∈[s.heap.objs.size,l],b < (s.heap.push o).objs.size:=λb hb=>by
 rw[CV]
 have j:b=s.heap.objs.size∨b=l:=by simpa using hb
 rcases j with rfl | rfl
 ·exact CG _
 ·exact FD g
theorem bD(S:X.calm=true):Iu X (.builtin "min") (dG X.K ltZ):=by
 intro T s U H xs us Q I r h;obtain⟨a,m,b,rfl,sq,hb,q⟩:=h;obtain⟨u,rfl,Y⟩:=vals1 r;cases Y;obtain⟨xp,P⟩:=WV ltZ hb;have R:=I.ok.hd S
 have fin:∀(g:List AH) (v:AH) (B:CS) (tk:Nat),B6 (m.map V.int) g->g.toArray[Hl (λi j=>decide (m.getD i 0 < m.getD j 0)) (g.toArray.size - 1)]?=some v->(∀b o,s.heap.get? b=some o->B.get? b=some o)->EP X T U Q v { s with heap:=B,toks:=tk }:=λg v B tk l C G=>by
  have E:=l.length;rw[AF]at E;rw[W9,AQ,<-E]at C;obtain⟨t,rfl⟩:=G6 l C;refine⟨.int b,H,I.kept G,⟨t,?_⟩,q⟩
  have e:m.getD (Hl (λi j=>decide (m.getD i 0 < m.getD j 0)) (m.length - 1)) 0=b:=by
   rw[BN];unfold ltZ at P;rw[P];rfl
  rw[e]
 rcases sq with sq | sq
 ·obtain⟨g,l,J,Z⟩:=I.list sq
  have E:=l.length;rw[AF]at E
  have L:a < s.heap.objs.size:=by obtain⟨o,q,_⟩:=J.isList;exact AX q
  refine call_min_walk (Ro J.isList ?_);refine⟨_,_,_,_,_,_,_,rfl,qQ (A:=X.A.in1) R _ a (Ax L) g.toArray,⟨⟨_,Ag _ rfl,rfl,rfl⟩,J.isList.push _⟩,ZI L,by rw[AQ];lia,kt (λi=>m.getD i 0) (λi v N=>G6 l (by simpa using N)),λv B tk C G=>fin g v B tk l C (P6 G)⟩
 ·obtain⟨g,l,J,Z⟩:=I.tuple sq
  have E:=l.length;rw[AF]at E;have O:s.heap.IsTuple a g.toArray:=J
  have L:a < s.heap.objs.size:=by obtain⟨o,q,_⟩:=O;exact AX q
  refine call_min_walk (D5 O ?_);refine⟨_,_,_,_,_,_,_,rfl,W2 (A:=X.A.in1) R _ a (Ax L) g.toArray,⟨⟨_,Ag _ rfl,rfl,rfl⟩,O.push _⟩,ZI L,by rw[AQ];lia,kt (λi=>m.getD i 0) (λi v N=>G6 l (by simpa using N)),λv B tk C G=>fin g v B tk l C (P6 G)⟩
theorem bF(S:X.calm=true):Iu X (.builtin "max") (dG X.K gtZ):=by
 intro T s U H xs us Q I r h;obtain⟨a,m,b,rfl,sq,hb,q⟩:=h;obtain⟨u,rfl,Y⟩:=vals1 r;cases Y;obtain⟨xp,P⟩:=WV gtZ hb;have R:=I.ok.hd S
 have fin:∀(g:List AH) (v:AH) (B:CS) (tk:Nat),B6 (m.map V.int) g->g.toArray[Hl (λi j=>decide (m.getD i 0 > m.getD j 0)) (g.toArray.size - 1)]?=some v->(∀b o,s.heap.get? b=some o->B.get? b=some o)->EP X T U Q v { s with heap:=B,toks:=tk }:=λg v B tk l C G=>by
  have E:=l.length;rw[AF]at E;rw[W9,AQ,<-E]at C;obtain⟨t,rfl⟩:=G6 l C;refine⟨.int b,H,I.kept G,⟨t,?_⟩,q⟩
  have e:m.getD (Hl (λi j=>decide (m.getD i 0 > m.getD j 0)) (m.length - 1)) 0=b:=by
   rw[BN];unfold gtZ at P;rw[P];rfl
  rw[e]
 rcases sq with sq | sq
 ·obtain⟨g,l,J,Z⟩:=I.list sq
  have E:=l.length;rw[AF]at E
  have L:a < s.heap.objs.size:=by obtain⟨o,q,_⟩:=J.isList;exact AX q
  refine call_max_walk (Ro J.isList ?_);refine⟨_,_,_,_,_,_,_,rfl,qQ (A:=X.A.in1) R _ a (Ax L) g.toArray,⟨⟨_,Ag _ rfl,rfl,rfl⟩,J.isList.push _⟩,ZI L,by rw[AQ];lia,ku (λi=>m.getD i 0) (λi v N=>G6 l (by simpa using N)),λv B tk C G=>fin g v B tk l C (P6 G)⟩
 ·obtain⟨g,l,J,Z⟩:=I.tuple sq
  have E:=l.length;rw[AF]at E;have O:s.heap.IsTuple a g.toArray:=J
  have L:a < s.heap.objs.size:=by obtain⟨o,q,_⟩:=O;exact AX q
  refine call_max_walk (D5 O ?_);refine⟨_,_,_,_,_,_,_,rfl,W2 (A:=X.A.in1) R _ a (Ax L) g.toArray,⟨⟨_,Ag _ rfl,rfl,rfl⟩,O.push _⟩,ZI L,by rw[AQ];lia,ku (λi=>m.getD i 0) (λi v N=>G6 l (by simpa using N)),λv B tk C G=>fin g v B tk l C (P6 G)⟩
def RV(f:Int->Int->Bool)(ds:List D)(S:Sto):Res D:=match Gn ds with
 | some g=>match RU f g with
  | some b=>.ok (.int b) S
  | none=>.bad
 | none=>.bad
theorem Ym:pZ X.K (dG X.K f) (RV f):=λl H S A q B d C Q m j sq g k=>by
 unfold RV at g;split at g
 ·rename_i o s
  split at g
  ·rename_i b hb
   cases g;rw[Ij s]at j;rw[j.ints]at sq;exact⟨q,o,b,rfl,sq,hb,k l H _ .refl m (.int _)⟩
  ·cases g
 ·cases g
abbrev Ny:=RV ltZ
abbrev eI:=RV gtZ
theorem UX(g:X.calm=true)(j:Gl X "min") (l:X.mg "min" = none) (h:GE X E e m) (o:AO [e] X.env=(false,Bt e X.env) :: AO [] X.env:=by rfl):GE X E (.Call (.Name "min" p) [e] [] pos) (mQ Ny (Kn m)):=
 UU (bD g) Ym j l QK (ZC h) (by decide) (by decide) o
theorem j9(g:X.calm=true)(j:Gl X "max") (l:X.mg "max" = none) (h:GE X E e m) (o:AO [e] X.env=(false,Bt e X.env) :: AO [] X.env:=by rfl):GE X E (.Call (.Name "max" p) [e] [] pos) (mQ eI (Kn m)):=
 UU (bF g) Ym j l QM (ZC h) (by decide) (by decide) o
end
theorem Iq{g:Type}{xs:List g}{j:Int}{x:g}(h0:0<=j)(h:xs[j.toNat]?=some x):atI xs j=some x:=by
 have l:=(AD.mp h).1;unfold atI ixN;rw[qX (by omega),qX (by lia)];simpa using h
theorem Y9(hd:GZ d S=some ds)(h0:0<=j)(h:ds[j.toNat]?=some z):ixA d (.int j) S=.ok z S:=by
 show F4 (ixD d (.int j) S) _=_
 have:ixD d (.int j) S=.ok z S:=by
  unfold ixD;rw[hd];dsimp only;rw[Iq h0 h]
 rw[this];rfl
theorem au(h:m e S=.err c S1):C6 m e S=.ok (.ex c e) S1:=by
 unfold C6;rw[h];rfl
theorem OK{P:AV->Prop}:∀C∈([]:List AV),P C:=λ_ h=>zX h BL
theorem all_cons{P:AV->Prop}{a:AV}{l:List AV}(h:P a)(t:∀C∈l,P C):∀C∈a :: l,P C:=λC g=>by
 rcases Aq.mp g with e | g
 ·rw[e];exact h
 ·exact t C g
theorem cR{P:AV->Bool->Prop}{al ex:List AV}(g:∀C∈al,P C true)(j:∀C∈ex,C∉al->P C false)(C:AV)(b:Bool)(e:(if C∈al then some true else if C∈ex then some false else none)=some b):P C b:=by
 split at e
 ·cases e;exact g C ‹_›
 ·split at e
  ·cases e;exact j C ‹_› ‹_›
  ·cases e
theorem sD{g:Type}:∀{l:List g},l.length=1->∃j,l=[j]
 | [a],_=>⟨a,rfl⟩
theorem sC{j:Type}:∀{l:List j},l.length=2->∃m g,l=[m,g]
 | y :: _,q=>by
  obtain⟨g,rfl⟩:=sD (NS q);exact⟨y,g,rfl⟩
theorem rq{m:Type}:∀{l:List m},l.length=3->∃o g j,l=[o,g,j]
 | y :: _,q=>by
  obtain⟨g,j,rfl⟩:=sC (NS q);exact⟨y,g,j,rfl⟩
theorem rp{o:Type}:∀{l:List o},l.length=4->∃s g j m,l=[s,g,j,m]
 | y :: _,q=>by
  obtain⟨g,j,m,rfl⟩:=rq (NS q);exact⟨y,g,j,m,rfl⟩
theorem len5{s:Type}:∀{l:List s},l.length=5->∃A g j m o,l=[A,g,j,m,o]
 | y :: _,q=>by
  obtain⟨g,j,m,o,rfl⟩:=rp (NS q);exact⟨y,g,j,m,o,rfl⟩
section
theorem Qo{K}{ρ}{H}:∀{ns:ZLi} {g:List V},A9 K ρ H (ns.map D.int) g->g=ns.map V.int
 | [],_,.nil=>rfl
 | n :: ns,_,.cons r t=>by
  cases r;rw[Qo t];rfl
end
end L2
namespace PySem
open PySem.Sem (wp)
section
theorem Uj(hh:A.handled=none)(hl:s.heap.IsTuple l items)(hi:tK items.toList ns)(hb:items.size+1 < TF)
  (h:∀(h':CS) (tk:Nat),h'.SetOf (bZ prog w) s.heap.objs.size (λH=>(EQ (λi=>ns.getD i 0) items.size).any (·==H)) (EQ (λi=>ns.getD i 0) items.size).length ->
   (∀b o,b < s.heap.objs.size->s.heap.get? b=some o->h'.get? b=some o)->Q (.ref s.heap.objs.size) { s with heap:=h',toks:=tk }):Af (Am prog w) A (call (.type "set") [.ref l]) Q E s:=by
 obtain⟨c,tl,Y⟩:=F3.mro;have I:=F3.made;have wc:=F3.sub;refine QE (codeAny_of_tree ?_);show Af _ _ (callAny (.type "set") _) _ _ _;refine AI ⟨Code.quiet_builtin _ (by decide +kernel),U3 F.entry_type_call ?_⟩;rw[Bn.under_plain (weight_type_call_type "set" [.ref l] []) rfl];have h1:=F3.notType;have h2:=F3.canCreate;have hct:=F.typeCall_set_1 (.ref l);(repeat(any_goals (first | assumption | wp_step)))
 refine Ju (code_set_new_1 (.ref l) (E:=E) (Q₁:=λobj j=>∃g:Bool,obj=.ref s.heap.objs.size/\j={ s with heap:=s.heap.push { cls:=.type "set",dict:=none,data:=.set #[] 0 (.fresh 0 0 g) } }) λg=>⟨g,rfl,rfl⟩) λr j J=>?_
 cases r with
 | error e=>exact J
 | ok fl=>
  cases fl with
  | ret obj=>
   obtain⟨g,rfl,rfl⟩:=J;have Z:(s.heap.push { cls:=.type "set",dict:=none,data:=.set #[] 0 (.fresh 0 0 g) }).get? s.heap.objs.size=some { cls:=.type "set",dict:=none,data:=.set #[] 0 (.fresh 0 0 g) }:=Ag _ rfl;have hT:AL.TypeIs { s with heap:=s.heap.push { cls:=.type "set",dict:=none,data:=.set #[] 0 (.fresh 0 0 g) } } (.ref s.heap.objs.size) "set":=⟨_,Z,rfl⟩;have hli:=F3.init.lookup;have hbi:=F3.init.bind (.ref s.heap.objs.size);(repeat(any_goals (first | assumption | wp_step)))
   refine Ju (gy (R:=wants (λr m=>r=.none/\∃h' tk,m={ s with heap:=h',toks:=tk } /\
     h'.SetOf (bZ prog w) s.heap.objs.size (λH=>(EQ (λi=>ns.getD i 0) items.size).any (·==H)) (EQ (λi=>ns.getD i 0) items.size).length /\
     (∀b o,b < s.heap.objs.size->s.heap.get? b=some o->h'.get? b=some o)) E) F3.init.plain F.entry_set_init (check_set_init_1 hT ?_)) λC m L=>?_
   ·obtain⟨ol,yh,uM,nl,vX⟩:=hl
    obtain⟨ocls,zf,N,xH⟩:=ol;simp only at uM vX;subst uM;subst vX;have ϕ:(s.heap.push { cls:=.type "set",dict:=none,data:=.set #[] 0 (.fresh 0 0 g) }).get? l=some { cls:=.type "tuple",dict:=zf,data:=.seq items nl,slots:=xH }:=AJ _ yh
    have hsls:bL (.type "tuple") (.type "set")=pure false:=by rw[isSubtype_type];kernel_rfl
    have hslf:bL (.type "tuple") (.type "frozenset")=pure false:=by rw[isSubtype_type];kernel_rfl
    have tU:(Ea "tuple"==Ea "dict")=false:=by decide
    have uD:(s.heap.push { cls:=.type "set",dict:=none,data:=.set #[] 0 (.fresh 0 0 g) }).IsTuple l items:=⟨_,ϕ,rfl,nl,rfl⟩;unfold Builtin.«set.__init__» noKeywords hW;generalize O:lZ=PI
    wp_walk
    subst O;refine D5 uD (AA (wpAny_runValue ?_));have zg:l < s.heap.objs.size:=AX yh
    have P:A.in1.in1.in1.handled=none:=by simp[hh]
    have ϗ:l≠(s.heap.push { cls:=.type "set",dict:=none,data:=.set #[] 0 (.fresh 0 0 g) }).objs.size:=by
     rw[CV];exact Ax (FD zg)
    have S:s.heap.objs.size∉[(s.heap.push { cls:=.type "set",dict:=none,data:=.set #[] 0 (.fresh 0 0 g) }).objs.size,l]:=by
     rw[CV];simp only[Aq,AS,BL,or_false,not_or];exact⟨Ax (CG _),ED zg⟩
    have xI:∀(i:Nat) (v:AH),items[i]?=some v->∃t,v=.int ((λi=>ns.getD i 0) i) t:=λi v hv=>
     bR hi i v (by rw[Wq];exact hv)
    refine ss ((W2 P _ l ϗ items).toS) s.heap.objs.size S (λi=>ns.getD i 0) xI hb (items.size - 0) 0 _ (by lia) (CZ _)
     ⟨⟨_,Ag _ rfl,rfl,rfl⟩,(uD.push _)⟩ ?hS0 ?hR
    case hS0=>
     have uY:((s.heap.push { cls:=.type "set",dict:=none,data:=.set #[] 0 (.fresh 0 0 g) }).push { cls:=.type "tuple_iterator",data:=.fields #[.ref l,.int 0 0] }).get? s.heap.objs.size
       = some { cls:=.type "set",dict:=none,data:=.set #[] 0 (.fresh 0 0 g) }:=AJ _ Z
     exact tJ ((sk (knd:=bZ prog w) g).setOf uY (by unfold TF;lia)) (λ_=>rfl) rfl
    case hR=>
     intro s' G T;obtain⟨h',g',d',Lf,Λ⟩:=s';have eg:g'=s.gens:=G.gens;have ed:d'=s.drawn:=G.drawn;have eo:Λ=s.os:=G.os;subst eg;subst ed;subst eo;show Af _ _ _ _ _ _;refine AI ?_;show Af _ _ (ret Be) _ _ _;refine AI ⟨rfl,h',Lf,rfl,T,λb o hb e=>?_⟩;have U:b≠s.heap.objs.size:=Ax hb
     have X:b≠(s.heap.push { cls:=.type "set",dict:=none,data:=.set #[] 0 (.fresh 0 0 g) }).objs.size:=by
      rw[CV];exact Ax (FD hb)
     exact G.heap b o (by simp only[Aq,AS,BL,or_false,not_or];exact⟨U,X⟩) (AJ _ (AJ _ e))
   ·cases C with
    | error e=>exact L
    | ok B=>
     cases B with
     | ret r=>
      obtain⟨rfl,h',tk,rfl,T,uh⟩:=L;(repeat(any_goals (first | assumption | wp_step)));exact h _ _ T uh
     | _=>exact L.elim
  | _=>exact J.elim
end
end PySem
namespace L2
def Ol(ns:ZLi):Nat:=(firstMet (λi=>ns.getD i 0) ns.length).length
section
def ii(K:AG)(te:TE):TE:=λl H Q=>te l H λx j=>∃q g,x=.ref q/\(SqT K j q (JC V.int g)∨SqL K j q (g.map V.int))/\g.length<=4000/\Q (.int (Ol g)) j
theorem aH(hc:X.calm=true)(hg:Gl X "len") (hm:X.mg "len" = none) (xJ:Gl X "set") (t6:X.mg "set" = none) (h:PE X e te)
  (he:AO [e] X.env=(false,Bt e X.env) :: AO [] X.env:=by rfl) (uk:AO [.Call (.Name "set" N) [e] [] J] X.env=(false,Bt (.Call (.Name "set" N) [e] [] J) X.env) :: AO [] X.env:=by rfl) :
  PE X (.Call (.Name "len" p) [.Call (.Name "set" N) [e] [] J] [] pos) (ii X.K te):=by
 intro O s P H Q I hq;refine DR (Jg I hg hm boot_len ?_ (by decide) (by decide));refine Mr ?_ uk rfl;rw[uk];show Af _ _ (bY ((false,Bt (.Call (.Name "set" N) [e] [] J) X.env) :: Cp pos (AO [] X.env))) _ _ s;refine GY ?_;refine DR (Jg I xJ t6 tD ?_ (by decide) (by decide));refine B7 (thn (EF h Gj he J O s P H (λC m=>match C with | [x]=>∃q j,x=.ref q/\(SqT X.K m q (JC V.int j)∨SqL X.K m q (j.map V.int))/\j.length<=4000/\Q (.int (Ol j)) m | _=>False) I hq) λus l ⟨C,m,R,S,T⟩=>?_) he rfl
 match C,S,T with
 | [x],S,T=>
  obtain⟨q,j,rfl,sq,hl,k⟩:=T;obtain⟨u,rfl,ru⟩:=vals1 S;cases ru
  have fin:∀(n:Nat),n=j.length->∀(B:CS) (tk:Nat),B.SetOf (bZ X.prog X.w) l.heap.objs.size (λk'=>(firstMet (λi=>j.getD i 0) n).any (·==k')) (firstMet (λi=>j.getD i 0) n).length ->
    (∀b o,b < l.heap.objs.size->l.heap.get? b=some o->B.get? b=some o)->Af (Am X.prog X.w) X.A (bY (Cp pos (AO [] X.env))) (λC E=>Af (Am X.prog X.w) X.A (call (.builtin "len") (.ref l.heap.objs.size :: C)) (EP X O P Q) X.xe E) X.xe { l with heap:=B,toks:=tk }:=λn hn B tk hS hk=>by
   refine Jr ?_;obtain⟨o,es,ep,t,ho,hex,hd,_,_,wH,hf,U⟩:=hS;have Y:(es.size:Int) < 2 ^ 63:=JW (show(es.size:Int) < 4096 by unfold TF at wH;lia) (by decide);refine call_len_set (s:={ l with heap:=B,toks:=tk }) ho hex hd hf Y ?_
   have I2:Inv X O P m { l with heap:=B,toks:=tk+1+1 }:=R.kept λb o e=>hk b o (AX e) e
   refine⟨.int (Ol j),m,I2,⟨tk+1,?_⟩,k⟩;rw[U,hn];rfl
  rcases sq with sq | sq
  ·obtain⟨L,G,Z,Y⟩:=R.tuple sq
   have g:=G.length;rw[AF]at g;exact Uj (I.ok.hd hc) (show l.heap.IsTuple q L.toArray from Z) (by simpa using intsAre_of G) (by rw[AQ];unfold TF;lia) (fin L.toArray.size (by rw[AQ];lia))
  ·obtain⟨L,G,Z,Y⟩:=R.list sq
   have g:=G.length;rw[AF]at g;exact PySem.call_set_list (I.ok.hd hc) Z.isList (by simpa using intsAre_of G) (by rw[AQ];unfold TF;lia) (fin L.toArray.size (by rw[AQ];lia))
def P8(m:ME):ME:=λe S=>(m e S).bind λd g=>match GZ d g with
 | some l=>match Gn l with
  | some j=>if j.length<=4000 then .ok (.int (Ol j)) g else .bad
  | none=>.bad
 | none=>.bad
theorem ak(I:X.calm=true)(J:Gl X "len") (g:X.mg "len" = none) (L:Gl X "set") (N:X.mg "set" = none) (h:GE X E e m)
  (O:AO [e] X.env=(false,Bt e X.env) :: AO [] X.env:=by rfl) (P:AO [.Call (.Name "set" A) [e] [] B] X.env=(false,Bt (.Call (.Name "set" A) [e] [] B) X.env) :: AO [] X.env:=by rfl) :
  GE X E (.Call (.Name "len" p) [.Call (.Name "set" A) [e] [] B] [] pos) (P8 m):=(aH I J g L N h O P).imp<|by
 rintro σ H Q ⟨R,l,S,T,U,g⟩
 refine⟨R,l,S,T,U,g.seq λd Y g j Z x l1 C r1=>?_⟩
 cases o:GZ d Y with
 | none=>rw[o]at g;exact g.elim
 | some ds=>
  rw[o]at g;dsimp only at g
  cases s:Gn ds with
  | none=>rw[s]at g;exact g.elim
  | some ns=>
   rw[s]at g;dsimp only at g;split at g
   ·rename_i hn
    obtain⟨q,xs,rfl,G,sq⟩:=Nk C r1 o;rw[Ij s]at G;rw[Qo G]at sq;exact⟨q,ns,rfl,sq.symm,hn,g j Z _ l1 C (.int _)⟩
   ·exact g.elim
end
def Lu(mk mv:ME):ME:=λe S=>(mk e (S++[.dK []])).bind λx j=>(mv e j).bind λy g=>match g[S.length]?,aV x with
 | some (.dK []),some k=>.ok (.ref S.length) (g.set S.length (.dK (FX [] k y)))
 | _,_=>.bad
section
theorem WI(Y:GE X E k mk)(Z:GE X E v mv):GE X E (.Dict [some k] [v] pos) (Lu mk mv):=
 (jT (dR Y Z jL) rfl rfl (by simp) (by simp)).imp<|by
 rintro σ H Q ⟨N,l,S,O,hs,g⟩ p hp
 obtain⟨s0,A,at0⟩:=hs.alloc (ho:=.dK []) (o:=.dK []) hp ⟨[],Bq,.nil⟩;refine⟨N++[p],l,S++[.dK []],O.mono A,s0,(g.later A).seq λx S1 g G H1 u m s1 r1=>⟨G,l,S1,O.mono (A.trans m),s1,(g.later m).seq λy S2 g j B w C P r2=>?_⟩⟩;have R:B2 X.K (N++[p]) (upd H p (.dK [])) (.ref S.length) (.ref p):=.ref at0;have I:=R.mono (m.trans C)
 show B p=some (.dK [])/\∃J:List (Key×V),[(u,w)]=J.map (λT=>(kV T.1,T.2))/\J.length<=15/\Q (.ref p) (upd B p (.dK (Os [] J)))
 split at g
 ·rename_i s h4 uh
  cases I with
  | @ref _ a L=>
   obtain⟨t8,e,r⟩:=P.ob S.length _ _ h4 L;cases r;rw[N4 (r1.mono C) uh];have le:Le X.K j B j (upd B p (.dK (Ga [] s w))):=Le.write L (by rw[e];trivial);obtain⟨s5,U⟩:=P.write (ho:=.dK (Ga [] s w)) (o:=.dK (FX [] s y)) L ⟨_,Bq,(KVR.put s r2 .nil).mono le⟩ le;exact⟨e,[(s,w)],rfl,by simp,g j _ _ (A.trans (m.trans (C.trans U))) s5 ((R.mono (m.trans C)).mono U)⟩
 ·exact g.elim
end
end L2
namespace PySem
open AutoSeq1 in
theorem ND(l:AV)(j:Array AH)(n:Nat)(b:AV)(m:Array AH)(C:Nat)(E:Option AV)(sl:Array (Option AH))(J:¬(!j.isEmpty&&Dv (j.size+m.size))=true)(G:j.size<=sizeLine)(H:j.size+m.size<=sizeLine+1) :
  Meets (Builtin.«list.extend» ⟨[.ref l,.ref b],[]⟩) (λ_ R s=>s.heap.get? l=some { cls:=.type "list",dict:=none,data:=.seq j n,slots:=#[] }/\s.heap.get? b=some { cls:=.type "tuple",dict:=E,data:=.seq m C,slots:=sl }/\R (.ok (.ret Be)) { s with heap:=s.heap.update l (Hm λx=>x++m),toks:=s.toks }):=
 .of_wp λo w A R s h=>by
  obtain⟨L,g,d,tk,os⟩:=s;obtain⟨B,hb,h⟩:=h;have N:=idx_int;have O:=AutoSeq1.sub_tuple_tuple;have P:=AutoSeq1.sub_list_list;have Q:=AutoSeq1.sub_tuple_list;have S:=AutoSeq1.sub_list_tuple;
  have I:(j++m).size<=sizeLine+1:=by rw[Array.size_append];exact H
  wp_walk using(wpAny_updateSeq B rfl (hz:=G) (_hz':=I)),Cj B,Cj hb;exact⟨_,rfl,h⟩
end PySem
namespace L2
def rC(K:AG):V->List V->Hp->VK->Prop:=λx m H Q=>∃l b g j,x=.ref l/\m=[.ref b]/\H l=some (.lst g)/\SqT K H b j/\g.length+j.length<=sizeLine/\Q .non (upd H l (.lst (g++j)))
theorem jl:MtM X "list.extend" (rC X.K):=by
 intro R s S H x T v U Q I C E h;obtain⟨l,b,Y,Z,rfl,rfl,A,G,hz,q⟩:=h;cases C;obtain⟨u,rfl,J⟩:=E.one;cases J;obtain⟨z,g,n,r,hl,e⟩:=I.lstM A;obtain⟨j,B,⟨⟨c,L,N,sl⟩,O,m,n2,hd⟩,z2⟩:=I.tuple G
 replace m:c=.type "tuple":=m
 replace hd:N=.seq j.toArray n2:=hd
 subst m hd;have ue:=B.length
 have o:g.toArray.size+j.toArray.size<=sizeLine:=by rw[AQ,AQ];lia
 have P:¬(!g.toArray.isEmpty&&Dv (g.toArray.size+j.toArray.size))=true:=by
  rw[V0 o,kx];exact Ac
 refine M3 hV ⟨_,e,rfl⟩ gm (br _ _)
  (ND l g.toArray n b j.toArray n2 L sl P (by rw[AQ];lia) (by lia)) ⟨e,O,?_⟩
 refine⟨.non,_,I.lset (its':=g++j) A e (by simp) (r.append B) ?_,rfl,q⟩;rw[AK];omega
def V9(mo ma:ME):ME:=λe S=>(mo e S).bind λd g=>match atL d g with
 | some (n,_)=>(ma e g).bind λy j=>match atL d j,y with
  | some (_,l),.tup m=>if l.length+m.length<=sizeLine then .ok .non (j.set n (.lst (l++m)))else .bad
  | _,_=>.bad
 | none=>.bad
section
theorem kB(ho:GE X E o mo)(Y:GE X E e ma)(Z:DZ o "extend" X.env (Bt o X.env)=Bt o X.env:=by rfl)
  (ud:((Cp g (AO [e] X.env)).all (λx=>!x.1)&&(Mf g (HG [] X.env)).all (λx=>x.1.isSome)
    &&decide ([e].length+([]:List Fe).length+(if ([]:List Fe).isEmpty then 0 else 1) < 30))=true:=by rfl)
  (tR:(m.endLine==g.line)=true:=by rfl) (s:AO [e] X.env=(false,Bt e X.env) :: AO [] X.env:=by rfl) (tj:(Cp g (AO [] X.env)).any (·.1)=false:=by rfl) :
  GE X E (.Call (.Attribute o "extend" m) [e] [] g) (V9 mo ma):=(Yv GB Rx Rv jl ho (EF Y Gj s) Z ud tR s tj).imp<|by
 rintro σ H Q ⟨ρ,l,S,I,s,j⟩
 refine⟨ρ,l,S,I,s,j.seq λd J j A H1 v B L N=>?_⟩
 cases C:atL d J with
 | none=>rw[C]at j;exact j.elim
 | some z=>
  obtain⟨n,ν⟩:=z;rw[C]at j;dsimp only at j;obtain⟨rfl,h0,a,yf,rfl,hn,e0,_⟩:=NM L N C;refine⟨.inl ⟨rfl,yf,.inl (.inl e0)⟩,A,l,J,I.mono B,L,(j.later B).seq λy S2 j G H2 u O P r2=>?_⟩;split at j
  ·rename_i n' xs ys h2
   split at j
   ·rename_i hz
    obtain⟨e',h4,a',vs,ea,u9,R,T⟩:=NM P (N.mono O) h2;cases e';cases ea
    cases r2 with
    | tup b1 U=>
     obtain⟨s3,l3⟩:=T8 P u9 R (T.append U);exact⟨a,_,vs,_,rfl,rfl,R,.inl (.inl b1),by rw[<-T.length,<-U.length];exact hz,j G _ _ (B.trans (O.trans l3)) s3 .non⟩
   ·exact j.elim
  ·exact j.elim
end
def rIns:V->List V->Hp->VK->Prop:=λx j H Q=>∃l g i y,x=.ref l/\j=[.int i,y]/\H l=some (.lst g)/\0<=i/\i < 2 ^ 63/\g.length+1<=sizeLine/\Q .non (upd H l (.lst (g.take i.toNat++[y]++g.drop i.toNat)))
section
theorem aP:MtM X "list.insert" rIns:=by
 intro G s J H x L v N Q I m o h;obtain⟨l,O,i,y,rfl,rfl,j,P,A,R,q⟩:=h;cases m;obtain⟨u,w,rfl,B,C⟩:=vals2 o;obtain⟨t,rfl⟩:=B;obtain⟨z,g,n,r,S,e⟩:=I.lstM j
 have E:¬(!Builtin.List.listFitsIndex i)=true:=by
  rw[fitsIndex_both (by lia) A];exact Ac
 refine M3 F.slot_list_insert ⟨_,e,rfl⟩ F.entry_list_insert (F.args_list_insert_3 _ _ _)
  (AutoListH.list_insert_list_int_val_1 l g.toArray n i t w E (by rw[AQ];lia)) ⟨e,?_⟩
 refine⟨.non,_,I.lset (its':=g.take i.toNat++[w]++g.drop i.toNat) j e ?_ (((r.take _).append (.cons C .nil)).append (r.drop _)) ?_,rfl,q⟩
 ·show(g.toArray.extract 0 (if i < 0 then(i+((g.toArray.size:Nat):Int)).toNat else min i.toNat g.toArray.size)).push w++g.toArray.extract (if i < 0 then(i+((g.toArray.size:Nat):Int)).toNat else min i.toNat g.toArray.size)=_
  rw[qY (by lia)]
  apply qi
  rw[AQ]
  by_cases c:i.toNat<=g.length
  ·rw[IZ c]
   simp;rw[Bg (by rw[CD];lia)]
  ·rw[QO (by lia),Bg (by lia),List.drop_of_length_le (by lia)]
   simp
 ·simp only[AK,Bk,CD,Al]
  omega
end
def eO(mo mi m:ME):ME:=λe S=>(mo e S).bind λd j=>match atL d j with
 | some (n,_)=>(mi e j).bind λx o=>(m e o).bind λy l=>match atL d l,x with
  | some (_,g),.int i=>if 0<=i/\i < 1000000/\g.length+1<=sizeLine then .ok .non (l.set n (.lst (g.take i.toNat++[y]++g.drop i.toNat)))else .bad
  | _,_=>.bad
 | none=>.bad
theorem A9.drop'{K}{ρ}{H}:∀{ds:List D} {g:List V},A9 K ρ H ds g->∀k,A9 K ρ H (ds.drop k) (g.drop k)
 | _,_,.nil,k=>by rw[lr,lr];exact .nil
 | _,_,.cons r t,k=>by
  cases k with
  | zero=>exact .cons r t
  | succ k=>exact A9.drop' t k
section
theorem pJ(ho:GE X E o mo)(he:GE X E e mi)(hf:GE X E f my)(tQ:DZ o "insert" X.env (Bt o X.env)=Bt o X.env:=by rfl)
  (ud:((Cp g (AO [e,f] X.env)).all (λx=>!x.1)&&(Mf g (HG [] X.env)).all (λx=>x.1.isSome)
    &&decide ([e,f].length+([]:List Fe).length+(if ([]:List Fe).isEmpty then 0 else 1) < 30))=true:=by rfl)
  (tR:(m.endLine==g.line)=true:=by rfl) (A:AO [e,f] X.env=(false,Bt e X.env) :: AO [f] X.env:=by rfl) (u7:AO [f] X.env=(false,Bt f X.env) :: AO [] X.env:=by rfl) (tj:(Cp g (AO [f] X.env)).any (·.1)=false:=by rfl) :
  GE X E (.Call (.Attribute o "insert" m) [e,f] [] g) (eO mo mi my):=(Yv GB PySem.F.slot_list_insert PySem.F.type_list_insert aP ho (EF he (EF hf Gj u7) A) tQ ud tR A tj).imp<|by
 rintro σ H Q ⟨ρ,l,S,G,A,j⟩
 refine⟨ρ,l,S,G,A,j.seq λd R j I H1 v B T U=>?_⟩
 cases J:atL d R with
 | none=>rw[J]at j;exact j.elim
 | some z=>
  obtain⟨n,ν⟩:=z;rw[J]at j;dsimp only at j;obtain⟨rfl,h0,a,yf,rfl,hn,e0,_⟩:=NM T U J;refine⟨.inl ⟨rfl,yf,.inl (.inl e0)⟩,I,l,R,G.mono B,T,(j.later B).seq λx S2 j L H2 u C s2 r2=>⟨L,l,S2,G.mono (B.trans C),s2,(j.later C).seq λy S3 s N H3 w Y Z r3=>?_⟩⟩;split at s
  ·rename_i n' xs i h2
   split at s
   ·rename_i O
    obtain⟨e',h4,a',vs,ea,u9,e2,P⟩:=NM Z (U.mono (C.trans Y)) h2;cases e';cases ea;cases r2;obtain⟨s4,l4⟩:=T8 Z u9 e2 (((P.take i.toNat).append (.cons r3 .nil)).append (P.drop' i.toNat));exact⟨a,vs,i,w,rfl,rfl,e2,O.1,Int.lt_trans O.2.1 (by decide),by rw[<-P.length];exact O.2.2,s N _ _ (B.trans (C.trans (Y.trans l4))) s4 .non⟩
   ·exact s.elim
  ·exact s.elim
end
section
def zipDs(xs ys:List D):List D:=(xs.zip ys).map λx=>.tup [x.1,x.2]
end
section
instance(i j:Int):Decidable ((λ_ j:Int=>0<=j) i j):=inferInstanceAs (Decidable (0<=j))
end
open PySem.SeqAt
section
variable{P:Bb}{w:By}{K:AG}{mg:Str->Option AH}{base:CS}
theorem IL(g:N.Nodup:=by decide +kernel)(j:∀x∈ps,sc.names.lookup x=some .local∨sc.names.lookup x=some .cell:=by decide +kernel)(l:∀y∈sc.names,y.2≠.free:=by decide +kernel)(m:sc.kind=.function:=by rfl)(o:sc.isCoroutine=false:=by rfl)(s:sc.isGenerator=false:=by rfl)(A:N.take ps.length=ps:=by rfl):CL N ps sc:=⟨m,o,s,g,A,j,l⟩
theorem Cw{x j}{st}{f}{fd}{N ps}{k n}(F:Fun K x j st f fd)(m:CL N ps (BV st))(C:ps.length=n){mb}
  (G:∀(l:AH) (A:Bn) (g:List Env) (s:AL) (H:Hp) (E:XK),Hx k (A.deeper (M1 j (BV st) s.heap.objs.size f l))->KH (Ue (CXG P w) P w K mg base N j (BV st) f l A g s H E)->(A.deeper (M1 j (BV st) s.heap.objs.size f l)).units+64 < Ej->N.Nodup ->
   ∀pn o,GSs ((Ue (CXG P w) P w K mg base N j (BV st) f l A g s H E).w' pn o) o (IQ st) mb) :
  EO P w K mg base (CXG P w) (k+1) f fd ps (spM K n (E5 N.length mb)):=pO F m C λl A g s H E B=>G l A g s H E B ⟨rfl,rfl,rfl⟩ B.units m.nd
end
section
variable{X:Cx}{E:EW}{e:Expr}
theorem CB(i:Nat)(g:X.N.Nodup)(hi:X.N[i]?=some x:=by rfl)(j:Loc X.env.scope x:=by first | exact Uw rfl | exact Re rfl)(l:X.fn x=true∨X.env.scope.names.lookup x=some .local:=by first | exact .inl rfl | exact .inr rfl | assumption):GG X (.Name x pos) (tgN i):=j7 (jQ g hi j l)
theorem Br(i:Nat)(j:X.N.Nodup)(l:GE X E e m)(hi:X.N[i]?=some x:=by rfl)(o:Loc X.env.scope x:=by first | exact Uw rfl | exact Re rfl)(s:GR e (some (.Name x g)) pos.line X.env=pure false:=by rfl)
  (A:X.fn x=true∨X.env.scope.names.lookup x=some .local:=by first | exact .inl rfl | exact .inr rfl | assumption):GS X E (.Assign [.Name x g] e pos) (Bu i m):=pD j hi o l s A
end
open MeetsSeq
theorem Pm{M:Ry}{A:Bn}{E:AH->AL->Prop}{s:AL}{j:Type}(f:Nat->j->Sem (ForInStep j))(I:List Nat->j->AL->Prop)(Q:j->AL->Prop)
  (turn:∀x g b s,I (x :: g) b s->Af M A (f x b) (λr s'=>match r with | .yield l=>I g l s' | .done l=>Q l s') E s)
  (fin:∀b s,I [] b s->Q b s) (n:Nat) (b:j) (h:I (qV 0 n) b s):Af M A (forIn [0:n] b f) Q E s:=by
 rw[km];refine wpAny_forIn_list f I Q turn fin _ b ?_;simpa[kj]using h
theorem Tr(l:AV)(o:Array AH)(n:Nat)(dd:Option AV)(sl:Array (Option AH))(x:AH)(e:AH->Bool)(J:∀y,y∈o->EqGives y x (e y))(j:Nat)(Q:j < o.size)
  (G:e o[j]=true) (L:∀m (S:m < o.size),m < j->e o[m]=false) :
  Meets (Builtin.«tuple.index» ⟨[.ref l,x],[]⟩)
   (λ_ R s=>s.heap.get? l=some { cls:=.type "tuple",dict:=dd,data:=.seq o n,slots:=sl }/\R (.ok (.ret (.int j s.toks))) { s with toks:=s.toks+1 }):=
 .of_wp λC w A R s h=>by
  obtain⟨N,g,d,tk,os⟩:=s;obtain⟨O,h⟩:=h
  wp_walk using Cj O,Pm _ (λB b H=>b.1=none/\H=⟨N,g,d,tk,os⟩/\∃i,i<=j/\B=qV i (o.size - i)) _
  case turn=>
   rintro i B b H ⟨hb,rfl,k,P,E⟩
   have I:k < o.size:=by omega
   rw[show o.size - k=(o.size - (k+1))+1 by omega,List.range'_succ]at E;cases E;rw[D2 I];refine AA (J _ (Array.getElem_mem I) C w _ _ _ _ ?_)
   by_cases c:i=j
   ·subst c
    rw[G]
    wp_walk
    exact⟨_,rfl,h⟩
   ·rw[L i I (by omega)]
    wp_walk
    exact⟨rfl,rfl,i+1,by omega,rfl⟩
  case fin=>
   rintro b H ⟨hb,rfl,k,P,E⟩;have:=congrArg EB E;rw[List.length_range',GU]at this;omega
  case h=>
   exact⟨rfl,rfl,0,CZ _,by simp⟩
noncomputable def NE(k:Int):ZLi->Option Nat
 | []=>none
 | x :: l=>if x=k then some 0 else(NE k l).map (· + 1)
theorem UP:∀{l:ZLi} {j:Nat},NE k l=some j->∃h:j < l.length,l[j]=k/\∀m (g:m < l.length),m < j->l[m]≠k
 | [],j,h=>by cases h
 | x :: l,j,h=>by
  unfold NE at h;split at h
  ·rename_i c
   cases h;exact⟨by simp,c,λm _ g=>zX g (Ep _)⟩
  ·rename_i c
   cases o:NE k l with
   | none=>rw[o]at h;cases h
   | some i=>
    rw[o]at h;cases h;obtain⟨C,s,A⟩:=UP o;refine⟨by simp;omega,s,λm g B=>?_⟩
    cases m with
    | zero=>exact c
    | succ m=>exact A m (by simp at g;omega) (Nat.lt_of_succ_lt_succ B)
theorem isInt_at:∀{g:List AH} {ns:ZLi},IntsAre g ns->∀(j:Nat) (h:j < g.length) (h':j < ns.length),isInt k g[j]=(ns[j]==k)
 | _,_,.nil,j,h,_=>zX h (Ep _)
 | _,_,.cons n t r,0,_,_=>rfl
 | _,_,.cons n t r,j+1,h,h'=>isInt_at r j (by simp at h;omega) (by simp at h';omega)
def rIdx:V->List V->Hp->VK->Prop:=λx l H Q=>∃p g k j,x=.ref p/\l=[.int k]/\H p=some (.tup (g.map V.int))/\NE k g=some j/\Q (.int j) H
section
variable{X:Cx}
theorem eC:MtM X "tuple.index" rIdx:=by
 intro Y s Z H x vs v us Q I G J h;obtain⟨p,ns,k,j,rfl,rfl,L,N,q⟩:=h;cases G;obtain⟨u,rfl,O⟩:=vals1 J;obtain⟨t,rfl⟩:=O;obtain⟨_,l,r,⟨cl,P,dt,sl⟩,A,B,n,hd⟩:=(show C7 X.prog X.w H s.heap p (.tup (ns.map V.int))from I.hok p _ L);dsimp only at B hd;subst B hd;have o:IntsAre l ns:=intsAre_of r
 have g:l.length=ns.length:=by have:=r.length;rw[AF]at this;exact this.symm
 obtain⟨C,R,S⟩:=UP N
 refine M3 Rw ⟨_,A,rfl⟩ PySem.F.entry_tuple_index (PySem.F.args_tuple_index_2 _ _)
  (Tr p l.toArray n P sl (.int k t) (isInt k) (λy T=>eq_isInt k t o y (by simpa using T)) j (by simpa[g]using C) ?_ λm E U=>?_) ⟨A,.int j,H,I.kept (t':=s.toks+1) (h':=s.heap) (λ_ _ e=>e),⟨_,rfl⟩,q⟩
 ·rw[YN,isInt_at o j (by omega) C,R]
  simp
 ·rw[AQ]at E
  rw[YN,isInt_at o m E (by omega)];exact beq_false_of_ne (S m (by omega) U)
variable{o e:Expr}{es:List Expr}{to:TE}{t:TA}{name:Str}{apos cpos:Pos}{id:String}{r:V->List V->Hp->VK->Prop}
theorem oA(J:PlainAttrs "tuple") (j:Slot "tuple" name id) (L:typeOf (.builtin id)=pure (.type "method_descriptor")) (N:MtM X id r) (ho:PE X o to) (O:PA X (e :: es) t)
  (P:DZ o name X.env (Bt o X.env)=Bt o X.env:=by rfl)
  (R:((Cp cpos (AO (e :: es) X.env)).all (λx=>!x.1)&&(Mf cpos (HG [] X.env)).all (λx=>x.1.isSome)
    &&decide ((e :: es).length+([]:List Fe).length+(if ([]:List Fe).isEmpty then 0 else 1) < 30))=true:=by rfl)
  (S:(apos.endLine==cpos.line)=true:=by rfl) (T:AO (e :: es) X.env=(false,Bt e X.env) :: AO es X.env:=by rfl) (U:(Cp cpos (AO es X.env)).any (·.1)=false:=by rfl) :
  PE X (.Call (.Attribute o name apos) (e :: es) [] cpos) (λg H Q=>to g H λx l=>(∃p xs,x=.ref p/\l p=some (.tup xs))/\t g l λxs m=>r x xs m Q):=by
 intro A s g H Q I h;refine bW P R S rfl (thn (ho A s g H _ I h) λv B ⟨x,l,C,E,⟨p,xs,ex,Y⟩,Z⟩=>?_);subst ex;have rv:=E;cases E;obtain⟨⟨_,o2,e2,c2⟩,sN,_,o3,e3,c3,_⟩:=(show C7 X.prog X.w l B.heap p (.tup xs)from C.hok p _ Y);refine⟨"tuple",id,J,j,L,⟨o3,e3,c3⟩,λa ea=>by cases ea;exact⟨o2,e2,c2⟩,?_⟩;have G:=O cpos A B g l _ C Z;rw[T]at G ⊢;refine LL (by show(false||(Cp cpos (AO es X.env)).any (·.1))=false;rw[U] <;> rfl) (Ho ?_)
 exact thn G λus s2 ⟨vs,m,I2,r2,q2⟩=>N A s2 g m _ vs _ us Q I2 rv r2 q2
end
def Q5(mo mi:ME):ME:=λe S=>(mo e S).bind λd g=>match d with
 | .tup l=>(mi e g).bind λx m=>match Gn l,x with
  | some o,.int k=>match NE k o with
   | some j=>.ok (.int j) m
   | none=>.bad
  | _,_=>.bad
 | _=>.bad
section
variable{X:Cx}{E:EW}{o e:Expr}{mo mi:ME}{apos cpos:Pos}
theorem WG(ho:GE X E o mo)(L:GE X E e mi)(N:DZ o "index" X.env (Bt o X.env)=Bt o X.env:=by rfl)
  (O:((Cp cpos (AO [e] X.env)).all (λx=>!x.1)&&(Mf cpos (HG [] X.env)).all (λx=>x.1.isSome)
    &&decide ([e].length+([]:List Fe).length+(if ([]:List Fe).isEmpty then 0 else 1) < 30))=true:=by rfl)
  (P:(apos.endLine==cpos.line)=true:=by rfl) (m:AO [e] X.env=(false,Bt e X.env) :: AO [] X.env:=by rfl) (R:(Cp cpos (AO [] X.env)).any (·.1)=false:=by rfl) :
  GE X E (.Call (.Attribute o "index" apos) [e] [] cpos) (Q5 mo mi):=(oA PySem.F.plainAttrs_tuple Rw PySem.F.type_tuple_index eC ho (EF L Gj m) N O P m R).imp<|by
 rintro σ H Q ⟨T,l,S,G,m,s⟩
 refine⟨T,l,S,G,m,s.seq λd U s A H1 v B Y Z=>?_⟩
 cases d <;> first | exact s.elim | skip
 rename_i ds
 cases Z with
 | @tup _ a vs I h2=>
  refine⟨⟨a,vs,rfl,I⟩,A,l,U,G.mono B,Y,(s.later B).seq λx S2 g C H2 u J s2 r2=>?_⟩;split at g
  ·rename_i ns k vI
   split at g
   ·rename_i j hj
    cases r2;have e1:=Ij vI;subst e1;have e2:=Qo h2;subst e2;exact⟨a,ns,k,j,rfl,rfl,J.tup _ _ I,hj,g C H2 _ (B.trans J) s2 (.int _)⟩
   ·exact g.elim
  ·exact g.elim
end
section
variable{X:Cx}{E:EW}{e:Expr}{p pos:Pos}
def Y5(m:ME):ME:=λe S=>(m e S).bind λd g=>match d with
 | .ref n=>match g[n]? with
  | some (.dK j)=>.ok (.int j.length) g
  | _=>.bad
 | _=>.bad
theorem kA(I:Gl X "len") (j:X.mg "len" = none) (h:GE X E e m) (B:AO [e] X.env=(false,Bt e X.env) :: AO [] X.env:=by rfl):GE X E (.Call (.Name "len" p) [e] [] pos) (Y5 m):=
 (Lq bG I j g8 (EF h Gj B) (by decide) (by decide) B rfl).imp<|by
 rintro σ H Q ⟨J,l,S,o,L,j⟩
 refine⟨J,l,S,o,L,j.seq λd N g s O x P C R=>?_⟩
 cases d <;> first | exact g.elim | skip
 rename_i n
 cases R with
 | @ref _ a T=>
  dsimp only at g
  cases A:N[n]? with
  | none=>rw[A]at g;exact g.elim
  | some U=>
   rw[A]at g
   cases U <;> first | exact g.elim | skip
   rename_i Y;obtain⟨G,Z,rr⟩:=C.ob n _ a A T;have o:Y.length=G.length:=EA rr;exact⟨a,G,rfl,Z,by rw[<-o];exact g s O _ P C (.int _)⟩
end
section
def qL(m:ME):ME:=λe S=>(m e S).bind λd g=>match d with
 | .ref n=>match g[n]? with
  | some (.dK j)=>.ok (.ref g.length) (g++[.lst (j.map (·.2))])
  | _=>.bad
 | _=>.bad
def jw(d:D)(S:Sto):Bool:=match d with
 | .ref n=>match S[n]? with
  | some (.dK _)=>true
  | some (.dT _)=>true
  | some (.fK _)=>true
  | some (.fT _)=>true
  | _=>false
 | _=>false
theorem jv{K}{ρ}{S}{H}{d}{x}(s:CK K ρ S H)(r:B2 K ρ H d x)(h:jw d S=true):∃a,x=.ref a/\IsD H a:=by
 cases r with
 | @ref n a A=>
  obtain⟨o,B,j⟩:=s.there A;unfold jw at h;simp only[B]at h
  cases o with
  | dK l=>obtain⟨g,e,_⟩:=j;exact⟨a,rfl,.inl ⟨g,.inl e⟩⟩
  | dT l=>obtain⟨g,e,_⟩:=j;exact⟨a,rfl,.inr ⟨g,.inl e⟩⟩
  | fK l=>obtain⟨m,g,e,_⟩:=j;exact⟨a,rfl,.inl ⟨g,.inr ⟨m,e⟩⟩⟩
  | fT l=>obtain⟨m,g,e,_⟩:=j;exact⟨a,rfl,.inr ⟨g,.inr ⟨m,e⟩⟩⟩
  | _=>cases h
 | _=>cases h
def So(mo l m:ME):ME:=λe S=>(mo e S).bind λd g=>if jw d g=true then(l e g).bind λy s=>(m e s).bind λz j=>match Ml d y j with
  | some o=>.ok (o.getD z) j
  | none=>.bad
 else .bad
theorem UZ(Y:X.A.units+1 < Ej)(ho:GE X E o mo)(Z:GE X E e me)(hf:GE X E f mf)(t6:M2 X o "get" m e f cpos:=by exact⟨rfl,rfl,rfl,rfl⟩):GE X E (.Call (.Attribute o "get" m) [e,f] [] cpos) (So mo me mf):=
 (df Y ho Z hf t6).imp<|by
 rintro σ H Q ⟨ρ,l,S,I,hs,j⟩
 refine⟨ρ,l,S,I,hs,j.seq λd S1 j J H1 x s R T=>?_⟩;split at j
 ·rename_i hd
  obtain⟨a,rfl,L⟩:=jv R T hd;refine⟨a,rfl,L,J,l,S1,I.mono s,R,(j.later s).seq λy S2 j N H2 yv B s2 r2=>⟨N,l,S2,I.mono (s.trans B),s2,(j.later B).seq λz S3 j C U zv G O r3=>?_⟩⟩
  cases P:Ml d y S3 with
  | none=>rw[P]at j;exact j.elim
  | some ov=>
   rw[P]at j;obtain⟨b,o',eb,g,g1,g2⟩:=QC O (T.mono (B.trans G)) (r2.mono G) P;cases eb;refine⟨o',g,?_⟩
   cases ov with
   | none=>rw[g1 rfl];exact j C U _ (s.trans (B.trans G)) O r3
   | some dv=>obtain⟨w',rfl,ug⟩:=g2 dv rfl;exact j C U _ (s.trans (B.trans G)) O ug
 ·exact j.elim
end
section
end
end L2
namespace L2
open PySem.W
abbrev FnAt(K:Frag)(x g:Str)(st:D6)(f:AV):Prop:=∃(m:AH) (o:Option AV) (kV j s:AH) (A:Option AV) (l ct:AH) (B:Array (Option AH)),
 K.lookup f=some ⟨m,o,.func (fnOf x g (Kv st) (IQ st) (BV st) .none kV j s A l ct),B⟩/\codeIn K l g=true/\keepIn K (.ref f)=true
abbrev Eo(K:Frag)(x:Str)(st:D6)(f:AV):Prop:=nsIn K BJ x=some (some (.ref f))/\FnAt K x x st f
abbrev gX(K:Frag)(C:AV)(x g:Str)(st:D6)(f:AV):Prop:=findIn K (.ref C) x=some (some (.ref f))/\isFn K (.ref f)=true/\FnAt K x g st f
abbrev ClsAt(K:Frag)(x:Str)(C:AV):Prop:=nsIn K BJ x=some (some (.ref C))/\plainGet K C Str.empty=true/\hasDictIn K C=true/\plainOver K C=true/\findIn K (.ref C) "__setattr__" = some (some (.builtin "object.__setattr__"))/\makesIn K C=true/\keepIn K (.ref C)=true
def YG(st:D6)(ps:List Str):Prop:=∀(x g:Str) (kV j m:AH) (o:Option AV) (s ct:AH) (l:List AH),l.length=ps.length->gz (fnOf x g (Kv st) (IQ st) (BV st) .none kV j m o s ct) ⟨l,[]⟩=pure (ps.zip l)
section
variable{K:Frag}{h:CS}{mg:Str->Option AH}{x qual:Str}{st:D6}{f C:AV}{ps:List Str}{a b c d e:Str}
theorem FnAt.fd(z:FnAt K x qual st f):∃fd,Fun K x qual st f fd:=by
 obtain⟨j,m,kV,g,o,s,A,ct,B,l,c,k⟩:=z;exact⟨_,fb l c k⟩
def mkD(X:K.In h)(G:h.Ns BJ mg)(z:Eo K x st f)(b:YG st ps):Dfn K mg x x st ps:=⟨f,(FnAt.fd z.2).choose,(FnAt.fd z.2).choose_spec,(FnAt.fd z.2).choose_spec.binds (b x x),gv X G z.1⟩
def mkM(z:gX K C x qual st f)(b:YG st ps):Mtd K x qual st ps:=⟨f,(FnAt.fd z.2.2).choose,(FnAt.fd z.2.2).choose_spec,(FnAt.fd z.2.2).choose_spec.binds (b x qual)⟩
theorem mkO(X:K.In h)(G:h.Ns BJ mg)(z:ClsAt K y C)(i:gX K C "__init__" qual st f):Own K mg y C f:=⟨⟨z.2.1,z.2.2.1,z.2.2.2.1,z.2.2.2.2.1⟩,⟨z.2.2.2.2.2.1,i.1,i.2.1,z.2.2.2.2.2.2⟩,gv X G z.1⟩
abbrev bnd(st:D6)(ps:List Str)(j:List AH):Prop:=∀(x qual:Str) (kV g l:AH) (m:Option AV) (o ct:AH),gz (fnOf x qual (Kv st) (IQ st) (BV st) .none kV g l m o ct) ⟨j,[]⟩=pure (ps.zip j)
theorem bd1(z:∀u,bnd st [a] [u]):YG st [a]:=λx q k d p n c t j g=>by obtain⟨u,rfl⟩:=sD g;exact z u x q k d p n c t
theorem bd2(z:∀u v,bnd st [a,b] [u,v]):YG st [a,b]:=λx q k d p n c t j g=>by obtain⟨u,v,rfl⟩:=sC g;exact z u v x q k d p n c t
theorem bd3(z:∀u v w,bnd st [a,b,c] [u,v,w]):YG st [a,b,c]:=λx q k d p n c t j g=>by obtain⟨u,v,w,rfl⟩:=rq g;exact z u v w x q k d p n c t
theorem bd4(z:∀u v w y,bnd st [a,b,c,d] [u,v,w,y]):YG st [a,b,c,d]:=λx q k d p n c t j g=>by obtain⟨u,v,w,y,rfl⟩:=rp g;exact z u v w y x q k d p n c t
theorem bd5(z:∀u v w y l,bnd st [a,b,c,d,e] [u,v,w,y,l]):YG st [a,b,c,d,e]:=λx q k d p n c t j g=>by obtain⟨u,v,w,y,l,rfl⟩:=len5 g;exact z u v w y l x q k d p n c t
end
open Srt
open Srt (ltL)
section
variable{e:Expr}{m:ME}
end
section
variable{X:Cx}{E:EW}{e:Expr}{elts:List Expr}{x1:Nat}{p pos ptg:Pos}{m:ME}{ta:TA}
def o0(K:AG)(ta:TA):TI:=λl H R=>ta l H λo j=>∃a,o=[.ref a]/\(∃g,SqT K j a g)/\R (Ite λH g=>SqT K H a g) j
theorem dY(N:Gl X "enumerate") (O:X.mg "enumerate" = none) (P:PA X [e] ta) (Q:AO [e] X.env=[(false,Bt e X.env)]:=by rfl):PI X (.Tuple elts x1 ptg) (.Call (.Name "enumerate" p) [e] [] pos) (o0 X.K ta):=by
 intro B s S H R I h;refine Call_ (Jg I N O boot_enumerate (B7 (thn (P pos B s S H _ I h) λus g ⟨vs,C,j,T,l⟩=>?_) Q rfl));obtain⟨a,rfl,l⟩:=l;obtain⟨u,rfl,U⟩:=vals1 T;cases U
 have Y:∀{h':CS} (b:AV),b∈[g.heap.objs.size+1,g.heap.objs.size]->NP X B C b:=λb hb=>by
  have Z:b=g.heap.objs.size+1∨b=g.heap.objs.size:=by simpa using hb
  rcases Z with z | z
  ·rw[z];exact j.fpOk (Rf _) (j.hok.fresh (Rf _))
  ·rw[z];exact j.fpOk (AN _) (j.hok.fresh (AN _))
 obtain⟨⟨xs,sq⟩,q⟩:=l;obtain⟨sN,rv,pl,hz⟩:=j.tuple sq;have G:g.heap.IsTuple a sN.toArray:=pl
 have J:a < g.heap.objs.size:=by obtain⟨o,q,_⟩:=G;exact AX q
 refine L9 G λh' L A hsz hk=>pq L ?_
 exact⟨_,[g.heap.objs.size+1,g.heap.objs.size],_,_,C,rfl,j.kept (t':=g.toks) hk,XU a _ _ (Nat.succ_ne_self _) (Ax J) (ED (FD J)),⟨⟨_,L⟩,A⟩,Y (h':=h'),q⟩
def P9(m:ME):MI:=λe S=>(m e S).bind λd g=>match d with
 | .tup j=>.ok (YX (Ha (.tup j))) g
 | _=>.bad
theorem fW(A:Gl X "enumerate") (g:X.mg "enumerate" = none) (h:GE X E e m) (o:AO [e] X.env=[(false,Bt e X.env)]:=by rfl):GI X E (.Tuple elts x1 ptg) (.Call (.Name "enumerate" p) [e] [] pos) (P9 m):=
 (dY A g (EF h Gj o) o).imp<|by
 rintro T H R ⟨B,l,S,C,G,g⟩
 refine⟨B,l,S,C,G,g.seq λd U g j I x J L N=>?_⟩
 cases d with
 | tup Y=>
  have O:=g
  cases N with
  | @tup _ a P s Q=>
   exact⟨a,rfl,⟨P,.inl (.inl s)⟩,O j I _ J L (VQ (QU s Q) (λi H z=>z) (λi H z=>z) λi H x z=>⟨rfl,z⟩)⟩
 | _=>exact g.elim
end
end L2
namespace PySem
section
variable{prog:Bb}{w:By}{A:Bn}{E:AH->AL->Prop}{s:AL}
theorem VH{M:Ry}{a:AV}{Q:Option Obj->AL->Prop}(h:Q (s.heap.get? a) s):Af M A (loadIfAlive a) Q E s:=λ_ _ _=>h
abbrev O6(h:CS)(z TI TO T:AV)(g:AH):Prop:=h.get? z=some { cls:=.type "zip",dict:=none,data:=.fields #[EG T,g,.bool false,.ref TI,.ref TO],slots:=#[] }
theorem Sy{z TI TO T:AV}{g:AH}{l:Obj}{Q:Bool->AL->Prop}(hz:O6 s.heap z TI TO T g)(m:s.heap.get? T=some l)(o:g=.bool false∨g=.bool true)
  (j:∀h',O6 h' z TI TO T (.bool true)->EC z s.heap h'->Q false { s with heap:=h' }):Af (Am prog w) A (DD (.ref z)) Q E s:=by
 unfold DD;refine AA (B9 hz rfl (x:=EG T) rfl ?_);show Af _ _ (loadIfAlive ((T:Int).toNat) >>= _) _ _ _;refine AA (VH ?_);rw[Ak,m];show Af _ _ (Uv (.ref z) 1 >>= _) _ _ _;refine AA (B9 hz rfl (x:=g) rfl ?_)
 rcases o with rfl | rfl
 ·show Af _ _ (Wv (.ref z) 1 (.bool true) >>= _) _ _ _
  refine AA (wpAny_setField_rec hz (by simp) λB C G=>AI ?_);exact j B C G
 ·exact AI (j s.heap hz (TV ..))
theorem bH{z TI TO T g j m B:AV}{J:AH}{k1 k2:Nat}{xs ys:Array AH}{x y:AH}{X:Obj}{Q:AH->AL->Prop}(D:Rs z TI TO g j m B)
  (hz:O6 s.heap z TI TO T J) (Y:J=.bool false∨J=.bool true) (Z:s.heap.get? T=some X) (Ϛ:TU s.heap TI (.ref g) (.ref j))
  (h1:s.heap.IsListIter g m k1) (h2:s.heap.IsListIter j B k2) (uD:s.heap.IsList m xs) (ue:s.heap.IsList B ys) (hx:xs[k1]?=some x) (hy:ys[k2]?=some y)
  (hQ:∀h',O6 h' z TI TO T (.bool true)->h'.IsListIter g m (k1+1)->h'.IsListIter j B (k2+1)->TU h' s.heap.objs.size x y->h'.objs.size=s.heap.objs.size+1 ->
   (∀c o,c≠z->c≠g->c≠j->s.heap.get? c=some o->h'.get? c=some o)->Q (.ref s.heap.objs.size) { s with heap:=h' }) :
  Af (Am prog w) A (Builtin.«zip.__next__» ⟨[.ref z],[]⟩) (λfin s'=>∃v,fin=.done (.ret v)/\Q v s') E s:=by
 show Af _ _ (Uv (.ref z) 2 >>= _) _ _ _;refine AA (B9 hz rfl (x:=.bool false) rfl ?_);show Af _ _ (Uv (.ref z) 3 >>= _) _ _ _;refine AA (B9 hz rfl (x:=.ref TI) rfl ?_);refine AA (KJ Ϛ rfl ?_);show Af _ _ (DD (.ref z) >>= _) _ _ _;refine AA (Sy hz Z Y λH L C=>?_);simp only[BW,if_false];have My:H.IsListIter g m k1:=h1.extBut C.extBut D.i1z;have ϛ:H.IsListIter j B k2:=h2.extBut C.extBut D.i2z;have M':H.IsList m xs:=uD.extBut C.extBut D.l1z;have Ϝ:H.IsList B ys:=ue.extBut C.extBut D.l2z;refine AA ?_;rw[<-Zm];simp only[GV,Gz];refine AA (AA (Cz ?_));show Af _ _ (B0 (.ref g) >>= _) _ _ _;refine AA (M0 My M' hx λhb N G=>AI (AI ?_));refine AA (AA (Cz ?_));show Af _ _ (B0 (.ref j) >>= _) _ _ _;refine AA (M0 (ϛ.extBut G.extBut D.i12.symm) (Ϝ.extBut G.extBut D.l2i1) hy λO P I=>AI (AI (AI ?_)));show Af _ _ (newTuple [x,y] >>= _) _ _ _;refine AA (wpAny_newTuple ?_);refine AI ⟨_,rfl,?_⟩
 have l:O.objs.size=s.heap.objs.size:=by rw[I.1,G.1,C.1]
 show Q (.ref O.objs.size) _;rw[l]
 have up:∀c o,c≠z->c≠g->c≠j->s.heap.get? c=some o->O.get? c=some o:=λc o R S U e=>I.extBut _ _ U (G.extBut _ _ S (C.extBut _ _ R e))
 refine hQ _ ?_ ?_ ?_ ?_ ?_ λc o R S U e=>AJ _ (up c o R S U e)
 ·exact AJ _ (I.extBut _ _ D.i2z.symm (G.extBut _ _ D.i1z.symm L))
 ·exact(N.extBut I.extBut D.i12).at λo e=>AJ _ e
 ·exact P.at λo e=>AJ _ e
 ·rw[<-l];exact Ag _ rfl
 ·rw[CV,l]
theorem gK{z TI TO T g j m B:AV}{H:AH}{k1 k2:Nat}{xs ys:Array AH}{U:Obj}{Q:Fin->AL->Prop}(O:A.handled=none)(D:Rs z TI TO g j m B)
  (hz:O6 s.heap z TI TO T H) (X:H=.bool false∨H=.bool true) (Y:s.heap.get? T=some U) (Z:TU s.heap TI (.ref g) (.ref j))
  (h1:s.heap.IsListIter g m k1) (h2:s.heap.IsListIter j B k2) (uD:s.heap.IsList m xs) (ue:s.heap.IsList B ys) (wj:xs[k1]?=none∨ys[k2]?=none)
  (P:∀h' e,(∀c o,c≠z->c≠TO->c≠g->c≠j->s.heap.get? c=some o->h'.get? c=some o)->(∃o,h'.get? e=some o/\o.cls=.type "StopIteration")->E (.ref e) { s with heap:=h' }) :
  Af (Am prog w) A (Builtin.«zip.__next__» ⟨[.ref z],[]⟩) Q E s:=by
 show Af _ _ (Uv (.ref z) 2 >>= _) _ _ _;refine AA (B9 hz rfl (x:=.bool false) rfl ?_);show Af _ _ (Uv (.ref z) 3 >>= _) _ _ _;refine AA (B9 hz rfl (x:=.ref TI) rfl ?_);refine AA (KJ Z rfl ?_);show Af _ _ (DD (.ref z) >>= _) _ _ _;refine AA (Sy hz Y X λG hza l=>?_);simp only[BW,if_false];have R:G.IsListIter g m k1:=h1.extBut l.extBut D.i1z;have ϛ:G.IsListIter j B k2:=h2.extBut l.extBut D.i2z;have S:G.IsList m xs:=uD.extBut l.extBut D.l1z;have Ϝ:G.IsList B ys:=ue.extBut l.extBut D.l2z;refine AA ?_;rw[<-Zm];simp only[GV,Gz];refine AA (AA (Cz ?_));show Af _ _ (B0 (.ref g) >>= _) _ _ _
 cases I:xs[k1]? with
 | none=>exact AA (gb O R S I λhb e C J=>P hb e (λc o L _ N _ q=>C _ _ N (l.extBut _ _ L q)) J)
 | some x=>
  have hy:ys[k2]?=none:=by rcases wj with h | h;rw[I]at h;cases h;exact h
  refine AA (M0 R S I λhb h1b C=>AI (AI ?_));refine AA (AA (Cz ?_));show Af _ _ (B0 (.ref j) >>= _) _ _ _;exact AA (gb O (ϛ.extBut C.extBut D.i12.symm) (Ϝ.extBut C.extBut D.l2i1) hy λhc e wH J=>P hc e (λc o L _ N c4 q=>wH _ _ c4 (C.extBut _ _ N (l.extBut _ _ L q))) J)
structure ZL(h:CS)(z TI TO i1 i2 l1 l2:AV)(k:Nat):Prop where
 zip:IsZip h z TI TO .none∨∃T oT f1,O6 h z TI TO T f1/\(f1=.bool false∨f1=.bool true)/\h.get? T=some oT/\T≠z/\T≠TO/\T≠i1/\T≠i2
 ins:TU h TI (.ref i1) (.ref i2)
 out:∃a b,TU h TO a b
 one:h.IsListIter i1 l1 k
 two:h.IsListIter i2 l2 k
theorem ZL.ty{z TI TO g j l m:AV}{k:Nat}(Z:ZL s.heap z TI TO g j l m k):s.TypeIs (.ref z) "zip":=by
 rcases Z.zip with h | ⟨T,o,B,h,_⟩
 ·exact⟨_,h,rfl⟩
 ·exact⟨_,h,rfl⟩
theorem ZL.keep{h h':CS}{z TI TO j l B C:AV}{k:Nat}(Z:ZL h z TI TO j l B C k)(S:AV)(L:S≠z/\S≠TI/\S≠TO/\S≠j/\S≠l)(g:∀b o,b≠S->h.get? b=some o->h'.get? b=some o)(N:∃o,h'.get? S=some o):ZL h' z TI TO j l B C k:=by
 obtain⟨m,O,P,Q,R⟩:=L;refine⟨?_,g _ _ O.symm Z.ins,let ⟨a,b,e⟩:=Z.out;⟨a,b,g _ _ P.symm e⟩,Z.one.at λo e=>g _ o Q.symm e,Z.two.at λo e=>g _ o R.symm e⟩
 rcases Z.zip with h | ⟨T,U,G,H,I,X,J⟩
 ·exact .inl (g _ _ m.symm h)
 ·by_cases c:T=S
  ·subst c
   obtain⟨o,Y⟩:=N;exact .inr ⟨T,o,G,g _ _ m.symm H,I,Y,J⟩
  ·exact .inr ⟨T,U,G,g _ _ m.symm H,I,g _ _ c X,J⟩
theorem hX{z TI TO i1 i2 j l:AV}{k:Nat}{xs ys:Array AH}{x y:AH}{Q:Option AH->AL->Prop}(D:Rs z TI TO i1 i2 j l)(Z:ZL s.heap z TI TO i1 i2 j l k)
  (J:s.heap.IsList j xs) (L:s.heap.IsList l ys) (N:xs[k]?=some x) (O:ys[k]?=some y)
  (P:∀h',ZL h' z TI TO i1 i2 j l (k+1)->TU h' s.heap.objs.size x y->h'.objs.size=s.heap.objs.size+1 ->
   (∀c o,c≠z->c≠TO->c≠i1->c≠i2->s.heap.get? c=some o->h'.get? c=some o)->Q (some (.ref s.heap.objs.size)) { s with heap:=h' }) :
  Af (Am prog w) A (JS (.ref z)) Q E s:=by
 have lt:∀{c o},s.heap.get? c=some o->s.heap.objs.size≠c:=λe=>ED (AX e)
 have n1:s.heap.objs.size≠i1:=by obtain⟨_,e,_⟩:=Z.one;exact lt e
 have n2:s.heap.objs.size≠i2:=by obtain⟨_,e,_⟩:=Z.two;exact lt e
 obtain⟨a,b,B⟩:=Z.out
 rcases Z.zip with h | ⟨T,oT,f1,q1,q2,R,S,t2,U,X⟩
 ·refine wpAny_pyNext_zip_item D h Z.ins B Z.one Z.two J L N O λh' C a2 G H m I g=>?_
  exact P h' ⟨.inr ⟨_,_,_,C,.inl rfl,m,lt h,lt B,n1,n2⟩,g _ _ D.TIz D.TITO D.TIi1 D.TIi2 Z.ins,⟨_,_,a2⟩,G,H⟩ m I g
 ·have Y:=Z.ty
  unfold JS
  refine AA (FP (Cc (name:=Ff "__next__") Y Iz
   (Cm Iz Y lu
    (bH D q1 q2 R Z.ins Z.one Z.two J L N O λh' C G H m I g=>AI ?_) (kr _))))
  exact P h' ⟨.inr ⟨T,oT,_,C,.inr rfl,g _ _ S U X R,S,t2,U,X⟩,g _ _ D.TIz D.TIi1 D.TIi2 Z.ins,⟨a,b,g _ _ D.TOz D.TOi1 D.TOi2 B⟩,G,H⟩ m I λc o c1 _ c3 c4 e=>g c o c1 c3 c4 e
theorem mE{z TI TO g j l m:AV}{k:Nat}{xs ys:Array AH}{Q:Option AH->AL->Prop}(C:A.handled=none)(D:Rs z TI TO g j l m)(Z:ZL s.heap z TI TO g j l m k)
  (G:s.heap.IsList l xs) (H:s.heap.IsList m ys) (I:xs[k]?=none∨ys[k]?=none)
  (J:∀h',(∀c o,c≠z->c≠TO->c≠g->c≠j->s.heap.get? c=some o->h'.get? c=some o)->Q none { s with heap:=h' }):Af (Am prog w) A (JS (.ref z)) Q E s:=by
 obtain⟨a,b,B⟩:=Z.out
 rcases Z.zip with h | ⟨T,X,Y,N,O,P,t1,t2,t3,t4⟩
 ·exact wpAny_pyNext_zip_end C D h Z.ins B Z.one Z.two G H I J
 ·have L:=Z.ty
  unfold JS
  refine AA (FP (Cc (name:=Ff "__next__") L Iz
   (Cm Iz L lu (gK C D N O P Z.ins Z.one Z.two G H I λh' e R S=>?_) (kr _))))
  obtain⟨o,B,U⟩:=S;refine AA (TD (T:="StopIteration") (b:=true) ⟨o,B,U⟩ Wy ?_);exact AI (J _ R)
end
end PySem
namespace L2
theorem Inv.more{X:Cx}{j:List (AV×Obj)}{l:List (Option V)}{H g:Hp}{s:AL}{h':CS}{t':Nat}(I:Inv X j l H s)(k:∀b u,s.heap.get? b=some u->h'.get? b=some u)(e1:∀b u,H b=some u->g b=some u)
  (e2:∀b,b < s.heap.objs.size->H b=none->g b=none) (new:∀b u,H b=none->g b=some u->C7 X.prog X.w g h' b u):Inv X j l g { s with heap:=h',toks:=t' }:=by
 refine I.step (g':=s.gens) (d':=s.drawn) (ch:=[]) (λb hb=>zX hb BL) (λb o _ _ _ q _=>k b o q) (λb o _ _ _ q _=>⟨o.slots,k b o q⟩) (λb o _ q n=>e2 b (AX q) n)
  (λb o _ q=>⟨o,k b o q⟩) (λb A q=>e1 b _ q) (λb o u q=>e1 b _ q) (λb L q=>⟨#[],by rw[e1 b _ q];simp⟩) (λm B=>?_) (λb u q=>?_) I.bare
 ·obtain⟨o,C,E,G,r⟩:=B
  exact⟨o,C,E,k _ o G,r⟩
 ·cases hb:H b with
  | none=>exact new b u hb q
  | some J=>
   rw[e1 b J hb]at q;cases q
   exact(I.hok b _ hb).stay (λc v N r=>k c v r) (λc r=>e1 c _ r) λc A r=>e1 c _ r
end L2
namespace PySem
theorem Zo:Wu (.type "zip") "__getattr__" = pure none:=by rw[sg,gd];kernel_rfl
theorem XA:Wu (.type "zip") "keys" = pure none:=by rw[sg,gd];kernel_rfl
theorem mF:entryFor table "zip.__getattribute__" = some Builtin.«object.__getattribute__»:=entryFor_alias (id':="object.__getattribute__") (by kernel_rfl) (by decide +kernel) (by decide +kernel) (by kernel_rfl)
theorem Q3(a:AV)(fs:Array AH)(sl:Array (Option AH))(u:Tok) :
  Meets (Builtin.«object.__getattribute__» ⟨[.ref a,.str "keys" u],[]⟩) (λA R s=>s.heap.get? a=some { cls:=.type "zip",dict:=none,data:=.fields fs,slots:=sl }/\raisesAttr (.ref a) "keys" A R s):=
 .of_wp λl w A R s j=>by
  obtain⟨m,g,d,tk,os⟩:=s;obtain⟨o,j⟩:=j;have B:(⟨m,g,d,tk,os⟩:AL).TypeIs (.ref a) "zip":=⟨_,o,rfl⟩;have C:=XA;unfold Builtin.«object.__getattribute__»
  repeat(any_goals (first | assumption | wp_step))
  exact wpAny_raiseAttrError j.1 j.2 (attrMsg_fits (by decide +kernel) (by size_fits))
section
variable{prog:Bb}{w:By}{A:Bn}{E:AH->AL->Prop}{s:AL}
theorem fB{a:AV}{fs:Array AH}{sl:Array (Option AH)}{Q:Option AH->AL->Prop}(j:s.heap.get? a=some { cls:=.type "zip",dict:=none,data:=.fields fs,slots:=sl }) (B:A.handled=none)
  (h:∀h' tk e,CS.NewExcOf s.heap h' e "AttributeError"->Q none { s with heap:=h',toks:=tk }):Af (Am prog w) A (gw (.ref a) "keys") Q E s:=by
 obtain⟨C,g,d,tk,os⟩:=s
 have l:∀m,(⟨C,g,d,m,os⟩:AL).TypeIs (.ref a) "zip":=λ_=>⟨_,j,rfl⟩
 have G:=sub_AttributeError;have H:=La.lookup;have I:=La.bind (.ref a);have J:=Zo;unfold gw getAttrBy? getAttrBy
 repeat(any_goals (first | assumption | exact l _ | ((with_reducible show Af _ _ (call (TJ "zip.__getattribute__") _ _) _ _ _);refine M3 La (l _) mF (F.args_zip_getattribute_2 _ _) (Q3 a fs sl _) ⟨j,B,λh' m e o=>?_⟩) | wp_step))
 obtain⟨L,N,O⟩:=o.there;show Af _ _ (lc _ _ _ _ _ _ _) _ _ _;unfold lc
 repeat(any_goals (first | assumption | wp_step))
 exact h _ _ _ o.of
end
theorem MW:plainId "dict.update.loop" = true:=by decide +kernel
theorem Sw:entryFor table "dict.update.loop" = some Builtin.«dict.update.loop»:=entryFor_of_tree (by kernel_rfl)
section
variable{K:Type}[DecidableEq K]
def dzL(ks:Nat->K)(ys:Array AH):Nat->List (K×AH)
 | 0=>[]
 | n+1=>lX (dzL ks ys n) (ks n) (ys.getD n .none)
theorem ZT(ks:Nat->K)(ys:Array AH):∀n,(dzL ks ys n).length<=n
 | 0=>AN _
 | n+1=>by
  have:=ZT ks ys n;unfold dzL lX;split
  ·rw[AF];lia
  ·rw[AK,Al];lia
end
section
variable{prog:Bb}{w:By}{K:Type}[DecidableEq K]{knd:KeyKind prog w K}{A:Bn}{R:lh->AL->Prop}{z TI TO i1 i2 l1 l2:AV}{xs ys:Array AH}{B:Nat}{h0:CS}{ks:Nat->K}
theorem kK(hh:A.in1.handled=none)(D:Rs z TI TO i1 i2 l1 l2){S:AV}(nS:S≠z/\S≠TI/\S≠TO/\S≠i1/\S≠i2)(E:S≠l1)(G:S≠l2)(sB:B<=S/\B<=z/\B<=TO/\B<=i1/\B<=i2)(hn:min xs.size ys.size<=sizeLine)(yP:∀j x,xs[j]?=some x->knd.is (ks j) x=true) :
  ∀(k i:Nat) (s:AL),min xs.size ys.size - i=k->i<=min xs.size ys.size->ZL s.heap z TI TO i1 i2 l1 l2 i->s.heap.IsList l1 xs->s.heap.IsList l2 ys ->
  s.heap.DictOf knd S (dzL ks ys i)->(∀b o,b < B->h0.get? b=some o->s.heap.get? b=some o) ->
  (∀h' tk,h'.DictOf knd S (dzL ks ys (min xs.size ys.size))->(∀b o,b < B->h0.get? b=some o->h'.get? b=some o)->R (.ok (.ret .none)) { s with heap:=h',toks:=tk }) ->
  LQ (Am prog w) A (.builtin "dict.update.loop" ⟨[.ref S,.ref z,.int i 0,.none],[]⟩) R s:=by
 obtain⟨H,m2,m3,I,J⟩:=nS;obtain⟨b1,b2,b3,b4,b5⟩:=sB
 have below:∀b,b < B->b≠S/\b≠z/\b≠TO/\b≠i1/\b≠i2:=λb hb=>⟨by lia,by lia,by lia,by lia,by lia⟩
 intro k
 induction k with
 | zero=>
  intro i s hk hi Z m C L N hR
  have X:i=min xs.size ys.size:=by lia
  refine U3 Sw ?_;rw[Wr MW _];show Af _ A.in1 (JS (.ref z) >>= _) _ _ s
  refine AA (mE hh D Z m C (by
   rw[X]
   by_cases c:xs.size<=ys.size
   ·exact .inl (by simp;lia)
   ·exact .inr (by simp;lia)) λh' l=>?_)
  refine AI (hR h' s.toks ?_ λb o hb e=>?_)
  ·rw[<-X]
   obtain⟨o,O,P,Q,r⟩:=L;exact⟨o,O,P,l _ _ H m3 I J Q,r⟩
  ·obtain⟨_,E,G,n3,n4⟩:=below b hb
   exact l b o E G n3 n4 (N b o hb e)
 | succ k ih=>
  intro i s hk hi Z m C L N hR
  have tm:i < min xs.size ys.size:=by lia
  have Y:i < xs.size:=by lia
  have hy:i < ys.size:=by lia
  refine U3 Sw ?_;rw[Wr MW _];show Af _ A.in1 (JS (.ref z) >>= _) _ _ s;refine AA (hX D Z m C (D2 Y) (D2 hy) λh' Z' hp hsz l=>?_)
  have zh:h'.DictOf knd S (dzL ks ys i):=by
   obtain⟨o,O,P,Q,r⟩:=L;exact⟨o,O,P,l _ _ H m3 I J Q,r⟩
  have hT:(⟨h',s.gens,s.drawn,s.toks,s.os⟩:AL).TypeIs (.ref s.heap.objs.size) "tuple":=⟨_,hp,rfl⟩;refine AA (Cz (AA (wpAny_tryCatch ?_)));unfold tN;refine AA (Rj hT ?_);simp only[beq_self_eq_true,Bool.or_true,if_true];refine AA (KJ hp rfl (AI ?_))
  have z0:(dzL ks ys i).length<=sizeLine:=by have:=ZT ks ys i;lia
  refine Cz (wpAny_dictSet_pairs (s:=⟨h',s.gens,s.drawn,s.toks,s.os⟩) (yP i _ (D2 Y)) zh (λg T vm=>?_) z0);refine AI ⟨plainId_quiet MW _,?_⟩
  have oth:∀b o,b≠S->h'.get? b=some o->g.get? b=some o:=λb o hb e=>(vm.2 b hb).trans e
  have up:∀b o,b≠S->b≠z->b≠TO->b≠i1->b≠i2->s.heap.get? b=some o->g.get? b=some o:=λb o h1 g U h4 h5 e=>oth b o h1 (l b o g U h4 h5 e)
  have Pf:g.DictOf knd S (dzL ks ys (i+1)):=by
   unfold dzL;rw[show ys.getD i .none=ys[i] by simp[hy]];exact T
  have ex:∃o,g.get? S=some o:=let ⟨o,_,_,e,_⟩:=Pf;⟨o,e⟩
  refine ih (i+1) _ (by lia) tm (Z'.keep S ⟨H,m2,m3,I,J⟩ oth ex) ?_ ?_ Pf ?_ λU tk=>hR U tk
  ·exact m.at λo e=>up _ o E.symm D.l1z D.l1TO D.l1i1 D.l1i2 e
  ·exact C.at λo e=>up _ o G.symm D.l2z D.l2TO D.l2i1 D.l2i2 e
  ·intro b o hb e
   obtain⟨c0,c1,c2,c3,c4⟩:=below b hb;exact up b o c0 c1 c2 c3 c4 (N b o hb e)
end
section
variable{prog:Bb}{w:By}{K:Type}[DecidableEq K]{knd:KeyKind prog w K}{A:Bn}{E:AH->AL->Prop}{s:AL}{z TI TO i1 i2 l1 l2:AV}{xs ys:Array AH}{B:Nat}{h0:CS}{ks:Nat->K}
theorem SQ{Q:AH->AL->Prop}(Y:A.in1.in1.handled=none)(G:A.in1.handled=none)(D:Rs z TI TO i1 i2 l1 l2)(Z:min xs.size ys.size<=sizeLine)(yP:∀j x,xs[j]?=some x->knd.is (ks j) x=true)(sB:B<=z/\B<=TO/\B<=i1/\B<=i2)
  (C:IsZip s.heap z TI TO .none) (O:TU s.heap TI (.ref i1) (.ref i2)) (P:∃a b,TU s.heap TO a b) (z4:s.heap.IsListIter i1 l1 0) (z5:s.heap.IsListIter i2 l2 0) (R:s.heap.IsList l1 xs) (S:s.heap.IsList l2 ys) (zi:∀b o,b < B->h0.get? b=some o->s.heap.get? b=some o)
  (hQ:∀h' tk,h'.DictOf knd s.heap.objs.size (dzL ks ys (min xs.size ys.size))->(∀b o,b < B->h0.get? b=some o->h'.get? b=some o)->Q (.ref s.heap.objs.size) { s with heap:=h',toks:=tk }) :
  Af (Am prog w) A (call (.type "dict") [.ref z]) Q E s:=by
 have U:z < s.heap.objs.size:=AX C;have lI:TI < s.heap.objs.size:=AX O
 have lO:TO < s.heap.objs.size:=let ⟨_,_,e⟩:=P;AX e
 have la:i1 < s.heap.objs.size:=let ⟨o,e,_⟩:=z4;AX e
 have lb:i2 < s.heap.objs.size:=let ⟨o,e,_⟩:=z5;AX e
 have H:l1 < s.heap.objs.size:=by obtain⟨o,e,_⟩:=R;exact AX e
 have I:l2 < s.heap.objs.size:=by obtain⟨o,e,_⟩:=S;exact AX e
 refine callType_codes (Q₁:=λobj l=>obj=.ref s.heap.objs.size/\l={ s with heap:=s.heap.push { cls:=.type "dict",data:=.dict #[] } }) F.kt_called_dict (F.kt_typeCall_dict_1 _) F.entry_dict_init (kt_code_dict_new _ ⟨rfl,rfl⟩) ?_;rintro obj l ⟨rfl,rfl⟩;have J:(s.heap.push { cls:=.type "dict",data:=.dict #[] }).DictOf knd s.heap.objs.size []:=Wn s.heap;have m:(s.heap.push { cls:=.type "dict",data:=.dict #[] }).get? z=_:=AJ _ C;refine⟨J.typeIs,F.args_dict_init_2 _ _,?_⟩;unfold Builtin.«dict.__init__»;refine AA ?_;unfold tM;refine AA (gZ J.typeIs ?_);show Af _ _ (pure (s.heap.objs.size,[A7 z])) _ _ _;refine AI ?_;show Af _ _ (Pl "dict.__init__" s.heap.objs.size (.ref z) [] .none) _ _ _;unfold Pl;refine AA (Rj (T:="zip") ⟨_,m,rfl⟩ ?_);rw[qX (by decide)];refine AA (fB (s:={ s with heap:=s.heap.push { cls:=.type "dict",data:=.dict #[] } }) m G λh' tk e X=>?_)
 have up:∀b o,b < s.heap.objs.size->s.heap.get? b=some o->h'.get? b=some o:=λb o _ e=>X.keeps b o (AJ _ e)
 have L:∀g d t os,(⟨h',g,d,t,os⟩:AL).TypeIs (.ref z) "zip":=λ_ _ _ _=>⟨_,up _ _ U C,rfl⟩
 have zj:h'.DictOf knd s.heap.objs.size []:=by
  obtain⟨o,es,ep,ho,r⟩:=J;exact⟨o,es,ep,X.keeps _ _ ho,r⟩
 rw[qX (show(none:Option AH).isNone=true from rfl)];refine AA (Ws ?_);refine AA (pp (L _ _ _ _) qJ (Cm qJ (L _ _ _ _) F.entry_zip_iter (show Af _ _ (ret (.ref z)) _ _ _ from AI ⟨_,rfl, "zip",_,L _ _ _ _,Iz.lookup,?_⟩) (F.args_zip_iter_1 _)));refine AI ⟨plainId_quiet MW _,?_⟩;have nS:s.heap.objs.size≠z/\s.heap.objs.size≠TI/\s.heap.objs.size≠TO/\s.heap.objs.size≠i1/\s.heap.objs.size≠i2:=⟨by lia,by lia,by lia,by lia,by lia⟩
 refine kK (A:=A.in1) (B:=B) (h0:=h0) (ks:=ks) Y D nS (by lia) (by lia) ⟨by lia,sB⟩ Z yP _ 0 _ rfl (CZ _) ⟨.inl (up _ _ U C),up _ _ lI O,let ⟨a,b,e⟩:=P;⟨a,b,up _ _ lO e⟩,z4.at λo e=>up _ o la e,z5.at λo e=>up _ o lb e⟩
  (R.at λo e=>up _ o H e) (S.at λo e=>up _ o I e) zj (λb o hb e=>up b o (by lia) (zi b o hb e)) λh2 N g1 g2=>⟨rfl,hQ h2 N g1 g2⟩
end
end PySem
namespace L2
def dzV(ns:ZLi)(ys:List V):List (Key×V):=(ns.zip ys).foldl (λk p=>Ga k (.inl p.1) p.2) []
abbrev dzK(ns:ZLi)(j:Nat):Key:=.inl (ns.getD j 0)
theorem ft{ns:ZLi}{ys:List V}{g:List AH}(j:B6 ys g):∀n,n<=min ns.length ys.length->KV (((ns.zip ys).take n).foldl (λk p=>Ga k (.inl p.1) p.2) []) (dzL (dzK ns) g.toArray n)
 | 0,_=>.nil
 | n+1,h=>by
  have l:n < ns.length:=by lia
  have m:n < ys.length:=by lia
  have e:(ns.zip ys)[n]?=some (ns[n],ys[n]):=by rw[TQ];exact⟨AZ l,AZ m⟩
  rw[Ey,e,Option.toList_some,Jx];obtain⟨u,o,s⟩:=j.get (AZ m)
  have A:g.toArray.getD n .none=u:=by simp[Dj,o]
  unfold dzL;rw[A,show dzK ns n=.inl ns[n] by unfold dzK;rw[BN,AZ l];rfl];exact(ft j n (by lia)).put _ s
theorem ZS(ns:ZLi)(ys:List V):∀n,(((ns.zip ys).take n).foldl (λk p=>Ga k (.inl p.1) p.2) ([]:List (Key×V))).length<=n
 | 0=>AN _
 | n+1=>by
  have g:=ZS ns ys n;rw[Ey,Jx]
  cases(ns.zip ys)[n]? with
  | none=>exact gf g
  | some q=>
   have:=JN (((ns.zip ys).take n).foldl (λk p=>Ga k (.inl p.1) p.2) ([]:List (Key×V))) (.inl q.1) q.2;show(Ga _ _ _).length<=_
   lia
section
variable{X:Cx}{E:EW}{e1 e2:Expr}{p p2 pos u0:Pos}{ml:ML}{ta:TA}
def cS(K:AG)(ta:TA):TE:=λm H Q=>ta m H λo g=>∃a b j l,o=[.ref a,.ref b]/\SqL K g a (JC V.int j)/\SqL K g b l/\∀q,g q=none->Q (.ref q) (upd g q (.dK (dzV j l)))
theorem Xg(hc:X.calm=true)(hg:Gl X "dict") (hm:X.mg "dict" = none) (xJ:Gl X "zip") (t6:X.mg "zip" = none) (ha:PA X [e1,e2] ta)
  (hs:AO [e1,e2] X.env=[(false,Bt e1 X.env),(false,Bt e2 X.env)]:=by rfl) (Y:AO [e2] X.env=[(false,Bt e2 X.env)]:=by rfl) (Z:AO [.Call (.Name "zip" p2) [e1,e2] [] u0] X.env=(false,Bt (.Call (.Name "zip" p2) [e1,e2] [] u0) X.env) :: AO [] X.env:=by rfl) :
  PE X (.Call (.Name "dict" p) [.Call (.Name "zip" p2) [e1,e2] [] u0] [] pos) (cS X.K ta):=by
 intro ζ s σ H Q I hq;refine DR (Jg I hg hm tH ?_ (by decide) (by decide));refine B7 ?_ Z rfl;rw[Z];show Af _ _ (bY ((false,Bt (.Call (.Name "zip" p2) [e1,e2] [] u0) X.env) :: Cp pos (AO [] X.env))) _ _ s;refine GY ?_;refine DR (Jg I xJ t6 sv ?_ (by decide) (by decide));refine B7 (thn (ha u0 ζ s σ H _ I hq) λus g ⟨vs,H1,C,r1,q1⟩=>?_) (by rw[hs,Y]) (by rw[Y];rfl);obtain⟨a,b,ns,ys,rfl,sx,sy,q⟩:=q1;obtain⟨u,v,rfl,J,rv⟩:=vals2 r1;cases J;cases rv;obtain⟨L,rx,N,hzx⟩:=C.list sx;obtain⟨yi,ry,O,hzy⟩:=C.list sy
 have la:a < g.heap.objs.size:=by obtain⟨o,q,_⟩:=N.isList;exact AX q
 have lb:b < g.heap.objs.size:=by obtain⟨o,q,_⟩:=O.isList;exact AX q
 have P:=rx.length;have ly:=ry.length;rw[AF]at P;have hh:=I.ok.hd hc
 refine call_zip_2 N.isList O.isList λG z1 z2 z3 z4 z5 z6 m=>?_
 refine Jr ?_
 refine SQ (knd:=DN X.prog X.w) (ks:=dzK ns) (B:=g.heap.objs.size) (h0:=g.heap) (s:={ g with heap:=G }) (xs:=L.toArray) (ys:=yi.toArray) (A:=X.A) hh hh (zipApart_new la lb) (by rw[AQ,AQ];lia) (λj x hx=>?_) ⟨by lia,by lia,by lia,by lia⟩
  z1 z2 ⟨_,_,z3⟩ z4 z5 (N.isList.at λo e=>m _ o e) (O.isList.at λo e=>m _ o e) (λb o _ e=>m b o e) λh' tk hL k0=>?_
 ·have wg:L[j]?=some x:=by simpa using hx
  have hj:j < ns.length:=by rw[P];exact(AD.mp wg).1
  obtain⟨u,l,J⟩:=rx.get (show(ns.map V.int)[j]?=some (V.int ns[j]) by rw[Ah,AZ hj];rfl);rw[wg]at l;cases l;rw[show dzK ns j=.inl ns[j] by unfold dzK;rw[BN,AZ hj];rfl];exact PX J
 have m0:min L.toArray.size yi.toArray.size=min ns.length ys.length:=by rw[AQ,AQ,<-P,<-ly]
 rw[m0]at hL
 have R:g.heap.objs.size<=G.objs.size:=by lia
 have fr:∀T,g.heap.objs.size<=T->H1 T=none:=λT hT=>C.hok.fresh hT
 refine⟨.ref G.objs.size,_,C.more (t':=tk) (h':=h') (λb u e=>k0 b u (AX e) e) (λb u hb=>?_) (λb hb S=>?_) (λb u S l=>?_),rfl,q _ (fr _ R)⟩
 ·rw[Bh λz=>by rw[z,fr _ R]at hb;cases hb]
  exact hb
 ·rw[Bh (by lia)]
  exact S
 ·by_cases c1:b=G.objs.size
  ·subst c1
   rw[Bq]at l;cases l;have U:(ns.zip ys).take (min ns.length ys.length)=ns.zip ys:=Bg (by rw[List.length_zip];exact AN _);have m:=ft (ns:=ns) ry _ (AN _);have k2:=ZS ns ys (min ns.length ys.length);rw[U]at m k2;have big:=C.big;exact X4 (by show(dzV ns ys).length<=_;unfold dzV;lia) (beq_eq_false_iff_ne.mpr (ED (Ae big R))) m hL
  ·rw[Bh c1,S]at l
   cases l
def dzG{g:Type}(ns:ZLi)(ys:List g):List (Key×g):=(ns.zip ys).foldl (λk p=>FX k (.inl p.1) p.2) []
theorem ZU{K:AG}{ρ:List AV}{H:Hp}:∀{ns:ZLi} {ds:List D} {ys:List V} {g:List (Key×D)} {j:List (Key×V)},A9 K ρ H ds ys->KVR K ρ H g j->KVR K ρ H ((ns.zip ds).foldl (λk p=>FX k (.inl p.1) p.2) g) ((ns.zip ys).foldl (λk p=>Ga k (.inl p.1) p.2) j)
 | [],_,_,_,_,_,h=>h
 | _ :: _,_,_,_,_,.nil,h=>h
 | n :: ns,_,_,_,_,.cons r t,h=>ZU (ns:=ns) t (KVR.put _ r h)
def N0(ml:ML):ME:=λe S=>(ml e S).bind λj g=>match j with
 | [d1,d2]=>match Pv d1 g with
  | some l=>match Gn l,Pv d2 g with
   | some m,some o=>.ok (.ref g.length) (g++[.dK (dzG m o)])
   | _,_=>.bad
  | none=>.bad
 | _=>.bad
theorem X1(L:X.calm=true)(N:Gl X "dict") (g:X.mg "dict" = none) (O:Gl X "zip") (P:X.mg "zip" = none) (R:GA X E [e1,e2] ml)
  (s:AO [e1,e2] X.env=[(false,Bt e1 X.env),(false,Bt e2 X.env)]:=by rfl) (T:AO [e2] X.env=[(false,Bt e2 X.env)]:=by rfl) (U:AO [.Call (.Name "zip" p2) [e1,e2] [] u0] X.env=(false,Bt (.Call (.Name "zip" p2) [e1,e2] [] u0) X.env) :: AO [] X.env:=by rfl) :
  GE X E (.Call (.Name "dict" p) [.Call (.Name "zip" p2) [e1,e2] [] u0] [] pos) (N0 ml):=(Xg L N g O P R s T U).imp<|by
 rintro σ H Q ⟨Y,l,S,Z,s,g⟩
 refine⟨Y,l,S,Z,s,g.seq λds S1 g j G xs l1 A r1=>?_⟩;split at g
 ·rename_i d1 d2
  cases B:Pv d1 S1 with
  | none=>rw[B]at g;exact g.elim
  | some us=>
   rw[B]at g;dsimp only at g;split at g
   ·rename_i m vs hi hy
    cases r1 with
    | cons r t=>
     cases t with
     | cons r' t=>
      cases t;obtain⟨a,xs,rfl,I,sq⟩:=Ko A r B;obtain⟨b,C,rfl,yL,η⟩:=Ko A r' hy;rw[Ij hi]at I;have:=I.ints;subst this;refine⟨a,b,m,C,rfl,sq,η,λq J=>?_⟩;have le:Le X.K j G (j++[q]) (upd G q (.dK (dzV m C))):=Le.alloc J;obtain⟨s4,l4,yN⟩:=A.alloc (ho:=.dK (dzV m C)) (o:=.dK (dzG m vs)) J ⟨_,Bq,(ZU yL .nil).mono le⟩;exact g _ _ _ (l1.trans l4) s4 (.ref yN)
   ·exact g.elim
 ·exact g.elim
end
section
variable{X:Cx}
theorem jZ:OpR X (B4 .IsNot) (λx y H Q=>y=.bl true/\((∃b,x=.bl b/\Q (.bl (!b)) H)∨∃a,x=.ref a/\Q (.bl true) H)):=by
 intro l s m H x y v u Q I g j h;obtain⟨rfl,h⟩:=h;cases j
 rcases h with⟨b,rfl,q⟩ | ⟨a,rfl,q⟩
 ·cases g
  cases b
  ·exact AI (Uc I q rfl)
  ·exact AI (Uc I q rfl)
 ·cases g
  exact AI (Uc I q rfl)
def Y0(x y:D)(S:Sto):Res D:=match y with
 | .bl true=>match x with
  | .bl b=>.ok (.bl (!b)) S
  | .tup _=>.ok (.bl true) S
  | _=>.bad
 | _=>.bad
theorem jg:OpR X (B4 .IsNot) (rD X.K Y0):=jZ.imp<|by
 rintro x y H Q ⟨j,S,a,b,d,s,l,m,o,g,k⟩
 unfold Y0 at g;split at g
 ·cases o
  refine⟨rfl,?_⟩;split at g
  ·cases m
   cases g;exact .inl ⟨_,rfl,k j H _ .refl l (.bl _)⟩
  ·cases m
   cases g;exact .inr ⟨_,rfl,k j H _ .refl l (.bl _)⟩
  ·cases g
 ·cases g
end
end L2
namespace L4
open L2
inductive Cel where
 | no | fz (o:Ob) | ow (i:Nat)
abbrev Fz:=Nat->Cel
inductive Sl where
 | u | v (d:D) | z (o:Ob) | y (o:Ob) | w (i:Nat) (o:Ob) | q (P:(Nat->Option Ob)->D->Prop)
def Sl.ok(S0:Sto)(F:Fz)(S:Sto):Sl->Option D->Prop
 | .u,_=>True
 | .v d,x=>x=some d
 | .z o,x=>∃n,x=some (.ref n)/\F n=.fz o
 | .y o,x=>∃n,x=some (.ref n)/\F n=.fz o/\S0.length<=n
 | .w i o,x=>∃n,x=some (.ref n)/\F n=.ow i/\S[n]?=some o
 | .q P,x=>∃d,x=some d/\∀L:Nat->Option Ob,(∀n o,F n=.fz o->L n=some o)->P L d
structure Vs(S0:Sto)(A:List Sl)(e:Lo)(F:Fz)(S:Sto):Prop where
 kp:Keeps S0 S
 fz:∀n o,F n=.fz o->S[n]?=some o
 ow:∀n i,F n=.ow i->S0.length<=n/\n < S.length
 hi:∀n,S.length<=n->F n=.no
 sl:∀(i:Nat) (a:Sl),A[i]?=some a->∃x,e[i]?=some x/\a.ok S0 F S x
def Fle(F g:Fz):Prop:=∀n o,F n=.fz o->g n=.fz o
theorem Fle.refl(F:Fz):Fle F F:=λ_ _ h=>h
theorem Fle.trans(a:Fle F G)(b:Fle G H):Fle F H:=λn o h=>b n o (a n o h)
def O3(F:Fz)(S g:Sto):Fz:=λn=>if n < S.length then F n else match g[n]? with
 | some o=>.fz o
 | none=>.no
section
variable{S0 S S':Sto}{A B:List Sl}{e:Lo}{F:Fz}{α β γ ρ σ τ:Type}
theorem EN(h:n < S.length):O3 F S S' n=F n:=qX h
theorem KG(h:S.length<=n)(ho:S'[n]?=some o):O3 F S S' n=.fz o:=by
 unfold O3;rw[qY (JV.mpr h),ho]
theorem Ce(h:S[n]?=some o):n < S.length:=(AD.mp h).1
theorem Sl.mono{S0:Sto}{F l:Fz}{S S':Sto}{a:Sl}{x:Option D}(h:a.ok S0 F S x)(m:∀n o,F n=.fz o->l n=.fz o)(C:∀n i o,F n=.ow i->S[n]?=some o->l n=.ow i/\S'[n]?=some o):a.ok S0 l S' x:=by
 cases a with
 | u=>trivial
 | v d=>exact h
 | z o=>obtain⟨n,g,j⟩:=h;exact⟨n,g,m _ _ j⟩
 | y o=>obtain⟨n,g,j,s⟩:=h;exact⟨n,g,m _ _ j,s⟩
 | w i o=>obtain⟨n,g,j,s⟩:=h;exact⟨n,g,C _ _ _ j s⟩
 | q P=>obtain⟨d,g,j⟩:=h;exact⟨d,g,λL E=>j L λn o q=>E n o (m n o q)⟩
theorem Vs.fle(h:Vs S0 A e F S)(S':Sto):Fle F (O3 F S S'):=λn o q=>by rw[EN (Ce (h.fz n o q))];exact q
theorem Vs.grow(h:Vs S0 A e F S)(k:Keeps S S'):Vs S0 A e (O3 F S S') S':=by
 refine⟨h.kp.trans k,λn o q=>?_,λn i q=>?_,λn j=>?_,λi a m=>?_⟩
 ·unfold O3 at q
  split at q
  ·rename_i j
   rw[k.2 n j];exact h.fz n o q
  ·cases g:S'[n]? with
   | none=>rw[g]at q;cases q
   | some s=>rw[g]at q;cases q;rfl
 ·unfold O3 at q
  split at q
  ·exact⟨(h.ow n i q).1,Ae (h.ow n i q).2 k.1⟩
  ·cases g:S'[n]? with
   | none=>rw[g]at q;cases q
   | some s=>rw[g]at q;cases q
 ·unfold O3
  rw[qY (JV.mpr (Av k.1 j)),CM j]
 ·obtain⟨x,C,E⟩:=h.sl i a m
  exact⟨x,C,Sl.mono E (h.fle S') λn i o G l=>⟨by rw[EN (Ce l)];exact G,by rw[k.2 n (Ce l)];exact l⟩⟩
theorem Vs.cons(h:Vs S0 A e F S)(g:a.ok S0 F S x):Vs S0 (a :: A) (x :: e) F S:=
 ⟨h.kp,h.fz,h.ow,h.hi,λi b hb=>by
  cases i with
  | zero=>cases hb;exact⟨x,rfl,g⟩
  | succ i=>exact h.sl i b hb⟩
theorem Vs.set(h:Vs S0 A e F S)(i:Nat)(g:a.ok S0 F S x):Vs S0 (A.set i a) (e.set i x) F S:=
 ⟨h.kp,h.fz,h.ow,h.hi,λj b hb=>by
  by_cases c:i=j
  ·subst c
   rw[Jw]at hb;rw[qX rfl]at hb;split at hb
   ·rename_i l
    cases hb;obtain⟨y,m,_⟩:=h.sl i (A[i]) (AZ l);exact⟨x,by rw[Jw];rw[qX rfl,qX (AD.mp m).1],g⟩
   ·cases hb
  ·rw[A1 c]at hb ⊢
   exact h.sl j b hb⟩
inductive Wk:List Sl->List Sl->Prop where
 | nil:Wk [] []
 | same {a:Sl} {A B:List Sl}:Wk A B->Wk (a :: A) (a :: B)
 | drop {a:Sl} {A B:List Sl}:Wk A B->Wk (a :: A) (.u :: B)
 | less {o:Ob} {A B:List Sl}:Wk A B->Wk (.y o :: A) (.z o :: B)
theorem Wk.at:∀{A B:List Sl},Wk A B->∀(i:Nat) (b:Sl),B[i]?=some b->∃a,A[i]?=some a/\(b=.u∨b=a∨∃o,a=.y o/\b=.z o)
 | _,_,.nil,i,b,h=>by simp at h
 | _,_,.same w,0,b,h=>by cases h;exact⟨_,rfl,.inr (.inl rfl)⟩
 | _,_,.less w,0,b,h=>by cases h;exact⟨_,rfl,.inr (.inr ⟨_,rfl,rfl⟩)⟩
 | _,_,.less w,i+1,b,h=>Wk.at w i b h
 | _,_,.drop w,0,b,h=>by cases h;exact⟨_,rfl,.inl rfl⟩
 | _,_,.same w,i+1,b,h=>Wk.at w i b h
 | _,_,.drop w,i+1,b,h=>Wk.at w i b h
theorem Wk.refl:∀A:List Sl,Wk A A
 | []=>.nil
 | _ :: A=>.same (Wk.refl A)
theorem Vs.weak(h:Vs S0 A e F S)(w:Wk A B):Vs S0 B e F S:=⟨h.kp,h.fz,h.ow,h.hi,λi b hb=>by
 obtain⟨a,l,m⟩:=w.at i b hb;obtain⟨x,g,j⟩:=h.sl i a l
 rcases m with rfl | rfl | ⟨o,rfl,rfl⟩
 ·exact⟨x,g,trivial⟩
 ·exact⟨x,g,j⟩
 ·obtain⟨n,s,C,_⟩:=j
  exact⟨x,g,n,s,C⟩⟩
def Sl.oth(i:Nat):Sl->Bool
 | .w k _=>!(Nat.beq k i)
 | _=>true
theorem oE(h:((A.set i .u).all (Sl.oth i))=true)(l:j≠i)(m:A[j]?=some (.w k o)):k≠i:=by
 have s:(A.set i .u)[j]?=some (.w k o):=by rw[A1 (CY l)];exact m
 have:=K9.mp h _ (An s);intro e;subst e;have g:(!(Nat.beq k k))=true:=this;rw[Nat.beq_refl]at g;cases g
theorem Vs.put(h:Vs S0 A e F S)(H:((A.set i .u).all (Sl.oth i))=true)(O:A[i]?=some (.w i o))(I:e[i]?=some (some (.ref n)))(l:F n=.ow i):Vs S0 (A.set i (.w i o')) e F (S.set n o'):=by
 have E:=h.ow n i l;refine⟨h.kp.set E.1 o',λk q s=>?_,λk j q=>by rw[Ek];exact h.ow k j q,λk G=>h.hi k (by rw[Ek]at G;exact G),λj b hb=>?_⟩
 ·have:n≠k:=λc=>by subst c;rw[l]at s;cases s
  rw[A1 this];exact h.fz k q s
 ·by_cases c:i=j
  ·subst c
   rw[Jw]at hb;rw[qX rfl]at hb;split at hb
   ·cases hb
    exact⟨_,I,n,rfl,l,by rw[Jw];rw[qX rfl,qX E.2]⟩
   ·cases hb
  ·rw[A1 c]at hb
   obtain⟨x,J,g⟩:=h.sl j b hb;refine⟨x,J,?_⟩
   cases b with
   | u=>trivial
   | v d=>exact g
   | z q=>exact g
   | y q=>exact g
   | q P=>exact g
   | w k q=>
    obtain⟨m,L,C,N⟩:=g;refine⟨m,L,C,?_⟩
    have:n≠m:=λz=>by
     subst z;rw[l]at C;cases C;exact oE H (λz=>c z.symm) hb rfl
    rw[A1 this];exact N
theorem Vs.own(h:Vs S0 A e F S)(k:Keeps S S'){i n:Nat}{o:Ob}(s:S.length<=n)(ho:S'[n]?=some o):∃F',Vs S0 (A.set i (.w i o)) (e.set i (some (.ref n))) F' S'/\Fle F F':=by
 have g:=h.grow k;have E:=Ce ho
 have fl:Fle F (λj=>if j=n then Cel.ow i else O3 F S S' j):=λj q l=>by
  have:j≠n:=λc=>by subst c;exact zX (Ce (h.fz _ _ l)) (JV.mpr s)
  show(if j=n then Cel.ow i else _)=_;rw[qY this];exact h.fle S' _ _ l
 refine⟨λj=>if j=n then .ow i else O3 F S S' j,(Vs.set (a:=.w i o) (x:=some (.ref n)) ⟨g.kp,λj q l=>?_,λj q l=>?_,λj G=>?_,λj b hb=>?_⟩ i ⟨n,rfl,qX rfl,ho⟩),fl⟩
 ·split at l
  ·cases l
  ·exact g.fz j q l
 ·split at l
  ·rename_i c;subst c;exact⟨Av h.kp.1 s,E⟩
  ·exact g.ow j q l
 ·have:j≠n:=λc=>by subst c;exact zX E (JV.mpr G)
  show(if j=n then Cel.ow i else _)=_;rw[qY this];exact g.hi j G
 ·obtain⟨x,I,J⟩:=h.sl j b hb
  refine⟨x,I,Sl.mono J fl λm j q L H=>?_⟩;have C:=Ce H
  have:m≠n:=λc=>by subst c;exact zX C (JV.mpr s)
  refine⟨?_,by rw[k.2 m C];exact H⟩;show(if m=n then Cel.ow i else _)=_;rw[qY this,EN C];exact L
abbrev Rk(α:Type):=α->Sto->D->Sto->Prop
def rV(enc:α->D):Rk α:=λv _ d _=>d=enc v
def rO(g:α->Ob):Rk α:=λv _ d S=>∃n,d=.ref n/\S[n]?=some (g v)
def rN(g:α->Ob):Rk α:=λv S0 d S=>∃n,d=.ref n/\S0.length<=n/\S[n]?=some (g v)
def VE(A:List Sl)(m:ME)(R:Rk α)(p:Option α):Prop:=∀v,p=some v->∀S0 e F S,Vs S0 A e F S->∃d S',m e S=.ok d S'/\Keeps S S'/\R v S d S'
def VB(A:List Sl)(t:MT)(p:Option Bool):Prop:=∀v,p=some v->∀S0 e F S,Vs S0 A e F S->∃S',t e S=.ok v S'/\Keeps S S'
def VL(A:List Sl)(ml:ML)(enc:α->D)(p:Option (List α)):Prop:=∀v,p=some v->∀S0 e F S,Vs S0 A e F S->∃S',ml e S=.ok (v.map enc) S'/\Keeps S S'
def VK(A:List Sl)(mi:MI)(enc:α->D)(p:Option (List α)):Prop:=∀v,p=some v->∀S0 e F S,Vs S0 A e F S->∃w S',mi e S=.ok w S'/\Keeps S S'/\∀g,Keeps S' g->w g=some (v.map enc)
def VI(A:List Sl)(mi:MI)(enc:α->D)(p:Option (List α)):Prop:=∀v,p=some v->∀S0 e F S,Vs S0 A e F S->∃w S',mi e S=.ok w S'/\Keeps S S'/\∀g j,Fle (O3 F S S') g->(∀n o,g n=.fz o->j[n]?=some o)->w j=some (v.map enc)
theorem VI.k(h:VI A mi enc p):VK A mi enc p:=λv o S0 e F S j=>by
 obtain⟨w,S',s,l,C⟩:=h v o S0 e F S j;have g:=j.grow l;exact⟨w,S',s,l,λm k=>C _ m (g.fle m) (g.grow k).fz⟩
def eT(enc:α->D)(l:List α):D:=.tup (l.map enc)
def eP(a:α->D)(b:β->D)(x:α×β):D:=.tup [a x.1,b x.2]
def eU(_:Unit):D:=.non
def eF(l:ZLi):D:=.fro (l.map D.int)
def oL(enc:α->D)(l:List α):Ob:=.lst (l.map enc)
theorem mU(h:VE A m R p)(i:∀v S d S',R v S d S'->R' v S d S'):VE A m R' p:=λv g S0 e F S j=>by
 obtain⟨d,S',l,o,s⟩:=h v g S0 e F S j;exact⟨d,S',l,o,i _ _ _ _ s⟩
theorem Em(h:VE A m (rN g) p):VE A m (rO g) p:=mU h λv S d S' ⟨n,j,_,l⟩=>⟨n,j,l⟩
theorem AM(h:A[i]?=some (.v (enc v))):VE A (AE i) (rV enc) (some v):=λ_ g S0 e F S j=>by
 cases g;obtain⟨x,l,m⟩:=j.sl i _ h;cases m;exact⟨_,S,by unfold AE;rw[l],Keeps.refl S,rfl⟩
theorem Ft(h:A[i]?=some (.z (j v))):VE A (AE i) (rO j) (some v):=λ_ l S0 e F S g=>by
 cases l;obtain⟨x,m,n,rfl,o⟩:=g.sl i _ h;exact⟨_,S,by unfold AE;rw[m],Keeps.refl S,n,rfl,g.fz _ _ o⟩
theorem DF(h:A[i]?=some (.y (j v))):VE A (AE i) (rO j) (some v):=λ_ l S0 e F S g=>by
 cases l;obtain⟨x,m,n,rfl,o,_⟩:=g.sl i _ h;exact⟨_,S,by unfold AE;rw[m],Keeps.refl S,n,rfl,g.fz _ _ o⟩
theorem Cv(h:A[i]?=some (.w k (g v))):VE A (AE i) (rO g) (some v):=λ_ j S0 e F S l=>by
 cases j;obtain⟨x,m,n,rfl,s,o⟩:=l.sl i _ h;exact⟨_,S,by unfold AE;rw[m],Keeps.refl S,n,rfl,o⟩
theorem C1(h:d=enc v):VE A (mC d) (rV enc) (some v):=λ_ g S0 e F S j=>by
 cases g;exact⟨d,S,rfl,Keeps.refl S,h⟩
theorem A6(h:p.bind q=some v):∃x,p=some x/\q x=some v:=TN.mp h
theorem IB{f:D->D->Sto->Res D}{a b:ME}{l:α->D}{m:β->D}{o:γ->D}{s:Option α}{C:Option β}{g:α->β->Option γ}(I:VE A a (rV l) s)(hb:VE A b (rV m) C)
  (J:∀x y z S,g x y=some z->f (l x) (m y) S=.ok (o z) S):VE A (m2 f a b) (rV o) (s.bind λx=>C.bind λy=>g x y):=λv j S0 e F S E=>by
 obtain⟨x,L,j⟩:=A6 j;obtain⟨y,N,O⟩:=A6 j;obtain⟨d1,P,Q,G,rfl⟩:=I x L S0 e F S E;obtain⟨d2,H,R,T,rfl⟩:=hb y N S0 e _ P (E.grow G);exact⟨_,H,Dh Q R (J x y v H O),G.trans T,rfl⟩
theorem XI{f:D->D->Sto->Res D}{a b:ME}{l:α->D}{m:β->Ob}{o:γ->D}{s:Option α}{C:Option β}{g:α->β->Option γ}(I:VE A a (rV l) s)(hb:VE A b (rO m) C)
  (J:∀x y z S (n:Nat),S[n]?=some (m y)->g x y=some z->f (l x) (.ref n) S=.ok (o z) S):VE A (m2 f a b) (rV o) (s.bind λx=>C.bind λy=>g x y):=λv j S0 e F S E=>by
 obtain⟨x,L,j⟩:=A6 j;obtain⟨y,N,O⟩:=A6 j;obtain⟨d1,P,Q,G,rfl⟩:=I x L S0 e F S E;obtain⟨d2,H,R,T,n,rfl,U⟩:=hb y N S0 e _ P (E.grow G);exact⟨_,H,Dh Q R (J x y v H n U O),G.trans T,rfl⟩
theorem cK{f:D->D->Sto->Res D}{a b:ME}{l:α->Ob}{m:β->D}{o:γ->D}{s:Option α}{C:Option β}{g:α->β->Option γ}(J:VE A a (rO l) s)(hb:VE A b (rV m) C)
  (L:∀x y z S (n:Nat),S[n]?=some (l x)->g x y=some z->f (.ref n) (m y) S=.ok (o z) S):VE A (m2 f a b) (rV o) (s.bind λx=>C.bind λy=>g x y):=λv j S0 e F S E=>by
 obtain⟨x,N,j⟩:=A6 j;obtain⟨y,O,P⟩:=A6 j;obtain⟨d1,Q,R,G,n,rfl,T⟩:=J x N S0 e F S E;obtain⟨d2,H,U,I,rfl⟩:=hb y O S0 e _ Q (E.grow G);exact⟨_,H,Dh R U (L x y v H n (I.at T) P),G.trans I,rfl⟩
theorem D8(h:VE A m (rV D.bl) p):VB A (mB m) p:=λv g S0 e F S j=>by
 obtain⟨d,S',l,o,rfl⟩:=h v g S0 e F S j;exact⟨S',Rc l,o⟩
theorem mV(h:VE A m (rV D.bl) p):VB A (V8 m) p:=λv g S0 e F S j=>by
 obtain⟨d,S',l,o,rfl⟩:=h v g S0 e F S j;refine⟨S',?_,o⟩;unfold V8;rw[l];rfl
theorem Nf:VB A Hg (some true):=λv g S0 e F S j=>by cases g;exact⟨S,rfl,Keeps.refl S⟩
theorem QZ(h:VB A t p):VB A (Pu t) (p.bind λb=>some (!b)):=λv g S0 e F S j=>by
 obtain⟨x,l,m⟩:=A6 g;cases m;obtain⟨S',o,s⟩:=h x l S0 e F S j;exact⟨S',Xk o,s⟩
theorem Oc(h:VB A t p)(s:VB A u q):VB A (Ot t u) (p.bind λb=>if b=true then q else some false):=λv C S0 e F S j=>by
 obtain⟨x,E,l⟩:=A6 C;obtain⟨m,o,g⟩:=h x E S0 e F S j
 cases x with
 | true=>
  obtain⟨G,H,I⟩:=s v l S0 e _ m (j.grow g);exact⟨G,(ka o).trans H,g.trans I⟩
 | false=>cases l;exact⟨m,kZ o,g⟩
theorem Ng(h:VB A t p)(s:VB A u q):VB A (mOr t u) (p.bind λb=>if b=true then some true else q):=λv C S0 e F S j=>by
 obtain⟨x,E,l⟩:=A6 C;obtain⟨m,o,g⟩:=h x E S0 e F S j
 cases x with
 | false=>
  obtain⟨G,H,I⟩:=s v l S0 e _ m (j.grow g);exact⟨G,(dk o).trans H,g.trans I⟩
 | true=>cases l;exact⟨m,oF o,g⟩
theorem Lp:∀(v:α) (S S1:Sto) (d:D) (S':Sto),S.length<=S1.length->rV enc v S1 d S'->rV enc v S d S':=λ_ _ _ _ _ _ h=>h
theorem Vt:∀(v:α) (S S1:Sto) (d:D) (S':Sto),S.length<=S1.length->rN g v S1 d S'->rN g v S d S':=λ_ _ _ _ _ l ⟨n,j,m,o⟩=>⟨n,j,Av l m,o⟩
inductive Fw(ρ σ:Type) where
 | rt (r:ρ) | nx (s:σ) | bk (s:σ) | ct (s:σ)
def VG(S0:Sto)(F:Fz)(S':Sto)(R:Rk ρ)(B:σ->List Sl)(g:Fl):Fw ρ σ->Prop
 | .nx s=>∃j l,g=.nx j/\Vs S0 (B s) j l S'/\Fle F l
 | .ct s=>∃j l,g=.ct j/\Vs S0 (B s) j l S'/\Fle F l
 | .bk s=>∃j l,g=.bk j/\Vs S0 (B s) j l S'/\Fle F l
 | .rt r=>∃d,g=.rt d/\R r S0 d S'/\Keeps S0 S'
def VS(A:List Sl)(b:MS)(R:Rk ρ)(p:Option (Fw ρ σ))(B:σ->List Sl):Prop:=∀f,p=some f->∀S0 e F S,Vs S0 A e F S->∃g S',b e S=.ok g S'/\VG S0 F S' R B g f
noncomputable def Ba(p:Option (Fw ρ σ))(q:σ->Option (Fw ρ τ)):Option (Fw ρ τ):=match p with
 | some (.nx s)=>q s
 | some (.rt r)=>some (.rt r)
 | _=>none
theorem VG.up{S0:Sto}{F G:Fz}{S':Sto}{R:Rk ρ}{B:σ->List Sl}{g:Fl}{f:Fw ρ σ}(l:Fle F G)(h:VG S0 G S' R B g f):VG S0 F S' R B g f:=by
 cases f with
 | rt r=>exact h
 | nx s=>obtain⟨j,m,o,C,E⟩:=h;exact⟨j,m,o,C,l.trans E⟩
 | bk s=>obtain⟨j,m,o,C,E⟩:=h;exact⟨j,m,o,C,l.trans E⟩
 | ct s=>obtain⟨j,m,o,C,E⟩:=h;exact⟨j,m,o,C,l.trans E⟩
theorem BE{a b:MS}{R:Rk ρ}{p:Option (Fw ρ σ)}{q:σ->Option (Fw ρ τ)}{B:σ->List Sl}{C:τ->List Sl}(G:VS A a R p B)(hb:∀s,VS (B s) b R (q s) C):VS A (BU a b) R (Ba p q) C:=λf l S0 e F S H=>by
 cases p with
 | none=>cases l
 | some w=>
  obtain⟨g,o,E,j⟩:=G _ rfl S0 e F S H
  cases w with
  | nx s=>
   obtain⟨I,J,rfl,j,m⟩:=j;obtain⟨L,N,O,P⟩:=hb s f l S0 I J o j;exact⟨L,N,(B5 E).trans O,P.up m⟩
  | rt r=>
   cases l;obtain⟨d,rfl,j,m⟩:=j;exact⟨_,o,Xd E,d,rfl,j,m⟩
  | bk s=>cases l
  | ct s=>cases l
theorem LA{R:Rk ρ}{B:σ->List Sl}{s:σ}(w:Wk A (B s)):VS A sNx R (some (.nx s)) B:=λf g S0 e F S j=>by
 cases g;exact⟨_,S,rfl,e,F,rfl,j.weak w,Fle.refl F⟩
noncomputable def Fm(g:σ->τ)(p:Option (Fw ρ σ)):Option (Fw ρ τ):=match p with
 | some (.nx s)=>some (.nx (g s))
 | some (.rt r)=>some (.rt r)
 | some (.bk s)=>some (.bk (g s))
 | some (.ct s)=>some (.ct (g s))
 | none=>none
theorem DU{b:MS}{R:Rk ρ}{p:Option (Fw ρ σ)}{g:σ->τ}{B:σ->List Sl}{C:τ->List Sl}(h:VS A b R p B)(w:∀s,Wk (B s) (C (g s))):VS A b R (Fm g p) C:=λf l S0 e F S I=>by
 cases p with
 | none=>cases l
 | some x=>
  obtain⟨g,G,H,j⟩:=h _ rfl S0 e F S I
  cases x with
  | nx s=>cases l;obtain⟨m,o,rfl,j,E⟩:=j;exact⟨_,G,H,m,o,rfl,j.weak (w s),E⟩
  | rt r=>cases l;exact⟨_,G,H,j⟩
  | bk s=>cases l;obtain⟨m,o,rfl,j,E⟩:=j;exact⟨_,G,H,m,o,rfl,j.weak (w s),E⟩
  | ct s=>cases l;obtain⟨m,o,rfl,j,E⟩:=j;exact⟨_,G,H,m,o,rfl,j.weak (w s),E⟩
theorem DH(h:VE A m (rV enc) p):VS A (Bu i m) R (p.bind λv=>some (.nx v)) (λv=>A.set i (.v (enc v))):=λf j S0 e F S g=>by
 obtain⟨v,l,o⟩:=A6 j;cases o;obtain⟨d,S',s,C,rfl⟩:=h v l S0 e F S g;exact⟨_,S',Ic s,_,_,rfl,(g.grow C).set i rfl,g.fle S'⟩
theorem Ge(h:VE A m (rN j) p):VS A (Bu i m) R (p.bind λv=>some (.nx v)) (λv=>A.set i (.y (j v))):=λf o S0 e F S g=>by
 obtain⟨v,s,C⟩:=A6 o;cases C;obtain⟨d,S',E,G,n,rfl,l,H⟩:=h v s S0 e F S g;exact⟨_,S',Ic E,_,_,rfl,(g.grow G).set (a:=.y (j v)) i ⟨n,rfl,KG l H,Av g.kp.1 l⟩,g.fle S'⟩
theorem Gf(h:VE A m (rN j) p):VS A (Bu i m) R (p.bind λv=>some (.nx v)) (λv=>A.set i (.w i (j v))):=λf l S0 e F S g=>by
 obtain⟨v,o,s⟩:=A6 l;cases s;obtain⟨d,S',C,E,n,rfl,G,H⟩:=h v o S0 e F S g;obtain⟨I,J,L⟩:=g.own E (i:=i) G H;exact⟨_,S',Ic C,_,I,rfl,J,L⟩
theorem FT{m:ME}{enc:ρ->D}{p:Option ρ}{B:σ->List Sl}(h:VE A m (rV enc) p):VS A (EY m) (rV enc) (p.bind λv=>some (.rt v)) B:=λf j S0 e F S g=>by
 obtain⟨v,l,o⟩:=A6 j;cases o;obtain⟨d,S',s,C,rfl⟩:=h v l S0 e F S g;exact⟨_,S',Je s,_,rfl,rfl,g.kp.trans C⟩
theorem Ta{m:ME}{j:ρ->Ob}{p:Option ρ}{B:σ->List Sl}(h:VE A m (rN j) p):VS A (EY m) (rN j) (p.bind λv=>some (.rt v)) B:=λf l S0 e F S g=>by
 obtain⟨v,o,s⟩:=A6 l;cases s;obtain⟨d,S',C,E,n,rfl,G,H⟩:=h v o S0 e F S g;exact⟨_,S',Je C,_,rfl,⟨n,rfl,Av g.kp.1 G,H⟩,g.kp.trans E⟩
theorem YU{i:Nat}{j:ρ->Ob}{v:ρ}{B:σ->List Sl}{k:Nat}(h:A[i]?=some (.w k (j v))):VS A (EY (AE i)) (rN j) (some (.rt v)) B:=λf l S0 e F S g=>by
 cases l;obtain⟨x,m,n,rfl,o,s⟩:=g.sl i _ h;exact⟨_,S,Je (d:=.ref n) (by unfold AE;rw[m]),_,rfl,⟨n,rfl,(g.ow _ _ o).1,s⟩,g.kp⟩
theorem IA{t:MT}{a b:MS}{R:Rk ρ}{pt:Option Bool}{p q:Option (Fw ρ σ)}{B:σ->List Sl}(H:VB A t pt)(I:VS A a R p B)(hb:VS A b R q B):VS A (sIf t a b) R (pt.bind λc=>if c=true then p else q) B:=λf J S0 e F S j=>by
 obtain⟨c,L,C⟩:=A6 J;obtain⟨l,E,G⟩:=H c L S0 e F S j
 cases c with
 | true=>
  obtain⟨g,m,o,s⟩:=I f C S0 e _ l (j.grow G);exact⟨g,m,(PY E).trans o,s.up (j.fle l)⟩
 | false=>
  obtain⟨g,m,o,s⟩:=hb f C S0 e _ l (j.grow G);exact⟨g,m,(PY E).trans o,s.up (j.fle l)⟩
def Ra(l:List α)(x:α):Option (List α):=if l.length < 1000000 then some (l++[x])else none
def OE(l k:List α):Option (List α):=if l.length+k.length<=1000000 then some (l++k)else none
theorem oa(h:n < 1000000):n < sizeLine:=Ae h (by decide)
theorem aS(h:n<=1000000):n<=sizeLine:=Av h (by decide)
theorem M5(hi:A[i]?=some (.w i (oL enc l)))(h:VE A m (rV enc) p)(H:((A.set i .u).all (Sl.oth i))=true) :
  VS A (C6 (JA (AE i) m)) R (p.bind λv=>(Ra l v).bind λj=>some (.nx j)) (λj=>A.set i (.w i (oL enc j))):=λf I S0 e F S o=>by
 obtain⟨v,J,g⟩:=A6 I;obtain⟨j,g,L⟩:=A6 g;cases L;unfold Ra at g;split at g
 ·rename_i N
  cases g;obtain⟨x,C,n,rfl,O,s⟩:=o.sl i _ hi;obtain⟨d,S',P,E,rfl⟩:=h v J S0 e F S o;have Q:=o.grow E;have G:=RZ (mo:=AE i) (e:=e) (S:=S) (S1:=S) (n:=n) (by unfold AE;rw[C]) s P (E.at s) (by rw[AF];exact oa N);rw[show l.map enc++[enc v]=(l++[v]).map enc by simp]at G;exact⟨_,_,EZ G,e,_,rfl,Q.put H hi C (by rw[EN (Ce s)];exact O),o.fle S'⟩
 ·cases g
theorem mL(hi:A[i]?=some (.w i (oL enc l)))(h:VE A m (rN (oL enc)) p)(H:((A.set i .u).all (Sl.oth i))=true) :
  VS A (C6 (Nz (AE i) m)) R (p.bind λv=>(OE l v).bind λj=>some (.nx j)) (λj=>A.set i (.w i (oL enc j))):=λf I S0 e F S o=>by
 obtain⟨v,J,g⟩:=A6 I;obtain⟨j,g,L⟩:=A6 g;cases L;unfold OE at g;split at g
 ·rename_i N
  cases g;obtain⟨x,C,n,rfl,O,s⟩:=o.sl i _ hi;obtain⟨d,S',P,E,k,rfl,Q,T⟩:=h v J S0 e F S o;have U:=o.grow E;have G:=aq (mo:=AE i) (e:=e) (S:=S) (S1:=S) (n:=n) (by unfold AE;rw[C]) s P (E.at s) T (λc=>by subst c;exact zX (Ce s) (JV.mpr Q)) (by rw[AF,AF];exact aS N);rw[<-BG]at G;exact⟨_,_,EZ G,e,_,rfl,U.put H hi C (by rw[EN (Ce s)];exact O),o.fle S'⟩
 ·cases g
theorem iF(hi:A[i]?=some (.w i (oL enc l)))(h:VE A m (rV (eT enc)) p)(G:((A.set i .u).all (Sl.oth i))=true) :
  VS A (C6 (V9 (AE i) m)) R (p.bind λv=>(OE l v).bind λj=>some (.nx j)) (λj=>A.set i (.w i (oL enc j))):=λf H S0 e F S o=>by
 obtain⟨v,I,g⟩:=A6 H;obtain⟨j,g,J⟩:=A6 g;cases J;unfold OE at g;split at g
 ·rename_i L
  cases g;obtain⟨x,C,n,rfl,N,s⟩:=o.sl i _ hi;obtain⟨d,S',O,E,rfl⟩:=h v I S0 e F S o;have P:=o.grow E
  have Q:V9 (AE i) m e S=.ok .non (S'.set n (.lst ((l++v).map enc))):=by
   unfold V9;rw[show AE i e S=.ok (.ref n) S by unfold AE;rw[C]];dsimp only[Res.bind];rw[show atL (.ref n) S=some (n,l.map enc) by unfold atL;dsimp only;rw[s];rfl];dsimp only;rw[O];dsimp only;rw[show atL (.ref n) S'=some (n,l.map enc) by unfold atL;dsimp only;rw[E.at s];rfl];unfold eT;dsimp only;rw[qX (by rw[AF,AF];exact aS L),BG]
  exact⟨_,_,EZ Q,e,_,rfl,P.put G hi C (by rw[EN (Ce s)];exact N),o.fle S'⟩
 ·cases g
theorem iG(h:VE A m Rm p):VS A (C6 m) R (p.bind λ_=>some (.nx ())) (λ_:Unit=>A):=λf j S0 e F S g=>by
 obtain⟨v,l,o⟩:=A6 j;cases o;obtain⟨d,S',s,C,_⟩:=h v l S0 e F S g;exact⟨_,S',EZ s,e,_,rfl,g.grow C,g.fle S'⟩
def VT(g:MG)(enc:α->D)(t:α->List Sl->List Sl):Prop:=∀x S0 A e F S,Vs S0 A e F S->∃j,g (enc x) e S=.ok j S/\Vs S0 (t x A) j F S
theorem ID:VT (tgN i) enc (λx A=>A.set i (.v (enc x))):=λx S0 A e F S g=>⟨_,rfl,g.set (a:=.v (enc x)) i rfl⟩
theorem TZ:VT (FR 2 (Bw (tgN i) (Bw (tgN j) Fj))) (eP a b) (λx A=>(A.set i (.v (a x.1))).set j (.v (b x.2))):=λx S0 A e F S g=>⟨_,rfl,(g.set (a:=.v (a x.1)) i rfl).set (a:=.v (b x.2)) j rfl⟩
def Gq:List α->σ->(σ->α->Option (Fw ρ σ))->Option (Fw ρ σ)
 | [],s,_=>some (.nx s)
 | x :: l,s,q=>match q s x with
  | some (.nx g)=>Gq l g q
  | some (.ct g)=>Gq l g q
  | some (.bk g)=>some (.nx g)
  | some (.rt r)=>some (.rt r)
  | none=>none
theorem iE{enc:α->D}{g:MG}{t:α->List Sl->List Sl}{b:MS}{R:Rk ρ}{q:σ->α->Option (Fw ρ σ)}{B:σ->List Sl}(hg:VT g enc t)(hb:∀s x,VS (t x (B s)) b R (q s x) B){w:Mm}{S0:Sto}{X:Fz}{j:List α}
  (hw:∀Y Z,Fle X Y->(∀n o,Y n=.fz o->Z[n]?=some o)->w Z=some (j.map enc)):∀(l:List α) (k:Nat),j.drop k=l->∀(s:σ) (f:Fw ρ σ),Gq l s q=some f->∀e F S,Vs S0 (B s) e F S->Fle X F->∃h S',Im w g b (l.length) k e S=.ok h S'/\VG S0 X S' R B h f:=by
 intro l
 induction l with
 | nil=>
  intro k Q s f C e F S O E;cases C
  have:j.length<=k:=by
   have:=congrArg EB Q;rw[CD,GU]at this
   lia
  refine⟨_,S,?_,e,F,rfl,O,E⟩;unfold Im;rw[hw F S E O.fz];dsimp only;rw[CM (by rw[AF];exact this)]
 | cons x l ih=>
  intro k Q s f C e F S O E
  have hx:j[k]?=some x:=by
   have:=congrArg (λz=>z[0]?) Q;rw[Gb]at this;simpa using this
  have uh:j.drop (k+1)=l:=by
   have G:j.drop (k+1)=(j.drop k).drop 1:=by rw[SY]
   exact G.trans (congrArg (List.drop 1) Q)
  obtain⟨G,g1,T⟩:=hg x S0 _ e F S O
  have run:∀h S',b G S=.ok h S'->Im w g b ((x :: l).length) k e S=(match h with
    | .nx m=>Im w g b l.length (k+1) m S'
    | .ct m=>Im w g b l.length (k+1) m S'
    | .bk m=>.ok (.nx m) S'
    | .rt d=>.ok (.rt d) S'
    | .ex c m=>.ok (.ex c m) S'):=λh S' vj=>by
   show Im w g b (l.length+1) k e S=_
   conv=>lhs;unfold Im
   rw[hw F S E O.fz];dsimp only;rw[Ah,hx];dsimp only[qE];rw[g1];dsimp only[Res.bind];rw[vj]
   all_goals (cases h <;> rfl)
  unfold Gq at C;split at C
  ·rename_i U H
   obtain⟨h,I,J,m,P,rfl,L,N⟩:=hb s x _ H S0 G F S T;rw[run _ _ J];exact ih (k+1) uh U f C m P I L (E.trans N)
  ·rename_i U H
   obtain⟨h,I,J,m,P,rfl,L,N⟩:=hb s x _ H S0 G F S T;rw[run _ _ J];exact ih (k+1) uh U f C m P I L (E.trans N)
  ·rename_i U H
   cases C;obtain⟨h,I,J,m,P,rfl,L,N⟩:=hb s x _ H S0 G F S T;rw[run _ _ J];exact⟨_,I,rfl,m,P,rfl,L,E.trans N⟩
  ·rename_i r H
   cases C;obtain⟨h,I,J,d,rfl,L,N⟩:=hb s x _ H S0 G F S T;rw[run _ _ J];exact⟨_,I,rfl,d,rfl,L,N⟩
  ·cases C
theorem Hr{enc:α->D}{mi:MI}{g:MG}{t:α->List Sl->List Sl}{b:MS}{R:Rk ρ}{p:Option (List α)}{q:σ->α->Option (Fw ρ σ)}{B:σ->List Sl}{s0:σ}(hi:VI A mi enc p)(E:VT g enc t)(w0:Wk A (B s0))(hb:∀s x,VS (t x (B s)) b R (q s x) B) :
  VS A (Hb mi g b) R (p.bind λl=>Gq l s0 q) B:=λf G S0 e F S o=>by
 obtain⟨l,H,I⟩:=A6 G;obtain⟨w,m,J,L,C⟩:=hi l H S0 e F S o;have j:=o.grow L
 have N:DE w m=l.length:=by unfold DE;rw[C _ m (Fle.refl _) j.fz];exact AF _
 obtain⟨h,O,P,Q⟩:=iE E hb C l 0 rfl s0 f I e _ m (j.weak w0) (Fle.refl _);refine⟨h,O,?_,Q.up (o.fle m)⟩;rw[O0 J,N];exact P
noncomputable def RQ(c:α->Option Bool)(m:α->Option β):List α->Option (List β)
 | []=>some []
 | x :: l=>(c x).bind λb=>if b=true then(m x).bind λy=>(RQ c m l).bind λg=>some (y :: g)else RQ c m l
def Ec(l:List α)(c:α->Option Bool)(m:α->Option β):Option (List β):=if l.length<=1000000 then RQ c m l else none
theorem cB{enc:α->D}{H:β->D}{g:MG}{P:List (Option D)->Prop}{T:α->List Sl}{c:MT}{m:ME}{Z:α->Option Bool}{pm:α->Option β}
  (hg:∀x S0 e F S o,P o->Vs S0 A e F S->∃C,g (enc x) (o++e) S=.ok (C++e) S/\P C/\Vs S0 (T x) (C++e) F S)
  (hc:∀x,VB (T x) c (Z x)) (hm:∀x,VE (T x) m (rV H) (pm x)) {w:Mm} {S0:Sto} {e:Lo} {j:List α} {S1:Sto} (hf:j.length<=1000000) (hw:∀vg,Keeps S1 vg->w vg=some (j.map enc)) :
  ∀(l:List α) (k:Nat),j.drop k=l->∀(r:List β),RQ Z pm l=some r->∀o F S s,P o->Vs S0 A e F S->Keeps S1 S->s.length<=k->∃S',Fq w g c m l.length k (o++e) S s=.ok (s++r.map H) S'/\Keeps S S':=by
 intro l
 induction l with
 | nil=>
  intro k I r J o F S s hp N G ha;cases J
  have:j.length<=k:=by
   have:=congrArg EB I;rw[CD,GU]at this
   lia
  refine⟨S,?_,Keeps.refl S⟩;unfold Fq;rw[hw S G];dsimp only;rw[CM (by rw[AF];exact this),LR,A3]
 | cons x l ih=>
  intro k I r J o F S s hp N G ha
  have hx:j[k]?=some x:=by
   have:=congrArg (λz=>z[0]?) I;rw[Gb]at this;simpa using this
  have uh:j.drop (k+1)=l:=by
   have e1:j.drop (k+1)=(j.drop k).drop 1:=by rw[SY]
   exact e1.trans (congrArg (List.drop 1) I)
  have O:k < j.length:=(AD.mp hx).1;obtain⟨C,g1,g2,g3⟩:=hg x S0 e F S o hp N;unfold RQ at J;obtain⟨b,h1,L⟩:=A6 J;obtain⟨S2,h3,E⟩:=hc x b h1 S0 _ F S g3;have u7:=N.grow E
  show ∃S',Fq w g c m (l.length+1) k (o++e) S s=_/\_
  conv=>arg 1;ext S';arg 1;lhs;unfold Fq
  rw[hw S G];dsimp only;rw[Ah,hx];dsimp only[qE];rw[qX (A5 ha (oa (Ae O hf))),g1];dsimp only[okR,Res.bind];rw[h3];dsimp only[okR,Res.bind]
  cases b with
  | true=>
   rw[qX rfl]at L ⊢;obtain⟨y,h5,h6⟩:=A6 L;obtain⟨ys,Q,h7⟩:=A6 h6;cases h7;obtain⟨d,S3,h8,R,rfl⟩:=hm x y h5 S0 _ _ S2 (g3.grow E);rw[h8];obtain⟨U,X,Y⟩:=ih (k+1) uh ys Q C _ S3 (s++[H y]) g2 (u7.grow R) (G.trans (E.trans R)) (by rw[AK,Al];lia);refine⟨U,?_,(E.trans R).trans Y⟩;show Fq w g c m l.length (k+1) (C++e) S3 (s++[H y])=_;rw[X,A8];rfl
  | false=>
   rw[qY Ac]at L ⊢;obtain⟨U,X,Y⟩:=ih (k+1) uh r L C _ S2 s g2 u7 (G.trans E) (by lia);exact⟨U,X,E.trans Y⟩
theorem YW{enc:α->D}{E:β->D}{n:Nat}{mi:MI}{g:MG}{P:List (Option D)->Prop}{T:α->List Sl}{c:MT}{m:ME}{p:Option (List α)}{G:α->Option Bool}{H:α->Option β}(hi:VK A mi enc p)(h0:P (Bd n none))
  (N:∀x S0 e F S j,P j->Vs S0 A e F S->∃s,g (enc x) (j++e) S=.ok (s++e) S/\P s/\Vs S0 (T x) (s++e) F S)
  (O:∀x,VB (T x) c (G x)) (Q:∀x,VE (T x) m (rV E) (H x)):VL A (Dw n mi g c m) E (p.bind λl=>Ec l G H):=λr R S0 e F S I=>by
 obtain⟨l,U,o⟩:=A6 R;obtain⟨w,C,X,J,L⟩:=hi l U S0 e F S I;unfold Ec at o;split at o
 ·rename_i Y
  have Z:=I.grow J;obtain⟨S2,h6,h7⟩:=cB N O Q Y L l 0 rfl r o _ _ C [] h0 Z (Keeps.refl _) (AN _);refine⟨S2,?_,J.trans h7⟩;rw[OF X,show DE w C=l.length by unfold DE;rw[L C (Keeps.refl _)];exact AF _];exact h6
 ·cases o
theorem EI{enc:α->D}{j:β->D}{mi:MI}{c:MT}{m:ME}{p:Option (List α)}{o:α->Option Bool}{s:α->Option β}(hi:VK A mi enc p)(C:∀x,VB (.v (enc x) :: A) c (o x))(E:∀x,VE (.v (enc x) :: A) m (rV j) (s x)) :
  VL A (Dw 1 mi (tgN 0) c m) j (p.bind λl=>Ec l o s):=
 YW (P:=λg=>∃z,g=[z]) hi ⟨none,rfl⟩ (λx S0 e F S g G H=>by
  obtain⟨z,rfl⟩:=G
  exact⟨[some (enc x)],rfl,⟨_,rfl⟩,H.cons (a:=.v (enc x)) rfl⟩) C E
theorem VN{a:α->D}{b:γ->D}{j:β->D}{mi:MI}{c:MT}{m:ME}{p:Option (List (α×γ))}{o:α×γ->Option Bool}{s:α×γ->Option β}(hi:VK A mi (eP a b) p)(C:∀x:α×γ,VB (.v (a x.1) :: .v (b x.2) :: A) c (o x))(E:∀x:α×γ,VE (.v (a x.1) :: .v (b x.2) :: A) m (rV j) (s x)) :
  VL A (Dw 2 mi (FR 2 (Bw (tgN 0) (Bw (tgN 1) Fj))) c m) j (p.bind λl=>Ec l o s):=
 YW (P:=λg=>∃z y,g=[z,y]) hi ⟨none,none,rfl⟩ (λx S0 e F S g G H=>by
  obtain⟨z,y,rfl⟩:=G
  exact⟨[some (a x.1),some (b x.2)],rfl,⟨_,_,rfl⟩,(H.cons (a:=.v (b x.2)) rfl).cons (a:=.v (a x.1)) rfl⟩) C E
theorem C9(h:VL A ml enc p):VE A (DV ml) (rN (oL enc)) p:=λv j S0 e F S l=>by
 obtain⟨S',m,g⟩:=h v j S0 e F S l;exact⟨_,_,Oq m,g.trans (Keeps.app _ _),_,rfl,g.1,DX _ _⟩
inductive Ar where
 | v (d:D) | z (o:Ob) | q (P:(Nat->Option Ob)->D->Prop)
def Ar.ok(S:Sto):Ar->D->Prop
 | .v d,x=>x=d
 | .z o,x=>∃n,x=.ref n/\S[n]?=some o
 | .q P,x=>∀L:Nat->Option Ob,(∀n o,S[n]?=some o->L n=some o)->P L x
def Ar.sl:Ar->Sl
 | .v d=>.v d
 | .z o=>.z o
 | .q P=>.q P
def MJ(S:Sto):List Ar->List D->Prop
 | [],[]=>True
 | a :: as,d :: g=>a.ok S d/\MJ S as g
 | _,_=>False
theorem MJ.len:∀{as:List Ar} {ds:List D},MJ S as ds->ds.length=as.length
 | [],[],_=>rfl
 | _ :: as,_ :: ds,h=>by rw[A0,A0,MJ.len h.2]
 | [],_ :: _,h=>h.elim
 | _ :: _,[],h=>h.elim
theorem MJ.at:∀{as:List Ar} {ds:List D},MJ S as ds->∀(i:Nat) (a:Ar),as[i]?=some a->∃d,ds[i]?=some d/\a.ok S d
 | [],[],_,i,a,h=>by simp at h
 | b :: as,d :: ds,h,0,a,q=>by cases q;exact⟨d,rfl,h.1⟩
 | b :: as,d :: ds,h,i+1,a,q=>MJ.at h.2 i a q
 | [],_ :: _,h,_,_,_=>h.elim
 | _ :: _,[],h,_,_,_=>h.elim
def VF(f:List D->Sto->Res D)(as:List Ar)(R:Rk α)(p:Option α):Prop:=∀v,p=some v->∀S g,MJ S as g->∃d S',f g S=.ok d S'/\Keeps S S'/\R v S d S'
def VA(A:List Sl)(ml:ML)(p:Option γ)(j:γ->List Ar):Prop:=∀v,p=some v->∀S0 e F S,Vs S0 A e F S->∃g S',ml e S=.ok g S'/\Keeps S S'/\MJ S' (j v) g
theorem EX:VA A BY (some ()) (λ_=>[]):=λv g S0 e F S j=>⟨[],S,rfl,Keeps.refl S,trivial⟩
theorem E1(h:VE A m (rV enc) p)(l:VA A ml q o):VA A (AU m ml) (p.bind λx=>q.bind λy=>some (x,y)) (λz=>.v (enc z.1) :: o z.2):=λv s S0 e F S g=>by
 obtain⟨x,C,E⟩:=A6 s;obtain⟨y,G,H⟩:=A6 E;cases H;obtain⟨d,I,J,j,rfl⟩:=h x C S0 e F S g;obtain⟨Q,L,N,O,P⟩:=l y G S0 e _ I (g.grow j);exact⟨_,L,B8 J N,j.trans O,rfl,P⟩
theorem Od(h:VE A m (rO o) p)(s:VA A ml q C):VA A (AU m ml) (p.bind λx=>q.bind λy=>some (x,y)) (λz=>.z (o z.1) :: C z.2):=λv E S0 e F S g=>by
 obtain⟨x,G,H⟩:=A6 E;obtain⟨y,I,J⟩:=A6 H;cases J;obtain⟨d,L,N,j,n,rfl,O⟩:=h x G S0 e F S g;obtain⟨T,P,Q,l,R⟩:=s y I S0 e _ L (g.grow j);exact⟨_,P,B8 N Q,j.trans l,⟨n,rfl,l.at O⟩,R⟩
theorem Dd(m:VA A ml p g)(o:∀z,VF f (g z) R (q z))(s:∀z,(g z).length=n)(hR:∀v S S1 d S',S.length<=S1.length->R v S1 d S'->R v S d S'):VE A (Cd n f ml) R (p.bind q):=λv C S0 e F S E=>by
 obtain⟨z,G,H⟩:=A6 C;obtain⟨I,S1,J,j,l⟩:=m z G S0 e F S E;obtain⟨d,L,N,O,P⟩:=o z v H S1 I l;exact⟨d,L,(Fx J (l.len.trans (s z))).trans N,j.trans O,hR _ _ _ _ _ j.1 P⟩
def TB(S:Sto):Fz:=λn=>match S[n]? with
 | some o=>.fz o
 | none=>.no
theorem Vs.start(h:MJ S as ds):Vs S (as.map Ar.sl++Bd (n - as.length) .u) (E2 n ds) (TB S) S:=by
 refine⟨Keeps.refl S,λn o q=>?_,λn i q=>?_,λn s=>by unfold TB;rw[CM s],λi a g=>?_⟩
 ·unfold TB at q
  split at q
  ·rename_i N C;cases q;exact C
  ·cases q
 ·unfold TB at q
  split at q <;> cases q
 ·unfold E2
  by_cases c:i < as.length
  ·rw[Aa (by rw[AF];exact c),Ah]at g
   rw[Aa (by rw[AF,h.len];exact c),Ah]
   cases j:as[i]? with
   | none=>rw[j]at g;cases g
   | some b=>
    rw[j]at g;cases g;obtain⟨d,E,l⟩:=h.at i b j;refine⟨some d,by rw[E];rfl,?_⟩
    cases b with
    | v x=>exact congrArg some l
    | z o=>obtain⟨m,G,H⟩:=l;exact⟨m,congrArg some G,by unfold TB;rw[H]⟩
    | q P=>exact⟨d,rfl,λL I=>l L λn o q=>I n o (by unfold TB;rw[q])⟩
  ·rw[A4 (by rw[AF];lia)]at g
   rw[AF,Da]at g;split at g
   ·rename_i J
    cases g;refine⟨none,?_,trivial⟩;rw[A4 (by rw[AF,h.len];lia),AF,h.len,Da,qX J]
   ·cases g
def LM(p:Option (Fw ρ σ)):Option ρ:=match p with
 | some (.rt r)=>some r
 | _=>none
def rP(p:Option (Fw Unit σ)):Option Unit:=match p with
 | some (.rt r)=>some ()
 | some (.nx _)=>some ()
 | _=>none
end
section
variable{S0 S S':Sto}{A:List Sl}{α β:Type}
section
variable{a b c:ME}{pa pb pc:Option Int}
theorem EV(g:VE A a (rV D.int) pa)(hb:VE A b (rV D.int) pb):VE A (m2 FO a b) (rV D.int) (pa.bind λx=>pb.bind λy=>some (x+y)):=IB g hb λx y z S h=>by cases h;rfl
theorem Te(g:VE A a (rV D.int) pa)(hb:VE A b (rV D.int) pb):VE A (m2 Z1 a b) (rV D.int) (pa.bind λx=>pb.bind λy=>some (x - y)):=IB g hb λx y z S h=>by cases h;rfl
def aO(x y:Int):Option Int:=if Wb x y then some (x * y)else none
def ZM(x y:Int):Option Int:=if gY x y then some (x / y)else none
def SK(x y:Int):Option Int:=if 0 < y then some (x % y)else none
def T9(x y:Int):Option Int:=if kg x y then some (x ^ y.toNat)else none
theorem XJ(g:VE A a (rV D.int) pa)(hb:VE A b (rV D.int) pb):VE A (m2 UI a b) (rV D.int) (pa.bind λx=>pb.bind λy=>aO x y):=IB g hb λx y z S h=>by
 unfold aO at h;split at h
 ·rename_i j;cases h;exact qX j
 ·cases h
theorem iT(g:VE A a (rV D.int) pa)(hb:VE A b (rV D.int) pb):VE A (m2 Mw a b) (rV D.int) (pa.bind λx=>pb.bind λy=>ZM x y):=IB g hb λx y z S h=>by
 unfold ZM at h;split at h
 ·rename_i j;cases h;exact qX j
 ·cases h
theorem M6(g:VE A a (rV D.int) pa)(hb:VE A b (rV D.int) pb):VE A (m2 Kj a b) (rV D.int) (pa.bind λx=>pb.bind λy=>SK x y):=IB g hb λx y z S h=>by
 unfold SK at h;split at h
 ·rename_i j;cases h;exact Y3 j
 ·cases h
theorem XH(g:VE A a (rV D.int) pa)(hb:VE A b (rV D.int) pb):VE A (m2 dS a b) (rV D.int) (pa.bind λx=>pb.bind λy=>T9 x y):=IB g hb λx y z S h=>by
 unfold T9 at h;split at h
 ·rename_i j;cases h;exact qX j
 ·cases h
theorem Lc(j:(decide (0 < k)&&decide (k<=1000000))=true)(l:VE A a (rV D.int) pa):VE A (m2 Mw a (mC (.int k))) (rV D.int) (pa.bind λx=>some (x / k)):=λv m S0 e F S o=>by
 obtain⟨x,s,B⟩:=A6 m;cases B;obtain⟨d,S',C,E,rfl⟩:=l x s S0 e F S o;have g:=CF _ _▸j;exact⟨_,S',Dh C rfl (fh (of_decide_eq_true g.1) (of_decide_eq_true g.2)),E,rfl⟩
theorem JF(g:decide (0 < k)=true)(j:VE A a (rV D.int) pa):VE A (m2 Kj a (mC (.int k))) (rV D.int) (pa.bind λx=>some (x % k)):=λv l S0 e F S m=>by
 obtain⟨x,o,s⟩:=A6 l;cases s;obtain⟨d,S',B,C,rfl⟩:=j x o S0 e F S m;exact⟨_,S',Dh B rfl (Y3 (of_decide_eq_true g)),C,rfl⟩
theorem YY(j:(decide (-1000000<=k)&&decide (k<=1000000))=true)(l:VE A a (rV D.int) pa):VE A (m2 UI a (mC (.int k))) (rV D.int) (pa.bind λx=>some (x * k)):=λv m S0 e F S o=>by
 obtain⟨x,s,B⟩:=A6 m;cases B;obtain⟨d,S',C,E,rfl⟩:=l x s S0 e F S o;have g:=CF _ _▸j;exact⟨_,S',Dh C rfl (jk (of_decide_eq_true g.1) (of_decide_eq_true g.2)),E,rfl⟩
theorem Tg(g:VE A a (rV D.int) pa):VE A (SM a) (rV D.int) (pa.bind λx=>some (-x)):=λv j S0 e F S l=>by
 obtain⟨x,m,o⟩:=A6 j;cases o;obtain⟨d,S',s,B,rfl⟩:=g x m S0 e F S l;exact⟨_,S',by unfold SM;rw[s];rfl,B,rfl⟩
theorem cF(g:VE A a (rV D.int) pa)(hb:VE A b (rV D.int) pb):VE A (m2 ltD a b) (rV D.bl) (pa.bind λx=>pb.bind λy=>some (decide (x < y))):=IB g hb λx y z S h=>by cases h;rfl
theorem k8(g:VE A a (rV D.int) pa)(hb:VE A b (rV D.int) pb):VE A (m2 gtD a b) (rV D.bl) (pa.bind λx=>pb.bind λy=>some (decide (y < x))):=IB g hb λx y z S h=>by cases h;rfl
theorem qj(g:VE A a (rV D.int) pa)(hb:VE A b (rV D.int) pb):VE A (m2 geD a b) (rV D.bl) (pa.bind λx=>pb.bind λy=>some (decide (y<=x))):=IB g hb λx y z S h=>by cases h;rfl
theorem VY{f g:D->D->Sto->Res D}{P Q:Int->Int->Bool}(J:∀x y S,f (.int x) (.int y) S=.ok (.bl (P x y)) S)(L:∀x y S,g (.int x) (.int y) S=.ok (.bl (Q x y)) S)(N:VE A a (rV D.int) pa)(hb:VE A b (rV D.int) pb)(O:VE A c (rV D.int) pc) :
  VE A (m3 f g a b c) (rV D.bl) (pa.bind λx=>pb.bind λy=>if P x y=true then pc.bind λz=>some (Q y z)else some false):=λv o S0 e F S s=>by
 obtain⟨x,R,o⟩:=A6 o;obtain⟨y,T,j⟩:=A6 o;obtain⟨d1,U,E,l,rfl⟩:=N x R S0 e F S s;obtain⟨d2,B,G,C,rfl⟩:=hb y T S0 e _ U (s.grow l);have m:=J x y B
 cases H:P x y with
 | false=>
  rw[H]at j m;cases j;exact⟨_,B,rl E G m,l.trans C,rfl⟩
 | true=>
  rw[H]at j m;rw[qX rfl]at j;obtain⟨w,X,Y⟩:=A6 j;cases Y;obtain⟨d3,I,Z,k3,rfl⟩:=O w X S0 e _ B ((s.grow l).grow C);exact⟨_,I,eX E G m Z (L y w I),(l.trans C).trans k3,rfl⟩
theorem lQ(x y:Int)(S:Sto):ltD (.int x) (.int y) S=.ok (.bl (decide (x < y))) S:=rfl
theorem lR(x y:Int)(S:Sto):leD (.int x) (.int y) S=.ok (.bl (decide (x<=y))) S:=rfl
theorem YZ(m:VE A a (rV D.int) pa)(hb:VE A b (rV D.int) pb):VE A (mQ Nx (AU a (AU b BY))) (rV D.int) (pa.bind λx=>pb.bind λy=>some (if y < x then y else x)):=λv g S0 e F S j=>by
 obtain⟨x,o,g⟩:=A6 g;obtain⟨y,s,B⟩:=A6 g;cases B;obtain⟨d1,C,E,l,rfl⟩:=m x o S0 e F S j;obtain⟨d2,G,H,I,rfl⟩:=hb y s S0 e _ C (j.grow l);exact⟨_,G,dH (B8 E (B8 H rfl)) rfl,l.trans I,rfl⟩
theorem iO(m:VE A a (rV D.int) pa)(hb:VE A b (rV D.int) pb):VE A (mQ PR (AU a (AU b BY))) (rV D.int) (pa.bind λx=>pb.bind λy=>some (if y > x then y else x)):=λv g S0 e F S j=>by
 obtain⟨x,o,g⟩:=A6 g;obtain⟨y,s,B⟩:=A6 g;cases B;obtain⟨d1,C,E,l,rfl⟩:=m x o S0 e F S j;obtain⟨d2,G,H,I,rfl⟩:=hb y s S0 e _ C (j.grow l);exact⟨_,G,dH (B8 E (B8 H rfl)) rfl,l.trans I,rfl⟩
end
def EqN(n:Nat)(enc:α->D)[DecidableEq α]:Prop:=∀x y,eqP n (enc x) (enc y)=some (decide (x=y))
def NL(enc:α->D):Prop:=∀x S,Pv (enc x) S=none
theorem CJ:EqN n D.int:=λx y=>by
 have:NI (.int x) (.int y)=some (decide (x=y)):=rfl
 cases n <;> exact this
theorem kI{n:Nat}{enc:α->D}[DecidableEq α](h:EqN n enc):EqN (n+1) (eT enc):=by
 have g:∀l k:List α,eqL (eqP n) (l.map enc) (k.map enc)=some (decide (l=k)):=by
  intro l
  induction l with
  | nil=>intro k;cases k <;> rfl
  | cons x l j=>
   intro k
   cases k with
   | nil=>rfl
   | cons y k=>
    rw[BB,BB];unfold eqL;rw[h x y,j k]
    by_cases c:x=y <;> by_cases d:l=k <;> simp[c,d]
 exact λl k=>g l k
theorem fk{n:Nat}{a:α->D}{b:β->D}[DecidableEq α][DecidableEq β](g:EqN n a)(hb:EqN n b):EqN (n+1) (eP a b):=λx y=>by
 show eqL (eqP n) [a x.1,b x.2] [a y.1,b y.2]=_;unfold eqL eqL eqL;rw[g,hb];obtain⟨j,l⟩:=x;obtain⟨m,o⟩:=y
 by_cases c:j=m <;> by_cases d:l=o <;> simp[c,d]
theorem Kg:NL D.int:=λ_ _=>rfl
theorem oU:NL (eT enc):=λ_ _=>rfl
section
variable{a b:ME}{enc:α->D}[DecidableEq α]
theorem fo(h:EqN 8 enc)(n:NL enc)(neg:Bool)(x y:α)(S:Sto):eqD neg (enc x) (enc y) S=.ok (.bl (if neg then !decide (x=y)else decide (x=y))) S:=by
 unfold eqD eqB;rw[n x S,n y S];dsimp only;rw[h x y]
theorem cH(h:EqN 8 enc)(n:NL enc)(g:VE A a (rV enc) j)(hb:VE A b (rV enc) l):VE A (m2 (eqD false) a b) (rV D.bl) (j.bind λx=>l.bind λy=>some (decide (x=y))):=IB g hb λx y z S q=>by cases q;exact fo h n false x y S
theorem QX(h:EqN 8 enc)(n:NL enc)(g:VE A a (rV enc) j)(hb:VE A b (rV enc) l):VE A (m2 (eqD true) a b) (rV D.bl) (j.bind λx=>l.bind λy=>some (!decide (x=y))):=IB g hb λx y z S q=>by cases q;exact fo h n true x y S
theorem WX(h:EqN 8 enc)(x:α):∀l:List α,Mz (enc x) (l.map enc)=some (decide (x∈l))
 | []=>by simp[Mz]
 | y :: l=>by
  rw[BB];unfold Mz;rw[h y x,WX h x l]
  by_cases c:y=x
  ·subst c;simp
  ·have:¬x=y:=λz=>c z.symm
   simp[c,this]
theorem Xx(h:EqN 8 enc)(neg:Bool)(x:α){l:List α}{d:D}{S:Sto}(g:GZ d S=some (l.map enc)):inA neg (enc x) d S=.ok (.bl (if neg then !decide (x∈l)else decide (x∈l))) S:=by
 show F4 (inD neg (enc x) d S) _=_
 have e:inD neg (enc x) d S=.ok (.bl (if neg then !decide (x∈l)else decide (x∈l))) S:=by
  unfold inD;rw[g];dsimp only;rw[WX h]
 rw[e];rfl
theorem JY{g:Option (List α)}(h:EqN 8 enc)(j:VE A a (rV enc) m)(hb:VE A b (rV (eT enc)) g):VE A (m2 (inA false) a b) (rV D.bl) (m.bind λx=>g.bind λl=>some (decide (x∈l))):=IB j hb λx l z S q=>by cases q;exact Xx h false x rfl
theorem Nc{g:Option (List α)}(h:EqN 8 enc)(j:VE A a (rV enc) m)(hb:VE A b (rV (eT enc)) g):VE A (m2 (inA true) a b) (rV D.bl) (m.bind λx=>g.bind λl=>some (!decide (x∈l))):=IB j hb λx l z S q=>by cases q;exact Xx h true x rfl
theorem Tf{g:Option (List α)}(h:EqN 8 enc)(j:VE A a (rV enc) m)(hb:VE A b (rO (oL enc)) g):VE A (m2 (inA true) a b) (rV D.bl) (m.bind λx=>g.bind λl=>some (!decide (x∈l))):=XI j hb λx l z S n o q=>by cases q;exact Xx h true x (EK o)
end
section
variable{a b m mo:ME}
theorem kY(l:List α)(i:Int)(f:α->β):atI (l.map f) i=(atI l i).map f:=by
 unfold atI;rw[AF]
 cases ixN l.length i with
 | none=>rfl
 | some j=>show(l.map f)[j]?=(l[j]?).map f;rw[Ah]
theorem RA(g:GZ d S=some (l.map enc))(h:atI l i=some x):ixA d (.int i) S=.ok (enc x) S:=by
 show F4 (ixD d (.int i) S) _=_
 have:ixD d (.int i) S=.ok (enc x) S:=by
  unfold ixD;rw[g];dsimp only;rw[kY,h];rfl
 rw[this];rfl
theorem Oa(g:VE A a (rV (eT enc)) j)(hb:VE A b (rV D.int) pi):VE A (m2 ixA a b) (rV enc) (j.bind λl=>pi.bind λi=>atI l i):=IB g hb λl i z S q=>RA rfl q
theorem mT{g}(j:VE A a (rV eF) g)(hb:VE A b (rV D.int) pi):VE A (m2 ixA a b) (rV D.int) (g.bind λl=>pi.bind λi=>atI l i):=IB j hb λl i z S q=>RA rfl q
theorem D7(g:VE A a (rO (oL enc)) j)(hb:VE A b (rV D.int) pi):VE A (m2 ixA a b) (rV enc) (j.bind λl=>pi.bind λi=>atI l i):=cK g hb λl i z S n o q=>RA (EK o) q
theorem QY(j:VE A a (rV (eP g l)) p):VE A (m2 ixA a (mC (.int 0))) (rV g) (p.bind λx=>some x.1):=λv o S0 e F S s=>by
 obtain⟨x,B,C⟩:=A6 o;cases C;obtain⟨d,S',E,G,rfl⟩:=j x B S0 e F S s;exact⟨_,S',Dh E rfl (Y9 (ds:=[g x.1,l x.2]) rfl (by decide) rfl),G,rfl⟩
theorem XG(j:VE A a (rV (eP l g)) p):VE A (m2 ixA a (mC (.int 1))) (rV g) (p.bind λx=>some x.2):=λv o S0 e F S s=>by
 obtain⟨x,B,C⟩:=A6 o;cases C;obtain⟨d,S',E,G,rfl⟩:=j x B S0 e F S s;exact⟨_,S',Dh E rfl (Y9 (ds:=[l x.1,g x.2]) rfl (by decide) rfl),G,rfl⟩
theorem MP(g:VE A a (rV (eT enc)) j):VE A (Jf a) (rV D.int) (j.bind λl=>some (l.length:Int)):=λv o S0 e F S s=>by
 obtain⟨l,B,C⟩:=A6 o;cases C;obtain⟨d,S',E,G,rfl⟩:=g l B S0 e F S s;exact⟨_,S',(Xs (ds:=l.map enc) E rfl).trans (by rw[AF]),G,rfl⟩
theorem iQ{g}(j:VE A a (rV eF) g):VE A (Jf a) (rV D.int) (g.bind λl=>some (l.length:Int)):=λv o S0 e F S s=>by
 obtain⟨l,B,C⟩:=A6 o;cases C;obtain⟨d,S',E,G,rfl⟩:=j l B S0 e F S s;exact⟨_,S',(Xs (ds:=l.map D.int) E rfl).trans (by rw[AF]),G,rfl⟩
theorem MQ(g:VE A a (rO (oL enc)) j):VE A (Jf a) (rV D.int) (j.bind λl=>some (l.length:Int)):=λv o S0 e F S s=>by
 obtain⟨l,B,C⟩:=A6 o;cases C;obtain⟨d,S',E,G,n,rfl,H⟩:=g l B S0 e F S s;exact⟨_,S',(Xs (ds:=l.map enc) E (EK H)).trans (by rw[AF]),G,rfl⟩
def Z7(l:ZLi):Option Int:=if l.length<=4000 then some (Ol l:Int)else none
theorem He:∀ns:ZLi,Gn (ns.map D.int)=some ns
 | []=>rfl
 | x :: ns=>by rw[BB];unfold Gn;rw[He ns];rfl
theorem Zw{j}(o:VE A a (rV (eT D.int)) j):VE A (P8 a) (rV D.int) (j.bind Z7):=λv s S0 e F S B=>by
 obtain⟨l,C,g⟩:=A6 s;unfold Z7 at g;split at g
 ·rename_i E
  cases g;obtain⟨d,S',G,H,rfl⟩:=o l C S0 e F S B;refine⟨_,S',?_,H,rfl⟩;unfold P8;rw[G];dsimp only[Res.bind];rw[show GZ (eT D.int l) S'=some (l.map D.int)from rfl];dsimp only;rw[He];exact qX E
 ·cases g
theorem G5(g:VE A a (rO (oL enc)) pl):VE A (FZ a) (rV (eT enc)) pl:=λl j S0 e F S o=>by
 obtain⟨d,S',s,B,n,rfl,C⟩:=g l j S0 e F S o;exact⟨_,S',Ni s (EK C),B,rfl⟩
theorem Tc(g:VE A a (rO (oL enc)) pl):VL A (Kn a) enc pl:=λl j S0 e F S o=>by
 obtain⟨d,S',s,B,n,rfl,C⟩:=g l j S0 e F S o;exact⟨S',Yn s (EK C),B⟩
theorem iJ{pl}(g:VE A a (rV eF) pl):VL A (Kn a) D.int pl:=λl j S0 e F S o=>by
 obtain⟨d,S',s,B,rfl⟩:=g l j S0 e F S o;exact⟨S',Yn s rfl,B⟩
theorem Td(h:VL A ml enc pl):VL A (mN Sq ml) enc pl:=λl g S0 e F S j=>by
 obtain⟨S',o,s⟩:=h l g S0 e F S j;exact⟨S',by unfold mN;rw[o];rfl,s⟩
theorem Hs:VL A BY enc (some []):=λv g S0 e F S j=>by cases g;exact⟨S,rfl,Keeps.refl S⟩
theorem Gg(h:VE A m (rV enc) p)(o:VL A ml enc s):VL A (AU m ml) enc (p.bind λx=>s.bind λl=>some (x :: l)):=λv B S0 e F S g=>by
 obtain⟨x,C,E⟩:=A6 B;obtain⟨l,G,H⟩:=A6 E;cases H;obtain⟨d,I,J,j,rfl⟩:=h x C S0 e F S g;obtain⟨L,N,O⟩:=o l G S0 e _ I (g.grow j);exact⟨L,B8 J N,j.trans O⟩
def KF(l:List α):Option (List α):=if l.length<=1000000 then some l else none
theorem Fi(h:VL A ml enc j):VL A (De ml) enc (j.bind KF):=λv o S0 e F S s=>by
 obtain⟨l,B,g⟩:=A6 o;unfold KF at g;split at g
 ·rename_i C
  cases g;obtain⟨S',E,G⟩:=h _ B S0 e F S s;refine⟨S',?_,G⟩;unfold De;rw[E];dsimp only[Res.bind];rw[qX (by rw[AF];exact aS C)]
 ·cases g
theorem cE(h:VL A ml enc j):VE A (KC ml) (rV (eT enc)) (j.bind KF):=λv o S0 e F S s=>by
 obtain⟨l,B,g⟩:=A6 o;unfold KF at g;split at g
 ·rename_i C
  cases g;obtain⟨S',E,G⟩:=h _ B S0 e F S s;refine⟨_,S',?_,G,rfl⟩;unfold KC;rw[E];dsimp only[Res.bind];rw[qX (by rw[AF];exact aS C)];rfl
 ·cases g
theorem KQ(B:VE A a (rV j) C)(hb:VE A b (rV l) E):VE A (KC (AU a (AU b BY))) (rV (eP j l)) (C.bind λx=>E.bind λy=>some (x,y)):=λv g S0 e F S o=>by
 obtain⟨x,G,g⟩:=A6 g;obtain⟨y,H,I⟩:=A6 g;cases I;obtain⟨d1,J,L,s,rfl⟩:=B x G S0 e F S o;obtain⟨d2,N,O,P,rfl⟩:=hb y H S0 e _ J (o.grow s);exact⟨_,N,XV (ds:=[j x,l y]) (B8 L (B8 O rfl)) (by simp),s.trans P,rfl⟩
theorem Yd(g:VE A a (rV (eT enc)) j)(hb:VE A b (rV (eT enc)) o):VE A (m2 FO a b) (rV (eT enc)) (j.bind λl=>o.bind λk=>OE l k):=IB g hb λl k z S q=>by
 unfold OE at q;split at q
 ·rename_i s
  cases q;unfold eT;rw[BG];exact iW (by rw[AF,AF];exact aS s)
 ·cases q
theorem iV(E:VE A a (rO (oL enc)) G)(hb:VE A b (rO (oL enc)) H):VE A (m2 FO a b) (rN (oL enc)) (G.bind λl=>H.bind λk=>OE l k):=λv j S0 e F S B=>by
 obtain⟨x,I,j⟩:=A6 j;obtain⟨y,J,g⟩:=A6 j;obtain⟨d1,L,N,o,n,rfl,O⟩:=E x I S0 e F S B;obtain⟨d2,C,P,s,m,rfl,Q⟩:=hb y J S0 e _ L (B.grow o);unfold OE at g;split at g
 ·rename_i R
  cases g;refine⟨_,_,Dh N P (d:=.ref C.length) (S3:=C++[oL enc (x++y)]) ?_,(o.trans s).trans (Keeps.app _ _),_,rfl,(o.trans s).1,DX _ _⟩;unfold FO;dsimp only;rw[s.at O,Q];unfold oL;dsimp only;rw[qX (by rw[AF,AF];exact aS R),BG]
 ·cases g
def VO(A:List Sl)(mo:MO)(p:Option (Option Int)):Prop:=∀v,p=some v->∀S0 e F S,Vs S0 A e F S->∃S',mo e S=.ok v S'/\Keeps S S'
theorem Tb:VO A Vz (some none):=λv g S0 e F S j=>by cases g;exact⟨S,rfl,Keeps.refl S⟩
theorem Nb(h:VE A m (rV D.int) pi):VO A (PP m) (pi.bind λi=>some (some i)):=λv g S0 e F S j=>by
 obtain⟨x,l,o⟩:=A6 g;cases o;obtain⟨d,S',s,B,rfl⟩:=h x l S0 e F S j;exact⟨S',by unfold PP;rw[s];rfl,B⟩
theorem WQ(l:List α)(f:α->β)(lo hi:Option Int):Gv (l.map f) lo hi=(Gv l lo hi).map f:=by
 unfold Gv;rw[AF,<-List.map_drop,<-lq]
theorem Ti(E:VE A a (rO (oL enc)) G)(H:VO A mlo I)(J:VO A mhi ph):VE A (Km a mlo mhi) (rN (oL enc)) (G.bind λl=>I.bind λx=>ph.bind λy=>some (Gv l x y)):=λv g S0 e F S s=>by
 obtain⟨l,L,g⟩:=A6 g;obtain⟨x,N,g⟩:=A6 g;obtain⟨y,O,P⟩:=A6 g;cases P;obtain⟨d1,Q,R,j,n,rfl,T⟩:=E l L S0 e F S s;obtain⟨U,X,o⟩:=H x N S0 e _ Q (s.grow j);obtain⟨B,Y,C⟩:=J y O S0 e _ U ((s.grow j).grow o);refine⟨.ref B.length,B++[oL enc (Gv l x y)],?_,((j.trans o).trans C).trans (Keeps.app _ _),_,rfl,((j.trans o).trans C).1,DX _ _⟩;unfold Km;rw[R];dsimp only[Res.bind];rw[X];dsimp only;rw[Y];dsimp only;unfold Tu;dsimp only;rw[Q7 ((o.trans C).at T)];show Res.ok _ (B++[Ob.lst (Gv (l.map enc) x y)])=_;rw[WQ];rfl
theorem QW{g}(o:VE A a (rO (oL D.int)) g):VE A (DO a) (rN (oL D.int)) (g.bind λl=>some (CO l)):=λv s S0 e F S B=>by
 obtain⟨l,C,E⟩:=A6 s;cases E;obtain⟨d,S',G,j,n,rfl,H⟩:=o l C S0 e F S B;refine⟨_,_,IX G (Kp H) (es:=(CO l).map D.int) ?_,j.trans (Keeps.app _ _),_,rfl,j.1,DX _ _⟩;unfold LB;rw[He]
theorem Vp:∀g:List ZLi,g.all (λr=>!r.isEmpty)=true->Mt (g.map Mh)=some g
 | [],_=>rfl
 | [] :: g,h=>by simp at h
 | (x :: r) :: g,h=>by
  rw[ls,CF]at h;show Mt (.tup ((x :: r).map D.int) :: g.map Mh)=_;unfold Mt;rw[He,Vp g h.2]
theorem Lb(g:VE A a (rV (eT enc)) pl):VI A (Dy a) enc pl:=λl j S0 e F S o=>by
 obtain⟨d,S',s,B,rfl⟩:=g l j S0 e F S o;exact⟨_,S',N6 (xs:=l.map enc) s,B,λ_ _ _ _=>rfl⟩
theorem mP(j:VE A a (rN (oL enc)) pl):VI A (Dy a) enc pl:=λl o S0 e F S s=>by
 obtain⟨d,S',B,C,n,rfl,E,g⟩:=j l o S0 e F S s;exact⟨_,S',Go B g,C,λH I G h=>EJ (h n _ (G _ _ (KG E g)))⟩
theorem OZ(h:A[i]?=some (.z (oL enc l))):VI A (Dy (AE i)) enc (some l):=λ_ s S0 e F S g=>by
 cases s;obtain⟨x,B,n,rfl,j⟩:=g.sl i _ h;have o:=g.fz _ _ j;exact⟨_,S,Go (n:=n) (by unfold AE;rw[B]) o,Keeps.refl S,λE G C h=>EJ (h n _ (C _ _ (by rw[EN (Ce o)];exact j)))⟩
theorem iL(h:A[i]?=some (.y (oL enc l))):VI A (Dy (AE i)) enc (some l):=λ_ s S0 e F S g=>by
 cases s;obtain⟨x,B,n,rfl,j,_⟩:=g.sl i _ h;have o:=g.fz _ _ j;exact⟨_,S,Go (n:=n) (by unfold AE;rw[B]) o,Keeps.refl S,λE G C h=>EJ (h n _ (C _ _ (by rw[EN (Ce o)];exact j)))⟩
theorem mO(j:VE A a (rO (oL enc)) pl):VK A (Dy a) enc pl:=λl o S0 e F S s=>by
 obtain⟨d,S',B,C,n,rfl,g⟩:=j l o S0 e F S s;exact⟨_,S',Go B g,C,λE k=>EJ (k.at g)⟩
noncomputable def Hv(lo:Int)(n:Nat):ZLi:=(BM n).map λi:Nat=>lo+i
def T7(j:Int):Option ZLi:=if -1000000<=j/\j<=1000000 then some (Hv 0 j.toNat)else none
def i7(i j:Int):Option ZLi:=if -1000000<=i/\i<=1000000/\-1000000<=j/\j<=1000000 then some (Hv i (j - i).toNat)else none
theorem dA(lo:Int)(n:Nat):Ii lo n=(Hv lo n).map D.int:=by
 unfold Ii Hv;rw[Bc];rfl
theorem IV(s:VE A a (rV D.int) pi):VI A (iR1 (AU a BY)) D.int (pi.bind T7):=λl B S0 e F S C=>by
 obtain⟨j,E,g⟩:=A6 B;obtain⟨d,S',G,H,rfl⟩:=s j E S0 e F S C;unfold T7 at g;split at g
 ·rename_i o
  cases g;exact⟨_,S',fN (j:=j) (B8 G rfl) o.1 o.2,H,λ_ _ _ _=>congrArg some (dA _ _)⟩
 ·cases g
theorem Zu(E:VE A a (rV D.int) pi)(hb:VE A b (rV D.int) pj):VI A (iR2 (AU a (AU b BY))) D.int (pi.bind λi=>pj.bind λj=>i7 i j):=λl s S0 e F S B=>by
 obtain⟨i,G,s⟩:=A6 s;obtain⟨j,H,g⟩:=A6 s;obtain⟨d,I,J,C,rfl⟩:=E i G S0 e F S B;obtain⟨d,L,N,O,rfl⟩:=hb j H S0 e _ I (B.grow C);unfold i7 at g;split at g
 ·rename_i o
  cases g;exact⟨_,L,oz (i:=i) (j:=j) (B8 J (B8 N rfl)) o.1 o.2.1 o.2.2.1 o.2.2.2,C.trans O,λ_ _ _ _=>congrArg some (dA _ _)⟩
 ·cases g
noncomputable def L6(l:List α):List (Int×α):=l.zipIdx.map λx=>((x.2:Int),x.1)
theorem a7(l:List α):O4 (l.map enc)=(L6 l).map (eP D.int enc):=by
 unfold O4 L6;rw[List.zipIdx_map,Bc,Bc];rfl
end
end
section
variable{α β ρ σ κ κ':Type}
def oDK(enc:α->D)(l:List (Int×α)):Ob:=.dK (l.map λx=>(CQ x.1,enc x.2))
theorem cM[DecidableEq κ][DecidableEq κ']{g:κ->κ'}(j:∀x y,g x=g y->x=y)(f:α->β)(l:List (κ×α))(k:κ):C3 (l.map λx=>(g x.1,f x.2)) (g k)=(C3 l k).map f:=by
 unfold C3
 induction l with
 | nil=>rfl
 | cons x l m=>
  rw[BB,Bo,Bo]
  by_cases c:x.1=k
  ·rw[wX c,wX (show g x.1=g k by rw[c])]
   rfl
  ·rw[wY c,wY λz=>c (j _ _ z)]
   exact m
theorem Vu[DecidableEq κ][DecidableEq κ']{g:κ->κ'}(m:∀x y,g x=g y->x=y)(f:α->β)(l:List (κ×α))(k:κ)(v:α):FX (l.map λx=>(g x.1,f x.2)) (g k) (f v)=(FX l k v).map λx=>(g x.1,f x.2):=by
 have any:((l.map λx=>(g x.1,f x.2)).any λj=>decide (j.1=g k))=l.any λj=>decide (j.1=k):=by
  rw[List.any_map]
  congr 1
  funext x
  exact decide_eq_decide.mpr ⟨m _ _,λz=>congrArg g z⟩
 unfold FX;rw[any];split
 ·rw[Bc,Bc]
  refine Ci λx _=>?_
  show(if g x.1=g k then(g x.1,f v)else(g x.1,f x.2))=_
  by_cases c:x.1=k
  ·show _=(λx:κ×α=>(g x.1,f x.2)) (if x.1=k then(x.1,v)else x)
   rw[qX c,qX (show g x.1=g k by rw[c])]
  ·show _=(λx:κ×α=>(g x.1,f x.2)) (if x.1=k then(x.1,v)else x)
   rw[qY c,qY λz=>c (m _ _ z)]
 ·rw[BG]
  rfl
theorem UO(x y:Int)(h:(CQ x:Key)=CQ y):x=y:=by cases h;rfl
theorem ZV{enc:α->D}{l:List (Int×α)}{n:Nat}{S:Sto}(h:S[n]?=some (oDK enc l))(k:Int):Ml (.ref n) (.int k) S=some ((C3 l k).map enc):=by
 unfold Ml;dsimp only;rw[h];show some (C3 _ (CQ k))=_;rw[cM UO]
theorem fy(g:GZ (.ref n) S=none)(h:Ml (.ref n) y S=some o)(neg:Bool):inA neg y (.ref n) S=.ok (.bl (if neg then !o.isSome else o.isSome)) S:=by
 show F4 (inD neg y (.ref n) S) (LN neg y (.ref n) S)=_;rw[show inD neg y (.ref n) S=.bad by unfold inD;rw[g]];show LN neg y (.ref n) S=_;unfold LN;rw[h]
theorem pR(g:GZ (.ref n) S=none)(h:Ml (.ref n) y S=some (some d)):ixA (.ref n) y S=.ok d S:=by
 show F4 (ixD (.ref n) y S) (Mx (.ref n) y S)=_;rw[show ixD (.ref n) y S=.bad by unfold ixD;rw[g]];show Mx (.ref n) y S=_;unfold Mx;rw[h]
theorem nM(h:S[n]?=some (oDK enc l)):GZ (.ref n) S=none:=by unfold GZ;dsimp only;rw[h];rfl
section
theorem VX:VE A UJ (rN (oDK enc)) (some []):=λv g j e F S l=>by cases g;exact⟨_,_,rfl,Keeps.app _ _,_,rfl,AN _,DX _ _⟩
theorem Yc{g}{j}(o:VE A a (rV D.int) g)(hb:VE A b (rO (oDK enc)) j):VE A (m2 (inA false) a b) (rV D.bl) (g.bind λx=>j.bind λl=>some (C3 l x).isSome):=XI o hb λx l z S n m q=>by cases q;rw[fy (nM m) (ZV m x)];simp
theorem cI{g}{j}(o:VE A a (rV D.int) g)(hb:VE A b (rO (oDK enc)) j):VE A (m2 (inA true) a b) (rV D.bl) (g.bind λx=>j.bind λl=>some (!(C3 l x).isSome)):=XI o hb λx l z S n m q=>by cases q;rw[fy (nM m) (ZV m x)];simp
theorem Nd(j:VE A a (rO (oDK enc)) m)(hb:VE A b (rV D.int) o):VE A (m2 ixA a b) (rV enc) (m.bind λl=>o.bind λx=>C3 l x):=cK j hb λl x z S n g q=>pR (nM g) (by rw[ZV g x,q];rfl)
def SE[DecidableEq κ](l:List (κ×α))(k:κ)(v:α):Option (List (κ×α)):=if l.length < 1000000 then some (FX l k v)else none
theorem iH{H:κ->D}[DecidableEq κ]{o:List (κ×α)->Ob}{R:Rk ρ}{p:Option α}{I:Option κ}{i:Nat}{l:List (κ×α)}
  (O:∀(l:List (κ×α)) (k:κ) (v:α) (S:Sto) (n:Nat),S[n]?=some (o l)->l.length < 1000000->WP (.ref n) (H k) (enc v) S=some (S.set n (o (FX l k v))))
  (hi:A[i]?=some (.w i (o l))) (P:VE A b (rV H) I) (h:VE A m (rV enc) p) (Q:((A.set i .u).all (Sl.oth i))=true) :
  VS A (E4 (AE i) b m) R (p.bind λv=>I.bind λk=>(SE l k v).bind λB=>some (.nx B)) (λB=>A.set i (.w i (o B))):=λf T J e F S g=>by
 obtain⟨v,U,X⟩:=A6 T;obtain⟨k,Y,Z⟩:=A6 X;obtain⟨B,C,h0⟩:=A6 Z;cases h0;unfold SE at C;split at C
 ·rename_i hl
  cases C;obtain⟨x,L,n,rfl,g2,G⟩:=g.sl i _ hi;obtain⟨d,j,h5,s,rfl⟩:=h v U J e F S g;obtain⟨d,E,h7,N,rfl⟩:=P k Y J e _ j (g.grow s);have hg:=(g.grow s).grow N;have hn:=(s.trans N).at G
  have hx:E4 (AE i) b m e S=.ok (.nx e) (E.set n (o (FX l k v))):=by
   unfold E4;rw[h5];dsimp only[Res.lift];rw[show AE i e j=.ok (.ref n) j by unfold AE;rw[L]];dsimp only;rw[h7];dsimp only;rw[O l k v E n hn hl]
  have hF:O3 (O3 F S j) j E n=.ow i:=by rw[EN (Ce (s.at G)),EN (Ce G)];exact g2
  exact⟨_,_,hx,e,_,rfl,hg.put Q hi L hF,(g.fle j).trans ((g.grow s).fle E)⟩
 ·cases C
theorem QT{R:Rk ρ}{p:Option α}{j:Option Int}{i:Nat}{l:List (Int×α)}(hi:A[i]?=some (.w i (oDK enc l)))(o:VE A b (rV D.int) j)(h:VE A m (rV enc) p)(s:((A.set i .u).all (Sl.oth i))=true) :
  VS A (E4 (AE i) b m) R (p.bind λv=>j.bind λk=>(SE l k v).bind λg=>some (.nx g)) (λg=>A.set i (.w i (oDK enc g))):=
 iH (λl k v S n B C=>by
  unfold WP;dsimp only;rw[B];show(if (l.map _).length < sizeLine then some (S.set n (.dK (FX (l.map λx=>(CQ x.1,enc x.2)) (CQ k) (enc v))))else none)=_;rw[qX (by rw[AF];exact oa C),Vu UO]
  rfl) hi o h s
theorem mM{b:MS}{R:Rk ρ}{B:σ->List Sl}:VS A b R none B:=λf g=>by cases g
def m9(r:ZLi):Int×Int:=(r.getD 0 0,r.getD 1 0)
def PL(l:List ZPi):List ZPi:=(Li (l.map λx=>[x.1,x.2])).map m9
theorem ir(l:List ZPi):(Li (l.map λx=>[x.1,x.2])).map Mh=(PL l).map (eP D.int D.int):=by
 unfold PL;rw[Bc]
 refine Ci λr g=>?_
 obtain⟨x,_,rfl⟩:=Ap.mp ((Ib _).mem_iff.mp g);rfl
theorem VU(m:VE A a (rO (oL (eP D.int D.int))) o):VE A (DO a) (rN (oL (eP D.int D.int))) (o.bind λl=>some (PL l)):=λv s B e F S C=>by
 obtain⟨l,E,G⟩:=A6 s;cases G;obtain⟨d,J,H,j,n,rfl,I⟩:=m l E B e F S C;refine⟨_,_,IX H (Kp I) (es:=(PL l).map (eP D.int D.int)) ?_,j.trans (Keeps.app _ _),_,rfl,j.1,DX _ _⟩;rw[<-ir]
 cases l with
 | nil=>show some ((CO []).map D.int)=some ((Li []).map Mh);rw[Z5];unfold Li;rw[List.mergeSort_nil];rfl
 | cons x l=>
  have g:Mt (JC (eP D.int D.int) (x :: l))=some ((x :: l).map λx=>[x.1,x.2]):=by
   have:=Vp ((x :: l).map λx=>[x.1,x.2]) (K9.mpr λr g=>by obtain⟨y,_,rfl⟩:=Ap.mp g;rfl);rw[Bc]at this;exact this
  unfold LB;rw[show Gn (JC (eP D.int D.int) (x :: l))=none from rfl,g]
end
end
section
variable{α ρ σ:Type}
theorem BI:Ba (some (.nx s)) q=q s:=rfl
theorem Kr{l:List α}{q:σ->α->Option (Fw ρ σ)}{s0:σ}(I:List α->σ->Prop)(h0:I [] s0)(h:∀g x s,x∈l->g++[x] <+: l->I g s->∃s',q s x=some (.nx s')/\I (g++[x]) s'):∃s,Gq l s0 q=some (.nx s)/\I l s:=by
 have j:∀(r g:List α) (s:σ),l=g++r->I g s->∃s',Gq r s q=some (.nx s')/\I l s':=by
  intro r
  induction r with
  | nil=>intro g s e m;rw[A3]at e;subst e;exact⟨s,rfl,m⟩
  | cons x r o=>
   intro g s e m;obtain⟨s',A,B⟩:=h g x s (by rw[e];simp) ⟨r,by rw[e];simp⟩ m;obtain⟨C,E,G⟩:=o (g++[x]) s' (by rw[e];simp) B;refine⟨C,?_,G⟩;unfold Gq;rw[A];exact E
 exact j l [] s0 rfl h0
theorem fg(I:List α->σ->Prop)(R:ρ->Prop)(h0:I [] s0)(h:∀g x s,x∈l->g++[x] <+: l->I g s->(∃s',q s x=some (.nx s')/\I (g++[x]) s')∨∃r,q s x=some (.rt r)/\R r):(∃s,Gq l s0 q=some (.nx s)/\I l s)∨∃r,Gq l s0 q=some (.rt r)/\R r:=by
 have j:∀(r g:List α) (s:σ),l=g++r->I g s->(∃s',Gq r s q=some (.nx s')/\I l s')∨∃y,Gq r s q=some (.rt y)/\R y:=by
  intro r
  induction r with
  | nil=>intro g s e m;rw[A3]at e;subst e;exact .inl ⟨s,rfl,m⟩
  | cons x r B=>
   intro g s e m
   rcases h g x s (by rw[e];simp) ⟨r,by rw[e];simp⟩ m with⟨s',o,A⟩ | ⟨y,o,A⟩
   ·have C:Gq (x :: r) s q=Gq r s' q:=by
     conv=>lhs;unfold Gq
     rw[o]
    rw[C];exact B (g++[x]) s' (by rw[e];simp) A
   ·refine .inr ⟨y,?_,A⟩
    unfold Gq;rw[o]
 exact j l [] s0 rfl h0
theorem gF(s:∀x∈l,c x=some (P x))(A:∀x∈l,P x=true->m x=some (f x)):RQ c m l=some ((l.filter P).map f):=by
 induction l with
 | nil=>rfl
 | cons x l g=>
  have g:=g (λy j=>s y (AT _ j)) λy j=>A y (AT _ j)
  unfold RQ;rw[s x Ao];show(if P x=true then _ else _)=_
  cases o:P x with
  | true=>
   rw[qX rfl,A x Ao o,g,U9 o];rfl
  | false=>
   rw[qY Ac,g,VC (by rw[o];exact Ac)]
theorem OG(g:l.length<=1000000)(j:∀x∈l,c x=some (P x))(o:∀x∈l,P x=true->m x=some (f x)):Ec l c m=some ((l.filter P).map f):=by
 unfold Ec;rw[qX g,gF j o]
theorem Md(g:l.length<=1000000)(j:∀x∈l,m x=some (f x)):Ec l (λ_=>some true) m=some (l.map f):=by
 rw[OG (P:=λ_=>true) g (λ_ _=>rfl) λx o _=>j x o,List.filter_eq_self.mpr λ_ _=>rfl]
theorem F8(g:l.length<=1000000)(j:∀x∈l,c x=some (P x)):Ec l c (λx=>some x)=some (l.filter P):=by
 rw[OG (f:=λx=>x) g j λx m _=>rfl,qF]
theorem K0(h:l.length < 1000000):Ra l x=some (l++[x]):=qX h
theorem OD(h:l.length+k.length<=1000000):OE l k=some (l++k):=qX h
theorem kG:KF ([]:List α)=some []:=rfl
theorem sU(a:α):KF [a]=some [a]:=qX (by simp)
theorem MU(h0:-1000000<=j)(g:j<=1000000):T7 j=some (Hv 0 j.toNat):=qX ⟨h0,g⟩
theorem i6(h0:-1000000<=i)(g:i<=1000000)(l:-1000000<=j)(m:j<=1000000):i7 i j=some (Hv i (j - i).toNat):=qX ⟨h0,g,l,m⟩
theorem Hd{lo:Int}{n:Nat}{x:Int}:x∈Hv lo n↔lo<=x/\x < lo+n:=by
 unfold Hv;rw[Ap]
 constructor
 ·rintro⟨k,g,rfl⟩
  have:=DM.mp g
  lia
 ·rintro⟨j,l⟩
  exact⟨(x - lo).toNat,DM.mpr (by lia),by lia⟩
theorem Fk(lo:Int)(n:Nat):(Hv lo n).length=n:=by unfold Hv;rw[AF,List.length_range]
theorem P3(lo:Int)(n:Nat):(Hv lo n).Pairwise (· < ·):=by
 unfold Hv;rw[B3]
 exact Wi.imp λh=>by lia
theorem Um(h0:0<=i)(j:i < l.length):∃x,atI l i=some x/\l[i.toNat]?=some x:=by
 have g:i.toNat < l.length:=by lia
 exact⟨l[i.toNat],Iq h0 (AZ g),AZ g⟩
theorem Ki(h:0 < y):SK x y=some (x % y):=qX h
theorem gB(l:List α)(lo hi:Option Int):(Gv l lo hi).length<=l.length:=by
 unfold Gv;rw[Bk,CD]
 lia
theorem KA{lo:Int}{n:Nat}{g:ZLi}{x:Int}(h:g++[x] <+: Hv lo n):x=lo+g.length/\g.length < n:=by
 have j:=h.length_le;rw[AK,Al,Fk]at j;obtain⟨r,l⟩:=h;have:=congrArg (λz=>z[g.length]?) l;simp only[A8,A4 (AN _),Pi]at this;rw[show([x]++r)[0]?=some x from rfl]at this;unfold Hv at this;rw[Ah,CH (by lia)]at this;simp only[Option.map_some,Option.some.injEq]at this;exact⟨this,by lia⟩
theorem UH[DecidableEq α]:∀{l k:List α},l.Nodup->(∀x∈l,x∈k)->l.length<=k.length
 | [],_,_,_=>CZ _
 | x :: l,k,nd,h=>by
  have g:=h x Ao;obtain⟨m,o⟩:=Ct.mp nd
  have:=UH (l:=l) (k:=k.erase x) o λy j=>(List.mem_erase_of_ne (λz:y=x=>m (by rw[<-z];exact j))).mpr (h y (AT _ j))
  rw[Uy g]at this;have:=Wj g;rw[A0]
  lia
def Ok(p:Option α)(P:α->Prop):Prop:=∃v,p=some v/\P v
theorem Ok.is(h:Ok p λr=>r=v):p=some v:=by
 obtain⟨_,g,rfl⟩:=h;exact g
def OkF(p:Option (Fw ρ σ))(N:σ->Prop)(R:ρ->Prop):Prop:=(∃s,p=some (.nx s)/\N s)∨∃r,p=some (.rt r)/\R r
theorem OkF.nx(h:N s):OkF (some (.nx s)) N R:=.inl ⟨s,rfl,h⟩
theorem OkF.rt(h:R r):OkF (some (.rt r)) N R:=.inr ⟨r,rfl,h⟩
theorem OkF.seq(h:OkF p N R)(g:∀s,N s->OkF (q s) N' R):OkF (Ba p q) N' R:=by
 rcases h with⟨s,rfl,h⟩ | ⟨r,rfl,h⟩
 ·exact g s h
 ·exact .inr ⟨r,rfl,h⟩
theorem OkF.map(h:OkF p N R)(j:∀s,N s->N' (g s)):OkF (Fm g p) N' R:=by
 rcases h with⟨s,rfl,h⟩ | ⟨r,rfl,h⟩
 ·exact .inl ⟨_,rfl,j s h⟩
 ·exact .inr ⟨r,rfl,h⟩
theorem OkF.for(I:List α->σ->Prop)(h0:I [] s0)(h:∀g x s,x∈l->g++[x] <+: l->I g s->OkF (q s x) (I (g++[x])) R):OkF (Gq l s0 q) (I l) R:=fg I R h0 h
theorem OkF.out(h:OkF p (λ_=>False) R):Ok (LM p) R:=by
 rcases h with⟨s,rfl,h⟩ | ⟨r,rfl,h⟩
 ·exact h.elim
 ·exact⟨r,rfl,h⟩
theorem VF.law(h:VF f [.v (eF ns)] (rV D.bl) (some true)):∃S',f [.fro (ns.map D.int)] []=.ok (.bl true) S':=by
 obtain⟨d,S',g,_,rfl⟩:=h true rfl [] [.fro (ns.map D.int)] ⟨rfl,trivial⟩;exact⟨S',g⟩
end
section
theorem Sb(j:VE A a (rV (eT D.int)) m):VE A (DO a) (rN (oL D.int)) (m.bind λl=>some (CO l)):=λv o s e F S B=>by
 obtain⟨l,C,E⟩:=A6 o;cases E;obtain⟨d,H,G,g,rfl⟩:=j l C s e F S B;refine⟨_,_,IX G (ds:=l.map D.int) rfl (es:=(CO l).map D.int) ?_,g.trans (Keeps.app _ _),_,rfl,g.1,DX _ _⟩;unfold LB;rw[He]
end
section
variable{ρ σ:Type}
theorem J9{n:Nat}{b:MS}{as:List Ar}{R:Rk ρ}{p:Option (Fw ρ σ)}{B:σ->List Sl}(h:VS (as.map Ar.sl++Bd (n - as.length) .u) b R p B):VF (E5 n b) as R (LM p):=λv j S E m=>by
 cases p with
 | none=>cases j
 | some x=>
  obtain⟨g,o,A,l⟩:=h _ rfl S _ _ S (Vs.start m)
  cases x with
  | rt r=>cases j;obtain⟨d,rfl,l,C⟩:=l;exact⟨d,o,L2.Ih A,C,l⟩
  | nx s=>cases j
  | bk s=>cases j
  | ct s=>cases j
theorem mR{n:Nat}{b:MS}{as:List Ar}{p:Option (Fw Unit σ)}{B:σ->List Sl}(h:VS (as.map Ar.sl++Bd (n - as.length) .u) b (rV eU) p B):VF (E5 n b) as (rV eU) (rP p):=λv l S E C=>by
 cases p with
 | none=>cases l
 | some x=>
  obtain⟨g,m,o,j⟩:=h _ rfl S _ _ S (Vs.start C)
  cases x with
  | rt r=>obtain⟨d,rfl,j,A⟩:=j;exact⟨d,m,L2.Ih o,A,j⟩
  | nx s=>obtain⟨G,H,rfl,j,A⟩:=j;exact⟨.non,m,L2.T6 o,j.kp,rfl⟩
  | bk s=>cases l
  | ct s=>cases l
theorem cG(j:VE A a (rV enc) p)(l:∀x S,tyD (enc x) S=some T)(hb:isB t T=some r):VE A (L2.mIs (isB t) (λ_=>none) a) (rV D.bl) (p.bind λ_=>some r):=λv m o e F S s=>by
 obtain⟨x,B,C⟩:=A6 m;cases C;obtain⟨d,g,E,G,rfl⟩:=j x B o e F S s;exact⟨_,g,L2.sG E (l x g) hb,G,rfl⟩
end
def hb(g x:Int):Bool:=Builtin.bitAnd (g / 2 ^ x.toNat) 1 != 0
abbrev HL:=List ZPi
abbrev QL:=List (Int×Bool)
section
abbrev w0(T:Int->ZLi)(j g:Int):ZLi:=(T g).filter (hb j)
def MOn(T:Int->ZLi)(g:Int)(P:Int->Prop)(H:HL):Prop:=(∀x,P x->∀a,C3 H x=some a->x∈w0 T g a)/\∀x y a,P x->P y->C3 H x=some a->C3 H y=some a->x=y
abbrev sn(Q:QL)(x:Int):Prop:=(C3 Q x).isSome=true
def Good(T:Int->ZLi)(j:Int)(H:HL)(g:Int)(Q:QL)(l:HL):Prop:=
 (∀x,sn Q x->C3 l x=C3 H x)/\(MOn T j (λx=>¬sn Q x) H->(∀x,¬sn Q x->C3 H x≠some g)->MOn T j (λx=>¬sn Q x) l/\∀a,(∃x,¬sn Q x/\C3 l x=some a)↔a=g∨∃x,¬sn Q x/\C3 H x=some a)
end
section
theorem Tj(h:e[i]?=some (some d)):AE i e S=.ok d S:=by unfold AE;rw[h]
end
abbrev inG{g:Type}[DecidableEq g](x:g)(l:List g):Bool:=decide (x∈l)
theorem ZA{g:Type}[DecidableEq g]{x:g}{l:List g}:inG x l=true↔x∈l:=decide_eq_true_iff
def jy{g:Type}(l:List g)(i:Int)(x:g):Option (List g):=if 0<=i/\i < 1000000/\l.length < 1000000 then some (l.take i.toNat++[x]++l.drop i.toNat)else none
section
theorem mK(hi:A[i]?=some (.w i (oL enc l)))(h:VE A mi (rV D.int) pi)(I:VE A mx (rV enc) J)(L:((A.set i .u).all (Sl.oth i))=true) :
  VS A (C6 (eO (AE i) mi mx)) R (pi.bind λk=>J.bind λv=>(jy l k v).bind λj=>some (.nx j)) (λj=>A.set i (.w i (oL enc j))):=λf N C e F S g=>by
 obtain⟨k,O,P⟩:=A6 N;obtain⟨v,Q,T⟩:=A6 P;obtain⟨j,m,U⟩:=A6 T;cases U;unfold jy at m;split at m
 ·rename_i o
  cases m;obtain⟨x,E,n,rfl,X,s⟩:=g.sl i _ hi;obtain⟨d1,Y,Z,G,rfl⟩:=h k O C e F S g;obtain⟨d2,B,c2,k2,rfl⟩:=I v Q C e _ Y (g.grow G);have H:=G.trans k2;have hg:=g.grow H
  have a0:atL (.ref n) S=some (n,l.map enc):=by unfold atL;dsimp only;rw[s];rfl
  have a2:atL (.ref n) B=some (n,l.map enc):=by unfold atL;dsimp only;rw[H.at s];rfl
  have wg:eO (AE i) mi mx e S=.ok .non (B.set n (oL enc (l.take k.toNat++[v]++l.drop k.toNat))):=by
   unfold eO;rw[Tj E];dsimp only[Res.bind];rw[a0];dsimp only;rw[Z];dsimp only[Res.bind];rw[c2];dsimp only[Res.bind];rw[a2];dsimp only;rw[qX ⟨o.1,o.2.1,by rw[AF];exact Av (Nat.succ_le_of_lt o.2.2) (by decide)⟩];rw[show(l.map enc).take k.toNat++[enc v]++(l.map enc).drop k.toNat=(l.take k.toNat++[v]++l.drop k.toNat).map enc by simp];rfl
  exact⟨_,_,EZ wg,e,_,rfl,hg.put L hi E (by rw[EN (Ce s)];exact X),g.fle B⟩
 ·cases m
theorem iU(E:VE A a (rV eF) G)(H:VO A mlo I)(J:VO A mhi ph):VE A (Km a mlo mhi) (rN (oL D.int)) (G.bind λl=>I.bind λx=>ph.bind λy=>some (Gv l x y)):=λv g m e F S o=>by
 obtain⟨l,L,g⟩:=A6 g;obtain⟨x,N,g⟩:=A6 g;obtain⟨y,O,P⟩:=A6 g;cases P;obtain⟨d1,Q,R,j,rfl⟩:=E l L m e F S o;obtain⟨T,U,s⟩:=H x N m e _ Q (o.grow j);obtain⟨B,X,C⟩:=J y O m e _ T ((o.grow j).grow s);refine⟨.ref B.length,B++[oL D.int (Gv l x y)],?_,((j.trans s).trans C).trans (Keeps.app _ _),_,rfl,((j.trans s).trans C).1,DX _ _⟩;unfold Km;rw[R];dsimp only[Res.bind];rw[U];dsimp only;rw[X];show Res.ok _ (B++[Ob.lst (Gv (l.map D.int) x y)])=_;rw[WQ];rfl
end
section
variable{S0 S S':Sto}{A:List Sl}{e:Lo}{F:Fz}{α:Type}{enc:α->D}{uI:List (List α)}{i:Nat}
def Nst(enc:α->D)(uI:List (List α))(L:Nat->Option Ob)(d:D):Prop:=∃n g,d=.ref n/\L n=some (oL D.ref g)/\g.length=uI.length/\∀(k:Nat) (j:List α),uI[k]?=some j->∃m,g[k]?=some m/\L m=some (oL enc j)
def jA(enc:α->D):Rk (List (List α)):=λuI S0 d S=>∃n g,d=.ref n/\S0.length<=n/\S[n]?=some (oL D.ref g)/\g.length=uI.length/\∀(k:Nat) (j:List α),uI[k]?=some j->∃m,g[k]?=some m/\S0.length<=m/\S[m]?=some (oL enc j)
theorem i9:∀(v:List (List α)) (S S1:Sto) (d:D) (S':Sto),S.length<=S1.length->jA enc v S1 d S'->jA enc v S d S':=λv S S1 d S' l ⟨n,g,j,o,s,B,C⟩=>
 ⟨n,g,j,Av l o,s,B,λk E G=>let ⟨m,H,I,J⟩:=C k E G;⟨m,H,Av l I,J⟩⟩
def loF(F:Fz):Nat->Option Ob:=λn=>match F n with
 | .fz o=>some o
 | _=>none
theorem oh(h:F n=.fz o):loF F n=some o:=by unfold loF;rw[h]
theorem eZ(h:loF F n=some o):F n=.fz o:=by
 unfold loF at h;split at h
 ·rename_i j g;cases h;exact g
 ·cases h
theorem Vs.nst(j:Vs S0 A e F S)(h:A[i]?=some (.q (Nst enc uI))):∃n g,e[i]?=some (some (.ref n))/\F n=.fz (oL D.ref g)/\g.length=uI.length/\∀(k:Nat) (xs:List α),uI[k]?=some xs->∃m,g[k]?=some m/\F m=.fz (oL enc xs):=by
 obtain⟨x,l,d,rfl,s⟩:=j.sl i _ h
 obtain⟨n,g,rfl,B,C,E⟩:=s (loF F) λn o q=>oh q
 exact⟨n,g,l,eZ B,C,λk xs G=>let ⟨m,H,I⟩:=E k xs G;⟨m,H,eZ I⟩⟩
theorem Za(o:g.length=uI.length)(h:atI uI k=some xs):∃j:Nat,uI[j]?=some xs/\∀m,g[j]?=some m->atI g k=some m:=by
 unfold atI at h ⊢;rw[o]
 cases l:ixN uI.length k with
 | none=>rw[l]at h;cases h
 | some j=>rw[l]at h;exact⟨j,h,λm s=>s⟩
theorem mS(h:A[i]?=some (.q (Nst enc uI)))(hb:VE A b (rV D.int) pi):VE A (m2 ixA (AE i) b) (rO (oL enc)) (pi.bind λk=>atI uI k):=λv s S0 e F S g=>by
 obtain⟨k,B,C⟩:=A6 s;obtain⟨n,E,G,H,I,J⟩:=g.nst h;obtain⟨d,L,N,o,rfl⟩:=hb k B S0 e F S g;obtain⟨j,O,P⟩:=Za I C;obtain⟨m,Q,R⟩:=J j v O
 have T:AE i e S=.ok (.ref n) S:=by unfold AE;rw[G]
 exact⟨.ref m,L,Dh T N (RA (enc:=D.ref) (l:=E) (EK (o.at (g.fz _ _ H))) (P m Q)),o,m,rfl,o.at (g.fz _ _ R)⟩
theorem cC(h:A[i]?=some (.q (Nst enc uI)))(hb:VE A b (rV D.int) pi):VI A (Dy (m2 ixA (AE i) b)) enc (pi.bind λk=>atI uI k):=λv B S0 e F S g=>by
 obtain⟨k,C,E⟩:=A6 B;obtain⟨n,G,H,I,J,L⟩:=g.nst h;obtain⟨d,N,O,o,rfl⟩:=hb k C S0 e F S g;obtain⟨j,P,Q⟩:=Za J E;obtain⟨m,R,s⟩:=L j v P
 have T:AE i e S=.ok (.ref n) S:=by unfold AE;rw[H]
 have U:=Dh T O (RA (enc:=D.ref) (l:=G) (EK (o.at (g.fz _ _ I))) (Q m R));exact⟨_,N,Go U (o.at (g.fz _ _ s)),o,λY Z X h=>EJ (h m _ (X _ _ (by rw[EN (Ce (g.fz _ _ s))];exact s)))⟩
theorem mW(h:A[i]?=some (.q (Nst enc uI)))(l:VA A ml q m):VA A (AU (AE i) ml) (q.bind λy=>some (uI,y)) (λz=>.q (Nst enc z.1) :: m z.2):=λv s S0 e F S g=>by
 obtain⟨y,B,C⟩:=A6 s;cases C;obtain⟨x,E,d,rfl,G⟩:=g.sl i _ h;obtain⟨O,H,I,j,J⟩:=l y B S0 e F S g;exact⟨_,H,B8 (show AE i e S=.ok d S by unfold AE;rw[E]) I,j,λL N=>G L λn o q=>N n o (j.at (g.fz _ _ q)),J⟩
theorem Zr(h:VE A m (jA enc) p):VS A (Bu i m) R (p.bind λv=>some (.nx v)) (λv=>A.set i (.q (Nst enc v))):=λf o S0 e F S g=>by
 obtain⟨v,s,B⟩:=A6 o;cases B;obtain⟨d,S',C,E,n,G,rfl,H,I,J,N⟩:=h v s S0 e F S g;refine⟨_,S',Ic C,_,_,rfl,(g.grow E).set (a:=.q (Nst enc v)) (x:=some (.ref n)) i ⟨.ref n,rfl,λL l=>⟨n,G,rfl,l n _ (KG H I),J,λk O P=>?_⟩⟩,g.fle S'⟩;obtain⟨m,Q,T,j⟩:=N k O P;exact⟨m,Q,l m _ (KG T j)⟩
end
section
variable{S0 S:Sto}{A:List Sl}{ρ σ:Type}
noncomputable def whF(c:σ->Option Bool)(q:σ->Option (Fw ρ σ)):Nat->σ->Option (Fw ρ σ)
 | 0,_=>none
 | n+1,s=>(c s).bind λt=>if t=true then match q s with
   | some (.nx g)=>whF c q n g
   | some (.ct g)=>whF c q n g
   | some (.bk g)=>some (.nx g)
   | some (.rt r)=>some (.rt r)
   | none=>none
  else some (.nx s)
theorem Zq(U:∀s,VB (B s) t (c s))(hb:∀s,VS (B s) b R (q s) B):∀(n:Nat) (s:σ),VS (B s) (E3 t b n) R (whF c q n s) B:=by
 intro n
 induction n with
 | zero=>intro s f J;cases J
 | succ n T=>
  intro s f J S0 e F S G;unfold whF at J;obtain⟨v,X,l⟩:=A6 J;obtain⟨S1,Y,Z⟩:=U s v X S0 e F S G;have H:=G.grow Z
  have run:E3 t b (n+1) e S=if v=true then(b e S1).bind λf g=>match f with
   | .nx j=>E3 t b n j g
   | .ct j=>E3 t b n j g
   | .bk j=>.ok (.nx j) g
   | .rt d=>.ok (.rt d) g
   | .ex c j=>.ok (.ex c j) g
  else .ok (.nx e) S1:=by
   show(t e S).lift e _=_;rw[Y];rfl
  cases v with
  | false=>
   rw[qY Ac]at l;cases l;exact⟨_,S1,run.trans (qY Ac),e,_,rfl,H,G.fle S1⟩
  | true=>
   rw[qX rfl]at l;rw[run,qX rfl];split at l
   ·rename_i L m
    obtain⟨h,g,o,j,I,rfl,C,E⟩:=hb s _ m S0 e _ S1 H;rw[o];obtain⟨N,O,P,Q⟩:=T L f l S0 j I g C;exact⟨N,O,P,Q.up ((G.fle S1).trans E)⟩
   ·rename_i L m
    obtain⟨h,g,o,j,I,rfl,C,E⟩:=hb s _ m S0 e _ S1 H;rw[o];obtain⟨N,O,P,Q⟩:=T L f l S0 j I g C;exact⟨N,O,P,Q.up ((G.fle S1).trans E)⟩
   ·rename_i L m
    cases l;obtain⟨h,g,o,j,I,rfl,C,E⟩:=hb s _ m S0 e _ S1 H;rw[o];exact⟨_,g,rfl,j,I,rfl,C,(G.fle S1).trans E⟩
   ·rename_i r m
    cases l;obtain⟨h,g,o,d,rfl,C,E⟩:=hb s _ m S0 e _ S1 H;rw[o];exact⟨_,g,rfl,d,rfl,C,E⟩
   ·cases l
theorem VM(w0:Wk A (B s0))(g:∀s,VB (B s) t (c s))(hb:∀s,VS (B s) b R (q s) B):VS A (E3 t b n) R (whF c q n s0) B:=λf j S0 e F S l=>
 Zq g hb n s0 f j S0 e F S (l.weak w0)
end
section
def SL(l:ZLi):Option Int:=RU ltZ l
def jm(l:ZLi):Option Int:=RU gtZ l
theorem Ye(h:VL A ml D.int g):VE A (mQ (RV f) ml) (rV D.int) (g.bind λl=>RU f l):=λv j m e F S o=>by
 obtain⟨l,s,B⟩:=A6 j;obtain⟨C,E,G⟩:=h l s m e F S o;refine⟨_,C,?_,G,rfl⟩;unfold mQ;rw[E];dsimp only[Res.bind];unfold RV;rw[He];dsimp only;rw[B];rfl
theorem Ya(h:VL A ml D.int g):VE A (mQ Ny ml) (rV D.int) (g.bind SL):=Ye h
theorem iP(h:VL A ml D.int g):VE A (mQ eI ml) (rV D.int) (g.bind jm):=Ye h
end
section
variable{β:Type}
def rOL(g:β->Ob):Rk (Option β):=λv j d S=>match v with
 | none=>d=.non
 | some b=>∃n,d=.ref n/\j.length<=n/\S[n]?=some (g b)
theorem nR:∀(v:Option β) (S S1:Sto) (d:D) (S':Sto),S.length<=S1.length->rOL g v S1 d S'->rOL g v S d S':=λv S S1 d S' l h=>by
 cases v with
 | none=>exact h
 | some b=>obtain⟨n,j,m,o⟩:=h;exact⟨n,j,Av l m,o⟩
end
section
theorem iR(h:VE A a (rO (oDK enc)) g):VE A (Y5 a) (rV D.int) (g.bind λl=>some (l.length:Int)):=λv j m e F S o=>by
 obtain⟨l,s,B⟩:=A6 j;cases B;obtain⟨d,C,E,G,n,rfl,H⟩:=h l s m e F S o;refine⟨_,C,?_,G,rfl⟩;unfold Y5;rw[E];dsimp only[Res.bind];rw[H];unfold oDK;dsimp only;rw[AF]
def RC(l:ZLi)(k:Int):Option Int:=(NE k l).map λ(j:Nat)=>(j:Int)
theorem VW(E:VE A a (rV (eT D.int)) G)(hb:VE A b (rV D.int) H):VE A (Q5 a b) (rV D.int) (G.bind λl=>H.bind λk=>RC l k):=λv m s e F S B=>by
 obtain⟨l,I,m⟩:=A6 m;obtain⟨k,J,g⟩:=A6 m;obtain⟨d1,L,N,C,rfl⟩:=E l I s e F S B;obtain⟨d2,O,P,Q,rfl⟩:=hb k J s e _ L (B.grow C);unfold RC at g
 cases o:NE k l with
 | none=>rw[o]at g;cases g
 | some j=>
  rw[o]at g;cases g;refine⟨_,O,?_,C.trans Q,rfl⟩;unfold Q5;rw[N];dsimp only[Res.bind,eT];rw[P];dsimp only[Res.bind];rw[He];dsimp only;rw[o]
end
section
theorem YV(g:VE A a (rV (eP D.int D.int)) j):VL A (Kn a) D.int (j.bind λx=>some [x.1,x.2]):=λv l m e F S o=>by
 obtain⟨x,s,B⟩:=A6 l;cases B;obtain⟨d,C,E,G,rfl⟩:=g x s m e F S o;exact⟨C,Yn E rfl,G⟩
end
section
variable{S0 S S':Sto}{A:List Sl}{e:Lo}{F:Fz}{a m:ME}
theorem iI(h:VE A m (rV (eP l o)) p):VS A (Qm m (FR 2 (Bw (tgN i) (Bw (tgN j) Fj)))) R (p.bind λv=>some (.nx v)) (λv=>(A.set i (.v (l v.1))).set j (.v (o v.2))):=λf s S0 e F S g=>by
 obtain⟨v,B,C⟩:=A6 s;cases C;obtain⟨d,S',E,G,rfl⟩:=h v B S0 e F S g;refine⟨_,S',?_,_,_,rfl,((g.grow G).set (a:=.v (l v.1)) i rfl).set (a:=.v (o v.2)) j rfl,g.fle S'⟩;unfold Qm;rw[E];rfl
end
section
variable{α:Type}{A:List Sl}{enc:α->D}{a b c:ME}
def dzP(ns:ZLi)(ys:List α):List (Int×α):=(ns.zip ys).foldl (λd p=>FX d p.1 p.2) []
theorem fu:∀(ns:ZLi) (ys:List α) (l:List (Int×α)),(ns.zip (ys.map enc)).foldl (λk p=>FX k (CQ p.1:Key) p.2) (l.map λx=>(CQ x.1,enc x.2))=((ns.zip ys).foldl (λd p=>FX d p.1 p.2) l).map λx=>(CQ x.1,enc x.2)
 | [],_,_=>rfl
 | _ :: _,[],_=>rfl
 | n :: ns,y :: ys,l=>by
  rw[BB,OO,OO,GX,GX];dsimp only;rw[Vu UO];exact fu ns ys _
theorem XN{s:Option ZLi}{B:Option (List α)}(H:VE A a (rO (oL D.int)) s)(hb:VE A b (rO (oL enc)) B):VE A (N0 (AU a (AU b BY))) (rN (oDK enc)) (s.bind λl=>B.bind λk=>some (dzP l k)):=λv g C e F S E=>by
 obtain⟨l,I,g⟩:=A6 g;obtain⟨k,J,L⟩:=A6 g;cases L;obtain⟨d,N,O,j,n,rfl,P⟩:=H l I C e F S E;obtain⟨d,G,Q,o,m,rfl,R⟩:=hb k J C e _ N (E.grow j);refine⟨.ref G.length,G++[oDK enc (dzP l k)],?_,(j.trans o).trans (Keeps.app _ _),_,rfl,(j.trans o).1,DX _ _⟩;unfold N0;rw[B8 O (B8 Q rfl)];dsimp only[Res.bind];rw[Q7 (o.at P)];dsimp only;rw[Q7 R,He];dsimp only;unfold dzG oDK dzP;rw[show([]:List (Key×D))=JC (λx:Int×α=>((CQ x.1:Key),enc x.2)) []from rfl,fu]
theorem Th{B:Option (List (Int×α))}{C:Option Int}{E:Option α}(I:VE A a (rO (oDK enc)) B)(hb:VE A b (rV D.int) C)(J:VE A c (rV enc) E):VE A (So a b c) (rV enc) (B.bind λl=>C.bind λk=>E.bind λz=>some ((C3 l k).getD z)):=λv g j e F S m=>by
 obtain⟨l,L,g⟩:=A6 g;obtain⟨k,N,g⟩:=A6 g;obtain⟨z,O,P⟩:=A6 g;cases P;obtain⟨d,Q,R,o,n,rfl,G⟩:=I l L j e F S m;obtain⟨d,T,U,s,rfl⟩:=hb k N j e _ Q (m.grow o);obtain⟨d,X,Y,H,rfl⟩:=J z O j e _ T ((m.grow o).grow s);refine⟨_,X,?_,(o.trans s).trans H,rfl⟩;unfold So;rw[R];dsimp only[Res.bind];rw[qX (by unfold jw;dsimp only;rw[G];rfl),U];dsimp only[Res.bind];rw[Y];dsimp only[Res.bind];rw[ZV ((s.trans H).at G)];dsimp only
 cases C3 l k <;> rfl
end
end L4
namespace M
open L2
abbrev oN(e:L2.Lo)(S:L2.Sto):L2.Res L2.Fl:=.ok (.nx e) S
abbrev sR(n:Nat):Option L2.D:=some (.ref n)
abbrev sI(i:Int):Option L2.D:=some (.int i)
abbrev sF(l:ZLi):Option L2.D:=some (.fro (l.map L2.D.int))
def top(i:Nat):D6:=lm.main.body.getD i (.Pass ⟨0,0,0,0⟩)
structure Wd where
 GuardError:AV
 NoCall:AV
 Web:AV
def Wd.excs(W:Wd):List AV:=[W.NoCall]
def Oh(W:Wd)(C:AV):Option Bool:=if C∈[W.NoCall]then some true else if C∈W.excs then some false else none
def JZ(W:Wd)(C:AV):Option Bool:=if C∈[W.NoCall]then some true else if C∈W.excs then some false else none
abbrev Ig:D6:=top 9
abbrev Ie:D6:=top 10
abbrev NA:D6:=jz (top 8) 0
abbrev Gh:D6:=top 11
abbrev Xe:D6:=top 12
abbrev KU:D6:=top 13
abbrev Jb:D6:=top 14
abbrev KS:D6:=top 15
abbrev G7:D6:=top 17
abbrev G8:D6:=top 19
abbrev Ja:D6:=top 21
abbrev Hu:D6:=top 20
abbrev Ln:D6:=top 23
abbrev KZ:D6:=top 24
abbrev KY:D6:=top 25
abbrev KW:D6:=top 26
abbrev Jd:D6:=top 27
abbrev Jc:D6:=top 28
abbrev Ll:D6:=top 29
abbrev Lj:D6:=top 30
abbrev Lm:D6:=top 31
abbrev M8:D6:=top 32
abbrev M9:D6:=top 33
abbrev Yo:D6:=top 34
def RW(W:Wd):MS:=
  (BU (Bu 2 eR)
  (BU (Hb (Dy (AE 1)) (FR 2 (Bw (tgN 3) (Bw (tgN 4) Fj)))
  (BU (Bu 5 (KC (AU (mQ Nx (AU (AE 3) (AU (AE 4) BY))) (AU (mQ PR (AU (AE 3) (AU (AE 4) BY))) BY))))
  (BU (sIf (mB (m2 (eqD false) (m2 ixA (AE 5) (mC (.int 0))) (m2 ixA (AE 5) (mC (.int 1))))) T5 sNx)
  (BU (sIf (mOr (mB (m2 ltD (m2 ixA (AE 5) (mC (.int 0))) (mC (.int 0)))) (mB (m2 geD (m2 ixA (AE 5) (mC (.int 1))) (AE 0)))) T5 sNx)
  (BU (sIf (mB (m2 (inA false) (AE 5) (AE 2))) T5 sNx)
  (E4 (AE 2) (AE 5) (mC (.bl true))))))))
  (EY (FZ (DO (AE 2))))))
def Gu(W:Wd):List D->Sto->Res D:=E5 6 (RW W)
def MA(W:Wd):MS:=
  (BU (Bu 2 (DV (Dw 1 (iR1 (AU (AE 0) BY)) (tgN 0) Hg (DV (De BY)))))
  (BU (Hb (Dy (AE 1)) (FR 2 (Bw (tgN 3) (Bw (tgN 4) Fj)))
  (BU (C6 (JA (m2 ixA (AE 2) (AE 3)) (AE 4)))
  (C6 (JA (m2 ixA (AE 2) (AE 4)) (AE 3)))))
  (EY (FZ (DV (Dw 1 (Dy (AE 2)) (tgN 0) Hg (FZ (DO (AE 0)))))))))
def Gs(W:Wd):List D->Sto->Res D:=E5 5 (MA W)
def RX(W:Wd):MS:=
  (BU (sIf (Pu (mB (m3 leD leD (mC (.int 1)) (AE 1) (mC (.int 60))))) T5 sNx)
  (BU (Sg W.Web "places" (AE 0) (AE 1))
  (BU (Sg W.Web "ties" (AE 0) (Cd 2 (Gu W) (AU (AE 1) (AU (AE 2) BY))))
  (Sg W.Web "near_sets" (AE 0) (Cd 2 (Gs W) (AU (AE 1) (AU (NC W.Web "ties" (AE 0)) BY)))))))
def Io(W:Wd):List D->Sto->Res D:=E5 3 (RX W)
def JO(W:Wd):MS:=
  (sIf (Pu (mB (m3 leD ltD (mC (.int 0)) (AE 1) (NC W.Web "places" (AE 0))))) T5 sNx)
def Cg(W:Wd):List D->Sto->Res D:=E5 2 (JO W)
def gM(W:Wd):MS:=
  (BU (C6 (Cd 2 (Cg W) (AU (AE 0) (AU (AE 1) BY))))
  (EY (m2 ixA (NC W.Web "near_sets" (AE 0)) (AE 1))))
def Lw(W:Wd):List D->Sto->Res D:=E5 2 (gM W)
def Kx(W:Wd):MS:=
  (BU (Bu 2 (Lu (AE 1) (mC (.int 0))))
  (BU (Bu 3 (DV (De (AU (AE 1) BY))))
  (BU (E3 (V8 (AE 3)) (BU (Bu 4 (DV (De BY)))
  (BU (Hb (Dy (AE 3)) (tgN 5)
  (Hb (Dy (Cd 2 (Lw W) (AU (AE 0) (AU (AE 5) BY)))) (tgN 6)
  (sIf (mB (m2 (inA true) (AE 6) (AE 2))) (BU (E4 (AE 2) (AE 6) (m2 FO (m2 ixA (AE 2) (AE 5)) (mC (.int 1))))
  (C6 (JA (AE 4) (AE 6)))) sNx)))
  (Bu 3 (AE 4)))) wN)
  (EY (AE 2)))))
def IM(W:Wd):List D->Sto->Res D:=E5 7 (Kx W)
def Fs(W:Wd):MS:=
  (BU (C6 (Cd 2 (Cg W) (AU (AE 0) (AU (AE 1) BY))))
  (BU (C6 (Cd 2 (Cg W) (AU (AE 0) (AU (AE 2) BY))))
  (BU (Bu 3 (Cd 2 (IM W) (AU (AE 0) (AU (AE 2) BY))))
  (BU (sIf (mB (m2 (inA true) (AE 1) (AE 3))) (EY (mC .non)) sNx)
  (BU (Bu 4 (DV (De (AU (AE 1) BY))))
  (BU (E3 (mB (m2 (eqD true) (m2 ixA (AE 4) (SM (mC (.int 1)))) (AE 2))) (BU (Bu 5 (m2 ixA (AE 4) (SM (mC (.int 1)))))
  (C6 (JA (AE 4) (mQ Ny (Kn (DV (Dw 1 (Dy (Cd 2 (Lw W) (AU (AE 0) (AU (AE 5) BY)))) (tgN 0) (mB (m2 ltD (m2 ixA (AE 4) (AE 0)) (m2 ixA (AE 4) (AE 6)))) (AE 0)))))))) wN)
  (EY (AE 4))))))))
def HV(W:Wd):List D->Sto->Res D:=E5 6 (Fs W)
def Kw(W:Wd):MS:=
  (BU (Bu 2 UJ)
  (BU (Hb (P9 (AE 1)) (FR 2 (Bw (tgN 3) (Bw (tgN 4) Fj)))
  (E4 (AE 2) (AE 4) (AE 3)))
  (BU (Bu 5 (DV (Dw 2 (Dy (NC W.Web "ties" (AE 0))) (FR 2 (Bw (tgN 0) (Bw (tgN 1) Fj))) (Ot (mB (m2 (inA false) (AE 0) (AE 4))) (mB (m2 (inA false) (AE 1) (AE 4)))) (KC (AU (m2 ixA (AE 4) (AE 0)) (AU (m2 ixA (AE 4) (AE 1)) BY))))))
  (EY (Q4 W.Web 3 (Io W) (AU (Y5 (AE 2)) (AU (AE 5) BY)))))))
def Ks(W:Wd):List D->Sto->Res D:=E5 6 (Kw W)
def FN(W:Wd):MS:=
  (sIf (mOr (Pu (mB (m3 leD ltD (mC (.int 0)) (AE 2) (NC W.Web "places" (AE 0))))) (mB (m2 (inA false) (AE 2) (AE 1)))) (T4 W.NoCall (AU (mC (.str "a call comes from a place of the web without a guard")) BY)) sNx)
def EM(W:Wd):List D->Sto->Res D:=E5 3 (FN W)
def HE(W:Wd):MS:=
  (BU (Bu 2 (DV (De BY)))
  (BU (Hb (Dy (AE 1)) (FR 2 (Bw (tgN 3) (Bw (tgN 4) Fj)))
  (BU (C6 (V9 (AE 2) (AE 4)))
  (C6 (JA (AE 2) (mQ Ny (Kn (DV (Dw 1 (Dy (AE 3)) (tgN 0) (mB (m2 (inA true) (AE 0) (AE 5))) (AE 0)))))))))
  (EY (FZ (DO (AE 2))))))
def HD(W:Wd):List D->Sto->Res D:=E5 5 (HE W)
def Jn(W:Wd):MS:=
  (BU (Bu 4 (FZ (DO (m2 FO (AE 1) (KC (AU (AE 2) (AU (AE 3) BY)))))))
  (BU (Bu 5 (Cd 3 (HV W) (AU (Cd 2 (Ks W) (AU (AE 0) (AU (AE 4) BY))) (AU (Q5 (AE 4) (AE 2)) (AU (Q5 (AE 4) (AE 3)) BY)))))
  (EY (DV (Dw 1 (Dy (AE 5)) (tgN 0) Hg (m2 ixA (AE 5) (AE 0)))))))
def Jj(W:Wd):List D->Sto->Res D:=E5 6 (Jn W)
def Fy(W:Wd):MS:=
  (BU (C6 (Cd 3 (EM W) (AU (AE 0) (AU (AE 2) (AU (AE 3) BY)))))
  (BU (Bu 4 (m2 ixA (DV (Dw 1 (Dy (AE 1)) (tgN 0) (mB (m2 (inA false) (AE 4) (m2 ixA (AE 0) (mC (.int 0))))) (AE 0))) (mC (.int 0))))
  (BU (Bu 5 (m2 ixA (DV (Dw 1 (Dy (AE 2)) (tgN 0) (Ot (mB (m2 (inA false) (AE 0) (m2 ixA (AE 5) (mC (.int 0))))) (mB (m2 (inA true) (AE 0) (m2 ixA (AE 5) (mC (.int 1)))))) (AE 0))) (mC (.int 0))))
  (BU (Bu 6 (Cd 4 (Jj W) (AU (AE 0) (AU (m2 ixA (AE 4) (mC (.int 1))) (AU (AE 5) (AU (AE 3) BY))))))
  (BU (Bu 7 (N0 (AU (AE 6) (AU (Km (AE 6) (PP (mC (.int 1))) Vz) BY))))
  (EY (FZ (DV (Dw 1 (Dy (AE 2)) (tgN 0) Hg (So (AE 8) (AE 0) (AE 0)))))))))))
def C8(W:Wd):List D->Sto->Res D:=E5 8 (Fy W)
def MF(W:Wd):MS:=
  (BU (sIf (mB (m2 ltD (AE 1) (Jf (AE 0)))) (EY (m2 Kj (m2 ixA (AE 0) (AE 1)) (m2 dS (mC (.int 10)) (mC (.int 60))))) sNx)
  (EY (mC (.int 0))))
def GP(W:Wd):List D->Sto->Res D:=E5 2 (MF W)
def Kz(W:Wd):MS:=
  (BU (Bu 2 (m2 Kj (m2 UI (m2 FO (m2 Kj (AE 0) (mC (.int 2147483647))) (AE 1)) (mC (.int 48271))) (mC (.int 2147483647))))
  (BU (Bu 2 (m2 Kj (m2 UI (AE 2) (AE 2)) (mC (.int 2147483629))))
  (EY (m2 Kj (m2 UI (m2 FO (AE 2) (m2 UI (mC (.int 7919)) (AE 1))) (mC (.int 69621))) (mC (.int 2147483629))))))
def IP(W:Wd):List D->Sto->Res D:=E5 3 (Kz W)
def OH(W:Wd):MS:=
  (BU (Bu 2 (DV (Dw 1 (iR1 (AU (AE 0) BY)) (tgN 0) Hg (DV (De BY)))))
  (BU (Hb (Dy (AE 1)) (FR 2 (Bw (tgN 3) (Bw (tgN 4) Fj)))
  (BU (C6 (JA (m2 ixA (AE 2) (AE 3)) (AE 4)))
  (C6 (JA (m2 ixA (AE 2) (AE 4)) (AE 3)))))
  (EY (DV (Dw 1 (Dy (AE 2)) (tgN 0) Hg (DO (AE 0)))))))
def IN(W:Wd):List D->Sto->Res D:=E5 5 (OH W)
def Ky(W:Wd):MS:=
  (BU (Bu 2 (DV (De BY)))
  (BU (Hb (iR1 (AU (AE 1) BY)) (tgN 3)
  (C6 (eO (AE 2) (m2 Kj (m2 Mw (Cd 2 (IP W) (AU (AE 0) (AU (m2 FO (mC (.int 7000)) (AE 3)) BY))) (mC (.int 8))) (m2 FO (AE 3) (mC (.int 1)))) (AE 3))))
  (EY (AE 2))))
def Kt(W:Wd):List D->Sto->Res D:=E5 4 (Ky W)
def HX(W:Wd):MS:=
  (Hb (iR2 (AU (mC (.int 1)) (AU (Jf (AE 2)) BY))) (tgN 5)
  (sIf (mB (m2 (eqD false) (AE 3) (mC (.int 0)))) (C6 (Nz (AE 4) (DV (Dw 1 (iR1 (AU (AE 5) BY)) (tgN 0) Hg (KC (AU (m2 ixA (AE 3) (AE 0)) (AU (m2 ixA (AE 3) (AE 6)) BY))))))) (BU (Bu 6 (m2 Kj (m2 Mw (Cd 2 (IP W) (AU (AE 0) (AU (m2 FO (AE 1) (m2 UI (mC (.int 64)) (AE 5))) BY))) (mC (.int 8))) (mQ Nx (AU (AE 5) (AU (AE 3) BY)))))
  (C6 (JA (AE 4) (KC (AU (m2 ixA (AE 2) (AE 6)) (AU (m2 ixA (AE 2) (AE 5)) BY))))))))
def HW(W:Wd):List D->Sto->Res D:=E5 7 (HX W)
def Jo(W:Wd):MS:=
  (BU (Bu 1 (mC (.int 0)))
  (BU (Bu 2 (DV (De BY)))
  (BU (Hb (iR1 (AU (m2 FO (mC (.int 1)) (m2 Kj (Cd 2 (GP W) (AU (AE 0) (AU (mC (.int 0)) BY))) (mC (.int 6)))) BY)) (tgN 3)
  (BU (Bu 4 (Cd 2 (GP W) (AU (AE 0) (AU (m2 FO (mC (.int 1)) (AE 3)) BY))))
  (BU (Bu 5 (m2 FO (mC (.int 1)) (m2 Kj (AE 4) (mC (.int 6)))))
  (BU (C6 (JA (AE 2) (KC (AU (AE 5) (AU (m2 Kj (m2 Mw (AE 4) (mC (.int 6))) (AE 5)) BY)))))
  (Bu 1 (m2 FO (AE 1) (AE 5)))))))
  (BU (Bu 6 (Cd 2 (Kt W) (AU (Cd 2 (GP W) (AU (AE 0) (AU (mC (.int 7)) BY))) (AU (AE 1) BY))))
  (BU (Bu 7 (DV (De BY)))
  (BU (Bu 8 (DV (De BY)))
  (BU (Bu 9 (mC (.int 0)))
  (BU (Hb (iR1 (AU (Jf (AE 2)) BY)) (tgN 3)
  (BU (Bu 10 (Km (AE 6) (PP (AE 9)) (PP (m2 FO (AE 9) (m2 ixA (m2 ixA (AE 2) (AE 3)) (mC (.int 0)))))))
  (BU (Bu 11 (m2 ixA (m2 ixA (AE 2) (AE 3)) (mC (.int 1))))
  (BU (C6 (Cd 5 (HW W) (AU (Cd 2 (GP W) (AU (AE 0) (AU (m2 FO (mC (.int 1)) (AE 3)) BY))) (AU (m2 FO (mC (.int 900)) (AE 3)) (AU (AE 10) (AU (AE 11) (AU (AE 7) BY)))))))
  (BU (C6 (JA (AE 8) (KC (AU (FZ (DO (AE 10))) (AU (FZ (DO (Km (AE 10) Vz (PP (AE 11))))) BY)))))
  (Bu 9 (m2 FO (AE 9) (m2 ixA (m2 ixA (AE 2) (AE 3)) (mC (.int 0))))))))))
  (EY (KC (AU (AE 1) (AU (DO (DV (Dw 1 (Dy (AE 7)) (tgN 0) Hg (KC (AU (mQ Ny (Kn (AE 0))) (AU (mQ eI (Kn (AE 0))) BY)))))) (AU (AE 8) BY)))))))))))))
def Jk(W:Wd):List D->Sto->Res D:=E5 12 (Jo W)
def MC(W:Wd):MS:=
  (BU (Bu 3 (DV (mN Sq (Kn (AE 0)))))
  (BU (Hb (Dy (AE 2)) (tgN 4)
  (BU (Bu 5 (m2 Kj (AE 4) (AE 1)))
  (BU (Bu 6 (m2 Kj (m2 Mw (AE 4) (AE 1)) (AE 1)))
  (BU (Bu 7 (KC (AU (mQ Nx (AU (AE 5) (AU (AE 6) BY))) (AU (mQ PR (AU (AE 5) (AU (AE 6) BY))) BY))))
  (sIf (Ot (mB (m2 (eqD true) (AE 5) (AE 6))) (mB (m2 (inA true) (AE 7) (AE 3)))) (C6 (JA (AE 3) (AE 7))) sNx)))))
  (EY (DO (AE 3)))))
def Lx(W:Wd):List D->Sto->Res D:=E5 8 (MC W)
def MB(W:Wd):MS:=
  (BU (Bu 4 (mC .non))
  (BU (Bu 5 (mC .non))
  (BU (Z9 W.excs 6 (Bu 5 (Cd 4 (C8 W) (AU (AE 0) (AU (AE 1) (AU (AE 2) (AU (AE 3) BY)))))) (Bu 4 (AE 6)))
  (BU (sIf (mB (m2 (sH false) (AE 4) (mC .non))) (EY (AE 5)) sNx)
  (EY (eW (L2.mIs isN (Oh W) (AE 4)) (L2.mIs isV (JZ W) (AE 4))))))))
def Hf(W:Wd):List D->Sto->Res D:=E5 7 (MB W)
def MD(W:Wd):MS:=
  (BU (sIf (mOr (Pu (mB (L2.mIs (isB "tuple") (λ_=>none) (AE 4)))) (mOr (mB (m2 (eqD true) (Jf (AE 4)) (Jf (AE 2)))) (mB (m2 (eqD true) (P8 (AE 4)) (Jf (AE 4)))))) (EY (mC (.bl false))) sNx)
  (BU (Bu 5 (m2 ixA (DV (Dw 2 (Dy (AE 1)) (FR 2 (Bw (tgN 0) (Bw (tgN 1) Fj))) (mB (m2 (inA false) (AE 5) (AE 0))) (AE 0))) (mC (.int 0))))
  (BU (Hb (iR1 (AU (Jf (AE 4)) BY)) (tgN 6)
  (BU (sIf (mOr (Pu (mB (L2.mIs (isB "int") (λ_=>none) (m2 ixA (AE 4) (AE 6))))) (mB (L2.mIs (isB "bool") (λ_=>none) (m2 ixA (AE 4) (AE 6))))) (EY (mC (.bl false))) sNx)
  (BU (Bu 7 (m2 ixA (AE 2) (AE 6)))
  (sIf (Ot (mB (m2 (eqD true) (m2 ixA (AE 4) (AE 6)) (AE 7))) (mOr (mB (m2 (inA true) (m2 ixA (AE 4) (AE 6)) (m2 ixA (AE 0) (AE 7)))) (mB (m2 (inA true) (AE 7) (AE 5))))) (EY (mC (.bl false))) sNx))))
  (BU (sIf (mB (m2 (inA true) (AE 3) (AE 4))) (EY (mC (.bl false))) sNx)
  (BU (Hb (Dy (AE 1)) (FR 2 (Bw (tgN 8) (Bw (tgN 9) Fj)))
  (BU (Bu 10 (DV (Dw 1 (Dy (AE 4)) (tgN 0) (mB (m2 (inA false) (AE 0) (AE 9))) (AE 0))))
  (sIf (mOr (mB (m2 (eqD true) (Jf (AE 10)) (m2 FO (Jf (AE 9)) (mC (.int 1))))) (mB (m2 gtD (Jf (DV (Dw 1 (Dy (AE 9)) (tgN 0) (mB (m2 (inA true) (AE 0) (AE 11))) (AE 0)))) (mC (.int 0))))) (EY (mC (.bl false))) sNx)))
  (EY (mC (.bl true))))))))
def Ly(W:Wd):List D->Sto->Res D:=E5 11 (MD W)
def NJ(W:Wd):MS:=
  (BU (Bu 4 (Lu (AE 3) (mC (.int 0))))
  (BU (Bu 5 (DV (De (AU (AE 3) BY))))
  (BU (Bu 6 (mC (.int 0)))
  (BU (E3 (mB (m2 ltD (AE 6) (Jf (AE 5)))) (BU (Hb (Dy (m2 ixA (AE 0) (m2 ixA (AE 5) (AE 6)))) (tgN 7)
  (sIf (Ot (mB (m2 (inA false) (AE 7) (AE 1))) (mB (m2 (inA true) (AE 7) (AE 4)))) (BU (E4 (AE 4) (AE 7) (m2 FO (m2 ixA (AE 4) (m2 ixA (AE 5) (AE 6))) (mC (.int 1))))
  (C6 (JA (AE 5) (AE 7)))) sNx))
  (Bu 6 (m2 FO (AE 6) (mC (.int 1))))) wN)
  (BU (Bu 8 (DV (De (AU (AE 2) BY))))
  (BU (E3 (mB (m2 (eqD true) (m2 ixA (AE 8) (SM (mC (.int 1)))) (AE 3))) (C6 (JA (AE 8) (m2 ixA (DV (Dw 1 (Dy (m2 ixA (AE 0) (m2 ixA (AE 8) (SM (mC (.int 1)))))) (tgN 0) (mB (m2 (eqD false) (So (AE 5) (AE 0) (mC (.int 60))) (m2 Z1 (m2 ixA (AE 5) (m2 ixA (AE 9) (SM (mC (.int 1))))) (mC (.int 1))))) (AE 0))) (mC (.int 0))))) wN)
  (EY (AE 8))))))))
def NG(W:Wd):List D->Sto->Res D:=E5 9 (NJ W)
def NK(W:Wd):MS:=
  (BU (Qm (m2 ixA (DV (Dw 1 (Dy (AE 1)) (tgN 0) (mB (m2 (inA false) (AE 4) (m2 ixA (AE 0) (mC (.int 0))))) (AE 0))) (mC (.int 0))) (FR 2 (Bw (tgN 4) (Bw (tgN 5) Fj))))
  (BU (Bu 6 (m2 ixA (DV (Dw 1 (Dy (AE 4)) (tgN 0) (Ot (mB (m2 (inA false) (AE 0) (AE 3))) (mB (m2 (inA true) (AE 0) (AE 6)))) (AE 0))) (mC (.int 0))))
  (BU (Bu 7 (DV (De (AU (AE 6) (AU (AE 3) BY)))))
  (BU (sIf (mB (m2 gtD (Jf (AE 5)) (mC (.int 0)))) (Bu 7 (Cd 4 (NG W) (AU (AE 0) (AU (m2 FO (AE 5) (KC (AU (AE 6) (AU (AE 3) BY)))) (AU (AE 6) (AU (AE 3) BY)))))) sNx)
  (BU (Bu 8 UJ)
  (BU (Hb (iR1 (AU (m2 Z1 (Jf (AE 7)) (mC (.int 1))) BY)) (tgN 9)
  (E4 (AE 8) (m2 ixA (AE 7) (AE 9)) (m2 ixA (AE 7) (m2 FO (AE 9) (mC (.int 1))))))
  (EY (FZ (DV (Dw 1 (Dy (AE 2)) (tgN 0) Hg (So (AE 9) (AE 0) (AE 0))))))))))))
def NH(W:Wd):List D->Sto->Res D:=E5 10 (NK W)
def gN(W:Wd):MS:=
  (BU (Qm (Cd 1 (Jk W) (AU (AE 0) BY)) (FR 3 (Bw (tgN 1) (Bw (tgN 2) (Bw (tgN 3) Fj)))))
  (BU (Bu 2 (Cd 3 (Lx W) (AU (AE 2) (AU (AE 1) (AU (Km (AE 0) (PP (mC (.int 8))) Vz) BY)))))
  (BU (Bu 4 (Cd 2 (IN W) (AU (AE 1) (AU (AE 2) BY))))
  (BU (Bu 5 (Q4 W.Web 3 (Io W) (AU (AE 1) (AU (AE 2) BY))))
  (BU (Bu 6 (Cd 2 (HD W) (AU (AE 5) (AU (AE 3) BY))))
  (BU (Hb (Dy (m2 FO (DV (De (AU (mC (.int 0)) BY))) (DV (mN Sq (Kn (AE 0)))))) (tgN 7)
  (BU (Bu 8 (m2 Z1 (m2 Kj (AE 7) (m2 FO (AE 1) (mC (.int 2)))) (mC (.int 1))))
  (BU (sIf (mB (m2 (eqD false) (m2 Kj (m2 Mw (AE 7) (mC (.int 97))) (mC (.int 19))) (mC (.int 1)))) (Bu 8 (m2 ixA (DV (De (AU (m2 FO (m2 dS (mC (.int 10)) (mC (.int 40))) (AE 8)) (AU (m2 Z1 (SM (m2 dS (mC (.int 10)) (mC (.int 40)))) (AE 8)) BY)))) (m2 Kj (m2 Mw (AE 7) (mC (.int 1843))) (mC (.int 2))))) sNx)
  (BU (Bu 9 (Cd 4 (Hf W) (AU (AE 5) (AU (DV (mN Sq (Kn (AE 3)))) (AU (AE 6) (AU (AE 8) BY))))))
  (sIf (mOr (mB (m2 ltD (AE 8) (mC (.int 0)))) (mOr (mB (m2 geD (AE 8) (AE 1))) (mB (m2 (inA false) (AE 8) (AE 6))))) (sIf (mB (m2 Y0 (AE 9) (mC (.bl true)))) (EY (mC (.bl false))) sNx) (sIf (Pu (V8 (Cd 5 (Ly W) (AU (AE 4) (AU (AE 3) (AU (AE 6) (AU (AE 8) (AU (AE 9) BY)))))))) (EY (mC (.bl false))) (sIf (mB (m2 (eqD true) (AE 9) (Cd 4 (NH W) (AU (AE 4) (AU (AE 3) (AU (AE 6) (AU (AE 8) BY))))))) (EY (mC (.bl false))) (Bu 6 (FZ (DO (AE 9)))))))))))
  (EY (mC (.bl true)))))))))
def ZN(W:Wd):List D->Sto->Res D:=E5 10 (gN W)
set_option genInjectivity false in
structure Txt(K:AG)(mg:Str->Option AH)(W:Wd) where
 d_checked_ties:Dfn K mg "checked_ties" "checked_ties" Ig ["places", "ties"]
 d_near_sets_of:Dfn K mg "near_sets_of" "near_sets_of" Ie ["places", "ties"]
 d_Web_init:Mtd K "__init__" "Web.__init__" NA ["self", "places", "ties"]
 d_refuse_no_place:Dfn K mg "refuse_no_place" "refuse_no_place" Gh ["web", "place"]
 d_near:Dfn K mg "near" "near" Xe ["web", "place"]
 d_steps_from:Dfn K mg "steps_from" "steps_from" KU ["web", "start"]
 d_way_between:Dfn K mg "way_between" "way_between" Jb ["web", "one", "other"]
 d_web_within:Dfn K mg "web_within" "web_within" KS ["web", "some"]
 d_refuse_no_call:Dfn K mg "refuse_no_call" "refuse_no_call" G7 ["web", "standing", "call"]
 d_first_standing:Dfn K mg "first_standing" "first_standing" G8 ["web", "colonies"]
 d_way_through:Dfn K mg "way_through" "way_through" Ja ["web", "inner", "extra", "call"]
 d_colony_answer:Dfn K mg "colony_answer" "colony_answer" Hu ["web", "colonies", "standing", "call"]
 d__law_cell:Dfn K mg "_law_cell" "_law_cell" Ln ["script", "k"]
 d__law_mixed:Dfn K mg "_law_mixed" "_law_mixed" KZ ["cell", "salt"]
 d__law_nears:Dfn K mg "_law_nears" "_law_nears" KY ["many", "ties"]
 d__law_order:Dfn K mg "_law_order" "_law_order" KW ["cell", "many"]
 d__law_colony:Dfn K mg "_law_colony" "_law_colony" Jd ["cell", "salt", "places", "inner", "ties"]
 d__law_ground:Dfn K mg "_law_ground" "_law_ground" Jc ["script"]
 d__law_more:Dfn K mg "_law_more" "_law_more" Ll ["ties", "many", "cells"]
 d__law_told:Dfn K mg "_law_told" "_law_told" Lj ["web", "colonies", "standing", "call"]
 d__law_good:Dfn K mg "_law_good" "_law_good" Lm ["nears", "colonies", "standing", "call", "found"]
 d__law_way:Dfn K mg "_law_way" "_law_way" M8 ["nears", "ground", "more", "call"]
 d__law_due:Dfn K mg "_law_due" "_law_due" M9 ["nears", "colonies", "standing", "call"]
 d_law:Dfn K mg "law" "law" Yo ["script"]
 c_Web:Own K mg "Web" W.Web d_Web_init.f
 n_Web_places:Ir K W.Web "places"
 n_Web_ties:Ir K W.Web "ties"
 n_Web_near_sets:Ir K W.Web "near_sets"
 xm_GuardError:mg "GuardError" = some (.ref W.GuardError)
 x_NoCall:Xcl K mg "NoCall" W.NoCall
 nd:W.excs.Nodup
 caught_GuardError:∀c∈W.excs,YF K c W.GuardError
 is_NoCall:∀C b,Oh W C=some b->XIs K C/\Bm K (.ref C) (.ref W.NoCall)=some b
 i_NoCall:(Ee K W.NoCall).isSome=true/\LU K (.ref W.NoCall)=some (.type "type")
 is_ValueError:∀C b,JZ W C=some b->XIs K C/\Bm K (.ref C) (.type "ValueError")=some b
 b_ValueError:mg "ValueError" = none
 b_bool:mg "bool" = none
 b_dict:mg "dict" = none
 b_enumerate:mg "enumerate" = none
 b_int:mg "int" = none
 b_isinstance:mg "isinstance" = none
 b_len:mg "len" = none
 b_list:mg "list" = none
 b_max:mg "max" = none
 b_min:mg "min" = none
 b_range:mg "range" = none
 b_set:mg "set" = none
 b_sorted:mg "sorted" = none
 b_tuple:mg "tuple" = none
 b_zip:mg "zip" = none
 g_MOST_PLACES:∃tk,mg "MOST_PLACES" = some (.int 60 tk)
section
variable{P:Bb}{w:By}{K:AG}{mg:Str->Option AH}{base:CS}{W:Wd}
theorem Pp:CL ["places", "ties", "found", "one", "other", "tie"] ["places", "ties"] (BV Ig):=IL
theorem Pt(T:Txt K mg W):EO P w K mg base (CXG P w) 1 T.d_checked_ties.f T.d_checked_ties.fd ["places", "ties"] (spM K 2 (Gu W)):=by
 refine Cw (k:=0) T.d_checked_ties.F Pp rfl λ_ _ _ _ _ _ j O g nd l m=>?_
 exact(AW (Br 2 nd fY)
  (AW (E8 (Bi O).own rfl (DC (AB (pv 1))) (Ji rfl (Co (CB 3 nd) (Co (CB 4 nd) HU)))
  (AW (Br 5 nd (Il (AR (UW rfl rfl T.b_min (AR (AB (pv 3)) (AR (AB (pv 4)) BC))) (AR (ZD rfl rfl T.b_max (AR (AB (pv 3)) (AR (AB (pv 4)) BC))) BC))))
  (AW (En (DW (Yy g) (Bz g (AB (pv 5)) ge_int) (Bz g (AB (pv 5)) ge_int) (Dr _)) (Ay Lv) DP)
  (AW (En (Ox (N7 (DW Qx (Bz g (AB (pv 5)) ge_int) ge_int (Dr _)) (NF (DW lD (Bz g (AB (pv 5)) ge_int) (AB (pv 0)) (Dr _))))) (Ay Lv) DP)
  (AW (En (LD g (AB (pv 5)) (AB (pv 2))) (Ay Lv) DP)
  (Ay (N9 (A5 (DA (by decide:1<=64) _) g) (AB (pv 2)) (AB (pv 5)) LF rfl)))))))
  (Ay (Cr (Fp rfl T.b_tuple (Eh rfl rfl T.b_sorted (AB (pv 2))))))))
theorem Po:CL ["places", "ties", "rows", "one", "other"] ["places", "ties"] (BV Ie):=IL
theorem Ps(T:Txt K mg W):EO P w K mg base (CXG P w) 1 T.d_near_sets_of.f T.d_near_sets_of.fd ["places", "ties"] (spM K 2 (Gs W)):=by
 refine Cw (k:=0) T.d_near_sets_of.F Po rfl λ_ _ _ _ _ _ j O g nd l m=>?_
 exact(AW (UR (i:=2) (own:=["place"]) (N':=["place", "·1", "·2", "·3", "·4", "·5"]) rfl rfl nd rfl (by first | exact Uw rfl | exact Re rfl) (DQ (by kernel_rfl)) (GN rfl T.b_range (AR (AB (pv 0)) BC)) (λ_ _ _ _ _ _=>(CB 0 (by decide +kernel:(["place", "·1", "·2", "·3", "·4", "·5"]:List Str).Nodup))) (λ_ _ _ _ _ _=>Gp) (λ_ _ _ _ _ _=>(Cf (F7 BC))))
  (AW (E8 (Bi O).own rfl (DC (AB (pv 1))) (Ji rfl (Co (CB 3 nd) (Co (CB 4 nd) HU)))
  (AW (DG (Dk (Bz g (AB (pv 2)) (AB (pv 3))) (AB (pv 4))))
  (Ay (DG (Dk (Bz g (AB (pv 2)) (AB (pv 4))) (AB (pv 3)))))))
  (Ay (Cr (Fp rfl T.b_tuple (Cf (D4 (own:=["row"]) (N':=["row", "·1", "·2", "·3", "·4", "·5"]) rfl (DQ (by kernel_rfl)) (DC (AB (pv 2))) (λ_ _ _ _ _ _=>(CB 0 (by decide +kernel:(["row", "·1", "·2", "·3", "·4", "·5"]:List Str).Nodup))) (λ_ _ _ _ _ _=>Gp) (λ_ _ _ _ _ _=>(Fp rfl T.b_tuple (Eh rfl rfl T.b_sorted (AB (pv 0))))))))))))
theorem Vl:CL ["self", "places", "ties"] ["self", "places", "ties"] (BV NA):=IL
theorem PM(T:Txt K mg W):EO P w K mg base (CXG P w) 2 T.d_Web_init.f T.d_Web_init.fd ["self", "places", "ties"] (spM K 3 (Io W)):=by
 refine Cw (k:=1) T.d_Web_init.F Vl rfl λ_ _ _ _ _ _ g O j nd l o=>?_
 exact(AW (En (Oy (RE Yx Yx ge_int (AB (pv 1)) (fX rfl T.g_MOST_PLACES.choose_spec))) (Ay Lv) DP)
  (AW (Xz T.c_Web.cl T.n_Web_places (AB (pv 0)) (AB (pv 1)) rfl)
  (AW (Xz T.c_Web.cl T.n_Web_ties (AB (pv 0)) (CI (Pt T) (Bi O).pass (g.mono (by decide)) rfl T.d_checked_ties.m T.d_checked_ties.kp T.d_checked_ties.b (AR (AB (pv 1)) (AR (AB (pv 2)) BC))) rfl)
  (Ay (Xz T.c_Web.cl T.n_Web_near_sets (AB (pv 0)) (CI (Ps T) (Bi O).pass (g.mono (by decide)) rfl T.d_near_sets_of.m T.d_near_sets_of.kp T.d_near_sets_of.b (AR (AB (pv 1)) (AR (RF T.c_Web.cl T.n_Web_ties (AB (pv 0)) rfl) BC))) rfl)))))
theorem M7:CL ["web", "place"] ["web", "place"] (BV Gh):=IL
theorem F5(T:Txt K mg W):EO P w K mg base (CXG P w) 1 T.d_refuse_no_place.f T.d_refuse_no_place.fd ["web", "place"] (spM K 2 (Cg W)):=by
 refine Cw (k:=0) T.d_refuse_no_place.F M7 rfl λ_ _ _ _ _ _ g O j nd l m=>?_
 exact(Ay (En (Oy (RE Yx Qx ge_int (AB (pv 1)) (RF T.c_Web.cl T.n_Web_places (AB (pv 0)) rfl))) (Ay Lv) DP))
theorem i5:CL ["web", "place"] ["web", "place"] (BV Xe):=IL
theorem Yw(T:Txt K mg W):EO P w K mg base (CXG P w) 2 T.d_near.f T.d_near.fd ["web", "place"] (spM K 2 (Lw W)):=by
 refine Cw (k:=1) T.d_near.F i5 rfl λ_ _ _ _ _ _ g O j nd l o=>?_
 exact(AW (DG (CI (F5 T) (Bi O).pass (g.mono (by decide)) rfl T.d_refuse_no_place.m T.d_refuse_no_place.kp T.d_refuse_no_place.b (AR (AB (pv 0)) (AR (AB (pv 1)) BC))))
  (Ay (Cr (Bz j (RF T.c_Web.cl T.n_Web_near_sets (AB (pv 0)) rfl) (AB (pv 1))))))
theorem R9:CL ["web", "start", "steps", "layer", "further", "place", "beside"] ["web", "start"] (BV KU):=IL
theorem SG(T:Txt K mg W):EO P w K mg base (CXG P w) 3 T.d_steps_from.f T.d_steps_from.fd ["web", "start"] (spM K 2 (IM W)):=by
 refine Cw (k:=2) T.d_steps_from.F R9 rfl λ_ _ _ _ _ _ j O g nd l o=>?_
 exact(AW (Br 2 nd (WI (AB (pv 1)) ge_int))
  (AW (Br 3 nd (Cf (F7 (AR (AB (pv 1)) BC))))
  (AW (N8 wN (Bi O).own (WE (AB (pv 3))) (AW (Br 4 nd (Cf (F7 BC)))
  (AW (E8 (Bi O).own rfl (DC (AB (pv 3))) (CB 5 nd)
  (Ay (E8 (Bi O).own rfl (DC (CI (Yw T) (Bi O).pass (j.mono (by decide)) rfl T.d_near.m T.d_near.kp T.d_near.b (AR (AB (pv 0)) (AR (AB (pv 5)) BC)))) (CB 6 nd)
  (Ay (En (E7 g (AB (pv 6)) (AB (pv 2))) (AW (N9 (A5 (DA (by decide:1<=64) _) g) (AB (pv 2)) (AB (pv 6)) (BZ Dq (Bz g (AB (pv 2)) (AB (pv 5))) ge_int) rfl)
  (Ay (DG (Dk (AB (pv 4)) (AB (pv 6)))))) DP)))))
  (Ay (Br 3 nd (AB (pv 4)))))))
  (Ay (Cr (AB (pv 2)))))))
theorem Qj:CL ["web", "one", "other", "steps", "way", "here"] ["web", "one", "other"] (BV Jb):=IL
theorem Qs(T:Txt K mg W):EO P w K mg base (CXG P w) 4 T.d_way_between.f T.d_way_between.fd ["web", "one", "other"] (spM K 3 (HV W)):=by
 refine Cw (k:=3) T.d_way_between.F Qj rfl λ_ _ _ _ _ _ j O g nd l o=>?_
 exact(AW (DG (CI (F5 T) (Bi O).pass (j.mono (by decide)) rfl T.d_refuse_no_place.m T.d_refuse_no_place.kp T.d_refuse_no_place.b (AR (AB (pv 0)) (AR (AB (pv 1)) BC))))
  (AW (DG (CI (F5 T) (Bi O).pass (j.mono (by decide)) rfl T.d_refuse_no_place.m T.d_refuse_no_place.kp T.d_refuse_no_place.b (AR (AB (pv 0)) (AR (AB (pv 2)) BC))))
  (AW (Br 3 nd (CI (SG T) (Bi O).pass (j.mono (by decide)) rfl T.d_steps_from.m T.d_steps_from.kp T.d_steps_from.b (AR (AB (pv 0)) (AR (AB (pv 2)) BC))))
  (AW (En (E7 g (AB (pv 1)) (AB (pv 3))) (Ay (Cr UV)) DP)
  (AW (Br 4 nd (Cf (F7 (AR (AB (pv 1)) BC))))
  (AW (N8 wN (Bi O).own (DW (PN g) (Bz g (AB (pv 4)) (Oz ge_int)) (AB (pv 2)) (Dr _)) (AW (Br 5 nd (Bz g (AB (pv 4)) (Oz ge_int)))
  (Ay (DG (Dk (AB (pv 4)) (UX rfl rfl T.b_min (Cf (D4 (own:=["place"]) (N':=["place", "·1", "·2", "·3", "steps", "·5", "here"]) rfl (DQ (by kernel_rfl)) (DC (CI (Yw T) (Bi O).pass (j.mono (by decide)) rfl T.d_near.m T.d_near.kp T.d_near.b (AR (AB (pv 0)) (AR (AB (pv 5)) BC)))) (λ_ _ _ _ _ _=>(CB 0 (by decide +kernel:(["place", "·1", "·2", "·3", "steps", "·5", "here"]:List Str).Nodup))) (λ_ _ _ _ _ _=>(E9 (DW Qx (Bz g (AB (pv 4)) (AB (pv 0))) (Bz g (AB (pv 4)) (AB (pv 6))) (Dr _)))) (λ_ _ _ _ _ _=>(AB (pv 0)))))))))))
  (Ay (Cr (AB (pv 4))))))))))
theorem R8:CL ["web", "some", "numbers", "number", "place", "ties"] ["web", "some"] (BV KS):=IL
theorem SF(T:Txt K mg W):EO P w K mg base (CXG P w) 4 T.d_web_within.f T.d_web_within.fd ["web", "some"] (spM K 2 (Ks W)):=by
 refine Cw (k:=3) T.d_web_within.F R8 rfl λ_ _ _ _ _ _ j O g nd l o=>?_
 exact(AW (Br 2 nd WH)
  (AW (E8 (Bi O).own rfl (fW rfl T.b_enumerate (AB (pv 1))) (Ji rfl (Co (CB 3 nd) (Co (CB 4 nd) HU)))
  (Ay (N9 (A5 (DA (by decide:1<=64) _) g) (AB (pv 2)) (AB (pv 4)) (AB (pv 3)) rfl)))
  (AW (UR (i:=5) (own:=["one", "other"]) (N':=["one", "other", "·2", "·3", "numbers", "·5", "·6", "·7"]) rfl rfl nd rfl (by first | exact Uw rfl | exact Re rfl) (DQ (by kernel_rfl)) (DC (RF T.c_Web.cl T.n_Web_ties (AB (pv 0)) rfl)) (λ_ _ _ _ _ _=>(Ji rfl (Co (CB 0 (by decide +kernel:(["one", "other", "·2", "·3", "numbers", "·5", "·6", "·7"]:List Str).Nodup)) (Co (CB 1 (by decide +kernel:(["one", "other", "·2", "·3", "numbers", "·5", "·6", "·7"]:List Str).Nodup)) HU)))) (λ_ _ _ _ _ _=>(E9 (Ox (Ow (LD g (AB (pv 0)) (AB (pv 4))) (Ma (LD g (AB (pv 1)) (AB (pv 4)))))))) (λ_ _ _ _ _ _=>(Il (AR (Bz g (AB (pv 4)) (AB (pv 0))) (AR (Bz g (AB (pv 4)) (AB (pv 1))) BC)))))
  (Ay (Cr (ZE T.c_Web.mk' (PM T) (Bi O).pass (j.mono (by decide)) rfl T.c_Web.m T.d_Web_init.b (AR (kA rfl T.b_len (AB (pv 2))) (AR (AB (pv 5)) BC))))))))
theorem Nl:CL ["web", "standing", "call"] ["web", "standing", "call"] (BV G7):=IL
theorem Nq(T:Txt K mg W):EO P w K mg base (CXG P w) 1 T.d_refuse_no_call.f T.d_refuse_no_call.fd ["web", "standing", "call"] (spM K 3 (EM W)):=by
 refine Cw (k:=0) T.d_refuse_no_call.F Nl rfl λ_ _ _ _ _ _ j O g nd l o=>?_
 exact(Ay (En (Ox (N7 (Oy (RE Yx Qx ge_int (AB (pv 2)) (RF T.c_Web.cl T.n_Web_places (AB (pv 0)) rfl))) (NF (LD g (AB (pv 2)) (AB (pv 1)))))) (Ay (fR (Bi O) rfl T.x_NoCall.xc rfl T.x_NoCall.m (AR pH BC))) DP))
theorem Nm:CL ["web", "colonies", "told", "some", "inner"] ["web", "colonies"] (BV G8):=IL
theorem Nr(T:Txt K mg W):EO P w K mg base (CXG P w) 1 T.d_first_standing.f T.d_first_standing.fd ["web", "colonies"] (spM K 2 (HD W)):=by
 refine Cw (k:=0) T.d_first_standing.F Nm rfl λ_ _ _ _ _ _ j O g nd l m=>?_
 exact(AW (Br 2 nd (Cf (F7 BC)))
  (AW (E8 (Bi O).own rfl (DC (AB (pv 1))) (Ji rfl (Co (CB 3 nd) (Co (CB 4 nd) HU)))
  (AW (DG (kB (AB (pv 2)) (AB (pv 4))))
  (Ay (DG (Dk (AB (pv 2)) (UX rfl rfl T.b_min (Cf (D4 (own:=["place"]) (N':=["place", "·1", "·2", "·3", "·4", "inner"]) rfl (DQ (by kernel_rfl)) (DC (AB (pv 3))) (λ_ _ _ _ _ _=>(CB 0 (by decide +kernel:(["place", "·1", "·2", "·3", "·4", "inner"]:List Str).Nodup))) (λ_ _ _ _ _ _=>(E9 (E7 g (AB (pv 0)) (AB (pv 5))))) (λ_ _ _ _ _ _=>(AB (pv 0)))))))))))
  (Ay (Cr (Fp rfl T.b_tuple (Eh rfl rfl T.b_sorted (AB (pv 2))))))))
theorem Qi:CL ["web", "inner", "extra", "call", "some", "way"] ["web", "inner", "extra", "call"] (BV Ja):=IL
theorem Qr(T:Txt K mg W):EO P w K mg base (CXG P w) 5 T.d_way_through.f T.d_way_through.fd ["web", "inner", "extra", "call"] (spM K 4 (Jj W)):=by
 refine Cw (k:=4) T.d_way_through.F Qi rfl λ_ _ _ _ _ _ g O j nd l o=>?_
 exact(AW (Br 4 nd (Fp rfl T.b_tuple (Eh rfl rfl T.b_sorted (BZ Dq (AB (pv 1)) (Il (AR (AB (pv 2)) (AR (AB (pv 3)) BC)))))))
  (AW (Br 5 nd (CI (Qs T) (Bi O).pass (g.mono (by decide)) rfl T.d_way_between.m T.d_way_between.kp T.d_way_between.b (AR (CI (SF T) (Bi O).pass (g.mono (by decide)) rfl T.d_web_within.m T.d_web_within.kp T.d_web_within.b (AR (AB (pv 0)) (AR (AB (pv 4)) BC))) (AR (WG (AB (pv 4)) (AB (pv 2))) (AR (WG (AB (pv 4)) (AB (pv 3))) BC)))))
  (Ay (Cr (Cf (D4 (own:=["number"]) (N':=["number", "·1", "·2", "·3", "·4", "some", "·6"]) rfl (DQ (by kernel_rfl)) (DC (AB (pv 5))) (λ_ _ _ _ _ _=>(CB 0 (by decide +kernel:(["number", "·1", "·2", "·3", "·4", "some", "·6"]:List Str).Nodup))) (λ_ _ _ _ _ _=>Gp) (λ_ _ _ _ _ _=>(Bz j (AB (pv 5)) (AB (pv 0))))))))))
theorem Om:CL ["web", "colonies", "standing", "call", "colony", "extra", "way", "steps"] ["web", "colonies", "standing", "call"] (BV Hu):=IL
theorem Oo(T:Txt K mg W):EO P w K mg base (CXG P w) 6 T.d_colony_answer.f T.d_colony_answer.fd ["web", "colonies", "standing", "call"] (spM K 4 (C8 W)):=by
 refine Cw (k:=5) T.d_colony_answer.F Om rfl λ_ _ _ _ _ _ j O g nd l o=>?_
 exact(AW (DG (CI (Nq T) (Bi O).pass (j.mono (by decide)) rfl T.d_refuse_no_call.m T.d_refuse_no_call.kp T.d_refuse_no_call.b (AR (AB (pv 0)) (AR (AB (pv 2)) (AR (AB (pv 3)) BC)))))
  (AW (Br 4 nd (Bz g (Cf (D4 (own:=["one"]) (N':=["one", "·1", "·2", "·3", "call", "·5", "·6", "·7", "·8"]) rfl (DQ (by kernel_rfl)) (DC (AB (pv 1))) (λ_ _ _ _ _ _=>(CB 0 (by decide +kernel:(["one", "·1", "·2", "·3", "call", "·5", "·6", "·7", "·8"]:List Str).Nodup))) (λ_ _ _ _ _ _=>(E9 (LD g (AB (pv 4)) (Bz g (AB (pv 0)) ge_int)))) (λ_ _ _ _ _ _=>(AB (pv 0))))) ge_int))
  (AW (Br 5 nd (Bz g (Cf (D4 (own:=["place"]) (N':=["place", "·1", "·2", "·3", "·4", "colony", "·6", "·7", "·8"]) rfl (DQ (by kernel_rfl)) (DC (AB (pv 2))) (λ_ _ _ _ _ _=>(CB 0 (by decide +kernel:(["place", "·1", "·2", "·3", "·4", "colony", "·6", "·7", "·8"]:List Str).Nodup))) (λ_ _ _ _ _ _=>(E9 (Ox (Ow (LD g (AB (pv 0)) (Bz g (AB (pv 5)) ge_int)) (Ma (E7 g (AB (pv 0)) (Bz g (AB (pv 5)) ge_int))))))) (λ_ _ _ _ _ _=>(AB (pv 0))))) ge_int))
  (AW (Br 6 nd (CI (Qr T) (Bi O).pass (j.mono (by decide)) rfl T.d_way_through.m T.d_way_through.kp T.d_way_through.b (AR (AB (pv 0)) (AR (Bz g (AB (pv 4)) ge_int) (AR (AB (pv 5)) (AR (AB (pv 3)) BC))))))
  (AW (Br 7 nd (X1 rfl rfl T.b_dict rfl T.b_zip (AR (AB (pv 6)) (AR (OC (AB (pv 6)) (OA ge_int) US) BC))))
  (Ay (Cr (Fp rfl T.b_tuple (Cf (D4 (own:=["guard"]) (N':=["guard", "·1", "·2", "·3", "·4", "·5", "·6", "·7", "steps"]) rfl (DQ (by kernel_rfl)) (DC (AB (pv 2))) (λ_ _ _ _ _ _=>(CB 0 (by decide +kernel:(["guard", "·1", "·2", "·3", "·4", "·5", "·6", "·7", "steps"]:List Str).Nodup))) (λ_ _ _ _ _ _=>Gp) (λ_ _ _ _ _ _=>(UZ (A5 (DA (by decide:1<=64) _) g) (AB (pv 8)) (AB (pv 0)) (AB (pv 0))))))))))))))
theorem T3:CL ["script", "k"] ["script", "k"] (BV Ln):=IL
theorem IK(T:Txt K mg W):EO P w K mg base (CXG P w) 1 T.d__law_cell.f T.d__law_cell.fd ["script", "k"] (spM K 2 (GP W)):=by
 refine Cw (k:=0) T.d__law_cell.F T3 rfl λ_ _ _ _ _ _ j O g nd l m=>?_
 exact(AW (En (DW Qx (AB (pv 1)) (HC rfl T.b_len (AB (pv 0))) (Dr _)) (Ay (Cr (BZ F6 (Bz g (AB (pv 0)) (AB (pv 1))) (BZ Xi ge_int ge_int)))) DP)
  (Ay (Cr ge_int)))
theorem SC:CL ["cell", "salt", "mixed"] ["cell", "salt"] (BV KZ):=IL
theorem Mu(T:Txt K mg W):EO P w K mg base (CXG P w) 1 T.d__law_mixed.f T.d__law_mixed.fd ["cell", "salt"] (spM K 2 (IP W)):=by
 refine Cw (k:=0) T.d__law_mixed.F SC rfl λ_ _ _ _ _ _ g O j nd l m=>?_
 exact(AW (Br 2 nd (BZ F6 (BZ Qw (BZ Dq (BZ F6 (AB (pv 0)) ge_int) (AB (pv 1))) ge_int) ge_int))
  (AW (Br 2 nd (BZ F6 (BZ Qw (AB (pv 2)) (AB (pv 2))) ge_int))
  (Ay (Cr (BZ F6 (BZ Qw (BZ Dq (AB (pv 2)) (BZ Qw ge_int (AB (pv 1)))) ge_int) ge_int)))))
theorem SB:CL ["many", "ties", "nears", "one", "other"] ["many", "ties"] (BV KY):=IL
theorem SI(T:Txt K mg W):EO P w K mg base (CXG P w) 1 T.d__law_nears.f T.d__law_nears.fd ["many", "ties"] (spM K 2 (IN W)):=by
 refine Cw (k:=0) T.d__law_nears.F SB rfl λ_ _ _ _ _ _ j O g nd l m=>?_
 exact(AW (UR (i:=2) (own:=["place"]) (N':=["place", "·1", "·2", "·3", "·4", "·5"]) rfl rfl nd rfl (by first | exact Uw rfl | exact Re rfl) (DQ (by kernel_rfl)) (GN rfl T.b_range (AR (AB (pv 0)) BC)) (λ_ _ _ _ _ _=>(CB 0 (by decide +kernel:(["place", "·1", "·2", "·3", "·4", "·5"]:List Str).Nodup))) (λ_ _ _ _ _ _=>Gp) (λ_ _ _ _ _ _=>(Cf (F7 BC))))
  (AW (E8 (Bi O).own rfl (DC (AB (pv 1))) (Ji rfl (Co (CB 3 nd) (Co (CB 4 nd) HU)))
  (AW (DG (Dk (Bz g (AB (pv 2)) (AB (pv 3))) (AB (pv 4))))
  (Ay (DG (Dk (Bz g (AB (pv 2)) (AB (pv 4))) (AB (pv 3)))))))
  (Ay (Cr (Cf (D4 (own:=["some"]) (N':=["some", "·1", "·2", "·3", "·4", "·5"]) rfl (DQ (by kernel_rfl)) (DC (AB (pv 2))) (λ_ _ _ _ _ _=>(CB 0 (by decide +kernel:(["some", "·1", "·2", "·3", "·4", "·5"]:List Str).Nodup))) (λ_ _ _ _ _ _=>Gp) (λ_ _ _ _ _ _=>(Eh rfl rfl T.b_sorted (AB (pv 0))))))))))
theorem SA:CL ["cell", "many", "order", "k"] ["cell", "many"] (BV KW):=IL
theorem SH(T:Txt K mg W):EO P w K mg base (CXG P w) 2 T.d__law_order.f T.d__law_order.fd ["cell", "many"] (spM K 2 (Kt W)):=by
 refine Cw (k:=1) T.d__law_order.F SA rfl λ_ _ _ _ _ _ g O j nd l o=>?_
 exact(AW (Br 2 nd (Cf (F7 BC)))
  (AW (E8 (Bi O).own rfl (GN rfl T.b_range (AR (AB (pv 1)) BC)) (CB 3 nd)
  (Ay (DG (pJ (AB (pv 2)) (BZ F6 (BZ MX (CI (Mu T) (Bi O).pass (g.mono (by decide)) rfl T.d__law_mixed.m T.d__law_mixed.kp T.d__law_mixed.b (AR (AB (pv 0)) (AR (BZ Dq ge_int (AB (pv 3))) BC))) ge_int) (BZ Dq (AB (pv 3)) ge_int)) (AB (pv 3))))))
  (Ay (Cr (AB (pv 2))))))
theorem Ql:CL ["cell", "salt", "places", "inner", "ties", "k", "j"] ["cell", "salt", "places", "inner", "ties"] (BV Jd):=IL
theorem Qu(T:Txt K mg W):EO P w K mg base (CXG P w) 2 T.d__law_colony.f T.d__law_colony.fd ["cell", "salt", "places", "inner", "ties"] (spM K 5 (HW W)):=by
 refine Cw (k:=1) T.d__law_colony.F Ql rfl λ_ _ _ _ _ _ j O g nd l o=>?_
 exact(Ay (E8 (Bi O).own rfl (aj rfl T.b_range (AR ge_int (AR (HC rfl T.b_len (AB (pv 2))) BC))) (CB 5 nd)
  (Ay (En (DW (Yy g) (AB (pv 3)) ge_int (Dr _)) (Ay (DG (am (AB (pv 4)) (Cf (D4 (own:=["j"]) (N':=["j", "·1", "·2", "places", "·4", "·5", "k", "·7"]) rfl (DQ (by kernel_rfl)) (GN rfl T.b_range (AR (AB (pv 5)) BC)) (λ_ _ _ _ _ _=>(CB 0 (by decide +kernel:(["j", "·1", "·2", "places", "·4", "·5", "k", "·7"]:List Str).Nodup))) (λ_ _ _ _ _ _=>Gp) (λ_ _ _ _ _ _=>(Il (AR (Bz g (AB (pv 3)) (AB (pv 0))) (AR (Bz g (AB (pv 3)) (AB (pv 6))) BC))))))))) (AW (Br 6 nd (BZ F6 (BZ MX (CI (Mu T) (Bi O).pass (j.mono (by decide)) rfl T.d__law_mixed.m T.d__law_mixed.kp T.d__law_mixed.b (AR (AB (pv 0)) (AR (BZ Dq (AB (pv 1)) (BZ Qw ge_int (AB (pv 5)))) BC))) ge_int) (UW rfl rfl T.b_min (AR (AB (pv 5)) (AR (AB (pv 3)) BC)))))
  (Ay (DG (Dk (AB (pv 4)) (Il (AR (Bz g (AB (pv 2)) (AB (pv 6))) (AR (Bz g (AB (pv 2)) (AB (pv 5))) BC)))))))))))
theorem Qk:CL ["script", "many", "kinds", "k", "cell", "size", "order", "ties", "colonies", "at", "places", "inner"] ["script"] (BV Jc):=IL
theorem Qt(T:Txt K mg W):EO P w K mg base (CXG P w) 3 T.d__law_ground.f T.d__law_ground.fd ["script"] (spM K 1 (Jk W)):=by
 refine Cw (k:=2) T.d__law_ground.F Qk rfl λ_ _ _ _ _ _ g O j nd l o=>?_
 exact(AW (Br 1 nd ge_int)
  (AW (Br 2 nd (Cf (F7 BC)))
  (AW (E8 (Bi O).own rfl (GN rfl T.b_range (AR (BZ Dq ge_int (BZ F6 (CI (IK T) (Bi O).pass (g.mono (by decide)) rfl T.d__law_cell.m T.d__law_cell.kp T.d__law_cell.b (AR (AB (pv 0)) (AR ge_int BC))) ge_int)) BC)) (CB 3 nd)
  (AW (Br 4 nd (CI (IK T) (Bi O).pass (g.mono (by decide)) rfl T.d__law_cell.m T.d__law_cell.kp T.d__law_cell.b (AR (AB (pv 0)) (AR (BZ Dq ge_int (AB (pv 3))) BC))))
  (AW (Br 5 nd (BZ Dq ge_int (BZ F6 (AB (pv 4)) ge_int)))
  (AW (DG (Dk (AB (pv 2)) (Il (AR (AB (pv 5)) (AR (BZ F6 (BZ MX (AB (pv 4)) ge_int) (AB (pv 5))) BC)))))
  (Ay (Br 1 nd (BZ Dq (AB (pv 1)) (AB (pv 5)))))))))
  (AW (Br 6 nd (CI (SH T) (Bi O).pass (g.mono (by decide)) rfl T.d__law_order.m T.d__law_order.kp T.d__law_order.b (AR (CI (IK T) (Bi O).pass (g.mono (by decide)) rfl T.d__law_cell.m T.d__law_cell.kp T.d__law_cell.b (AR (AB (pv 0)) (AR ge_int BC))) (AR (AB (pv 1)) BC))))
  (AW (Br 7 nd (Cf (F7 BC)))
  (AW (Br 8 nd (Cf (F7 BC)))
  (AW (Br 9 nd ge_int)
  (AW (E8 (Bi O).own rfl (GN rfl T.b_range (AR (HC rfl T.b_len (AB (pv 2))) BC)) (CB 3 nd)
  (AW (Br 10 nd (OC (AB (pv 6)) (OA (AB (pv 9))) (OA (BZ Dq (AB (pv 9)) (Bz j (Bz j (AB (pv 2)) (AB (pv 3))) ge_int)))))
  (AW (Br 11 nd (Bz j (Bz j (AB (pv 2)) (AB (pv 3))) ge_int))
  (AW (DG (CI (Qu T) (Bi O).pass (g.mono (by decide)) rfl T.d__law_colony.m T.d__law_colony.kp T.d__law_colony.b (AR (CI (IK T) (Bi O).pass (g.mono (by decide)) rfl T.d__law_cell.m T.d__law_cell.kp T.d__law_cell.b (AR (AB (pv 0)) (AR (BZ Dq ge_int (AB (pv 3))) BC))) (AR (BZ Dq ge_int (AB (pv 3))) (AR (AB (pv 10)) (AR (AB (pv 11)) (AR (AB (pv 7)) BC)))))))
  (AW (DG (Dk (AB (pv 8)) (Il (AR (Fp rfl T.b_tuple (Eh rfl rfl T.b_sorted (AB (pv 10)))) (AR (Fp rfl T.b_tuple (Eh rfl rfl T.b_sorted (OC (AB (pv 10)) US (OA (AB (pv 11)))))) BC)))))
  (Ay (Br 9 nd (BZ Dq (AB (pv 9)) (Bz j (Bz j (AB (pv 2)) (AB (pv 3))) ge_int)))))))))
  (Ay (Cr (Il (AR (AB (pv 1)) (AR (Eh rfl rfl T.b_sorted (Cf (D4 (own:=["tie"]) (N':=["tie", "·1", "·2", "·3", "·4", "·5", "·6", "·7", "·8", "·9", "·10", "·11", "·12"]) rfl (DQ (by kernel_rfl)) (DC (AB (pv 7))) (λ_ _ _ _ _ _=>(CB 0 (by decide +kernel:(["tie", "·1", "·2", "·3", "·4", "·5", "·6", "·7", "·8", "·9", "·10", "·11", "·12"]:List Str).Nodup))) (λ_ _ _ _ _ _=>Gp) (λ_ _ _ _ _ _=>(Il (AR (UX rfl rfl T.b_min (AB (pv 0))) (AR (j9 rfl rfl T.b_max (AB (pv 0))) BC))))))) (AR (AB (pv 8)) BC))))))))))))))
theorem T0:CL ["ties", "many", "cells", "found", "cell", "one", "other", "tie"] ["ties", "many", "cells"] (BV Ll):=IL
theorem UC(T:Txt K mg W):EO P w K mg base (CXG P w) 1 T.d__law_more.f T.d__law_more.fd ["ties", "many", "cells"] (spM K 3 (Lx W)):=by
 refine Cw (k:=0) T.d__law_more.F T0 rfl λ_ _ _ _ _ _ j O g nd l m=>?_
 exact(AW (Br 3 nd (UY rfl T.b_list (AB (pv 0))))
  (AW (E8 (Bi O).own rfl (DC (AB (pv 2))) (CB 4 nd)
  (AW (Br 5 nd (BZ F6 (AB (pv 4)) (AB (pv 1))))
  (AW (Br 6 nd (BZ F6 (BZ MX (AB (pv 4)) (AB (pv 1))) (AB (pv 1))))
  (AW (Br 7 nd (Il (AR (UW rfl rfl T.b_min (AR (AB (pv 5)) (AR (AB (pv 6)) BC))) (AR (ZD rfl rfl T.b_max (AR (AB (pv 5)) (AR (AB (pv 6)) BC))) BC))))
  (Ay (En (Ox (Ow (DW (PN g) (AB (pv 5)) (AB (pv 6)) (Dr _)) (Ma (E7 g (AB (pv 7)) (AB (pv 3)))))) (Ay (DG (Dk (AB (pv 3)) (AB (pv 7))))) DP))))))
  (Ay (Cr (Eh rfl rfl T.b_sorted (AB (pv 3)))))))
theorem Tx:CL ["web", "colonies", "standing", "call", "caught", "found", "e"] ["web", "colonies", "standing", "call"] (BV Lj):=IL
theorem UB(T:Txt K mg W):EO P w K mg base (CXG P w) 7 T.d__law_told.f T.d__law_told.fd ["web", "colonies", "standing", "call"] (spM K 4 (Hf W)):=by
 refine Cw (k:=6) T.d__law_told.F Tx rfl λ_ _ _ _ _ _ g O o nd s j=>?_
 exact(AW (Br 4 nd UV)
  (AW (Br 5 nd UV)
  (AW (pC (i:=6) O nd rfl rfl rfl T.xm_GuardError T.caught_GuardError (λl j=>(Ay (Br 5 nd (CI (Oo T) (Bi O).pass (g.mono (by decide)) rfl T.d_colony_answer.m T.d_colony_answer.kp T.d_colony_answer.b (AR (AB (pv 0)) (AR (AB (pv 1)) (AR (AB (pv 2)) (AR (AB (pv 3)) BC)))))))) (λl A=>(Ay (Br 4 nd (AB (pv 6))))))
  (AW (En (DW oQ (AB (pv 4)) UV (Dr _)) (Ay (Cr (AB (pv 5)))) DP)
  (Ay (Cr (L2.pK (WF (c:=.ref W.NoCall) (cv:=.ref W.NoCall) (λ_ r=>r) (ox (ju T.i_NoCall.1 T.i_NoCall.2)) T.is_NoCall rfl T.b_isinstance (AB (pv 4)) (Yu rfl T.x_NoCall.m rfl)) (pI (WF (c:=.ty "ValueError") (cv:=.type "ValueError") (λ_ r=>r) ou T.is_ValueError rfl T.b_isinstance (AB (pv 4)) (P4 rfl T.b_ValueError PyProof.Rows.Boot.«ValueError» rfl))))))))))
theorem T1:CL ["nears", "colonies", "standing", "call", "found", "home", "k", "old", "some", "inner", "mine"] ["nears", "colonies", "standing", "call", "found"] (BV Lm):=IL
theorem UD(T:Txt K mg W):EO P w K mg base (CXG P w) 1 T.d__law_good.f T.d__law_good.fd ["nears", "colonies", "standing", "call", "found"] (spM K 5 (Ly W)):=by
 refine Cw (k:=0) T.d__law_good.F T1 rfl λ_ _ _ _ _ _ j O g nd l m=>?_
 exact(AW (En (Ox (N7 (Oy (Xy (WF (tabC:=λ_=>none) (c:=.ty "tuple") (cv:=.type "tuple") (λ_ r=>r) aZ (λ_ _ z=>nomatch z) rfl T.b_isinstance (AB (pv 4)) (P4 rfl T.b_tuple Ph rfl)))) (N7 (DW (PN g) (HC rfl T.b_len (AB (pv 4))) (HC rfl T.b_len (AB (pv 2))) (Dr _)) (NF (DW (PN g) (ak rfl rfl T.b_len rfl T.b_set (AB (pv 4))) (HC rfl T.b_len (AB (pv 4))) (Dr _)))))) (Ay (Cr LF)) DP)
  (AW (Br 5 nd (Bz g (Cf (D4 (own:=["some", "inner"]) (N':=["some", "inner", "·2", "·3", "·4", "call", "·6", "·7", "·8", "·9", "·10", "·11", "·12"]) rfl (DQ (by kernel_rfl)) (DC (AB (pv 1))) (λ_ _ _ _ _ _=>(Ji rfl (Co (CB 0 (by decide +kernel:(["some", "inner", "·2", "·3", "·4", "call", "·6", "·7", "·8", "·9", "·10", "·11", "·12"]:List Str).Nodup)) (Co (CB 1 (by decide +kernel:(["some", "inner", "·2", "·3", "·4", "call", "·6", "·7", "·8", "·9", "·10", "·11", "·12"]:List Str).Nodup)) HU)))) (λ_ _ _ _ _ _=>(E9 (LD g (AB (pv 5)) (AB (pv 0))))) (λ_ _ _ _ _ _=>(AB (pv 0))))) ge_int))
  (AW (E8 (Bi O).own rfl (GN rfl T.b_range (AR (HC rfl T.b_len (AB (pv 4))) BC)) (CB 6 nd)
  (AW (En (Ox (N7 (Oy (Xy (WF (tabC:=λ_=>none) (c:=.ty "int") (cv:=.type "int") (λ_ r=>r) jx (λ_ _ z=>nomatch z) rfl T.b_isinstance (Bz g (AB (pv 4)) (AB (pv 6))) (P4 rfl T.b_int tG rfl)))) (NF (Xy (WF (tabC:=λ_=>none) (c:=.ty "bool") (cv:=.type "bool") (λ_ r=>r) fG (λ_ _ z=>nomatch z) rfl T.b_isinstance (Bz g (AB (pv 4)) (AB (pv 6))) (P4 rfl T.b_bool tI rfl)))))) (Ay (Cr LF)) DP)
  (AW (Br 7 nd (Bz g (AB (pv 2)) (AB (pv 6))))
  (Ay (En (Ox (Ow (DW (PN g) (Bz g (AB (pv 4)) (AB (pv 6))) (AB (pv 7)) (Dr _)) (Ma (Ox (N7 (E7 g (Bz g (AB (pv 4)) (AB (pv 6))) (Bz g (AB (pv 0)) (AB (pv 7)))) (NF (E7 g (AB (pv 7)) (AB (pv 5))))))))) (Ay (Cr LF)) DP)))))
  (AW (En (E7 g (AB (pv 3)) (AB (pv 4))) (Ay (Cr LF)) DP)
  (AW (E8 (Bi O).own rfl (DC (AB (pv 1))) (Ji rfl (Co (CB 8 nd) (Co (CB 9 nd) HU)))
  (AW (Br 10 nd (Cf (D4 (own:=["place"]) (N':=["place", "·1", "·2", "·3", "·4", "·5", "·6", "·7", "·8", "some", "·10", "·11"]) rfl (DQ (by kernel_rfl)) (DC (AB (pv 4))) (λ_ _ _ _ _ _=>(CB 0 (by decide +kernel:(["place", "·1", "·2", "·3", "·4", "·5", "·6", "·7", "·8", "some", "·10", "·11"]:List Str).Nodup))) (λ_ _ _ _ _ _=>(E9 (LD g (AB (pv 0)) (AB (pv 9))))) (λ_ _ _ _ _ _=>(AB (pv 0))))))
  (Ay (En (Ox (N7 (DW (PN g) (HC rfl T.b_len (AB (pv 10))) (BZ Dq (HC rfl T.b_len (AB (pv 9))) ge_int) (Dr _)) (NF (DW lC (HC rfl T.b_len (Cf (D4 (own:=["place"]) (N':=["place", "·1", "·2", "·3", "·4", "·5", "·6", "·7", "·8", "·9", "·10", "mine"]) rfl (DQ (by kernel_rfl)) (DC (AB (pv 9))) (λ_ _ _ _ _ _=>(CB 0 (by decide +kernel:(["place", "·1", "·2", "·3", "·4", "·5", "·6", "·7", "·8", "·9", "·10", "mine"]:List Str).Nodup))) (λ_ _ _ _ _ _=>(E9 (E7 g (AB (pv 0)) (AB (pv 11))))) (λ_ _ _ _ _ _=>(AB (pv 0)))))) ge_int (Dr _))))) (Ay (Cr LF)) DP))))
  (Ay (Cr LF)))))))
theorem Vj:CL ["nears", "ground", "more", "call", "far", "line", "at", "other", "way"] ["nears", "ground", "more", "call"] (BV M8):=IL
theorem Vx(T:Txt K mg W):EO P w K mg base (CXG P w) 1 T.d__law_way.f T.d__law_way.fd ["nears", "ground", "more", "call"] (spM K 4 (NG W)):=by
 refine Cw (k:=0) T.d__law_way.F Vj rfl λ_ _ _ _ _ _ j O g nd l m=>?_
 exact(AW (Br 4 nd (WI (AB (pv 3)) ge_int))
  (AW (Br 5 nd (Cf (F7 (AR (AB (pv 3)) BC))))
  (AW (Br 6 nd ge_int)
  (AW (N8 wN (Bi O).own (DW Qx (AB (pv 6)) (HC rfl T.b_len (AB (pv 5))) (Dr _)) (AW (E8 (Bi O).own rfl (DC (Bz g (AB (pv 0)) (Bz g (AB (pv 5)) (AB (pv 6))))) (CB 7 nd)
  (Ay (En (Ox (Ow (LD g (AB (pv 7)) (AB (pv 1))) (Ma (E7 g (AB (pv 7)) (AB (pv 4)))))) (AW (N9 (A5 (DA (by decide:1<=64) _) g) (AB (pv 4)) (AB (pv 7)) (BZ Dq (Bz g (AB (pv 4)) (Bz g (AB (pv 5)) (AB (pv 6)))) ge_int) rfl)
  (Ay (DG (Dk (AB (pv 5)) (AB (pv 7)))))) DP)))
  (Ay (Br 6 nd (BZ Dq (AB (pv 6)) ge_int)))))
  (AW (Br 8 nd (Cf (F7 (AR (AB (pv 2)) BC))))
  (AW (N8 wN (Bi O).own (DW (PN g) (Bz g (AB (pv 8)) (Oz ge_int)) (AB (pv 3)) (Dr _)) (Ay (DG (Dk (AB (pv 8)) (Bz g (Cf (D4 (own:=["other"]) (N':=["other", "·1", "·2", "·3", "·4", "far", "·6", "·7", "·8", "way"]) rfl (DQ (by kernel_rfl)) (DC (Bz g (AB (pv 0)) (Bz g (AB (pv 8)) (Oz ge_int)))) (λ_ _ _ _ _ _=>(CB 0 (by decide +kernel:(["other", "·1", "·2", "·3", "·4", "far", "·6", "·7", "·8", "way"]:List Str).Nodup))) (λ_ _ _ _ _ _=>(E9 (DW (Yy g) (UZ (A5 (DA (by decide:1<=64) _) g) (AB (pv 5)) (AB (pv 0)) ge_int) (BZ UE (Bz g (AB (pv 5)) (Bz g (AB (pv 9)) (Oz ge_int))) ge_int) (Dr _)))) (λ_ _ _ _ _ _=>(AB (pv 0))))) ge_int)))))
  (Ay (Cr (AB (pv 8))))))))))
theorem Vk:CL ["nears", "colonies", "standing", "call", "some", "inner", "more", "way", "goes", "k"] ["nears", "colonies", "standing", "call"] (BV M9):=IL
theorem Vy(T:Txt K mg W):EO P w K mg base (CXG P w) 2 T.d__law_due.f T.d__law_due.fd ["nears", "colonies", "standing", "call"] (spM K 4 (NH W)):=by
 refine Cw (k:=1) T.d__law_due.F Vk rfl λ_ _ _ _ _ _ j O g nd l o=>?_
 exact(AW (fS (Bz g (Cf (D4 (own:=["pair"]) (N':=["pair", "·1", "·2", "·3", "call", "·5", "·6", "·7", "·8", "·9", "·10"]) rfl (DQ (by kernel_rfl)) (DC (AB (pv 1))) (λ_ _ _ _ _ _=>(CB 0 (by decide +kernel:(["pair", "·1", "·2", "·3", "call", "·5", "·6", "·7", "·8", "·9", "·10"]:List Str).Nodup))) (λ_ _ _ _ _ _=>(E9 (LD g (AB (pv 4)) (Bz g (AB (pv 0)) ge_int)))) (λ_ _ _ _ _ _=>(AB (pv 0))))) ge_int) (Ji rfl (Co (CB 4 nd) (Co (CB 5 nd) HU))))
  (AW (Br 6 nd (Bz g (Cf (D4 (own:=["place"]) (N':=["place", "·1", "·2", "standing", "·4", "·5", "inner", "·7", "·8", "·9", "·10"]) rfl (DQ (by kernel_rfl)) (DC (AB (pv 4))) (λ_ _ _ _ _ _=>(CB 0 (by decide +kernel:(["place", "·1", "·2", "standing", "·4", "·5", "inner", "·7", "·8", "·9", "·10"]:List Str).Nodup))) (λ_ _ _ _ _ _=>(E9 (Ox (Ow (LD g (AB (pv 0)) (AB (pv 3))) (Ma (E7 g (AB (pv 0)) (AB (pv 6)))))))) (λ_ _ _ _ _ _=>(AB (pv 0))))) ge_int))
  (AW (Br 7 nd (Cf (F7 (AR (AB (pv 6)) (AR (AB (pv 3)) BC)))))
  (AW (En (DW lC (HC rfl T.b_len (AB (pv 5))) ge_int (Dr _)) (Ay (Br 7 nd (CI (Vx T) (Bi O).pass (j.mono (by decide)) rfl T.d__law_way.m T.d__law_way.kp T.d__law_way.b (AR (AB (pv 0)) (AR (BZ Dq (AB (pv 5)) (Il (AR (AB (pv 6)) (AR (AB (pv 3)) BC)))) (AR (AB (pv 6)) (AR (AB (pv 3)) BC))))))) DP)
  (AW (Br 8 nd WH)
  (AW (E8 (Bi O).own rfl (GN rfl T.b_range (AR (BZ UE (HC rfl T.b_len (AB (pv 7))) ge_int) BC)) (CB 9 nd)
  (Ay (N9 (A5 (DA (by decide:1<=64) _) g) (AB (pv 8)) (Bz g (AB (pv 7)) (AB (pv 9))) (Bz g (AB (pv 7)) (BZ Dq (AB (pv 9)) ge_int)) rfl)))
  (Ay (Cr (Fp rfl T.b_tuple (Cf (D4 (own:=["place"]) (N':=["place", "·1", "·2", "·3", "·4", "·5", "·6", "·7", "·8", "goes", "·10"]) rfl (DQ (by kernel_rfl)) (DC (AB (pv 2))) (λ_ _ _ _ _ _=>(CB 0 (by decide +kernel:(["place", "·1", "·2", "·3", "·4", "·5", "·6", "·7", "·8", "goes", "·10"]:List Str).Nodup))) (λ_ _ _ _ _ _=>Gp) (λ_ _ _ _ _ _=>(UZ (A5 (DA (by decide:1<=64) _) g) (AB (pv 9)) (AB (pv 0)) (AB (pv 0)))))))))))))))
theorem nN:CL ["script", "many", "ties", "colonies", "nears", "web", "standing", "cell", "call", "found"] ["script"] (BV Yo):=IL
theorem oP(T:Txt K mg W):EO P w K mg base (CXG P w) 8 T.d_law.f T.d_law.fd ["script"] (spM K 1 (ZN W)):=by
 refine Cw (k:=7) T.d_law.F nN rfl λ_ _ _ _ _ _ g O j nd l o=>?_
 exact(AW (fS (CI (Qt T) (Bi O).pass (g.mono (by decide)) rfl T.d__law_ground.m T.d__law_ground.kp T.d__law_ground.b (AR (AB (pv 0)) BC)) (Ji rfl (Co (CB 1 nd) (Co (CB 2 nd) (Co (CB 3 nd) HU)))))
  (AW (Br 2 nd (CI (UC T) (Bi O).pass (g.mono (by decide)) rfl T.d__law_more.m T.d__law_more.kp T.d__law_more.b (AR (AB (pv 2)) (AR (AB (pv 1)) (AR (OC (AB (pv 0)) (OA ge_int) US) BC)))))
  (AW (Br 4 nd (CI (SI T) (Bi O).pass (g.mono (by decide)) rfl T.d__law_nears.m T.d__law_nears.kp T.d__law_nears.b (AR (AB (pv 1)) (AR (AB (pv 2)) BC))))
  (AW (Br 5 nd (ZE T.c_Web.mk' (PM T) (Bi O).pass (g.mono (by decide)) rfl T.c_Web.m T.d_Web_init.b (AR (AB (pv 1)) (AR (AB (pv 2)) BC))))
  (AW (Br 6 nd (CI (Nr T) (Bi O).pass (g.mono (by decide)) rfl T.d_first_standing.m T.d_first_standing.kp T.d_first_standing.b (AR (AB (pv 5)) (AR (AB (pv 3)) BC))))
  (AW (E8 (Bi O).own rfl (DC (BZ Dq (Cf (F7 (AR ge_int BC))) (UY rfl T.b_list (AB (pv 0))))) (CB 7 nd)
  (AW (Br 8 nd (BZ UE (BZ F6 (AB (pv 7)) (BZ Dq (AB (pv 1)) ge_int)) ge_int))
  (AW (En (DW (Yy j) (BZ F6 (BZ MX (AB (pv 7)) ge_int) ge_int) ge_int (Dr _)) (Ay (Br 8 nd (Bz j (Cf (F7 (AR (BZ Dq (BZ Xi ge_int ge_int) (AB (pv 8))) (AR (BZ UE (Oz (BZ Xi ge_int ge_int)) (AB (pv 8))) BC)))) (BZ F6 (BZ MX (AB (pv 7)) ge_int) ge_int)))) DP)
  (AW (Br 9 nd (CI (UB T) (Bi O).pass (g.mono (by decide)) rfl T.d__law_told.m T.d__law_told.kp T.d__law_told.b (AR (AB (pv 5)) (AR (UY rfl T.b_list (AB (pv 3))) (AR (AB (pv 6)) (AR (AB (pv 8)) BC))))))
  (Ay (En (Ox (N7 (DW Qx (AB (pv 8)) ge_int (Dr _)) (N7 (DW lD (AB (pv 8)) (AB (pv 1)) (Dr _)) (NF (LD j (AB (pv 8)) (AB (pv 6))))))) (Ay (En (DW jg (AB (pv 9)) LF (Dr _)) (Ay (Cr LF)) DP)) (Ay (En (Oy (WE (CI (UD T) (Bi O).pass (g.mono (by decide)) rfl T.d__law_good.m T.d__law_good.kp T.d__law_good.b (AR (AB (pv 4)) (AR (AB (pv 3)) (AR (AB (pv 6)) (AR (AB (pv 8)) (AR (AB (pv 9)) BC)))))))) (Ay (Cr LF)) (Ay (En (DW (PN j) (AB (pv 9)) (CI (Vy T) (Bi O).pass (g.mono (by decide)) rfl T.d__law_due.m T.d__law_due.kp T.d__law_due.b (AR (AB (pv 4)) (AR (AB (pv 3)) (AR (AB (pv 6)) (AR (AB (pv 8)) BC))))) (Dr _)) (Ay (Cr LF)) (Ay (Br 6 nd (Fp rfl T.b_tuple (Eh rfl rfl T.b_sorted (AB (pv 9))))))))))))))))
  (Ay (Cr LF))))))))
end
open L2
open Srt (ltL)
def pairD(x:Int×Int):D:=.tup [.int x.1,.int x.2]
noncomputable def nrm(x:Int×Int):Int×Int:=(if x.2 < x.1 then x.2 else x.1,if x.2 > x.1 then x.2 else x.1)
def aA(x:Int×Int):ZLi:=[x.1,x.2]
def N3(x:Int×Int):List Key:=[.inl x.1,.inl x.2]
theorem WB{x y:Int×Int}(h:N3 x=N3 y):x=y:=by
 unfold N3 at h;simp at h;exact K7 h.1 h.2
theorem Kq:∀ns:ZLi,Gn (ns.map D.int)=some ns
 | []=>rfl
 | n :: ns=>by
  rw[BB];unfold Gn;rw[Kq ns];rfl
theorem Qn:∀g:List ZLi,(∀r∈g,r≠[])->Mt (g.map Mh)=some g
 | [],_=>rfl
 | [] :: g,h=>zX rfl (h [] Ao)
 | (n :: l) :: g,h=>by
  rw[BB];unfold Mh Mt;rw[Kq,show JC (λr:ZLi=>D.tup (r.map D.int)) g=g.map Mh from rfl,Qn g λr j=>h r (AT _ j)]
theorem Xb(g:List ZLi)(h:∀r∈g,r≠[]):LB (g.map Mh)=some ((Li g).map Mh):=by
 unfold LB
 cases g with
 | nil=>simp[Gn,Li]
 | cons r g=>
  have:Gn ((r :: g).map Mh)=none:=rfl;rw[this,Qn _ h]
theorem Qg(ns:ZLi):LB (ns.map D.int)=some ((CO ns).map D.int):=by
 unfold LB;rw[Kq]
def Lr(ps:List ZPi):List (List Key×D):=ps.map λx=>(N3 (nrm x),.bl true)
theorem eG(ps:List ZPi)(x:Int×Int):(C3 (Lr ps) (N3 (nrm x))).isSome=decide (nrm x∈ps.map nrm):=by
 unfold C3 Lr
 induction ps with
 | nil=>rfl
 | cons y ps g=>
  rw[BB,Bo]
  by_cases e:N3 (nrm y)=N3 (nrm x)
  ·rw[wX e]
   simp[WB e]
  ·rw[wY e]
   have j:nrm x≠nrm y:=λz=>e (by rw[z])
   simp only[BB,Aq,j,false_or];exact g
theorem eE(ps:List ZPi)(x:Int×Int)(h:nrm x∉ps.map nrm):FX (Lr ps) (N3 (nrm x)) (.bl true)=Lr (ps++[x]):=by
 unfold FX;rw[qY]
 ·simp[Lr]
 ·intro z
  obtain⟨y,g,e⟩:=Hj.mp z;obtain⟨a,j,rfl⟩:=Ap.mp g;exact h (by rw[<-WB (of_decide_eq_true e)];exact List.mem_map_of_mem j)
theorem sJ{S:Sto}{n:Nat}{g:List (List Key×D)}{x:Int×Int}(h:S[n]?=some (.dT g))(neg:Bool):inA neg (pairD x) (.ref n) S=.ok (.bl (if neg then !(C3 g (N3 x)).isSome else(C3 g (N3 x)).isSome)) S:=by
 show F4 (inD neg (pairD x) (.ref n) S) (LN neg (pairD x) (.ref n) S)=_
 have e:inD neg (pairD x) (.ref n) S=.bad:=by
  unfold inD GZ;dsimp only;rw[h]
 have j:Ml (.ref n) (pairD x) S=some (C3 g (N3 x)):=by
  unfold Ml pairD;dsimp only;rw[h];rfl
 rw[e];show LN neg (pairD x) (.ref n) S=_;unfold LN;rw[j]
theorem fx{mo mi mv:ME}{e:Lo}{S:Sto}{d:Nat}{g:List (List Key×D)}{x:Int×Int}{v:D}(j:mv e S=.ok v S)(ho:mo e S=.ok (.ref d) S)(hi:mi e S=.ok (pairD x) S)(h:S[d]?=some (.dT g))(l:g.length < sizeLine) :
  E4 mo mi mv e S=.ok (.nx e) (S.set d (.dT (FX g (N3 x) v))):=by
 unfold E4;rw[j];dsimp only[Res.lift];rw[ho];dsimp only[Res.lift];rw[hi];dsimp only[Res.lift]
 have:WP (.ref d) (pairD x) v S=some (S.set d (.dT (FX g (N3 x) v))):=by
  unfold WP pairD;dsimp only;rw[h];show(if g.length < sizeLine then some (S.set d (.dT (FX g (N3 x) v)))else none)=_;rw[qX l]
 rw[this]
theorem ix0(x:Int×Int)(S:Sto):ixA (pairD x) (.int 0) S=.ok (.int x.1) S:=rfl
theorem ix1(x:Int×Int)(S:Sto):ixA (pairD x) (.int 1) S=.ok (.int x.2) S:=rfl
def Fit(p:Int)(x:Int×Int):Prop:=(nrm x).1≠(nrm x).2/\0<=(nrm x).1/\(nrm x).2 < p
abbrev pV(W:Wd):MS:=BU (Bu 5 (KC (AU (mQ Nx (AU (AE 3) (AU (AE 4) BY))) (AU (mQ PR (AU (AE 3) (AU (AE 4) BY))) BY))))
  (BU (sIf (mB (m2 (eqD false) (m2 ixA (AE 5) (mC (.int 0))) (m2 ixA (AE 5) (mC (.int 1))))) T5 sNx)
  (BU (sIf (mOr (mB (m2 ltD (m2 ixA (AE 5) (mC (.int 0))) (mC (.int 0)))) (mB (m2 geD (m2 ixA (AE 5) (mC (.int 1))) (AE 0)))) T5 sNx)
  (BU (sIf (mB (m2 (inA false) (AE 5) (AE 2))) T5 sNx)
  (E4 (AE 2) (AE 5) (mC (.bl true))))))
theorem P5{t:MT}{a:MS}{e:Lo}{S:Sto}(h:t e S=.ok false S):sIf t a sNx e S=.ok (.nx e) S:=(PY (a:=a) (b:=sNx) h).trans rfl
theorem cQ{W:Wd}{p:Int}{t:D}{n:Nat}{S:Sto}{x:Int×Int}{z5:Option D}{ps:List ZPi}(g:S[n]?=some (.dT (Lr ps)))(l:ps.length<=100000)(m:Fit p x)(j:nrm x∉ps.map nrm) :
  pV W [sI p,some t,sR n,sI x.1,sI x.2,z5] S=oN [sI p,some t,sR n,sI x.1,sI x.2,some (pairD (nrm x))] (S.set n (.dT (Lr (ps++[x])))):=by
 have o:Bu 5 (KC (AU (mQ Nx (AU (AE 3) (AU (AE 4) BY))) (AU (mQ PR (AU (AE 3) (AU (AE 4) BY))) BY))) [sI p,some t,sR n,sI x.1,sI x.2,z5] S =
   oN [sI p,some t,sR n,sI x.1,sI x.2,some (pairD (nrm x))] S:=
  Ic (i:=5) (XV (ds:=[.int (nrm x).1,.int (nrm x).2]) (B8 (dH (ds:=[.int x.1,.int x.2]) (S1:=S) rfl rfl) (B8 (dH (ds:=[.int x.1,.int x.2]) (S1:=S) rfl rfl) rfl)) (by simp))
 obtain⟨s,A,B⟩:=m;refine(B5 o).trans ((B5 (P5 (Rc (Dh (Dh rfl rfl (ix0 _ _)) (Dh rfl rfl (ix1 _ _)) (pQ (wY s)))))).trans ((B5 (P5 ((dk (Rc (Dh (Dh rfl rfl (ix0 _ _)) rfl (Xr (wY (by omega)))))).trans (Rc (Dh (Dh rfl rfl (ix1 _ _)) rfl (pM (wY (by omega)))))))).trans ((B5 (P5 (Rc (Dh rfl rfl ?_)))).trans ?_)))
 ·rw[sJ g,eG,wY j]
  rfl
 ·rw[fx (x:=nrm x) rfl rfl rfl g (by unfold Lr;rw[AF];exact A5 l (by decide)),eE _ _ j]
theorem ae{m:ME}{e:Lo}{S S1:Sto}{d:D}{xs:List D}(h:m e S=.ok d S1)(g:Ha d S1=some xs):Dy m e S=.ok (Ha d) S1:=by
 unfold Dy;rw[h];dsimp only[Res.bind];rw[g]
def HF(p:Int)(ps:List ZPi):Prop:=(∀x∈ps,Fit p x)/\(ps.map nrm).Nodup
theorem HF.snoc{p:Int}{ps:List ZPi}{x:Int×Int}:HF p (ps++[x])↔HF p ps/\Fit p x/\nrm x∉ps.map nrm:=by
 unfold HF;rw[BG,BP]
 constructor
 ·rintro⟨j,l,o,m⟩
  exact⟨⟨λy g=>j y (by simp[g]),l⟩,j x (by simp),λz=>m _ z _ (by simp) rfl⟩
 ·rintro⟨⟨j,l⟩,o,m⟩
  refine⟨λy g=>?_,l,by simp,λa s b hb e=>?_⟩
  ·rcases Au.mp g with g | g
   ·exact j y g
   ·rw[AS.mp g];exact o
  ·simp at hb
   subst hb;subst e;exact m s
theorem HF.take{p:Int}{ps:List ZPi}(h:HF p ps)(i:Nat):HF p (ps.take i):=by
 refine⟨λx g=>h.1 x (List.mem_of_mem_take g),?_⟩;rw[lq];exact h.2.sublist (Gy _ _)
theorem take_snoc{g:Type}{l:List g}{i:Nat}{x:g}(h:l[i]?=some x):l.take (i+1)=l.take i++[x]:=by
 rw[Ey,h];rfl
theorem Ug(W:Wd){p:Int}{d:D}{S:Sto}{ps:List ZPi}(A:∀j,Keeps S j->Ha d j=some (ps.map pairD))(H:ps.length<=100000)(C:HF p ps) :
  ∃l z4 z5,Hb (Dy (AE 1)) (FR 2 (Bw (tgN 3) (Bw (tgN 4) Fj))) (pV W) [sI p,some d,sR S.length,none,none,none] (S++[.dT []])=oN [sI p,some d,sR S.length,l,z4,z5] (S++[.dT (Lr ps)]):=by
 rw[O0 (ae (m:=AE 1) (d:=d) (S1:=S++[.dT []]) rfl (A _ (Keeps.app _ _)))]
 obtain⟨f,j,h,l,z4,z5,rfl,rfl⟩:=RG (v:=Ha d) (g:=FR 2 (Bw (tgN 3) (Bw (tgN 4) Fj))) (b:=pV W) (xs:=ps.map pairD) (e:=[sI p,some d,sR S.length,none,none,none]) (S:=S++[.dT []]) (λi e j=>(∃l z4 z5,e=[sI p,some d,sR S.length,l,z4,z5])/\j=S++[.dT (Lr (ps.take i))]) (λf j=>∃l z4 z5,f=.nx [sI p,some d,sR S.length,l,z4,z5]/\j=S++[.dT (Lr ps)]) ⟨⟨none,none,none,rfl⟩,by simp[Lr]⟩ (by rintro i e j ⟨_,rfl⟩;exact A _ (Keeps.app _ _))
  (by
   rintro i y e j o ⟨⟨l,z4,z5,rfl⟩,rfl⟩;rw[Ah]at o
   cases s:ps[i]? with
   | none=>rw[s]at o;cases o
   | some x=>
    rw[s]at o;cases o;have I:=(AD.mp s).1;have B:=C.take (i+1);rw[take_snoc s]at B;obtain⟨_,E,G⟩:=HF.snoc.mp B;refine⟨[sI p,some d,sR S.length,sI x.1,sI x.2,z5],_,rfl,_,_,cQ (W:=W) (p:=p) (t:=d) (z5:=z5) (x:=x) (DX S (.dT (Lr (ps.take i)))) (by rw[Bk];omega) E G,⟨_,_,_,rfl⟩,?_⟩;rw[take_snoc s]
    simp)
  (by
   rintro e j ⟨⟨l,z4,z5,rfl⟩,rfl⟩;rw[AF,ER]
   exact⟨_,_,_,rfl,rfl⟩)
 exact⟨l,z4,z5,h⟩
def Ld(ps:List ZPi):List ZLi:=Li (ps.map λx=>aA (nrm x))
theorem Uh(W:Wd){p:Int}{d:D}{S:Sto}{ps:List ZPi}(g:∀S',Keeps S S'->Ha d S'=some (ps.map pairD))(j:ps.length<=100000)(l:HF p ps) :
  ∃S',Gu W [.int p,d] S=.ok (.tup ((Ld ps).map Mh)) S'/\Keeps S S':=by
 obtain⟨o,s,A,B⟩:=Ug W g j l
 ·have C:Jh (.ref S.length) (S++[.dT (Lr ps)])=some ((ps.map λx=>aA (nrm x)).map Mh):=by
   unfold Jh;dsimp only;rw[DX];dsimp only;unfold Lr;rw[Bc,Bc];rfl
  have E:=IX (m:=AE 2) (e:=[sI p,some d,sR S.length,o,s,A]) (S:=S++[.dT (Lr ps)]) rfl C (Xb _ (by intro r G;obtain⟨x,_,rfl⟩:=Ap.mp G;simp[aA]));refine⟨S++[.dT (Lr ps)]++[.lst ((Ld ps).map Mh)],L2.Ih ?_,(Keeps.app S _).trans (Keeps.app _ _)⟩;refine IT (B5 (e:=[sI p,some d,none,none,none,none]) (e1:=[sI p,some d,sR S.length,none,none,none]) (S:=S) (S1:=S++[.dT []]) rfl) ?_;refine IT (B5 B) ?_;exact Je (Ni E (EK (DX _ _)))
open L2
noncomputable def Bp(ts:List ZPi)(x:Nat):ZLi:=ts.flatMap λt=>(if t.1=(x:Int)then[t.2]else[])++(if t.2=(x:Int)then[t.1]else[])
theorem PQ(ts:List ZPi)(t:Int×Int)(x:Nat):Bp (ts++[t]) x=Bp ts x++((if t.1=(x:Int)then[t.2]else[])++(if t.2=(x:Int)then[t.1]else[])):=by
 unfold Bp;rw[NU];simp
def FW(p:Nat)(F:Nat->ZLi):Sto:=(BM p).map λx=>Ob.lst ((F x).map D.int)
def Dp(k p:Nat):List D:=(BM p).map λx=>D.ref (k+x)
def stN(S:Sto)(p:Nat)(F:Nat->ZLi):Sto:=S++FW p F++[.lst (Dp S.length p)]
theorem G9(p:Nat)(F:Nat->ZLi):(FW p F).length=p:=by simp[FW]
theorem Ts(S:Sto)(p:Nat)(F:Nat->ZLi):(stN S p F).length=S.length+p+1:=by simp[stN,G9];lia
theorem GJ(S:Sto)(p:Nat)(F:Nat->ZLi):Keeps S (stN S p F):=(Keeps.app S _).trans (Keeps.app _ _)
theorem Ia(S:Sto)(p:Nat)(F:Nat->ZLi):(stN S p F)[S.length+p]?=some (.lst (Dp S.length p)):=by
 have:S.length+p=(S++FW p F).length:=by simp[G9]
 unfold stN;rw[this];exact DX _ _
theorem JH(S:Sto){p a:Nat}(F:Nat->ZLi)(h:a < p):(stN S p F)[S.length+a]?=some (.lst ((F a).map D.int)):=by
 unfold stN;rw[A8,A4 (by lia),Aa (by rw[G9];lia),show S.length+a - S.length=a by lia];unfold FW;rw[Ah,CH h];rfl
theorem Yj(S:Sto){p a:Nat}(F:Nat->ZLi)(ys:ZLi)(h:a < p):(stN S p F).set (S.length+a) (.lst (ys.map D.int))=stN S p (λx=>if x=a then ys else F x):=by
 apply PH
 intro j
 by_cases e:S.length+a=j
 ·subst e
  rw[BH (by rw[Ts];lia),JH _ _ h,qX rfl]
 ·rw[A1 e]
  by_cases g:j < S.length
  ·rw[(GJ S p F).2 j g,(GJ S p _).2 j g]
  by_cases l:j - S.length < p
  ·have m:j=S.length+(j - S.length):=by lia
   rw[m,JH S F l,JH S _ l,qY (by lia)]
  by_cases o:j=S.length+p
  ·subst o
   rw[Ia,Ia]
  ·rw[CM (by rw[Ts];lia),CM (by rw[Ts];lia)]
theorem Y8{S:Sto}{p a:Nat}(F:Nat->ZLi)(h:a < p):ixA (.ref (S.length+p)) (.int a) (stN S p F)=.ok (.ref (S.length+a)) (stN S p F):=by
 show F4 (ixD _ _ _) _=_;have g:GZ (.ref (S.length+p)) (stN S p F)=some (Dp S.length p):=EK (Ia S p F)
 have j:atI (Dp S.length p) (a:Int)=some (.ref (S.length+a)):=by
  unfold atI ixN;rw[show(Dp S.length p).length=p by simp[Dp],qX (by lia),qX (by lia)];simp only[AC,Ak];unfold Dp;rw[Ah,CH h];rfl
 have:ixD (.ref (S.length+p)) (.int a) (stN S p F)=.ok (.ref (S.length+a)) (stN S p F):=by
  unfold ixD;rw[g];dsimp only;rw[j]
 rw[this];rfl
theorem cY(S:Sto):∀p:Nat,S++FW (p+1) (λ_=>[])=S++FW p (λ_=>[])++[.lst []]:=λp=>by
 unfold FW;rw[IS,BG,A8];rfl
theorem Si{p:Nat}(C:p<=60){mp:ME}{e:Lo}{S:Sto}(h0:mp e S=.ok (.int p) S) :
  Dw 1 (iR1 (AU mp BY)) (tgN 0) Hg (DV (De BY)) e S=.ok (Dp S.length p) (S++FW p λ_=>[]):=by
 have s:iR1 (AU mp BY) e S=.ok (JE (Ii 0 p)) S:=by
  have:=fN (ml:=AU mp BY) (e:=e) (S:=S) (S1:=S) (j:=p) (B8 h0 rfl) (by lia) (by lia);simpa using this
 obtain⟨r,S1,A,o,⟨z,_⟩,rfl,rfl⟩:=QD (v:=JE (Ii 0 p)) (g:=tgN 0) (c:=Hg) (m:=DV (De BY)) (xs:=Ii 0 p) (e:=none :: e) (S:=S)
  (λi o B l=>(∃z,o=z :: e)/\B=S++FW i (λ_=>[])/\l=Dp S.length i)
  ⟨⟨none,rfl⟩,by simp[FW],rfl⟩ (λ_ _ _ _ _=>rfl)
  (by
   rintro i d o B l hd ⟨⟨z,rfl⟩,rfl,rfl⟩;obtain⟨s,rfl⟩:=dB hd;refine⟨by simp[Dp];exact A5 (m:=60) (by lia) (by decide),some (.int (0+i)) :: e,_,rfl,true,_,rfl,.inl ⟨rfl,.ref (S++FW i λ_=>[]).length,_,rfl,⟨_,rfl⟩,(cY S i).symm,?_⟩⟩;unfold Dp;rw[IS,BG,AK,G9]
   rfl)
 rw[aC]at A;exact(OF s).trans A
abbrev S9:MS:=BU (C6 (JA (m2 ixA (AE 2) (AE 3)) (AE 4))) (C6 (JA (m2 ixA (AE 2) (AE 4)) (AE 3)))
def In(p:Nat)(t:Int×Int):Prop:=0<=t.1/\t.1 < p/\0<=t.2/\t.2 < p/\t.1≠t.2
theorem Sh{p:Nat}{S:Sto}{F:Nat->ZLi}{t:Int×Int}{g d1:D}(j:In p t)(G:∀x,(F x).length < 200000) :
  S9 [some g,some d1,sR (S.length+p),sI t.1,sI t.2] (stN S p F)=.ok (.nx [some g,some d1,sR (S.length+p),sI t.1,sI t.2])
   (stN S p λx=>F x++((if t.1=(x:Int)then[t.2]else[])++(if t.2=(x:Int)then[t.1]else[]))):=by
 obtain⟨a,m⟩:∃a:Nat,t.1=a:=⟨t.1.toNat,by have:=j.1;lia⟩
 obtain⟨b,hb⟩:∃b:Nat,t.2=b:=⟨t.2.toNat,by have:=j.2.2.1;lia⟩
 obtain⟨_,o,_,L,H⟩:=j
 have I:a≠b:=λe=>H (by rw[m,hb,e])
 rw[m,hb]
 have s:∀x,((F x).map D.int).length < sizeLine:=λx=>by rw[AF];exact qU (G x) (by decide)
 have A:=RZ (mo:=m2 ixA (AE 2) (AE 3)) (ma:=AE 4) (e:=[some g,some d1,sR (S.length+p),sI a,sI b]) (S:=stN S p F) (S1:=stN S p F) (S2:=stN S p F) (n:=S.length+a) (y:=.int b) (Dh rfl rfl (Y8 F (by lia))) (JH S F (by lia)) rfl (JH S F (by lia)) (s a);rw[show(F a).map D.int++[D.int b]=(F a++[(b:Int)]).map D.int by simp,Yj S F _ (by lia)]at A
 have B:(stN S p λx=>if x=a then F a++[(b:Int)]else F x)[S.length+b]?=some (.lst ((F b).map D.int)):=by
  rw[JH S _ (by lia),qY (CY I)]
 have C:=RZ (mo:=m2 ixA (AE 2) (AE 4)) (ma:=AE 3) (e:=[some g,some d1,sR (S.length+p),sI a,sI b]) (S:=stN S p λx=>if x=a then F a++[(b:Int)]else F x) (S1:=stN S p λx=>if x=a then F a++[(b:Int)]else F x) (S2:=stN S p λx=>if x=a then F a++[(b:Int)]else F x) (n:=S.length+b) (y:=.int a) (Dh rfl rfl (Y8 _ (by lia))) B rfl B (s b);rw[show(F b).map D.int++[D.int a]=(F b++[(a:Int)]).map D.int by simp,Yj S _ _ (by lia)]at C;unfold S9;rw[B5 (EZ A),EZ C]
 congr 2
 funext x
 by_cases l:x=b
 ·subst l
  have:¬((a:Int)=(x:Int)):=by lia
  simp[this]
 ·by_cases E:x=a
  ·subst E
   have:¬((b:Int)=(x:Int)):=by lia
   simp[l,this]
  ·have J:¬((a:Int)=(x:Int)):=by lia
   have o:¬((b:Int)=(x:Int)):=by lia
   simp[l,E,J,o]
theorem NB(ts:List ZPi)(x:Nat):(Bp ts x).length<=2 * ts.length:=by
 unfold Bp
 induction ts with
 | nil=>simp
 | cons t ts g=>
  rw[bh,AK,A0]
  have:((if t.1=(x:Int)then[t.2]else[])++(if t.2=(x:Int)then[t.1]else[])).length<=2:=by split <;> split <;> simp
  lia
def Ht(p:Nat)(ts:List ZPi):List D:=(BM p).map λx=>.tup ((CO (Bp ts x)).map D.int)
theorem ji(W:Wd){p:Nat}(I:p<=60){ts:List ZPi}(J:∀t∈ts,In p t)(L:ts.length<=90000)(S:Sto) :
  ∃S',Gs W [.int p,.tup (ts.map pairD)] S=.ok (.tup (Ht p ts)) S'/\Keeps S S':=by
 have E:=Ic (i:=2) (Oq (Si I (mp:=AE 0) (e:=[sI p,some (.tup (ts.map pairD)),none,none,none]) (S:=S) rfl));have N:(S++FW p λ_=>[])++[.lst (Dp S.length p)]=stN S p (Bp []):=rfl
 have O:(S++FW p λ_=>[]).length=S.length+p:=by simp[G9]
 rw[N,O]at E
 obtain⟨f,S1,P,⟨j,l,rfl⟩,rfl⟩:=RG (v:=JE (ts.map pairD)) (g:=FR 2 (Bw (tgN 3) (Bw (tgN 4) Fj))) (b:=S9) (xs:=ts.map pairD) (e:=[sI p,some (.tup (ts.map pairD)),sR (S.length+p),none,none]) (S:=stN S p (Bp []))
  (λi e S'=>(∃j l,e=[sI p,some (.tup (ts.map pairD)),sR (S.length+p),j,l])/\S'=stN S p (Bp (ts.take i)))
  (λf S'=>(∃j l,f=.nx [sI p,some (.tup (ts.map pairD)),sR (S.length+p),j,l])/\S'=stN S p (Bp ts))
  ⟨⟨none,none,rfl⟩,rfl⟩ (λ_ _ _ _=>rfl)
  (by
   rintro i y e S' s ⟨⟨j,l,rfl⟩,rfl⟩;rw[Ah]at s
   cases A:ts[i]? with
   | none=>rw[A]at s;cases s
   | some t=>
    rw[A]at s;cases s;refine⟨[sI p,some (.tup (ts.map pairD)),sR (S.length+p),sI t.1,sI t.2],_,rfl,_,_,Sh (J t (An A)) (λx=>?_),⟨_,_,rfl⟩,?_⟩
    ·have:=NB (ts.take i) x
     rw[Bk]at this;exact A5 (Av this (Nat.mul_le_mul_left 2 (Av (QN _ _) L))) (by decide)
    ·rw[take_snoc A,show Bp (ts.take i++[t])=_ from funext λx=>PQ _ _ x])
  (by
   rintro e S' ⟨⟨j,l,rfl⟩,rfl⟩;rw[AF,ER]
   exact⟨⟨_,_,rfl⟩,rfl⟩)
 have Q:=(O0 (g:=FR 2 (Bw (tgN 3) (Bw (tgN 4) Fj))) (b:=S9) (N6 (m:=AE 1) (e:=[sI p,some (.tup (ts.map pairD)),sR (S.length+p),none,none]) (S:=stN S p (Bp [])) (S1:=stN S p (Bp [])) (xs:=ts.map pairD) rfl)).trans P
 obtain⟨r,R,T,B,⟨z,_⟩,K,rfl⟩:=QD (v:=Ha (.ref (S.length+p))) (g:=tgN 0) (c:=Hg) (m:=FZ (DO (AE 0))) (xs:=Dp S.length p) (e:=[none,sI p,some (.tup (ts.map pairD)),sR (S.length+p),j,l]) (S:=stN S p (Bp ts))
  (λi B S' o=>(∃z,B=[z,sI p,some (.tup (ts.map pairD)),sR (S.length+p),j,l])/\Keeps (stN S p (Bp ts)) S'/\o=(BM i).map λx=>.tup ((CO (Bp ts x)).map D.int))
  ⟨⟨none,rfl⟩,.refl _,rfl⟩ (λi B S' o h=>EJ (h.2.1.at (Ia S p _)))
  (by
   rintro i d B S' o hd ⟨⟨z,rfl⟩,K,rfl⟩
   have G:i < p:=by
    have:=(AD.mp hd).1;simpa[Dp]using this
   unfold Dp at hd;rw[Ah,CH G]at hd;cases hd;have C:Jh (.ref (S.length+i)) S'=some ((Bp ts i).map D.int):=Kp (K.at (JH S _ G));have U:=IX (m:=AE 0) (e:=[sR (S.length+i),sI p,some (.tup (ts.map pairD)),sR (S.length+p),j,l]) (S:=S') (S1:=S') rfl C (Qg _);refine⟨by simp;exact A5 (m:=60) (by lia) (by decide),[sR (S.length+i),sI p,some (.tup (ts.map pairD)),sR (S.length+p),j,l],_,rfl,true,_,rfl,.inl ⟨rfl,_,_,Ni U (EK (DX _ _)),⟨_,rfl⟩,K.trans (Keeps.app _ _),?_⟩⟩;rw[IS,BG]
   rfl)
 have H:=(OF (n:=1) (g:=tgN 0) (c:=Hg) (m:=FZ (DO (AE 0))) (Go (m:=AE 2) (e:=[sI p,some (.tup (ts.map pairD)),sR (S.length+p),j,l]) (S:=stN S p (Bp ts)) (S1:=stN S p (Bp ts)) rfl (Ia S p _))).trans T;rw[show(Dp S.length p).length=p by simp[Dp]]at H;refine⟨R++[.lst (Ht p ts)],L2.Ih ?_,((GJ S p _).trans K).trans (Keeps.app _ _)⟩;unfold MA;refine IT (B5 E) ?_;refine IT (B5 Q) ?_;exact Je (Ni (Oq H) (EK (DX _ _)))
open L2
open Srt (ltL)
def toP(r:ZLi):Int×Int:=(r.getD 0 0,r.getD 1 0)
def FU(ps:List ZPi):List ZPi:=(Ld ps).map toP
theorem Qc{ps:List ZPi}{r:ZLi}(h:r∈Ld ps):∃x∈ps,r=aA (nrm x):=by
 have:=(Ib _).mem_iff.mp h;obtain⟨x,g,rfl⟩:=Ap.mp this;exact⟨x,g,rfl⟩
theorem Zy(ps:List ZPi):(FU ps).map aA=Ld ps:=by
 unfold FU;rw[Bc]
 conv=>rhs;rw[<-Ms (Ld ps)]
 refine Ci λr g=>?_
 obtain⟨x,_,rfl⟩:=Qc g;rfl
theorem XW(ps:List ZPi):(Ld ps).map Mh=(FU ps).map pairD:=by
 rw[<-Zy,Bc];rfl
theorem cP{ps:List ZPi}{t:Int×Int}(h:t∈FU ps):∃x∈ps,t=nrm x:=by
 obtain⟨r,g,rfl⟩:=Ap.mp h;obtain⟨x,j,rfl⟩:=Qc g;exact⟨x,j,rfl⟩
theorem IW(ps:List ZPi):(FU ps).Perm (ps.map nrm):=by
 unfold FU Ld;have:=(Ib (ps.map λx=>aA (nrm x))).map toP;refine this.trans ?_;rw[Bc];exact YO rfl
theorem oS(x:Int×Int):(nrm x).1<=(nrm x).2:=by
 unfold nrm;dsimp only
 split <;> split <;> lia
theorem Fit.in{p:Nat}{x:Int×Int}(h:Fit p x):In p (nrm x):=by
 obtain⟨g,j,l⟩:=h;have:=oS x;exact⟨j,by lia,by lia,l,g⟩
structure JP(W:Wd)(S:Sto)(q p:Nat)(ts:List ZPi):Prop where
 at_:∃fs:List (Str×D),S[q]?=some (.ins W.Web fs)/\fs.lookup ("places" : Str)=some (.int p)/\fs.lookup ("ties" : Str)=some (.tup (ts.map pairD))/\fs.lookup ("near_sets" : Str)=some (.tup (Ht p ts))
theorem JP.keeps{W:Wd}{S g:Sto}{q p:Nat}{ts:List ZPi}(h:JP W S q p ts)(k:Keeps S g):JP W g q p ts:=by
 obtain⟨fs,j,l⟩:=h.at_;exact⟨fs,k.at j,l⟩
theorem JP.places{W:Wd}{S:Sto}{q p:Nat}{ts:List ZPi}(h:JP W S q p ts){m:ME}{e:Lo}{S0:Sto}(g:m e S0=.ok (.ref q) S):NC W.Web "places" m e S0=.ok (.int p) S:=by
 obtain⟨fs,j,l,_⟩:=h.at_;exact Ub g j l
theorem JP.sets{W:Wd}{S:Sto}{q p:Nat}{ts:List ZPi}(h:JP W S q p ts){m:ME}{e:Lo}{S0:Sto}(g:m e S0=.ok (.ref q) S):NC W.Web "near_sets" m e S0=.ok (.tup (Ht p ts)) S:=by
 obtain⟨fs,j,_,_,l⟩:=h.at_;exact Ub g j l
theorem rf:¬(("places" : Str) = "ties"):=by decide +kernel
theorem rg:¬(("places" : Str) = "near_sets"):=by decide +kernel
theorem rZ:¬(("ties" : Str) = "near_sets"):=by decide +kernel
theorem put2(a b:D):Pr "ties" b [(("places" : Str),a)]=([("places",a),("ties",b)]:List (Str×D)):=by
 show(if ("places" : Str) = "ties" then _ else _)=_;rw[qY rf];rfl
theorem put3(a b c:D):Pr "near_sets" c [(("places" : Str),a),("ties",b)]=([("places",a),("ties",b),("near_sets",c)]:List (Str×D)):=by
 show(if ("places" : Str) = "near_sets" then _ else _)=_;rw[qY rg]
 have:Pr "near_sets" c [(("ties" : Str),b)]=([("ties",b),("near_sets",c)]:List (Str×D)):=by
  show(if ("ties" : Str) = "near_sets" then _ else _)=_;rw[qY rZ];rfl
 rw[this]
theorem lJ(a b c:D):([("places",a),("ties",b),("near_sets",c)]:List (Str×D)).lookup ("places" : Str)=some a:=by
 rw[BX,show(("places" : Str)=="places")=true by decide +kernel]
theorem lH(a b c:D):([("places",a),("ties",b),("near_sets",c)]:List (Str×D)).lookup ("ties" : Str)=some b:=by
 rw[BX,show(("ties" : Str)=="places")=false by decide +kernel];dsimp only;rw[BX,show(("ties" : Str)=="ties")=true by decide +kernel]
theorem rm(a b c:D):([("places",a),("ties",b),("near_sets",c)]:List (Str×D)).lookup ("near_sets" : Str)=some c:=by
 rw[BX,show(("near_sets" : Str)=="places")=false by decide +kernel];dsimp only;rw[BX,show(("near_sets" : Str)=="ties")=false by decide +kernel];dsimp only;rw[BX,show(("near_sets" : Str)=="near_sets")=true by decide +kernel]
theorem og(a b:D):([("places",a),("ties",b)]:List (Str×D)).lookup ("ties" : Str)=some b:=by
 rw[BX,show(("ties" : Str)=="places")=false by decide +kernel];dsimp only;rw[BX,show(("ties" : Str)=="ties")=true by decide +kernel]
open L2
theorem Q1{W:Wd}{S:Sto}{q p:Nat}{ts:List ZPi}(hw:JP W S q p ts){x:Int}(h:0<=x/\x < p):Cg W [.ref q,.int x] S=.ok .non S:=
 L2.T6 (n:=2) (mb:=JO W) (P5 (Xk (b:=true) (Rc (eX rfl rfl (Xt (wX h.1)) (hw.places rfl) (Xr (wX h.2))))))
theorem Y1{W:Wd}{S:Sto}{q p:Nat}{ts:List ZPi}(hw:JP W S q p ts){x:Nat}(g:x < p):Lw W [.ref q,.int x] S=.ok (.tup ((CO (Bp ts x)).map D.int)) S:=by
 refine L2.Ih ?_;unfold gM
 have c:Cd 2 (Cg W) (AU (AE 0) (AU (AE 1) BY)) [sR q,sI x] S=.ok .non S:=by
  refine(Fx (ds:=[.ref q,.int x]) (S1:=S) rfl rfl).trans ?_;exact Q1 hw ⟨by lia,by lia⟩
 refine IT (B5 (e:=[sR q,sI x]) (EZ c)) ?_;refine Je (Dh (hw.sets rfl) rfl ?_);show F4 (ixD _ _ _) _=_
 have j:atI (Ht p ts) (x:Int)=some (.tup ((CO (Bp ts x)).map D.int)):=by
  unfold atI ixN;rw[show(Ht p ts).length=p by simp[Ht],qX (by lia),qX (by lia)];simp only[AC,Ak];unfold Ht;rw[Ah,CH g];rfl
 have:ixD (.tup (Ht p ts)) (.int x) S=.ok (.tup ((CO (Bp ts x)).map D.int)) S:=by
  show(match atI (Ht p ts) (x:Int)with | some d=>Res.ok d S | none=>.bad)=_;rw[j]
 rw[this];rfl
open L2 L4
def FY(W:Wd)(w:Nat×List ZPi):Ob:=.ins W.Web [("places",.int w.1),("ties",.tup (w.2.map pairD)),("near_sets",.tup (Ht w.1 w.2))]
open Classical in
def XD(x:Int)(l:List ZPi):Option (Nat×List ZPi):=if 1<=x/\x<=60/\HF x l/\l.length<=90000 then some (x.toNat,FU l)else none
section
variable{W:Wd}{A:List Sl}{a b m:ME}{p:Option (Nat×List ZPi)}
theorem Yb{j:Type}{f:Str}{enc:j->D}{g:Nat×List ZPi->j}(h:VE A m (rO (FY W)) p)(l:∀w,([("places",D.int w.1),("ties",.tup (w.2.map pairD)),("near_sets",.tup (Ht w.1 w.2))]:List (Str×D)).lookup f=some (enc (g w))):VE A (NC W.Web f m) (rV enc) (p.bind λw=>some (g w)):=λv o s e F S B=>by
 obtain⟨w,C,E⟩:=A6 o;cases E;obtain⟨d,G,H,I,n,rfl,J⟩:=h w C s e F S B;exact⟨_,G,Ub H J (l w),I,rfl⟩
theorem Sd(h:VE A m (rO (FY W)) p):VE A (NC W.Web "places" m) (rV D.int) (p.bind λw=>some (w.1:Int)):=Yb h λw=>lJ _ _ _
theorem iM(h:VE A m (rO (FY W)) p):VE A (NC W.Web "ties" m) (rV (eT (eP D.int D.int))) (p.bind λw=>some w.2):=Yb h λw=>lH _ _ _
theorem mI(W:Wd){p:Nat}(h1:1<=p)(P:p<=60){d:D}{S:Sto}{ps:List ZPi}(Q:∀g,Keeps S g->Ha d g=some (ps.map pairD))(J:ps.length<=90000)(L:HF p ps){e:Lo}{ml:ML}{S0:Sto}(R:ml e S0=.ok [.int p,d] S) :
  ∃g,Q4 W.Web 3 (Io W) ml e S0=.ok (.ref S.length) g/\Keeps S g/\g[S.length]?=some (FY W (p,FU ps)):=by
 have T:Pu (mB (m3 leD leD (mC (.int 1)) (AE 1) (mC (.int 60)))) [sR S.length,sI p,some d] (S++[.ins W.Web []])=.ok false (S++[.ins W.Web []]):=
  Xk (b:=true) (Rc (eX (S3:=S++[.ins W.Web []]) rfl rfl (Xt (wX (by lia))) rfl (Xt (wX (by lia)))))
 have U:(S++[Ob.ins W.Web []])[S.length]?=some (.ins W.Web []):=DX _ _;have e1:=Tv (C:=W.Web) (f:="places") (mo:=AE 0) (mv:=AE 1) (e:=[sR S.length,sI p,some d]) (S:=S++[.ins W.Web []]) (v:=.int p) rfl rfl U (by decide);have l:Keeps S ((S++[Ob.ins W.Web []]).set S.length (.ins W.Web (Pr "places" (.int p) []))):=(Keeps.app S _).set (AN _) _;generalize o:(S++[Ob.ins W.Web []]).set S.length (.ins W.Web (Pr "places" (.int p) []))=S1 at e1 l
 have j:S1[S.length]?=some (.ins W.Web [("places",.int p)]):=by rw[<-o];exact BH (by simp)
 obtain⟨s,N,B⟩:=Uh W (p:=p) (d:=d) (S:=S1) (ps:=ps) (λg k=>Q g (l.trans k)) (Av J (by decide)) L;rw[XW]at N;have E:=Tv (C:=W.Web) (f:="ties") (mo:=AE 0) (mv:=Cd 2 (Gu W) (AU (AE 1) (AU (AE 2) BY))) (e:=[sR S.length,sI p,some d]) (S:=S1) ((Fx rfl rfl).trans N) rfl (B.at j) (by simp);have G:Keeps S (s.set S.length (.ins W.Web (Pr "ties" (.tup ((FU ps).map pairD)) [("places",.int p)]))):=(l.trans B).set (AN _) _;rw[put2]at E G;have X:S.length < s.length:=(AD.mp (B.at j)).1;generalize Y:s.set S.length (.ins W.Web [("places",.int p),("ties",.tup ((FU ps).map pairD))])=S3 at E G
 have H:S3[S.length]?=some (.ins W.Web [("places",.int p),("ties",.tup ((FU ps).map pairD))]):=by rw[<-Y];exact BH X
 obtain⟨Z,c4,I⟩:=ji W P (ts:=FU ps) (λt ht=>by
  obtain⟨x,hx,rfl⟩:=cP ht
  exact(L.1 x hx).in) (by rw[(IW ps).length_eq,AF];exact J) S3
 have O:=Tv (C:=W.Web) (f:="near_sets") (mo:=AE 0) (mv:=Cd 2 (Gs W) (AU (AE 1) (AU (NC W.Web "ties" (AE 0)) BY))) (e:=[sR S.length,sI p,some d]) (S:=S3)
  ((Fx (B8 (S1:=S3) rfl (B8 (Ub rfl H (og _ _)) rfl)) rfl).trans c4) rfl (I.at H) (by simp)
 have Ϡ:S.length < Z.length:=(AD.mp (I.at H)).1;rw[put3]at O;refine⟨_,jn R rfl (L2.T6 (e:=[sR S.length,sI p,some d]) ?_),(G.trans I).set (AN _) _,BH Ϡ⟩;unfold RX;refine IT (B5 (e:=[sR S.length,sI p,some d]) (e1:=[sR S.length,sI p,some d]) (S1:=S++[.ins W.Web []]) (IT (PY T) rfl)) ?_;rw[B5 e1,B5 E];exact O
theorem cD{s:Option Int}{B:Option (List ZPi)}(H:VE A a (rV D.int) s)(hb:VE A b (rO (oL (eP D.int D.int))) B):VE A (Q4 W.Web 3 (Io W) (AU a (AU b BY))) (rN (FY W)) (s.bind λx=>B.bind λl=>XD x l):=λv j S0 e F S C=>by
 obtain⟨x,I,j⟩:=A6 j;obtain⟨l,J,g⟩:=A6 j;obtain⟨d1,L,N,o,rfl⟩:=H x I S0 e F S C;obtain⟨d2,O,P,E,n,rfl,Q⟩:=hb l J S0 e _ L (C.grow o);unfold XD at g;split at g
 ·rename_i R
  cases g;obtain⟨c1,c2,T,U⟩:=R;have G:((x.toNat:Nat):Int)=x:=CN (by lia);obtain⟨X,Y,Z,h7⟩:=mI W (p:=x.toNat) (d:=.ref n) (S:=O) (ps:=l) (by lia) (by lia) (λS' k=>EJ (k.at Q)) U (by rw[G];exact T) (ml:=AU a (AU b BY)) (e:=e) (S0:=S) (by rw[G];exact B8 N (B8 P rfl));exact⟨_,X,Y,(o.trans E).trans Z,_,rfl,(o.trans E).1,h7⟩
 ·cases g
end
open L2
theorem aW{B:Type}{f:B->D}{P:B->Bool}{l:List B}{v:Mm}{cd:MT}{e:Lo}{S:Sto}(G:v S=some (l.map f))(H:l.length<=1000000)(I:∀x∈l,cd (some (f x) :: e) S=.ok (P x) S) :
  Fq v (tgN 0) cd (AE 0) (DE v S) 0 (none :: e) S []=.ok ((l.filter P).map f) S:=by
 obtain⟨r,J,C,A,_,rfl,rfl⟩:=QD (v:=v) (g:=tgN 0) (c:=cd) (m:=AE 0) (xs:=l.map f) (e:=none :: e) (S:=S)
  (λi A o j=>(∃z,A=z :: e)/\o=S/\j=((l.take i).filter P).map f) ⟨⟨none,rfl⟩,rfl,rfl⟩ (by rintro i A o j ⟨_,rfl,_⟩;exact G)
  (by
   rintro i d A o j hd ⟨⟨z,rfl⟩,rfl,rfl⟩;rw[Ah]at hd
   cases s:l[i]? with
   | none=>rw[s]at hd;cases hd
   | some x=>
    rw[s]at hd;cases hd;refine⟨?_,some (f x) :: e,o,rfl,P x,o,I x (An s),?_⟩
    ·rw[AF]
     exact A5 (Av (MN _ _) (by rw[Bk];exact Av (QN _ _) H)) (by decide)
    ·cases E:P x with
     | true=>
      refine .inl ⟨rfl,f x,o,rfl,⟨_,rfl⟩,rfl,?_⟩;rw[take_snoc s,OP];simp[E]
     | false=>
      refine .inr ⟨rfl,⟨_,rfl⟩,rfl,?_⟩;rw[take_snoc s,OP]
      simp[E])
 rw[AF,ER]at C;exact C
theorem kJ{s:Type}{f:s->D}{l:List s}{v:Mm}{g:MG}{b:MS}{e:Lo}{S:Sto}(I:List s->Lo->Sto->Prop)(h0:I [] e S)(B:∀t e S,I t e S->v S=some (l.map f))
  (step:∀t x e S,x∈l->t.length < l.length->I t e S->∃e1 S1,g (f x) e S=.ok e1 S1/\∃e2 S2,b e1 S1=.ok (.nx e2) S2/\I (t++[x]) e2 S2) :
  ∃j S',Im v g b (DE v S) 0 e S=.ok (.nx j) S'/\I l j S':=by
 obtain⟨A,S',C,j,rfl,E⟩:=RG (v:=v) (g:=g) (b:=b) (xs:=l.map f) (e:=e) (S:=S) (λi e S=>I (l.take i) e S) (λA S'=>∃j,A=.nx j/\I l j S') h0 (λi e S h=>B _ e S h)
  (by
   intro i d e S hd o;rw[Ah]at hd
   cases m:l[i]? with
   | none=>rw[m]at hd;cases hd
   | some x=>
    rw[m]at hd;cases hd;have L:=(AD.mp m).1;obtain⟨e1,S1,G,e2,S2,H,J⟩:=step (l.take i) x e S (An m) (by rw[Bk];omega) o;refine⟨e1,S1,G,.nx e2,S2,H,?_⟩;show I (l.take (i+1)) e2 S2;rw[take_snoc m]
    exact J)
  (by
   intro e S o;rw[AF,ER]at o
   exact⟨e,rfl,o⟩)
 exact⟨j,S',C,E⟩
abbrev Met:=List ZPi
def mD(L:Met):List (Key×D):=L.map λa=>(CQ a.1,D.int a.2)
noncomputable def A2(L:Met):ZLi:=L.map (·.1)
noncomputable def stp(L:Met)(z:Int):Int:=((L.find? λa=>decide (a.1=z)).map (·.2)).getD 0
theorem Eg(L N:Met):A2 (L++N)=A2 L++A2 N:=BG
theorem Cb{L:Met}{z:Int}:z∈A2 L↔∃d,(z,d)∈L:=by
 unfold A2
 constructor
 ·intro h
  obtain⟨a,g,rfl⟩:=Ap.mp h;exact⟨a.2,g⟩
 ·rintro⟨d,h⟩
  exact Ap.mpr ⟨_,h,rfl⟩
theorem eQ(L:Met)(z:Int):C3 (mD L) (CQ z)=(L.find? λa=>decide (a.1=z)).map λa=>D.int a.2:=by
 unfold C3 mD
 induction L with
 | nil=>rfl
 | cons a L g=>
  rw[BB,Bo,Bo]
  by_cases e:a.1=z
  ·have:decide ((CQ a.1:Key)=CQ z)=true:=wX (by rw[e])
   rw[this,wX e];rfl
  ·have:decide ((CQ a.1:Key)=CQ z)=false:=wY λq=>e (U4 q)
   rw[this,wY e];exact g
theorem RK{L:Met}(nd:(A2 L).Nodup){z d:Int}(h:(z,d)∈L):(L.find? λa=>decide (a.1=z))=some (z,d):=by
 induction L with
 | nil=>cases h
 | cons a L j=>
  rw[Bo];obtain⟨l,m⟩:=Ct.mp (show(a.1 :: A2 L).Nodup from nd)
  rcases Aq.mp h with e | g
  ·subst e
   rw[wX rfl]
  ·have:¬a.1=z:=λe=>l (by rw[e];exact Cb.mpr ⟨d,g⟩)
   rw[wY this];exact j m g
theorem FV{L:Met}(nd:(A2 L).Nodup){z d:Int}(h:(z,d)∈L):stp L z=d:=by
 unfold stp;rw[RK nd h];rfl
theorem Yi{L:Met}(nd:(A2 L).Nodup){z:Int}(h:z∈A2 L):(z,stp L z)∈L:=by
 obtain⟨d,hd⟩:=Cb.mp h;rw[FV nd hd];exact hd
theorem oZ(L:Met)(z:Int):(C3 (mD L) (CQ z)).isSome=decide (z∈A2 L):=by
 rw[eQ]
 induction L with
 | nil=>rfl
 | cons a L g=>
  rw[Bo]
  by_cases e:a.1=z
  ·rw[wX e]
   exact(wX (show z∈a.1 :: A2 L by rw[e];exact Ao)).symm
  ·rw[wY e]
   refine g.trans (decide_eq_decide.mpr ?_);show z∈A2 L↔z∈a.1 :: A2 L;rw[Aq];exact⟨.inr,λh=>h.resolve_left λq=>e q.symm⟩
theorem oY{L:Met}{z:Int}(h:z∉A2 L)(v:Int):FX (mD L) (CQ z) (.int v)=mD (L++[(z,v)]):=by
 unfold FX;rw[qY]
 ·unfold mD
  rw[BG];rfl
 ·intro q
  obtain⟨y,g,e⟩:=Hj.mp q;obtain⟨a,j,rfl⟩:=Ap.mp g;have e:=U4 (of_decide_eq_true e);exact h (Cb.mpr ⟨a.2,by rw[<-e];exact j⟩)
theorem fM{S:Sto}{n:Nat}{L:Met}(h:S[n]?=some (.dK (mD L)))(neg:Bool)(z:Int):inA neg (.int z) (.ref n) S=.ok (.bl (if neg then !decide (z∈A2 L)else decide (z∈A2 L))) S:=by
 show F4 (inD neg (.int z) (.ref n) S) (LN neg (.int z) (.ref n) S)=_
 have e:inD neg (.int z) (.ref n) S=.bad:=by
  unfold inD GZ;dsimp only;rw[h]
 have g:Ml (.ref n) (.int z) S=some (C3 (mD L) (CQ z)):=by
  unfold Ml;dsimp only;rw[h];rfl
 rw[e];show LN neg (.int z) (.ref n) S=_;unfold LN;rw[g];dsimp only;rw[oZ]
theorem UT{S:Sto}{n:Nat}{L:Met}(h:S[n]?=some (.dK (mD L)))(nd:(A2 L).Nodup){z:Int}(hz:z∈A2 L):ixA (.ref n) (.int z) S=.ok (.int (stp L z)) S:=by
 show F4 (ixD (.ref n) (.int z) S) (Mx (.ref n) (.int z) S)=_
 have e:ixD (.ref n) (.int z) S=.bad:=by
  unfold ixD GZ;dsimp only;rw[h]
 have g:Ml (.ref n) (.int z) S=some (some (.int (stp L z))):=by
  unfold Ml;dsimp only;rw[h];show some (C3 (mD L) (CQ z))=_;rw[eQ,RK nd (Yi nd hz)];rfl
 rw[e];show Mx (.ref n) (.int z) S=_;unfold Mx;rw[g]
theorem jE{mo mi mv:ME}{e:Lo}{S:Sto}{d:Nat}{L:Met}{z v:Int}(g:mv e S=.ok (.int v) S)(ho:mo e S=.ok (.ref d) S)(hi:mi e S=.ok (.int z) S)(h:S[d]?=some (.dK (mD L)))(hz:z∉A2 L)(j:L.length<=100000) :
  E4 mo mi mv e S=.ok (.nx e) (S.set d (.dK (mD (L++[(z,v)])))):=by
 unfold E4;rw[g];dsimp only[Res.lift];rw[ho];dsimp only[Res.lift];rw[hi];dsimp only[Res.lift]
 have:WP (.ref d) (.int z) (.int v) S=some (S.set d (.dK (mD (L++[(z,v)])))):=by
  unfold WP;dsimp only;rw[h];show(if (mD L).length < sizeLine then some (S.set d (.dK (FX (mD L) (CQ z) (.int v))))else none)=_;rw[qX (by unfold mD;rw[AF];exact A5 j (by decide)),oY hz]
 rw[this]
theorem kL{mk mv:ME}{e:Lo}{S:Sto}{z v:Int}(g:mk e (S++[.dK []])=.ok (.int z) (S++[.dK []]))(j:mv e (S++[.dK []])=.ok (.int v) (S++[.dK []])):Lu mk mv e S=.ok (.ref S.length) (S++[.dK (mD [(z,v)])]):=by
 unfold Lu;rw[g];dsimp only[Res.bind];rw[j];dsimp only[Res.bind];rw[DX];show Res.ok (D.ref S.length) ((S++[Ob.dK []]).set S.length (.dK (FX [] (CQ z) (.int v))))=_;have l:FX ([]:List (Key×D)) (CQ z) (.int v)=mD [(z,v)]:=rfl;rw[l];simp
theorem QS{t:MT}{b:MS}(I:Nat->Lo->Sto->Prop)(R:Lo->Sto->Prop)
  (step:∀k e S,I k e S->(∃S1,t e S=.ok false S1/\R e S1)∨∃S1 e2 S2 g,t e S=.ok true S1/\b e S1=.ok (.nx e2) S2/\g < k/\I g e2 S2) :
  ∀n k e S,I k e S->k < n->∃j l,E3 t b n e S=.ok (.nx j) l/\R j l
 | 0,_,_,_,_,h=>zX h (Ep _)
 | n+1,k,e,S,o,s=>by
  rcases step k e S o with⟨S1,m,hR⟩ | ⟨S1,e2,S2,g,m,A,B,C⟩
  ·refine⟨e,S1,?_,hR⟩
   unfold E3;rw[m];rfl
  ·obtain⟨j,l,E,G⟩:=QS I R step n g e2 S2 C (Ae B (Nat.le_of_lt_succ s))
   refine⟨j,l,?_,G⟩;unfold E3;rw[m];dsimp only[Res.lift];rw[qX rfl,A];exact E
def X9(d:Int)(L:Met)(y:Int):Met:=if y∈A2 L then L else L++[(y,d+1)]
def F9(d:Int)(ys:ZLi)(L:Met):Met:=ys.foldl (X9 d) L
theorem MH(d:Int)(ys:ZLi)(y:Int)(L:Met):F9 d (ys++[y]) L=X9 d (F9 d ys L) y:=by
 unfold F9;rw[Jx];rfl
theorem Hh(d:Int):∀(ys:ZLi) (L:Met),∃N,F9 d ys L=L++N/\(∀a∈N,a.2=d+1/\a.1∈ys/\a.1∉A2 L)/\(∀y∈ys,y∈A2 (L++N))/\(A2 N).Nodup
 | [],L=>⟨[],(A3 L).symm,λ_ h=>zX h BL,λ_ h=>zX h BL,FQ⟩
 | y :: ys,L=>by
  have e:F9 d (y :: ys) L=F9 d ys (X9 d L y):=rfl
  by_cases c:y∈A2 L
  ·have m:X9 d L y=L:=qX c
   obtain⟨N,o,j,s,A⟩:=Hh d ys L;refine⟨N,by rw[e,m,o],λa g=>⟨(j a g).1,AT _ (j a g).2.1,(j a g).2.2⟩,λz l=>?_,A⟩
   rcases Aq.mp l with rfl | l
   ·rw[Eg];exact As _ c
   ·exact s z l
  ·have m:X9 d L y=L++[(y,d+1)]:=qY c
   obtain⟨N,o,j,s,A⟩:=Hh d ys (L++[(y,d+1)]);refine⟨(y,d+1) :: N,by rw[e,m,o,A8];rfl,λa g=>?_,λz l=>?_,?_⟩
   ·rcases Aq.mp g with rfl | g
    ·exact⟨rfl,Ao,c⟩
    ·refine⟨(j a g).1,AT _ (j a g).2.1,λz=>(j a g).2.2 ?_⟩
     rw[Eg];exact As _ z
   ·have B:L++(y,d+1) :: N=L++[(y,d+1)]++N:=by simp
    rw[B]
    rcases Aq.mp l with rfl | l
    ·rw[Eg,Eg]
     exact As _ (Aw _ (by simp[A2]))
    ·exact s z l
   ·refine Ct.mpr ⟨λz=>?_,A⟩
    obtain⟨a,g,C⟩:=Ap.mp z;refine(j a g).2.2 ?_;rw[Eg];exact Aw _ (by rw[C];simp[A2])
section
variable(nb:Int->ZLi)(s:Int)
def On(L:Met)(i:Nat):Met:=match L[i]? with
 | some a=>F9 a.2 (nb a.1) L
 | none=>L
def Rn:Nat->Met
 | 0=>[(s,0)]
 | i+1=>On nb (Rn i) i
end
section
variable{nb:Int->ZLi}{s:Int}{p:Nat}
theorem MV{L:Met}{i:Nat}{a:Int×Int}(h:L[i]?=some a):On nb L i=F9 a.2 (nb a.1) L:=by unfold On;rw[h]
theorem dQ(L:Met)(i:Nat):∃N,On nb L i=L++N:=by
 unfold On;split
 ·obtain⟨N,h,_⟩:=Hh _ (nb _) L
  exact⟨N,h⟩
 ·exact⟨[],(A3 L).symm⟩
theorem Rb(i:Nat):∀k:Nat,∃N,Rn nb s (i+k)=Rn nb s i++N
 | 0=>⟨[],(A3 _).symm⟩
 | k+1=>by
  obtain⟨N,h⟩:=Rb i k;obtain⟨g,j⟩:=dQ (nb:=nb) (Rn nb s (i+k)) (i+k);refine⟨N++g,?_⟩;show On nb (Rn nb s (i+k)) (i+k)=_;rw[j,h,A8]
theorem pd{i j k:Nat}(h:i<=k){a:Int×Int}(g:(Rn nb s i)[j]?=some a):(Rn nb s k)[j]?=some a:=by
 obtain⟨N,e⟩:=Rb (nb:=nb) (s:=s) i (k - i);rw[show i+(k - i)=k by lia]at e;rw[e,Aa (AD.mp g).1];exact g
theorem Uq{i:Nat}(h:(Rn nb s i).length<=i):∀k,Rn nb s (i+k)=Rn nb s i
 | 0=>rfl
 | k+1=>by
  show On nb (Rn nb s (i+k)) (i+k)=_;rw[Uq h k];unfold On;rw[CM (by lia)]
theorem gW{i j:Nat}(hi:(Rn nb s i).length<=i)(g:(Rn nb s j).length<=j):Rn nb s i=Rn nb s j:=by
 rcases Nat.le_total i j with h | h
 ·have:=Uq hi (j - i)
  rw[show i+(j - i)=j by lia]at this;exact this.symm
 ·have:=Uq g (i - j)
  rw[show j+(i - j)=i by lia]at this;exact this
structure Bf(nb:Int->ZLi)(p:Nat)(s:Int)(i:Nat)(L:Met):Prop where
 nd:(A2 L).Nodup
 rng:∀a∈L,0<=a.1/\a.1 < p
 nn:∀a∈L,0<=a.2
 up:(L.map (·.2)).Pairwise (·<=·)
 src:(s,0)∈L
 zero:∀a∈L,a.2=0->a.1=s
 cl:∀j,j < i->∀a,L[j]?=some a->∀y∈nb a.1,∃d,(y,d)∈L/\d<=a.2+1
 par:∀a∈L,0 < a.2->∃b∈L,b.2+1=a.2/\a.1∈nb b.1
 top:∀a,L[i]?=some a->∀b∈L,b.2<=a.2+1
 low:∀(j:Nat) a,L[j]?=some a->a.2<=j
theorem Bf.step(J:∀x:Int,0<=x->x < p->∀y∈nb x,0<=y/\y < p){i:Nat}{L:Met}(h:Bf nb p s i L):Bf nb p s (i+1) (On nb L i):=by
 cases l:L[i]? with
 | none=>
  have e:On nb L i=L:=by unfold On;rw[l]
  rw[e];have hl:=Fg.mp l;refine⟨h.nd,h.rng,h.nn,h.up,h.src,h.zero,λj O a g=>h.cl j ?_ a g,h.par,λa g=>?_,h.low⟩
  ·have:=(AD.mp g).1;lia
  ·have:=(AD.mp g).1;omega
 | some x=>
  rw[MV l];have A:=An l;obtain⟨N,P,m,Q,S⟩:=Hh x.2 (nb x.1) L;rw[P];have H:=h.rng x A;refine⟨?_,λa g=>?_,λa g=>?_,?_,As _ h.src,λa g B=>?_,λj O a g y I=>?_,λa g B=>?_,λa g b hb=>?_,λj a g=>?_⟩
  ·rw[Eg]
   refine BP.mpr ⟨h.nd,S,λa g b hb e=>?_⟩;obtain⟨c,C,rfl⟩:=Ap.mp hb;exact(m c C).2.2 (e▸g)
  ·rcases Au.mp g with g | g
   ·exact h.rng a g
   ·exact J x.1 H.1 H.2 a.1 (m a g).2.1
  ·rcases Au.mp g with g | g
   ·exact h.nn a g
   ·have:=(m a g).1;have:=h.nn x A;lia
  ·rw[BG]
   refine Bv.mpr ⟨h.up,?_,λa g b hb=>?_⟩
   ·refine B3.mpr (qZ (R:=λ_ _=>True) (λ{a b} g hb _=>?_) (List.pairwise_of_forall λ_ _=>Db))
    have:=(m a g).1;have:=(m b hb).1;lia
   ·obtain⟨c,C,rfl⟩:=Ap.mp g
    obtain⟨d,hd,rfl⟩:=Ap.mp hb;have:=h.top x l c C;have:=(m d hd).1;lia
  ·rcases Au.mp g with g | g
   ·exact h.zero a g B
   ·have:=(m a g).1;have:=h.nn x A;lia
  ·by_cases T:j=i
   ·subst T
    rw[Aa (AD.mp l).1,l]at g;cases g;obtain⟨d,hd⟩:=Cb.mp (Q y I);refine⟨d,hd,?_⟩
    rcases Au.mp hd with hd | hd
    ·exact h.top x l _ hd
    ·exact Int.le_of_eq (m _ hd).1
   ·have o:j < L.length:=by have:=(AD.mp l).1;lia
    rw[Aa o]at g;obtain⟨d,hd,E⟩:=h.cl j (by lia) a g y I;exact⟨d,As _ hd,E⟩
  ·rcases Au.mp g with g | g
   ·obtain⟨b,hb,G⟩:=h.par a g B
    exact⟨b,As _ hb,G⟩
   ·exact⟨x,As _ A,(m a g).1.symm,(m a g).2.1⟩
  ·have U:x.2<=a.2:=by
    by_cases o:i+1 < L.length
    ·rw[Aa o]at g
     have G:(L.map (·.2))[i]?=some x.2:=by rw[Ah,l];rfl
     have X:(L.map (·.2))[i+1]?=some a.2:=by rw[Ah,g];rfl
     obtain⟨Y,Z⟩:=AD.mp G;obtain⟨l6,e6⟩:=AD.mp X;have:=Jp.mp h.up i (i+1) Y l6 (by lia);rwa [Z,e6]at this
    ·have ϡ:=(AD.mp l).1
     rw[A4 (by lia)]at g;have:=(m a (An g)).1
     lia
   rcases Au.mp hb with hb | hb
   ·have:=h.top x l b hb;lia
   ·have:=(m b hb).1;lia
  ·by_cases o:j < L.length
   ·rw[Aa o]at g
    exact h.low j a g
   ·have ϡ:=(AD.mp l).1
    rw[A4 (by lia)]at g;have:=(m a (An g)).1;have:=h.low i x l
    lia
theorem ON(l:∀x:Int,0<=x->x < p->∀y∈nb x,0<=y/\y < p)(m:0<=s/\s < p):∀i,Bf nb p s i (Rn nb s i)
 | 0=>by
  refine⟨by show[s].Nodup;simp,λa g=>?_,λa g=>?_,U6 _ _,AS.mpr rfl,λa g _=>?_,λj A=>zX A (Ep _),λa g o=>?_,λa g b hb=>?_,λj a g=>?_⟩
  ·rw[AS.mp g];exact m
  ·rw[AS.mp g];exact Rh _
  ·rw[AS.mp g]
  ·rw[AS.mp g]at o;exact zX o (Int.lt_irrefl _)
  ·cases g;rw[AS.mp hb];exact Int.le_add_one (Rh _)
  ·rw[AS.mp (An g)];exact Int.natCast_nonneg j
 | i+1=>(ON l m i).step l
theorem V2:∀(p:Nat) (l:ZLi),l.Nodup->(∀z∈l,0<=z/\z < p)->l.length<=p
 | 0,l,_,h=>by
  cases l with
  | nil=>exact AN _
  | cons a l=>have:=h a (by simp);lia
 | p+1,l,nd,h=>by
  by_cases c:(p:Int)∈l
  ·have o:=Uy c
   have A:0 < l.length:=Wj c
   have m:=V2 p (l.erase (p:Int)) (nd.erase _) λz g=>by
    obtain⟨B,j⟩:=nd.mem_erase_iff.mp g;have:=h z j
    lia
   lia
  ·have m:=V2 p l nd λz g=>by
    have:=h z g
    have:z≠p:=λe=>c (e▸g)
    lia
   lia
theorem Bf.len{i:Nat}{L:Met}(h:Bf nb p s i L):L.length<=p:=by
 have:=V2 p (A2 L) h.nd λz g=>by
  obtain⟨a,j,rfl⟩:=Ap.mp g;exact h.rng a j
 unfold A2 at this;rwa [AF]at this
structure Fd(nb:Int->ZLi)(p:Nat)(s:Int)(L:Met):Prop where
 nd:(A2 L).Nodup
 rng:∀a∈L,0<=a.1/\a.1 < p
 nn:∀a∈L,0<=a.2
 src:(s,0)∈L
 zero:∀a∈L,a.2=0->a.1=s
 cl:∀a∈L,∀y∈nb a.1,∃d,(y,d)∈L/\d<=a.2+1
 par:∀a∈L,0 < a.2->∃b∈L,b.2+1=a.2/\a.1∈nb b.1
 len:L.length<=p
 far:∀a∈L,a.2 < p
theorem Bf.fd{i:Nat}{L:Met}(h:Bf nb p s i L)(o:L.length<=i):Fd nb p s L:=⟨h.nd,h.rng,h.nn,h.src,h.zero,λa g y m=>by
 obtain⟨j,l,e⟩:=Zk g
 exact h.cl j (by lia) a (by rw[AZ l,e]) y m,h.par,h.len,λa g=>by
 obtain⟨j,l,e⟩:=Zk g;have:=h.low j a (by rw[AZ l,e]);have:=h.len
 lia⟩
def Eb(nb:Int->ZLi)(L:Met)(x:Int):ZLi:=(nb x).filter λy=>decide (stp L y < stp L x)
theorem Fd.next{L:Met}(h:Fd nb p s L)(H:∀x y:Int,0<=x->0<=y->y∈nb x->x∈nb y){x d:Int}(m:(x,d)∈L)(hd:0 < d):∃y l,Eb nb L x=y :: l/\(y,d - 1)∈L:=by
 have ex:=FV h.nd m;obtain⟨b,hb,O,P⟩:=h.par _ m hd;have I:=h.rng _ m;have o:=h.rng _ hb;have A:b.1∈nb x:=H b.1 x o.1 I.1 P;have Q:stp L b.1=b.2:=FV h.nd hb;have j:b.1∈Eb nb L x:=BF.mpr ⟨A,wX (by rw[ex,Q];dsimp only at O;lia)⟩
 cases J:Eb nb L x with
 | nil=>rw[J]at j;cases j
 | cons y l=>
  refine⟨y,l,rfl,?_⟩
  have R:y∈Eb nb L x:=by rw[J];exact Ao
  obtain⟨N,B⟩:=BF.mp R;have B:=of_decide_eq_true B;obtain⟨S,g,_⟩:=h.cl _ m y N;have T:=FV h.nd g;have C:=h.rng _ g;obtain⟨d2,E,G⟩:=h.cl _ g x (H x y I.1 C.1 N)
  have:d2=d:=by rw[<-FV h.nd E,ex]
  subst this;rw[ex,T]at B;dsimp only at G
  have:S=d2 - 1:=by lia
  rw[<-this];exact g
def E0(nb:Int->ZLi)(L:Met):Nat->Int->ZLi
 | 0,x=>[x]
 | n+1,x=>x :: E0 nb L n ((Eb nb L x).headD 0)
theorem IU(L:Met):∀(n:Nat) (x:Int),(E0 nb L n x).length=n+1
 | 0,_=>rfl
 | n+1,x=>by
  show(E0 nb L n _).length+1=_;rw[IU L n]
end
theorem Lg{l:ZLi}(h:l.Nodup):(CO l).Pairwise (· < ·):=by
 have g:(CO l).Nodup:=(Bs l).nodup_iff.mpr h
 exact((Lh l).and g).imp λ{a b} ⟨j,m⟩=>by omega
abbrev bIn(g v a:Nat)(mval:ME):MS:=sIf (mB (m2 (inA true) (AE v) (AE g))) (BU (E4 (AE g) (AE v) mval) (C6 (JA (AE a) (AE v)))) sNx
theorem Xl{L:Met}{y d:Int}(h:(A2 L).Nodup)(c:y∉A2 L):(A2 (L++[(y,d)])).Nodup:=by
 rw[Eg];refine BP.mpr ⟨h,by simp[A2],λa g b hb e=>c ?_⟩
 have:b=y:=by simpa[A2]using hb
 rw[<-this,<-e];exact g
theorem fL{g v a:Nat}{mval:ME}{E:Option D->Lo}{dI fI:Nat}{d:Int}{L:Met}{fs:ZLi}{S:Sto}{ys:ZLi}{z:Option D}{vw:Mm}
  (I:∀S',(∀j,j≠dI->j≠fI->S'[j]?=S[j]?)->vw S'=some (ys.map D.int))
  (J:∀x S,AE v (E (some x)) S=.ok x S) (s:∀z S,AE g (E z) S=.ok (.ref dI) S) (T:∀z S,AE a (E z) S=.ok (.ref fI) S) (U:∀x z S,tgN v x (E z) S=.ok (E (some x)) S)
  (X:∀x S' N,S'[dI]?=some (.dK (mD (L++N)))->S'[fI]?=some (.lst ((fs++A2 N).map D.int))->(A2 (L++N)).Nodup->mval (E (some x)) S'=.ok (.int (d+1)) S')
  (Y:S[dI]?=some (.dK (mD L))) (Z:S[fI]?=some (.lst (fs.map D.int))) (Q:dI≠fI) (nd:(A2 L).Nodup) (hl:L.length<=1000) (hf:fs.length<=1000) (hy:ys.length<=1000) :
  ∃O S' N,Im vw (tgN v) (bIn g v a mval) (DE vw S) 0 (E z) S=.ok (.nx (E O)) S'/\F9 d ys L=L++N/\S'[dI]?=some (.dK (mD (L++N)))/\S'[fI]?=some (.lst ((fs++A2 N).map D.int))/\S'.length=S.length/\∀j,j≠dI->j≠fI->S'[j]?=S[j]?:=by
 obtain⟨e',S',A,O,N,rfl,B,_,_,m,o,C,G⟩:=kJ (f:=D.int) (l:=ys) (v:=vw) (g:=tgN v) (b:=bIn g v a mval) (e:=E z) (S:=S)
  (λt e S'=>∃z N,e=E z/\F9 d t L=L++N/\(A2 (L++N)).Nodup/\N.length<=t.length/\S'[dI]?=some (.dK (mD (L++N)))/\S'[fI]?=some (.lst ((fs++A2 N).map D.int))/\S'.length=S.length/\∀j,j≠dI->j≠fI->S'[j]?=S[j]?)
  ⟨z,[],rfl,(A3 L).symm,by rw[A3];exact nd,AN _,by rw[A3];exact Y,by show _=some (Ob.lst ((fs++[]).map D.int));rw[A3];exact Z,rfl,λ_ _ _=>rfl⟩ (by rintro t e S' ⟨_,_,_,_,_,_,_,_,_,h⟩;exact I S' h)
  (by
   rintro t y e S' hyy ht ⟨z,N,rfl,B,P,q3,m,o,C,G⟩;refine⟨E (some (.int y)),S',U _ _ _,?_⟩;have t1:mB (m2 (inA true) (AE v) (AE g)) (E (some (.int y))) S'=.ok (!decide (y∈A2 (L++N))) S':=Rc (Dh (J _ _) (s _ _) (fM m true y));have H:=PY (a:=BU (E4 (AE g) (AE v) mval) (C6 (JA (AE a) (AE v)))) (b:=sNx) t1
   by_cases c:y∈A2 (L++N)
   ·rw[wX c]at H
    refine⟨E (some (.int y)),S',H.trans rfl,_,N,rfl,?_,P,by rw[AK];lia,m,o,C,G⟩;rw[MH,B];exact qX c
   ·rw[wY c]at H
    have p1:=jE (mo:=AE g) (mi:=AE v) (mv:=mval) (X (.int y) S' N m o P) (s _ _) (J _ _) m c (by rw[AK];lia);have vX:dI < S'.length:=(AD.mp m).1;have vM:fI < S'.length:=(AD.mp o).1
    have R:(S'.set dI (.dK (mD (L++N++[(y,d+1)]))))[fI]?=some (.lst ((fs++A2 N).map D.int)):=by rw[A1 Q];exact o
    have a1:=RZ (mo:=AE a) (ma:=AE v) (e:=E (some (.int y))) (S:=S'.set dI (.dK (mD (L++N++[(y,d+1)])))) (T _ _) R (J _ _) R (by
     rw[AF,AK,show(A2 N).length=N.length from AF _]
     exact A5 (show fs.length+N.length<=2000 by lia) (by decide))
    refine⟨E (some (.int y)),_,H.trans ((qX rfl).trans ((B5 p1).trans (EZ a1))),_,N++[(y,d+1)],rfl,?_,?_,?_,?_,?_,?_,?_⟩
    ·rw[MH,B]
     exact(qY c).trans (A8 _ _ _)
    ·rw[<-A8]
     exact Xl P c
    ·rw[AK,AK,Al,Al];lia
    ·rw[A1 (CY Q),BH vX,A8]
    ·rw[BH (by rw[Ek];exact vM),Eg]
     simp[A2]
    ·rw[Ek,Ek];exact C
    ·intro j A s
     rw[A1 (CY s),A1 (CY A)]
     exact G j A s)
 exact⟨O,S',N,A,B,m,o,C,G⟩
theorem WC{B S S':Sto}(k:Keeps B S){dI fI:Nat}(m:B.length<=dI)(o:B.length<=fI)(g:S'.length=S.length)(h:∀j,j≠dI->j≠fI->S'[j]?=S[j]?):Keeps B S':=
 ⟨by rw[g];exact k.1,λj l=>(h j (by lia) (by lia)).trans (k.2 j l)⟩
theorem iX{m:ME}{e:Lo}{S:Sto}{n:Nat}{ds:List D}(h:m e S=.ok (.ref n) S)(g:S[n]?=some (.lst ds)):V8 m e S=.ok (!ds.isEmpty) S:=by
 unfold V8;rw[h];dsimp only[Res.bind];unfold V7;dsimp only;rw[g]
def nbW(ts:List ZPi)(x:Int):ZLi:=CO (Bp ts x.toNat)
abbrev lS(W:Wd):MS:=Hb (Dy (Cd 2 (Lw W) (AU (AE 0) (AU (AE 5) BY)))) (tgN 6) (bIn 2 6 4 (m2 FO (m2 ixA (AE 2) (AE 5)) (mC (.int 1))))
abbrev gP(W:Wd):MS:=BU (Bu 4 (DV (De BY))) (BU (Hb (Dy (AE 3)) (tgN 5) (lS W)) (Bu 3 (AE 4)))
section
variable{W:Wd}{q p:Nat}{ts:List ZPi}{s:Int}
theorem cx{B S:Sto}(hw:JP W B q p ts)(hp:p<=60)(uo:∀x:Int,0<=x->x < p->∀y∈nbW ts x,0<=y/\y < p)(G:∀x,(nbW ts x).length<=1000)(hs:0<=s/\s < p){i dI l:Nat}{d1:D}{z4 z5 z6:Option D}(K:Keeps B S)(Q:B.length<=dI)(Ϣ:B.length<=l)(vX:dI≠l)
  (hD:S[dI]?=some (.dK (mD (Rn (nbW ts) s i)))) (R:S[l]?=some (.lst ((A2 ((Rn (nbW ts) s i).drop i)).map D.int))) (hi:i<=(Rn (nbW ts) s i).length) :
  ∃A o S',gP W [sR q,some d1,sR dI,sR l,z4,z5,z6] S=oN [sR q,some d1,sR dI,sR S.length,sR S.length,A,o] S'/\Keeps B S'/\S'[dI]?=some (.dK (mD (Rn (nbW ts) s (Rn (nbW ts) s i).length)))/\S'[S.length]?=some (.lst ((A2 ((Rn (nbW ts) s (Rn (nbW ts) s i).length).drop (Rn (nbW ts) s i).length)).map D.int)):=by
 have T:dI < S.length:=(AD.mp hD).1;have zg:l < S.length:=(AD.mp R).1;have U:=ON uo hs i;have xM:=U.len;generalize zY:(Rn (nbW ts) s i).length=n0 at xM hi ⊢;have s4:Bu 4 (DV (De BY)) [sR q,some d1,sR dI,sR l,z4,z5,z6] S=oN [sR q,some d1,sR dI,sR l,sR S.length,z5,z6] (S++[.lst []]):=rfl;have I:=Keeps.app S [.lst []]
 obtain⟨f,S1,h1,A,o,rfl,K1,D1,F1⟩:=RG (v:=Ha (.ref l)) (g:=tgN 5) (b:=lS W) (xs:=(A2 ((Rn (nbW ts) s i).drop i)).map D.int) (e:=[sR q,some d1,sR dI,sR l,sR S.length,z5,z6]) (S:=S++[.lst []])
  (λj e S'=>∃A o,e=[sR q,some d1,sR dI,sR l,sR S.length,A,o]/\Keeps B S'/\S'[dI]?=some (.dK (mD (Rn (nbW ts) s (i+j))))/\S'[S.length]?=some (.lst ((A2 ((Rn (nbW ts) s (i+j)).drop n0)).map D.int))/\S'[l]?=some (.lst ((A2 ((Rn (nbW ts) s i).drop i)).map D.int)))
  (λf S'=>∃A o,f=.nx [sR q,some d1,sR dI,sR l,sR S.length,A,o]/\Keeps B S'/\S'[dI]?=some (.dK (mD (Rn (nbW ts) s n0)))/\S'[S.length]?=some (.lst ((A2 ((Rn (nbW ts) s n0).drop n0)).map D.int)))
  ⟨z5,z6,rfl,K.trans I,I.at hD,by
   rw[W7,G0 (by lia)]
   exact DX _ _,I.at R⟩ (by rintro j e S' ⟨_,_,_,_,_,_,h⟩;exact EJ h)
  (by
   rintro j x e S' C ⟨A,o,rfl,J,O,P,L'⟩;unfold A2 at C;rw[Ah,Ah,Gb]at C
   cases X:(Rn (nbW ts) s i)[i+j]? with
   | none=>rw[X]at C;cases C
   | some a=>
    rw[X]at C;cases C;have H:(Rn (nbW ts) s (i+j))[i+j]?=some a:=pd (by lia) X;have ϣ:=ON uo hs (i+j);have har:=ϣ.rng a (An H);have hll:=ϣ.len
    obtain⟨x,C⟩:∃x:Nat,a.1=x:=⟨a.1.toNat,by lia⟩
    refine⟨[sR q,some d1,sR dI,sR l,sR S.length,sI a.1,o],S',rfl,?_⟩
    have c1:Cd 2 (Lw W) (AU (AE 0) (AU (AE 5) BY)) [sR q,some d1,sR dI,sR l,sR S.length,sI a.1,o] S'=.ok (.tup ((nbW ts a.1).map D.int)) S':=by
     refine(Fx (ds:=[.ref q,.int a.1]) (S1:=S') rfl rfl).trans ?_;unfold nbW;rw[C,Ak];exact Y1 (hw.keeps J) (by lia)
    have vM:(A2 ((Rn (nbW ts) s (i+j)).drop n0)).length<=1000:=by unfold A2;rw[AF,CD];lia
    obtain⟨z',S2,N,h2,g1,g2,g3,g4,g5⟩:=fL (g:=2) (v:=6) (a:=4) (mval:=m2 FO (m2 ixA (AE 2) (AE 5)) (mC (.int 1))) (E:=λz=>[sR q,some d1,sR dI,sR l,sR S.length,sI a.1,z]) (dI:=dI) (fI:=S.length) (d:=a.2) (L:=Rn (nbW ts) s (i+j)) (ys:=nbW ts a.1) (z:=o) (S:=S') (vw:=JE ((nbW ts a.1).map D.int)) (λ_ _=>rfl)
     (λ_ _=>rfl) (λ_ _=>rfl) (λ_ _=>rfl) (λ_ _ _=>rfl)
     (λy S2 N hd hf nd=>by
      refine Dh (Dh rfl rfl (UT hd nd (Cb.mpr ⟨a.2,As _ (An H)⟩))) rfl ?_;rw[FV nd (show(a.1,a.2)∈Rn (nbW ts) s (i+j)++N from As _ (An H))]
      rfl)
     O P (Ax T) ϣ.nd (by lia) vM (G _)
    refine⟨.nx [sR q,some d1,sR dI,sR l,sR S.length,sI a.1,z'],S2,(O0 (N6 c1)).trans h2,_,z',rfl,WC J Q (by have:=K.1;omega) g4 g5,?_,?_,?_⟩
    ·rw[g2,<-g1]
     show some (Ob.dK (mD (F9 a.2 (nbW ts a.1) (Rn (nbW ts) s (i+j)))))=some (Ob.dK (mD (On (nbW ts) (Rn (nbW ts) s (i+j)) (i+j))));rw[MV H]
    ·have Y:Rn (nbW ts) s (i+(j+1))=Rn (nbW ts) s (i+j)++N:=by
      show On (nbW ts) (Rn (nbW ts) s (i+j)) (i+j)=_;rw[MV H,g1]
     have Z:n0<=(Rn (nbW ts) s (i+j)).length:=by
      obtain⟨N',e2⟩:=Rb (nb:=nbW ts) (s:=s) i j;rw[e2,AK]
      lia
     rw[g3,Y,List.drop_append_of_le_length Z,Eg]
    ·rw[g5 l (CY vX) (Ax zg)]
     exact L')
  (by
   rintro e S' ⟨A,o,rfl,J,O,P,L'⟩
   have Y:i+((A2 ((Rn (nbW ts) s i).drop i)).map D.int).length=n0:=by
    unfold A2;rw[AF,AF,CD]
    lia
   rw[Y]at O P
   exact⟨_,_,rfl,J,O,P⟩)
 exact⟨A,o,S1,(B5 s4).trans ((B5 ((O0 (Go (m:=AE 3) (n:=l) rfl (I.at R))).trans h1)).trans rfl),K1,D1,F1⟩
theorem cX{S:Sto}(hw:JP W S q p ts)(H:p<=60)(A:∀x:Int,0<=x->x < p->∀y∈nbW ts x,0<=y/\y < p)(l:∀x,(nbW ts x).length<=1000)(B:0<=s/\s < p) :
  ∃g i,IM W [.ref q,.int s] S=.ok (.ref S.length) g/\Keeps S g/\g[S.length]?=some (.dK (mD (Rn (nbW ts) s i)))/\(Rn (nbW ts) s i).length<=i:=by
 have I:Bu 2 (Lu (AE 1) (mC (.int 0))) (E2 7 [.ref q,.int s]) S=oN [sR q,sI s,sR S.length,none,none,none,none] (S++[.dK (mD [(s,0)])]):=Ic (i:=2) (kL rfl rfl);have J:Bu 3 (DV (De (AU (AE 1) BY))) [sR q,sI s,sR S.length,none,none,none,none] (S++[.dK (mD [(s,0)])])=.ok (.nx [sR q,sI s,sR S.length,some (.ref (S++[Ob.dK (mD [(s,0)])]).length),none,none,none]) (S++[.dK (mD [(s,0)])]++[.lst [.int s]]):=rfl
 obtain⟨e',g,h,i,C,z4,z5,z6,rfl,K,L,O⟩:=QS (t:=V8 (AE 3)) (b:=gP W)
  (λk e g=>∃(i j:Nat) (z4 z5 z6:Option D),e=[sR q,sI s,sR S.length,sR j,z4,z5,z6]/\Keeps S g/\S.length < j/\g[S.length]?=some (.dK (mD (Rn (nbW ts) s i)))/\g[j]?=some (.lst ((A2 ((Rn (nbW ts) s i).drop i)).map D.int))/\i<=(Rn (nbW ts) s i).length/\k+i=p)
  (λe g=>∃(i:Nat) (C z4 z5 z6:Option D),e=[sR q,sI s,sR S.length,C,z4,z5,z6]/\Keeps S g/\g[S.length]?=some (.dK (mD (Rn (nbW ts) s i)))/\(Rn (nbW ts) s i).length<=i)
  (by
   rintro k e g ⟨i,j,z4,z5,z6,rfl,K,Ϣ,E,o,P,hk⟩;have t:=iX (m:=AE 3) (e:=[sR q,sI s,sR S.length,sR j,z4,z5,z6]) rfl o
   by_cases c:i < (Rn (nbW ts) s i).length
   ·refine .inr ?_
    have Q:((A2 ((Rn (nbW ts) s i).drop i)).map D.int).isEmpty=false:=by
     cases R:(A2 ((Rn (nbW ts) s i).drop i)).map D.int with
     | nil=>
      have:=congrArg EB R;unfold A2 at this;rw[AF,AF,CD]at this;simp at this
      lia
     | cons _ _=>rfl
    rw[Q]at t;obtain⟨y5,y6,T,U,X,Y,Z⟩:=cx (d1:=.int s) (z4:=z4) (z5:=z5) (z6:=z6) hw H A l B K (AN _) (LY Ϣ) (Ax Ϣ) E o P;have hb:=(ON A B i).len;have zg:j < g.length:=(AD.mp o).1;refine⟨g,_,T,p - (Rn (nbW ts) s i).length,t,U,by lia,(Rn (nbW ts) s i).length,g.length,_,_,_,rfl,X,by lia,Y,Z,?_,by lia⟩;obtain⟨N,G⟩:=Rb (nb:=nbW ts) (s:=s) i ((Rn (nbW ts) s i).length - i);rw[show i+((Rn (nbW ts) s i).length - i)=(Rn (nbW ts) s i).length by lia]at G;rw[G,AK]
    lia
   ·refine .inl ⟨g,?_,i,_,_,_,_,rfl,K,E,by lia⟩
    rw[t,G0 (by lia)]
    rfl)
  wN p [sR q,sI s,sR S.length,some (.ref (S++[Ob.dK (mD [(s,0)])]).length),none,none,none] (S++[.dK (mD [(s,0)])]++[.lst [.int s]])
  ⟨0,_,none,none,none,rfl,(Keeps.app _ _).trans (Keeps.app _ _),by simp,(Keeps.app _ _).at (DX _ _),DX _ _,CZ _,rfl⟩ (show p < 1000000 by lia)
 refine⟨g,i,L2.Ih (n:=7) (mb:=Kx W) ?_,K,L,O⟩;unfold Kx;exact(B5 I).trans ((B5 J).trans ((B5 h).trans rfl))
end
def pX(o j:Nat)(ts:List ZPi):Prop:=(∀x∈ts,0<=x.1/\x.1 < x.2/\(x.2 < o∨x.2=o/\x.1 < j))/\ts.Nodup
theorem cf{l l':ZLi}(h:l.Perm l'):CO l=CO l':=
 (((Bs l).trans h).trans (Bs l').symm).eq_of_pairwise (λa b _ _ g j=>R0 g j) (Lh l) (Lh l')
def nr(ts:List ZPi)(x:Nat):ZLi:=CO (Bp ts x)
theorem Xj{ts:List ZPi}{x:Nat}{z:Int}:z∈nr ts x↔((x:Int),z)∈ts∨(z,(x:Int))∈ts:=by
 unfold nr;rw[(Bs _).mem_iff];unfold Bp;rw[Hi]
 constructor
 ·rintro⟨t,g,h⟩
  rcases Au.mp h with h | h
  ·split at h
   ·rename_i e
    rw[AS.mp h,<-e];exact .inl g
   ·cases h
  ·split at h
   ·rename_i e
    rw[AS.mp h,<-e];exact .inr g
   ·cases h
 ·rintro(h | h)
  ·exact⟨_,h,As _ (by simp)⟩
  ·exact⟨_,h,Aw _ (by simp)⟩
theorem dr(ts:List ZPi)(x:Nat):(nr ts x).length<=2 * ts.length:=by
 unfold nr;rw[(Bs _).length_eq];exact NB ts x
theorem du(W:Wd){S:Sto}{t o:Nat}{ts:List ZPi}(N:S[t]?=some (.lst (ts.map pairD)))(Y:pX o 0 ts)(ho:o<=60)(hl:ts.length<=40000) :
  ∃n j,IN W [.int o,.ref t] S=.ok (.ref n) j/\Keeps S j/\S.length<=n/\∃l:List Nat,j[n]?=some (.lst (l.map D.ref))/\l.length=o/\∀x,x < o->∃r,l[x]?=some r/\S.length<=r/\j[r]?=some (.lst ((nr ts x).map D.int)):=by
 have O:=Ic (i:=2) (Oq (Si ho (mp:=AE 0) (e:=[sI o,sR t,none,none,none]) (S:=S) rfl));have Z:(S++FW o λ_=>[])++[.lst (Dp S.length o)]=stN S o (Bp []):=rfl
 have e2:(S++FW o λ_=>[]).length=S.length+o:=by simp[G9]
 rw[Z,e2]at O
 obtain⟨f,S1,h1,⟨s,A,rfl⟩,rfl⟩:=RG (v:=Ha (.ref t)) (g:=FR 2 (Bw (tgN 3) (Bw (tgN 4) Fj))) (b:=S9) (xs:=ts.map pairD) (e:=[sI o,sR t,sR (S.length+o),none,none]) (S:=stN S o (Bp []))
  (λi e j=>(∃s A,e=[sI o,sR t,sR (S.length+o),s,A])/\j=stN S o (Bp (ts.take i)))
  (λf j=>(∃s A,f=.nx [sI o,sR t,sR (S.length+o),s,A])/\j=stN S o (Bp ts))
  ⟨⟨none,none,rfl⟩,rfl⟩ (by rintro i e j ⟨_,rfl⟩;exact EJ ((GJ S o _).at N))
  (by
   rintro i y e j E ⟨⟨s,A,rfl⟩,rfl⟩;rw[Ah]at E
   cases B:ts[i]? with
   | none=>rw[B]at E;cases E
   | some x=>
    rw[B]at E;cases E
    have vi:In o x:=by
     obtain⟨G,H,g3⟩:=Y.1 x (An B);exact⟨by omega,by lia,by lia,by lia,by lia⟩
    refine⟨[sI o,sR t,sR (S.length+o),sI x.1,sI x.2],_,rfl,_,_,Sh vi (λz=>?_),⟨_,_,rfl⟩,?_⟩
    ·have:=NB (ts.take i) z
     rw[Bk]at this
     lia
    ·rw[take_snoc B,show Bp (ts.take i++[x])=_ from funext λz=>PQ _ _ z])
  (by
   rintro e j ⟨⟨s,A,rfl⟩,rfl⟩;rw[AF,ER]
   exact⟨⟨_,_,rfl⟩,rfl⟩)
 have a2:=(O0 (g:=FR 2 (Bw (tgN 3) (Bw (tgN 4) Fj))) (b:=S9) (Go (m:=AE 1) (e:=[sI o,sR t,sR (S.length+o),none,none]) (S:=stN S o (Bp [])) (S1:=stN S o (Bp [])) rfl ((GJ S o _).at N))).trans h1
 obtain⟨r,S2,q1,I,⟨z,_⟩,K,l,rfl,P,Q⟩:=QD (v:=Ha (.ref (S.length+o))) (g:=tgN 0) (c:=Hg) (m:=DO (AE 0)) (xs:=Dp S.length o) (e:=[none,sI o,sR t,sR (S.length+o),s,A]) (S:=stN S o (Bp ts))
  (λi I j C=>(∃z,I=[z,sI o,sR t,sR (S.length+o),s,A])/\Keeps (stN S o (Bp ts)) j/\∃l:List Nat,C=l.map D.ref/\l.length=i/\∀x,x < i->∃r,l[x]?=some r/\S.length<=r/\j[r]?=some (.lst ((nr ts x).map D.int)))
  ⟨⟨none,rfl⟩,.refl _,[],rfl,rfl,λx B=>zX B (Ep _)⟩ (λi I j C h=>EJ (h.2.1.at (Ia S o _)))
  (by
   rintro i d I j C hd ⟨⟨z,rfl⟩,K,l,rfl,R,k3⟩
   have T:i < o:=by
    have:=(AD.mp hd).1;simpa[Dp]using this
   unfold Dp at hd;rw[Ah,CH T]at hd;cases hd;have J:Jh (.ref (S.length+i)) j=some ((Bp ts i).map D.int):=Kp (K.at (JH S _ T));have hs:=IX (m:=AE 0) (e:=[sR (S.length+i),sI o,sR t,sR (S.length+o),s,A]) (S:=j) (S1:=j) rfl J (Qg _);have U:=Keeps.app j [.lst ((CO (Bp ts i)).map D.int)];refine⟨by rw[AF];exact A5 (show l.length<=1000 by lia) (by decide),[sR (S.length+i),sI o,sR t,sR (S.length+o),s,A],_,rfl,true,_,rfl,.inl ⟨rfl,_,_,hs,⟨_,rfl⟩,K.trans U,l++[j.length],by simp,by simp[R],λx B=>?_⟩⟩
   by_cases c:x < i
   ·obtain⟨r,G,L,H⟩:=k3 x c
    exact⟨r,by rw[Aa (by lia)];exact G,L,U.at H⟩
   ·have:x=l.length:=by lia
    subst this
    exact⟨j.length,by simp,((GJ S o _).trans K).1,by rw[R];exact DX _ _⟩)
 rw[show(Dp S.length o).length=o by simp[Dp]]at P Q;have a3:=Oq ((OF (n:=1) (g:=tgN 0) (c:=Hg) (m:=DO (AE 0)) (Go (m:=AE 2) (e:=[sI o,sR t,sR (S.length+o),s,A]) (S:=stN S o (Bp ts)) (S1:=stN S o (Bp ts)) rfl (Ia S o _))).trans q1);have X:=Keeps.app S2 [.lst (l.map D.ref)];refine⟨_,_,L2.Ih ?_,((GJ S o _).trans K).trans X,((GJ S o _).trans K).1,l,DX _ _,P,λx B=>?_⟩
 ·unfold OH
  refine IT (B5 O) ?_;refine IT (B5 a2) ?_;exact Je a3
 ·obtain⟨r,G,L,H⟩:=Q x B
  exact⟨r,G,L,X.at H⟩
open L4 in
open Classical in
def IJ(o:Int)(ts:List ZPi):Option (List ZLi):=if 0<=o/\o<=60/\pX o.toNat 0 ts/\ts.length<=40000 then some ((BM o.toNat).map (nr ts))else none
open L4 in
theorem Tp(W:Wd)(o:Int)(ts:List ZPi):VF (IN W) [.v (D.int o),.z (oL (eP D.int D.int) ts)] (jA D.int) (IJ o ts):=λv j S s A=>by
 unfold IJ at j;split at j
 ·rename_i l
  cases j
  match s,A with
  | [d1,d2],⟨B,⟨t,C,E⟩,_⟩=>
   cases B;cases C;have G:((o.toNat:Nat):Int)=o:=CN l.1;obtain⟨n,H,m,I,J,L,N,O,P⟩:=du W (t:=t) (o:=o.toNat) E l.2.2.1 (by lia) l.2.2.2;rw[G]at m;refine⟨_,H,m,I,n,L,rfl,J,N,by simp[O],λk Q g=>?_⟩;rw[Ah]at g
   by_cases c:k < o.toNat
   ·rw[CH c]at g
    cases g;exact P k c
   ·rw[CM (by simp;lia)]at g
    cases g
 ·cases j
theorem WD{w:Nat}{S:Sto}{g:ZLi}{x:Int}(h:S[w]?=some (.lst ((g++[x]).map D.int))):ixA (.ref w) (.int (-1)) S=.ok (.int x) S:=by
 show F4 (ixD (.ref w) (.int (-1)) S) _=_
 have e:ixD (.ref w) (.int (-1)) S=.ok (.int x) S:=by
  unfold ixD;rw[EK h];dsimp only
  have:atI ((g++[x]).map D.int) (-1)=some (.int x):=by
   unfold atI ixN;rw[qY (by decide),AF,AK,Al,qX (by omega)];show((g++[x]).map D.int)[(-1+((g.length+1:Nat):Int)).toNat]?=_;rw[show(-1+((g.length+1:Nat):Int)).toNat=g.length by omega,Ah,A4 (AN _),Pi];rfl
  rw[this]
 rw[e];rfl
theorem fold_min{y:Int}:∀{l:ZLi},(∀z∈l,y < z)->l.foldl (λm x=>if ltZ x m=true then x else m) y=y
 | [],_=>rfl
 | z :: l,h=>by
  have j:=h z Ao
  have:ltZ z y=false:=by
   unfold ltZ;exact wY (by omega)
  rw[GX,this,qY Ac]
  exact fold_min λx g=>h x (AT _ g)
theorem eD{y:Int}{l:ZLi}(h:(y :: l).Pairwise (· < ·))(S:Sto):Ny ((y :: l).map D.int) S=.ok (.int y) S:=by
 unfold Ny RV;rw[Kq];show(match some (l.foldl (λm x=>if ltZ x m=true then x else m) y)with | some b=>Res.ok (D.int b) S | none=>.bad)=_;rw[fold_min (bS.mp h).1]
section
variable{W:Wd}{q p:Nat}{ts:List ZPi}{s:Int}{L:Met}
abbrev Y6(w:Nat):ME:=m2 ixA (AE w) (SM (mC (.int 1)))
abbrev jo(W:Wd):ME:=DV (Dw 1 (Dy (Cd 2 (Lw W) (AU (AE 0) (AU (AE 5) BY)))) (tgN 0) (mB (m2 ltD (m2 ixA (AE 4) (AE 0)) (m2 ixA (AE 4) (AE 6)))) (AE 0))
abbrev sZ(W:Wd):MS:=BU (Bu 5 (Y6 4)) (C6 (JA (AE 4) (mQ Ny (Kn (jo W)))))
theorem Fd.near_has(h:Fd (nbW ts) p s L){x:Int}(j:x∈A2 L){y:Int}(l:y∈nbW ts x):y∈A2 L:=by
 obtain⟨d,hd⟩:=Cb.mp j;obtain⟨m,g,_⟩:=h.cl _ hd y l;exact Cb.mpr ⟨m,g⟩
theorem b9{B S:Sto}(hw:JP W B q p ts)(o:Fd (nbW ts) p s L)(X:∀x y:Int,0<=x->0<=y->y∈nbW ts x->x∈nbW ts y)(Ϥ:∀x,(nbW ts x).Pairwise (· < ·))(A:∀x,(nbW ts x).length<=1000){d1:D}{dI w:Nat}{z5:Option D}{j:ZLi}{x:Int}{m:Nat}(K:Keeps B S)(Y:B.length<=w)
  (G:S[dI]?=some (.dK (mD L))) (H:S[w]?=some (.lst ((j++[x]).map D.int))) (I:(x,((m+1:Nat):Int))∈L) (hl:j.length<=1000) :
  ∃y ϥ C,sZ W [sR q,some d1,sI s,sR dI,sR w,z5] S=oN [sR q,some d1,sI s,sR dI,sR w,ϥ] C/\Keeps B C/\(dI≠w->C[dI]?=some (.dK (mD L)))/\C[w]?=some (.lst ((j++[x]++[y]).map D.int))/\(y,(m:Int))∈L/\(Eb (nbW ts) L x).headD 0=y:=by
 obtain⟨y,l,O,E⟩:=o.next X I (by omega);rw[show((m+1:Nat):Int) - 1=m by omega]at E;have vn:=o.rng _ I
 obtain⟨xn,J⟩:∃n:Nat,x=n:=⟨x.toNat,by omega⟩
 have Q:x∈A2 L:=Cb.mpr ⟨_,I⟩;have Z:Bu 5 (Y6 4) [sR q,some d1,sI s,sR dI,sR w,z5] S=oN [sR q,some d1,sI s,sR dI,sR w,sI x] S:=Ic (i:=5) (Dh (y:=.int (-1)) (S2:=S) rfl rfl (WD H))
 have c1:Cd 2 (Lw W) (AU (AE 0) (AU (AE 5) BY)) [sR q,some d1,sI s,sR dI,sR w,sI x] S=.ok (.tup ((nbW ts x).map D.int)) S:=by
  refine(Fx (ds:=[.ref q,.int x]) (S1:=S) rfl rfl).trans ?_;unfold nbW;rw[J,Ak];exact Y1 (hw.keeps K) (by omega)
 have k1:=aW (f:=D.int) (P:=λy=>decide (stp L y < stp L x)) (l:=nbW ts x) (v:=JE ((nbW ts x).map D.int)) (cd:=mB (m2 ltD (m2 ixA (AE 4) (AE 0)) (m2 ixA (AE 4) (AE 6)))) (e:=[sR q,some d1,sI s,sR dI,sR w,sI x]) (S:=S) rfl (by have:=A x;omega)
  (λy E=>Rc (Dh (Dh rfl rfl (UT G o.nd (o.near_has Q E))) (Dh rfl rfl (UT G o.nd Q)) (Xr rfl)))
 have R:=Oq ((OF (n:=1) (g:=tgN 0) (m:=AE 0) (N6 c1)).trans k1);have T:(nbW ts x).filter (λy=>decide (stp L y < stp L x))=y :: l:=O;rw[T]at R
 have N:(y :: l).Pairwise (· < ·):=by rw[<-T];exact(Ϥ x).filter _
 have m1:=dH (f:=Ny) (Yn R (EK (DX S (.lst ((y :: l).map D.int))))) (eD N _);have U:=(Keeps.app S [.lst ((y :: l).map D.int)]).at H;have a1:=RZ (mo:=AE 4) (e:=[sR q,some d1,sI s,sR dI,sR w,sI x]) rfl H m1 U (by rw[AF,AK,Al];exact A5 (show j.length+1<=2000 by omega) (by decide));refine⟨y,_,_,(B5 Z).trans (EZ a1),(K.trans (Keeps.app _ _)).set Y _,λtU=>?_,?_,E,?_⟩
 ·rw[A1 (CY tU)]
  exact(Keeps.app S _).at G
 ·rw[BH (AD.mp U).1,BG (l₁:=j++[x])]
  rfl
 ·rw[O];rfl
theorem mJ{S:Sto}(hw:JP W S q p ts)(Y:p<=60)(O:∀x:Int,0<=x->x < p->∀y∈nbW ts x,0<=y/\y < p)(o:∀x,(nbW ts x).length<=1000)(Z:∀x y:Int,0<=x->0<=y->y∈nbW ts x->x∈nbW ts y)(Ϥ:∀x,(nbW ts x).Pairwise (· < ·)){one:Int}(ho:0<=one/\one < p)(E:0<=s/\s < p){i:Nat}(hi:(Rn (nbW ts) s i).length<=i) :
  ∃d S',HV W [.ref q,.int one,.int s] S=.ok d S'/\Keeps S S'/\((one∉A2 (Rn (nbW ts) s i)/\d=.non)∨one∈A2 (Rn (nbW ts) s i)/\∃w,d=.ref w/\S.length<=w/\S'[w]?=some (.lst ((E0 (nbW ts) (Rn (nbW ts) s i) (stp (Rn (nbW ts) s i) one).toNat one).map D.int))):=by
 obtain⟨S1,j,c1,B,A,hj⟩:=cX hw Y O o E;rw[<-gW hi hj]at A;have l:Fd (nbW ts) p s (Rn (nbW ts) s i):=(ON O E i).fd hi;generalize Rn (nbW ts) s i=L at A l ⊢;have P:Cd 2 (Cg W) (AU (AE 0) (AU (AE 1) BY)) [sR q,sI one,sI s,none,none,none] S=.ok .non S:=(Fx (ds:=[.ref q,.int one]) (S1:=S) rfl rfl).trans (Q1 hw ho);have Q:Cd 2 (Cg W) (AU (AE 0) (AU (AE 2) BY)) [sR q,sI one,sI s,none,none,none] S=.ok .non S:=(Fx (ds:=[.ref q,.int s]) (S1:=S) rfl rfl).trans (Q1 hw E);have R:Bu 3 (Cd 2 (IM W) (AU (AE 0) (AU (AE 2) BY))) [sR q,sI one,sI s,none,none,none] S=oN [sR q,sI one,sI s,sR S.length,none,none] S1:=Ic (i:=3) ((Fx (ds:=[.ref q,.int s]) (S1:=S) rfl rfl).trans c1);have t4:mB (m2 (inA true) (AE 1) (AE 3)) [sR q,sI one,sI s,sR S.length,none,none] S1=.ok (!decide (one∈A2 L)) S1:=Rc (Dh rfl rfl (fM A true one));have C:=PY (a:=EY (mC .non)) (b:=sNx) t4
 by_cases c:one∈A2 L
 ·rw[wX c]at C
  have s4:Bu 4 (DV (De (AU (AE 1) BY))) [sR q,sI one,sI s,sR S.length,none,none] S1=oN [sR q,sI one,sI s,sR S.length,sR S1.length,none] (S1++[.lst [.int one]]):=rfl;have G:=Yi l.nd c;have yR:=l.nn _ G
  obtain⟨n,T⟩:∃n:Nat,stp L one=n:=⟨(stp L one).toNat,by dsimp only at yR;omega⟩
  have U:S.length < S1.length:=(AD.mp A).1;have uO:=l.far _ G
  have Ϧ:n<=900:=by dsimp only at uO;omega
  obtain⟨e',S2,X,z5,rfl,K2,w2⟩:=QS (t:=mB (m2 (eqD true) (Y6 4) (AE 2))) (b:=sZ W)
   (λk e S'=>∃(g:ZLi) (x:Int) (z5:Option D),e=[sR q,sI one,sI s,sR S.length,sR S1.length,z5]/\Keeps S1 S'/\S'[S1.length]?=some (.lst ((g++[x]).map D.int))/\(x,(k:Int))∈L/\g++E0 (nbW ts) L k x=E0 (nbW ts) L n one)
   (λe S'=>∃z5,e=[sR q,sI one,sI s,sR S.length,sR S1.length,z5]/\Keeps S1 S'/\S'[S1.length]?=some (.lst ((E0 (nbW ts) L n one).map D.int)))
   (by
    rintro k e S' ⟨g,x,z5,rfl,K,H,I,J⟩;have t:mB (m2 (eqD true) (Y6 4) (AE 2)) [sR q,sI one,sI s,sR S.length,sR S1.length,z5] S'=.ok (decide (x≠s)) S':=Rc (Dh (Dh (y:=.int (-1)) (S2:=S') rfl rfl (WD H)) rfl (oV rfl))
    cases k with
    | zero=>
     have ϧ:=l.zero _ I rfl;refine .inl ⟨S',?_,z5,rfl,K,?_⟩
     ·rw[t,wY (λh=>h ϧ)]
     ·rw[H,<-J];rfl
    | succ m=>
     have ϧ:x≠s:=λe=>by
      have N:=FV l.nd I;rw[e,FV l.nd l.src]at N;omega
     have tX:g.length<=1000:=by
      have N:=congrArg EB J;rw[AK,IU,IU]at N;have X:n<=900:=Ϧ;omega
     obtain⟨y,ϥ,S3,g1,g2,g3,g4,g5,g6⟩:=b9 (d1:=.int one) (dI:=S.length) (w:=S1.length) (z5:=z5) (hw.keeps B) l Z Ϥ o K (AN _) (K.at A) H I tX;refine .inr ⟨S',_,S3,m,?_,g1,CG m,g++[x],y,ϥ,rfl,g2,g4,g5,?_⟩
     ·rw[t,wX ϧ]
     ·rw[<-J,A8]
      show g++([x]++E0 (nbW ts) L m y)=g++(x :: E0 (nbW ts) L m ((Eb (nbW ts) L x).headD 0));rw[g6]
      rfl)
   wN n [sR q,sI one,sI s,sR S.length,sR S1.length,none] (S1++[.lst [.int one]])
   ⟨[],one,none,rfl,Keeps.app _ _,DX _ _,by rw[<-T];exact G,rfl⟩ (show n < 1000000 by omega)
  refine⟨.ref S1.length,S2,L2.Ih (n:=6) (mb:=Fs W) ?_,B.trans K2,.inr ⟨c,_,rfl,B.1,?_⟩⟩
  ·unfold Fs
   exact(B5 (EZ P)).trans ((B5 (EZ Q)).trans ((B5 R).trans ((B5 (C.trans rfl)).trans ((B5 s4).trans ((B5 X).trans rfl)))))
  ·rw[T,Ak]
   exact w2
 ·rw[wY c]at C
  refine⟨.non,S1,L2.Ih (n:=6) (mb:=Fs W) ?_,B,.inl ⟨c,rfl⟩⟩;unfold Fs;exact(B5 (EZ P)).trans ((B5 (EZ Q)).trans ((B5 R).trans (Xd (C.trans rfl))))
end
section
variable{nb:Int->ZLi}{p:Nat}
theorem Fd.at'{s:Int}{L:Met}(h:Fd nb p s L){x:Int}(g:x∈A2 L):(x,stp L x)∈L:=by
 obtain⟨d,hd⟩:=Cb.mp g;rw[FV h.nd hd];exact hd
theorem Fd.le'{s:Int}{L:Met}(h:Fd nb p s L){x y:Int}(j:x∈A2 L)(l:y∈nb x):y∈A2 L/\stp L y<=stp L x+1:=by
 obtain⟨d,hd,g⟩:=h.cl _ (h.at' j) y l;exact⟨Cb.mpr ⟨d,hd⟩,by rw[FV h.nd hd];exact g⟩
theorem Fd.src'{s:Int}{L:Met}(h:Fd nb p s L):s∈A2 L/\stp L s=0:=⟨Cb.mpr ⟨0,h.src⟩,FV h.nd h.src⟩
def wf(nb:Int->ZLi)(L:Met)(x:Int):Nat->Int
 | 0=>x
 | i+1=>(Eb nb L (wf nb L x i)).headD 0
theorem VJ(L:Met)(x:Int):∀i,wf nb L x (i+1)=wf nb L ((Eb nb L x).headD 0) i
 | 0=>rfl
 | i+1=>by
  show(Eb nb L (wf nb L x (i+1))).headD 0=(Eb nb L (wf nb L ((Eb nb L x).headD 0) i)).headD 0;rw[VJ L x i]
theorem Na(L:Met):∀(n:Nat) (x:Int),E0 nb L n x=(BM (n+1)).map (wf nb L x)
 | 0,x=>rfl
 | n+1,x=>by
  show x :: E0 nb L n _=_;rw[Na L n]
  conv=>rhs;rw[Wh,BB,Bc]
  congr 1
  exact Ci λi _=>(VJ L x i).symm
theorem Fd.bk{s:Int}{L:Met}(h:Fd nb p s L)(g:∀x y:Int,0<=x->0<=y->y∈nb x->x∈nb y){x:Int}{n:Nat}(j:(x,(n:Int))∈L):∀i,i<=n->(wf nb L x i,(n:Int) - i)∈L/\(i < n->wf nb L x (i+1)∈nb (wf nb L x i))
 | 0,_=>by
  have m:(M.wf nb L x 0,(n:Int) - (0:Nat))∈L:=by
   show(x,(n:Int) - (0:Nat))∈L;simpa using j
  refine⟨m,λB=>?_⟩;obtain⟨y,l,e,_⟩:=h.next g m (by lia);show(Eb nb L (M.wf nb L x 0)).headD 0∈_;rw[e]
  have:y∈Eb nb L (M.wf nb L x 0):=by rw[e];exact Ao
  exact(BF.mp this).1
 | i+1,H=>by
  obtain⟨C,_⟩:=Fd.bk h g j i (by lia);obtain⟨y,l,e,E⟩:=h.next g C (by lia)
  have hw:M.wf nb L x (i+1)=y:=by
   show(Eb nb L (M.wf nb L x i)).headD 0=y;rw[e];rfl
  have o:(M.wf nb L x (i+1),(n:Int) - ((i+1:Nat):Int))∈L:=by
   rw[hw,show(n:Int) - ((i+1:Nat):Int)=n - i - 1 by lia];exact E
  refine⟨o,λB=>?_⟩;obtain⟨G,I,A,_⟩:=h.next g o (by omega);show(Eb nb L (M.wf nb L x (i+1))).headD 0∈_;rw[A]
  have:G∈Eb nb L (M.wf nb L x (i+1)):=by rw[A];exact Ao
  exact(BF.mp this).1
theorem Fd.bk_end{s:Int}{L:Met}(h:Fd nb p s L)(g:∀x y:Int,0<=x->0<=y->y∈nb x->x∈nb y){x:Int}{n:Nat}(j:(x,(n:Int))∈L):wf nb L x n=s:=by
 have:=(h.bk g j n (AN _)).1;exact h.zero _ this (by simp)
theorem jj{s:Int}{L:Met}(h:Fd nb p s L){x:Int}(g:x∈A2 L):(x,((stp L x).toNat:Int))∈L:=by
 have j:=h.at' g;have l:=h.nn _ j;rwa [CN l]
end
end M
namespace L4
open L2
def rP3{g j l:Type}(enc:g->D)(s:j->Ob)(A:l->Ob):Rk (g×j×l):=λv o d S=>∃n m,d=.tup [enc v.1,.ref n,.ref m]/\o.length<=n/\S[n]?=some (s v.2.1)/\o.length<=m/\S[m]?=some (A v.2.2)
section
variable{α β γ ρ σ:Type}{A:List Sl}{enc:α->D}{ob:β->Ob}{oc:γ->Ob}
theorem nQ:∀(v:α×β×γ) (S S1:Sto) (d:D) (S':Sto),S.length<=S1.length->rP3 enc ob oc v S1 d S'->rP3 enc ob oc v S d S':=λv _ _ _ _ l ⟨n,m,g,j,o,s,B⟩=>⟨n,m,g,Av l j,o,Av l s,B⟩
theorem Zv{a:ME}{g:Option (List α)}(j:VE A a (rV (eT enc)) g):VI A (P9 a) (eP D.int enc) (g.bind λl=>some (L6 l)):=λv m o e F S s=>by
 obtain⟨l,B,C⟩:=A6 m;cases C;obtain⟨d,E,G,H,rfl⟩:=j l B o e F S s;refine⟨YX (Ha (eT enc l)),E,?_,H,λI J L h=>?_⟩
 ·unfold P9
  rw[G];rfl
 ·show some (O4 (l.map enc))=_
  rw[a7]
theorem Zs{B:σ->List Sl}{ma mb:ME}{p:Option α}{q:Option β}{i k:Nat}{v:γ}(s:VE A ma (rV enc) p)(hb:VE A mb (rN ob) q)(h:A[i]?=some (.w k (oc v))):VS A (EY (KC (AU ma (AU mb (AU (AE i) BY))))) (rP3 enc ob oc) (p.bind λx=>q.bind λy=>some (.rt (x,y,v))) B:=λf C l e F S g=>by
 obtain⟨x,E,G⟩:=A6 C;obtain⟨y,H,I⟩:=A6 G;cases I;obtain⟨d1,J,L,j,rfl⟩:=s x E l e F S g;obtain⟨d2,N,O,o,n,rfl,P,Q⟩:=hb y H l e _ J (g.grow j);obtain⟨z,R,m,rfl,T,U⟩:=g.sl i _ h;exact⟨_,N,Je (XV (B8 L (B8 O (B8 (Tj R) rfl))) (by simp)),_,rfl,⟨n,m,rfl,Av (Av g.kp.1 j.1) P,Q,(g.ow _ _ T).1,(j.trans o).at U⟩,(g.kp.trans j).trans o⟩
theorem cA{R:Rk ρ}{m:ME}{p:Option (α×β×γ)}{i j k:Nat}(h:VE A m (rP3 enc ob oc) p):VS A (Qm m (FR 3 (Bw (tgN i) (Bw (tgN j) (Bw (tgN k) Fj))))) R (p.bind λv=>some (.nx v)) (λv=>((A.set i (.v (enc v.1))).set j (.y (ob v.2.1))).set k (.y (oc v.2.2))):=λf E G e F S o=>by
 obtain⟨v,H,I⟩:=A6 E;cases I;obtain⟨d,s,J,L,n,l,rfl,B,hb,C,N⟩:=h v H G e F S o;have g:=o.grow L;have O:=g.set (a:=.v (enc v.1)) (x:=some (enc v.1)) i rfl;have P:=O.set (a:=.y (ob v.2.1)) (x:=some (.ref n)) j ⟨n,rfl,KG B hb,Av o.kp.1 B⟩;have Q:=P.set (a:=.y (oc v.2.2)) (x:=some (.ref l)) k ⟨l,rfl,KG C N,Av o.kp.1 C⟩;refine⟨.nx (((e.set i (some (enc v.1))).set j (some (.ref n))).set k (some (.ref l))),s,?_,_,_,rfl,Q,o.fle s⟩;unfold Qm;rw[J];rfl
end
def lN:Fl->Option Lo
 | .nx e=>some e
 | .ct e=>some e
 | .bk e=>some e
 | .ex _ e=>some e
 | .rt _=>none
def Sty(i:Nat)(b:MS):Prop:=∀e S f j,b e S=.ok f j->∀g,lN f=some g->g[i]?=e[i]?
section
variable{i:Nat}{a b:MS}
theorem Vg{m:ME}:Sty i (C6 m):=λe S f o h s j=>by
 unfold C6 at h
 cases g:m e S with
 | ok d l=>rw[g]at h;cases h;cases j;rfl
 | err c l=>rw[g]at h;cases h;cases j;rfl
 | bad=>rw[g]at h;cases h
theorem io{j:Nat}{m:ME}(o:j≠i):Sty i (Bu j m):=λe S f A h B l=>by
 unfold Bu Qm at h
 cases g:m e S with
 | ok d s=>rw[g]at h;cases h;cases l;exact A1 o
 | err c s=>rw[g]at h;cases h;cases l;rfl
 | bad=>rw[g]at h;cases h
theorem ip(j:Sty i a)(hb:Sty i b):Sty i (BU a b):=λe S f A h l m=>by
 unfold BU at h
 cases g:a e S with
 | ok B s=>
  rw[g]at h
  cases B with
  | nx o=>exact(hb o s f A h l m).trans (j e S _ s g o rfl)
  | rt d=>cases h;exact j e S _ _ g l m
  | bk o=>cases h;exact j e S _ _ g l m
  | ct o=>cases h;exact j e S _ _ g l m
  | ex c o=>cases h;exact j e S _ _ g l m
 | err c s=>rw[g]at h;cases h
 | bad=>rw[g]at h;cases h
theorem nI{t:MT}(s:Sty i a)(hb:Sty i b):Sty i (sIf t a b):=λe S f m h o g=>by
 unfold sIf at h
 cases j:t e S with
 | ok c l=>
  rw[j]at h
  cases c with
  | true=>exact s e l f m h o g
  | false=>exact hb e l f m h o g
 | err c l=>rw[j]at h;cases h;cases g;rfl
 | bad=>rw[j]at h;cases h
theorem cW{v:Mm}{j:Nat}(H:j≠i)(hb:Sty i b):∀(k n:Nat) (e:Lo) (S:Sto) (f:Fl) (C:Sto),Im v (tgN j) b k n e S=.ok f C->∀l,lN f=some l->l[i]?=e[i]?:=λk=>by
 induction k with
 | zero=>
  intro n e S f C h l g;unfold Im at h
  cases m:v S with
  | none=>rw[m]at h;cases h
  | some E=>
   rw[m]at h;dsimp only at h
   cases hd:E[n]? with
   | none=>rw[hd]at h;cases h;cases g;rfl
   | some d=>rw[hd]at h;cases h
 | succ k G=>
  intro n e S f C h l g;unfold Im at h
  cases m:v S with
  | none=>rw[m]at h;cases h
  | some E=>
   rw[m]at h;dsimp only at h
   cases hd:E[n]? with
   | none=>rw[hd]at h;cases h;cases g;rfl
   | some d=>
    rw[hd]at h;have s:(e.set j (some d))[i]?=e[i]?:=A1 H
    cases A:b (e.set j (some d)) S with
    | ok I J=>
     have B:=hb _ _ _ _ A;unfold tgN at h;dsimp only[Res.bind]at h;rw[A]at h
     cases I with
     | nx o=>exact(G _ _ _ _ _ h l g).trans ((B o rfl).trans s)
     | ct o=>exact(G _ _ _ _ _ h l g).trans ((B o rfl).trans s)
     | rt d=>cases h;cases g
     | bk o=>cases h;cases g;exact(B _ rfl).trans s
     | ex c o=>cases h;cases g;exact(B _ rfl).trans s
    | err c J=>unfold tgN at h;dsimp only[Res.bind]at h;rw[A]at h;cases h
    | bad=>unfold tgN at h;dsimp only[Res.bind]at h;rw[A]at h;cases h
theorem iq{mi:MI}{j:Nat}(m:j≠i)(hb:Sty i b):Sty i (Hb mi (tgN j) b):=λe S f A h o l=>by
 unfold Hb at h
 cases g:mi e S with
 | ok v s=>rw[g]at h;exact cW m hb _ _ _ _ _ _ h o l
 | err c s=>rw[g]at h;cases h;cases l;rfl
 | bad=>rw[g]at h;cases h
end
section
variable{α β:Type}{A:List Sl}{enc:α->D}{ob:β->Ob}{a b m:ME}
theorem iN{p:Option (Option β)}(h:VE A m (rOL ob) p):VE A m (rN ob) (p.bind id):=λv g j e F S l=>by
 obtain⟨o,s,B⟩:=A6 g;cases(show o=some v from B);exact h (some v) s j e F S l
theorem cJ{o:Option Int}{pv:Option α}(G:VE A a (rV D.int) o)(hb:VE A b (rV enc) pv):VE A (Lu a b) (rN (oDK enc)) (o.bind λx=>pv.bind λy=>some [(x,y)]):=λv g s e F S B=>by
 obtain⟨x,H,g⟩:=A6 g;obtain⟨y,I,J⟩:=A6 g;cases J;obtain⟨d,L,N,l,rfl⟩:=G x H s e _ (S++[.dK []]) (B.grow (Keeps.app _ _));obtain⟨d,C,O,E,rfl⟩:=hb y I s e _ L ((B.grow (Keeps.app _ _)).grow l);have at0:C[S.length]?=some (.dK []):=(l.trans E).at (DX S _);refine⟨.ref S.length,C.set S.length (oDK enc [(x,y)]),?_,?_,_,rfl,AN _,?_⟩
 ·unfold Lu
  rw[N];dsimp only[Res.bind];rw[O];dsimp only[Res.bind];rw[at0];rfl
 ·have k:=((Keeps.app S [.dK []]).trans l).trans E
  refine⟨by rw[Ek];exact k.1,λj P=>?_⟩;rw[A1 (by lia)];exact k.2 j P
 ·rw[BH (Ce at0)]
abbrev BR:=Bool ⊕ ZLi
def eS:BR->D
 | .inl b=>.bl b
 | .inr r=>eT D.int r
def dh:BR->Option ZLi
 | .inl _=>none
 | .inr r=>some r
def ntS:BR->Bool
 | .inl b=>!b
 | .inr _=>true
theorem XM{p:Option BR}(h:VE A m (rV eS) p):VE A m (rV (eT D.int)) (p.bind dh):=λv j l e F S s=>by
 obtain⟨o,B,g⟩:=A6 j
 cases o with
 | inl b=>cases g
 | inr r=>
  cases g;exact h (.inr v) B l e F S s
theorem iS{p:Option BR}(h:VE A m (rV eS) p):VE A (m2 Y0 m (mC (.bl true))) (rV D.bl) (p.bind λx=>some (ntS x)):=λv g j e F S l=>by
 obtain⟨o,s,B⟩:=A6 g;cases B;obtain⟨d,C,E,G,rfl⟩:=h o s j e F S l;refine⟨_,C,?_,G,rfl⟩;unfold m2;rw[E]
 cases o <;> rfl
end
end L4
namespace M
open L2 L4
def sf(p:Nat)(ts:List ZPi):Prop:=p<=60/\(∀x:Int,0<=x->x < p->∀y∈nbW ts x,0<=y/\y < p)/\(∀x,(nbW ts x).length<=1000)/\∀x y:Int,0<=x->0<=y->y∈nbW ts x->x∈nbW ts y
theorem bz{W:Wd}{S:Sto}{q:Nat}{w:Nat×List ZPi}(h:S[q]?=some (FY W w)):JP W S q w.1 w.2:=⟨_,h,lJ _ _ _,lH _ _ _,rm _ _ _⟩
open Classical in
def HQ(w:Nat×List ZPi)(one s:Int):Option (Option ZLi):=if (sf w.1 w.2/\∀x,(nbW w.2 x).Pairwise (· < ·))/\(0<=one/\one < w.1)/\(0<=s/\s < w.1)then(if one∈A2 (Rn (nbW w.2) s w.1)then some (some (E0 (nbW w.2) (Rn (nbW w.2) s w.1) (stp (Rn (nbW w.2) s w.1) one).toNat one))else some none)else none
theorem R5(W:Wd)(w:Nat×List ZPi)(one s:Int):VF (HV W) [.z ((FY W) w),.v (D.int one),.v (D.int s)] (rOL (oL D.int)) (HQ w one s):=λv g S C E=>by
 unfold HQ at g;split at g
 ·rename_i ok
  obtain⟨⟨ok,up⟩,G,j⟩:=ok
  match C,E with
  | [d,d2,d3],⟨⟨q,H,I⟩,J,L,_⟩=>
   subst H;cases J;cases L;have N:=(ON ok.2.1 (s:=s) ⟨j.1,j.2⟩ w.1).len;obtain⟨d,o,A,B,O⟩:=mJ (bz I) ok.1 ok.2.1 ok.2.2.1 ok.2.2.2 up G j N
   rcases O with⟨l,m⟩ | ⟨l,n,rfl,m,P⟩
   ·rw[qY l]at g
    cases g;exact⟨_,o,A,B,m⟩
   ·rw[qX l]at g
    cases g;exact⟨_,o,A,B,n,rfl,m,P⟩
 ·cases g
def IE(o:(Nat×List ZPi))(s:ZLi):Option (Fw (Nat×List ZPi) Unit):=
 Ba (some (.nx [])) λA=>Ba (Gq (L6 s) A λ(B:(List ZPi)) m=>Fm (λC=>C) ((SE B m.2 m.1).bind λE=>some (.nx E))) λg=>Ba ((Ec o.2 (λj=>if ((C3 g j.1).isSome)=true then some ((C3 g j.2).isSome)else some false) (λj=>(C3 g j.1).bind λG=>(C3 g j.2).bind λH=>some (G,H))).bind λI=>some (.nx I)) λl=>(XD (g.length:Int) l).bind λJ=>some (.rt J)
def IH(g:(Nat×List ZPi))(j:ZLi):Option (Nat×List ZPi):=LM (IE g j)
theorem Tl(W:Wd)(g:(Nat×List ZPi))(j:ZLi):VF (Ks W) [.z ((FY W) g),.v ((eT D.int) j)] (rN (FY W)) (IH g j):=by
 refine J9 (n:=6) (b:=Kw W) (p:=IE g j) (B:=λ_=>[]) ?_;show VS [.z ((FY W) g),.v ((eT D.int) j),.u,.u,.u,.u] _ _ _ _;unfold Kw IE;exact(BE (Gf VX) (λl=>(BE (Hr (s0:=l) (B:=(λ(m:(List ZPi))=>[.z ((FY W) g),.v ((eT D.int) j),.w 2 ((oDK D.int) m),.u,.u,.u])) (Zv (AM rfl)) TZ (.refl _) (λA C=>(DU (QT rfl (AM rfl) (AM rfl) rfl) (λE=>(.same (.same (.same (.drop (.drop (.same .nil)))))))))) (λG=>(BE (Ge (C9 (VN (VI.k (Lb (iM (Ft rfl)))) (λo=>(Oc (D8 (Yc (AM rfl) (Cv rfl))) (D8 (Yc (AM rfl) (Cv rfl))))) (λo=>(KQ (Nd (Cv rfl) (AM rfl)) (Nd (Cv rfl) (AM rfl))))))) (λs=>(Ta (cD (iR (Cv rfl)) (DF rfl)))))))))
def FI(j:(Nat×List ZPi))(l:ZLi)(g:Int):Option (Fw Unit Unit):=
 (((if decide ((0:Int)<=g)=true then some (decide (g < (j.1:Int)))else some false).bind λm=>some (!m)).bind λo=>if o=true then some true else some (decide (g∈l))).bind λs=>if s=true then none else some (.nx ())
def FK(g:(Nat×List ZPi))(j:ZLi)(l:Int):Option Unit:=rP (FI g j l)
theorem Oe(W:Wd)(g:(Nat×List ZPi))(j:ZLi)(l:Int):VF (EM W) [.z ((FY W) g),.v ((eT D.int) j),.v (D.int l)] (rV eU) (FK g j l):=by
 refine mR (n:=3) (b:=FN W) (p:=FI g j l) (B:=λ_=>[.z ((FY W) g),.v ((eT D.int) j),.v (D.int l)]) ?_;show VS [.z ((FY W) g),.v ((eT D.int) j),.v (D.int l)] _ _ _ _;unfold FN FI;exact(IA (B:=(λ(_:Unit)=>[.z ((FY W) g),.v ((eT D.int) j),.v (D.int l)])) (Ng (QZ (D8 (VY lR lQ (C1 rfl) (AM rfl) (Sd (Ft rfl))))) (D8 (JY CJ (AM rfl) (AM rfl)))) mM (LA (.refl _)))
def FJ(H:(Nat×List ZPi))(m:(List (ZLi×ZLi))):Option (Fw ZLi Unit):=
 Ba (((some []).bind KF).bind λo=>some (.nx o)) λs=>Ba (Gq m s λ(A:ZLi) g=>Ba ((OE A g.2).bind λB=>some (.nx B)) λC=>Fm (λE=>E) (((Ec g.1 (λj=>some (!decide (j∈g.2))) (λj=>some j)).bind SL).bind λG=>(Ra C G).bind λϨ=>some (.nx Ϩ))) λl=>some (.rt (CO l))
def FL(g:(Nat×List ZPi))(j:(List (ZLi×ZLi))):Option ZLi:=LM (FJ g j)
theorem Of(W:Wd)(g:(Nat×List ZPi))(j:(List (ZLi×ZLi))):VF (HD W) [.z ((FY W) g),.z ((oL (eP (eT D.int) (eT D.int))) j)] (rV (eT D.int)) (FL g j):=by
 refine J9 (n:=5) (b:=HE W) (p:=FJ g j) (B:=λ_=>[]) ?_;show VS [.z ((FY W) g),.z ((oL (eP (eT D.int) (eT D.int))) j),.u,.u,.u] _ _ _ _;unfold HE FJ;exact(BE (Gf (C9 (Fi Hs))) (λl=>(BE (Hr (s0:=l) (B:=(λ(m:ZLi)=>[.z ((FY W) g),.z ((oL (eP (eT D.int) (eT D.int))) j),.w 2 ((oL D.int) m),.u,.u])) (OZ rfl) TZ (.refl _) (λA C=>(BE (iF rfl (AM rfl) rfl) (λE=>(DU (M5 rfl (Ya (Tc (Em (C9 (EI (VI.k (Lb (AM rfl))) (λo=>(D8 (Nc CJ (AM rfl) (AM rfl)))) (λo=>(AM rfl))))))) rfl) (λG=>(.same (.same (.same (.drop (.drop .nil))))))))))) (λs=>(FT (G5 (Em (QW (Cv rfl)))))))))
def HM(B:(Nat×List ZPi))(C:ZLi)(o:Int)(s:Int):Option (Fw ZLi Unit):=
 Ba (((((some (o :: (s :: []))).bind KF).bind λE=>OE C E).bind λG=>some (CO G)).bind λH=>some (.nx H)) λg=>Ba (((((IH B g).bind λϩ=>((RC g o).bind λϪ=>((RC g s).bind λI=>some (I,())).bind λj=>some (Ϫ,j)).bind λJ=>some (ϩ,J)).bind λl=>HQ l.1 l.2.1 l.2.2.1).bind id).bind λϫ=>some (.nx ϫ)) λm=>(Ec m (λA=>some true) (λA=>atI g A)).bind λL=>some (.rt L)
def HP(g:(Nat×List ZPi))(j:ZLi)(l:Int)(m:Int):Option ZLi:=LM (HM g j l m)
theorem R4(W:Wd)(j:(Nat×List ZPi))(l:ZLi)(m:Int)(o:Int):VF (Jj W) [.z ((FY W) j),.v ((eT D.int) l),.v (D.int m),.v (D.int o)] (rN (oL D.int)) (HP j l m o):=by
 refine J9 (n:=6) (b:=Jn W) (p:=HM j l m o) (B:=λ_=>[]) ?_;show VS [.z ((FY W) j),.v ((eT D.int) l),.v (D.int m),.v (D.int o),.u,.u] _ _ _ _;unfold Jn HM;exact(BE (DH (G5 (Em (Sb (Yd (AM rfl) (cE (Gg (AM rfl) (Gg (AM rfl) Hs)))))))) (λE=>(BE (Ge (iN (Dd (Od (Em (Dd (Od (Ft rfl) (E1 (AM rfl) EX)) (λg=>Tl W g.1 g.2.1) (λ_=>rfl) Vt)) (E1 (VW (AM rfl) (AM rfl)) (E1 (VW (AM rfl) (AM rfl)) EX))) (λs=>R5 W s.1 s.2.1 s.2.2.1) (λ_=>rfl) nR))) (λA=>(Ta (C9 (EI (VI.k (iL rfl)) (λC=>Nf) (λC=>(Oa (AM rfl) (AM rfl))))))))))
def Fu(I:(Nat×List ZPi))(J:(List (ZLi×ZLi)))(l:ZLi)(m:Int):Option (Fw ZLi Unit):=
 Ba ((FK I l m).bind λ_=>some (.nx ())) λ_=>Ba (((Ec J (λo=>some (decide (m∈o.1))) (λo=>some o)).bind λs=>atI s (0:Int)).bind λL=>some (.nx L)) λA=>Ba (((Ec l (λj=>if (decide (j∈A.1))=true then some (!decide (j∈A.2))else some false) (λj=>some j)).bind λB=>atI B (0:Int)).bind λN=>some (.nx N)) λC=>Ba ((HP I A.2 C m).bind λE=>some (.nx E)) λg=>Ba (some (.nx (dzP g (Gv g (some (1:Int)) none)))) λG=>(Ec l (λH=>some true) (λH=>some ((C3 G H).getD H))).bind λO=>some (.rt O)
def Fv(g:(Nat×List ZPi))(j:(List (ZLi×ZLi)))(l:ZLi)(m:Int):Option ZLi:=LM (Fu g j l m)
theorem Pn(W:Wd)(g:(Nat×List ZPi))(j:(List (ZLi×ZLi)))(l:ZLi)(m:Int):VF (C8 W) [.z ((FY W) g),.z ((oL (eP (eT D.int) (eT D.int))) j),.v ((eT D.int) l),.v (D.int m)] (rV (eT D.int)) (Fv g j l m):=by
 refine J9 (n:=8) (b:=Fy W) (p:=Fu g j l m) (B:=λ_=>[]) ?_;show VS [.z ((FY W) g),.z ((oL (eP (eT D.int) (eT D.int))) j),.v ((eT D.int) l),.v (D.int m),.u,.u,.u,.u] _ _ _ _;unfold Fy Fu;exact(BE (iG (Dd (Od (Ft rfl) (E1 (AM rfl) (E1 (AM rfl) EX))) (λs=>Oe W s.1 s.2.1 s.2.2.1) (λ_=>rfl) Lp)) (λ_=>(BE (DH (D7 (Em (C9 (EI (VI.k (OZ rfl)) (λA=>(D8 (JY CJ (AM rfl) (QY (AM rfl))))) (λA=>(AM rfl))))) (C1 rfl))) (λJ=>(BE (DH (D7 (Em (C9 (EI (VI.k (Lb (AM rfl))) (λC=>(Oc (D8 (JY CJ (AM rfl) (QY (AM rfl)))) (D8 (Nc CJ (AM rfl) (XG (AM rfl)))))) (λC=>(AM rfl))))) (C1 rfl))) (λE=>(BE (Ge (Dd (Od (Ft rfl) (E1 (XG (AM rfl)) (E1 (AM rfl) (E1 (AM rfl) EX)))) (λo=>R4 W o.1 o.2.1 o.2.2.1 o.2.2.2.1) (λ_=>rfl) Vt)) (λG=>(BE (Ge (XN (DF rfl) (Em (Ti (DF rfl) (Nb (C1 rfl)) Tb)))) (λH=>(FT (G5 (Em (C9 (EI (VI.k (Lb (AM rfl))) (λI=>Nf) (λI=>(Th (DF rfl) (AM rfl) (AM rfl))))))))))))))))))
def JK(g:ZLi)(j:Int):Option (Fw Int Unit):=
 Ba (if (decide (j < (g.length:Int)))=true then((atI g j).bind λl=>(T9 (10:Int) (60:Int)).bind λϬ=>SK l Ϭ).bind λm=>some (.rt m)else some (.nx ())) λ_=>some (.rt (0:Int))
def E6(g:ZLi)(j:Int):Option Int:=LM (JK g j)
theorem JG(W:Wd)(g:ZLi)(j:Int):VF (GP W) [.v (eF g),.v (D.int j)] (rV D.int) (E6 g j):=by
 refine J9 (n:=2) (b:=MF W) (p:=JK g j) (B:=λ_=>[]) ?_;show VS [.v (eF g),.v (D.int j)] _ _ _ _;unfold MF JK;exact(BE (IA (B:=(λ(_:Unit)=>[.v (eF g),.v (D.int j)])) (D8 (cF (AM rfl) (iQ (AM rfl)))) (FT (M6 (mT (AM rfl) (AM rfl)) (XH (C1 rfl) (C1 rfl)))) (LA (.refl _))) (λ_=>(FT (C1 rfl))))
def IG(l:Int)(g:Int):Option (Fw Int Unit):=
 Ba (some (.nx ((((l % 2147483647)+g) * 48271) % 2147483647))) λj=>Ba (((aO j j).bind λm=>some (m % 2147483629)).bind λo=>some (.nx o)) λs=>((((aO (7919:Int) g).bind λA=>some (s+A)).bind λB=>some (B * 69621)).bind λC=>some (C % 2147483629)).bind λϭ=>some (.rt ϭ)
def Gk(g:Int)(j:Int):Option Int:=LM (IG g j)
theorem Nh(W:Wd)(g:Int)(j:Int):VF (IP W) [.v (D.int g),.v (D.int j)] (rV D.int) (Gk g j):=by
 refine J9 (n:=3) (b:=Kz W) (p:=IG g j) (B:=λ_=>[]) ?_;show VS [.v (D.int g),.v (D.int j),.u] _ _ _ _;unfold Kz IG;exact(BE (DH (JF rfl (YY rfl (EV (JF rfl (AM rfl)) (AM rfl))))) (λl=>(BE (DH (JF rfl (XJ (AM rfl) (AM rfl)))) (λm=>(FT (JF rfl (YY rfl (EV (AM rfl) (XJ (C1 rfl) (AM rfl))))))))))
def IF(m:Int)(o:Int):Option (Fw ZLi Unit):=
 Ba (((some []).bind KF).bind λs=>some (.nx s)) λA=>Ba (((some o).bind T7).bind λg=>Gq g A λ(B:ZLi) j=>Fm (λC=>C) ((((Gk m ((7000:Int)+j)).bind λE=>some (E / 8)).bind λϭ=>SK ϭ (j+(1:Int))).bind λϪ=>(jy B Ϫ j).bind λG=>some (.nx G))) λl=>some (.rt l)
def II(g:Int)(j:Int):Option ZLi:=LM (IF g j)
theorem To(W:Wd)(g:Int)(j:Int):VF (Kt W) [.v (D.int g),.v (D.int j)] (rN (oL D.int)) (II g j):=by
 refine J9 (n:=4) (b:=Ky W) (p:=IF g j) (B:=λ_=>[]) ?_;show VS [.v (D.int g),.v (D.int j),.u,.u] _ _ _ _;unfold Ky IF;exact(BE (Gf (C9 (Fi Hs))) (λo=>(BE (Hr (s0:=o) (B:=(λ(m:ZLi)=>[.v (D.int g),.v (D.int j),.w 2 ((oL D.int) m),.u])) (IV (AM rfl)) ID (.refl _) (λA C=>(DU (mK rfl (M6 (Lc rfl (Dd (E1 (AM rfl) (E1 (EV (C1 rfl) (AM rfl)) EX)) (λl=>Nh W l.1 l.2.1) (λ_=>rfl) Lp)) (EV (AM rfl) (C1 rfl))) (AM rfl) rfl) (λE=>(.same (.same (.same (.drop .nil)))))))) (λs=>(YU rfl)))))
def JI(B:(List ZPi))(l:Int)(C:ZLi):Option (Fw (List ZPi) Unit):=
 Ba (some (.nx B)) λE=>Ba (Gq C E λ(m:(List ZPi)) s=>Ba ((SK s l).bind λG=>some (.nx G)) λg=>Ba (((ZM s l).bind λH=>SK H l).bind λI=>some (.nx I)) λj=>Ba (some (.nx ((if j < g then j else g),(if j > g then j else g)))) λA=>Fm (λJ=>J) ((if (!decide (g=j))=true then some (!inG A m)else some false).bind λL=>if L=true then Fm (λN=>N) ((Ra m A).bind λϮ=>some (.nx Ϯ))else some (.nx m))) λo=>some (.rt (PL o))
def JL(g:(List ZPi))(j:Int)(l:ZLi):Option (List ZPi):=LM (JI g j l)
theorem Vb(W:Wd)(g:(List ZPi))(j:Int)(l:ZLi):VF (Lx W) [.z ((oL (eP D.int D.int)) g),.v (D.int j),.z ((oL D.int) l)] (rN (oL (eP D.int D.int))) (JL g j l):=by
 refine J9 (n:=8) (b:=MC W) (p:=JI g j l) (B:=λ_=>[]) ?_;show VS [.z ((oL (eP D.int D.int)) g),.v (D.int j),.z ((oL D.int) l),.u,.u,.u,.u,.u] _ _ _ _;unfold MC JI;exact(BE (Gf (C9 (Td (Tc (Ft rfl))))) (λs=>(BE (Hr (s0:=s) (B:=(λ(m:(List ZPi))=>[.z ((oL (eP D.int D.int)) g),.v (D.int j),.z ((oL D.int) l),.w 3 ((oL (eP D.int D.int)) m),.u,.u,.u,.u])) (OZ rfl) ID (.refl _) (λI A=>(BE (DH (M6 (AM rfl) (AM rfl))) (λC=>(BE (DH (M6 (iT (AM rfl) (AM rfl)) (AM rfl))) (λE=>(BE (DH (KQ (YZ (AM rfl) (AM rfl)) (iO (AM rfl) (AM rfl)))) (λG=>(DU (IA (B:=(λ(o:(List ZPi))=>[.z ((oL (eP D.int D.int)) g),.v (D.int j),.z ((oL D.int) l),.w 3 ((oL (eP D.int D.int)) o),.v (D.int A),.v (D.int C),.v (D.int E),.v ((eP D.int D.int) G)])) (Oc (D8 (QX CJ Kg (AM rfl) (AM rfl))) (D8 (Tf (fk CJ CJ) (AM rfl) (Cv rfl)))) (DU (M5 rfl (AM rfl) rfl) (λJ=>(.refl _))) (LA (.refl _))) (λL=>(.same (.same (.same (.same (.drop (.drop (.drop (.drop .nil)))))))))))))))))) (λH=>(Ta (VU (Cv rfl)))))))
def JJ(T:(List ZLi))(P:(List (ZLi×ZLi)))(Q:ZLi)(R:Int)(g:ZLi):Option (Fw Bool Unit):=
 Ba ((if (!true)=true then some true else if (!decide ((g.length:Int)=(Q.length:Int)))=true then some true else((some g).bind Z7).bind λU=>some (!decide (U=(g.length:Int)))).bind λl=>if l=true then some (.rt false)else some (.nx ())) λ_=>Ba (((Ec P (λm=>some (decide (R∈m.1))) (λm=>some m.1)).bind λo=>atI o (0:Int)).bind λX=>some (.nx X)) λY=>Ba (((some (g.length:Int)).bind T7).bind λs=>Gq s () λ(_:Unit) j=>Ba (((((atI g j).bind λyn=>some true).bind λϯ=>some (!ϯ)).bind λϰ=>if ϰ=true then some true else(atI g j).bind λZ=>some false).bind λvS=>if vS=true then some (.rt false)else some (.nx ())) λ_=>Ba ((atI Q j).bind λvb=>some (.nx vb)) λA=>Fm (λ_=>()) ((((atI g j).bind λϱ=>some (!decide (ϱ=A))).bind λzt=>if zt=true then((atI g j).bind λB=>(atI T A).bind λC=>some (!decide (B∈C))).bind λE=>if E=true then some true else some (!decide (A∈Y))else some false).bind λwo=>if wo=true then some (.rt false)else some (.nx ()))) λ_=>Ba (if (!decide (R∈g))=true then some (.rt false)else some (.nx ())) λ_=>Ba (Gq P () λ(_:Unit) G=>Ba ((Ec g (λH=>some (decide (H∈G.1))) (λH=>some H)).bind λI=>some (.nx I)) λS=>Fm (λ_=>()) ((if (!decide ((S.length:Int)=((G.2.length:Int)+(1:Int))))=true then some true else((Ec G.2 (λJ=>some (!decide (J∈S))) (λJ=>some J)).bind λL=>some (L.length:Int)).bind λN=>some (decide ((0:Int) < N))).bind λO=>if O=true then some (.rt false)else some (.nx ()))) λ_=>some (.rt true)
def JM(g:(List ZLi))(j:(List (ZLi×ZLi)))(l:ZLi)(m:Int)(o:ZLi):Option Bool:=LM (JJ g j l m o)
theorem Vc(W:Wd)(g:(List ZLi))(j:(List (ZLi×ZLi)))(l:ZLi)(m:Int)(o:ZLi):VF (Ly W) [.q (Nst D.int g),.z ((oL (eP (eT D.int) (eT D.int))) j),.v ((eT D.int) l),.v (D.int m),.v ((eT D.int) o)] (rV D.bl) (JM g j l m o):=by
 refine J9 (n:=11) (b:=MD W) (p:=JJ g j l m o) (B:=λ_=>[]) ?_;show VS [.q (Nst D.int g),.z ((oL (eP (eT D.int) (eT D.int))) j),.v ((eT D.int) l),.v (D.int m),.v ((eT D.int) o),.u,.u,.u,.u,.u,.u] _ _ _ _;unfold MD JJ;exact(BE (IA (B:=(λ(_:Unit)=>[.q (Nst D.int g),.z ((oL (eP (eT D.int) (eT D.int))) j),.v ((eT D.int) l),.v (D.int m),.v ((eT D.int) o),.u,.u,.u,.u,.u,.u])) (Ng (QZ (D8 (cG (t:="tuple") (r:=true) (T:="tuple") (AM rfl) (λ_ _=>rfl) (by decide +kernel)))) (Ng (D8 (QX CJ Kg (MP (AM rfl)) (MP (AM rfl)))) (D8 (QX CJ Kg (Zw (AM rfl)) (MP (AM rfl)))))) (FT (C1 rfl)) (LA (.refl _))) (λ_=>(BE (DH (D7 (Em (C9 (VN (VI.k (OZ rfl)) (λE=>(D8 (JY CJ (AM rfl) (AM rfl)))) (λE=>(AM rfl))))) (C1 rfl))) (λs=>(BE (Hr (s0:=()) (B:=(λ(_:Unit)=>[.q (Nst D.int g),.z ((oL (eP (eT D.int) (eT D.int))) j),.v ((eT D.int) l),.v (D.int m),.v ((eT D.int) o),.v ((eT D.int) s),.u,.u,.u,.u,.u])) (IV (MP (AM rfl))) ID (.refl _) (λ_ A=>(BE (IA (B:=(λ(_:Unit)=>[.q (Nst D.int g),.z ((oL (eP (eT D.int) (eT D.int))) j),.v ((eT D.int) l),.v (D.int m),.v ((eT D.int) o),.v ((eT D.int) s),.v (D.int A),.u,.u,.u,.u])) (Ng (QZ (D8 (cG (t:="int") (r:=true) (T:="int") (Oa (AM rfl) (AM rfl)) (λ_ _=>rfl) (by decide +kernel)))) (D8 (cG (t:="bool") (r:=false) (T:="int") (Oa (AM rfl) (AM rfl)) (λ_ _=>rfl) (by decide +kernel)))) (FT (C1 rfl)) (LA (.refl _))) (λ_=>(BE (DH (Oa (AM rfl) (AM rfl))) (λG=>(DU (IA (B:=(λ(_:Unit)=>[.q (Nst D.int g),.z ((oL (eP (eT D.int) (eT D.int))) j),.v ((eT D.int) l),.v (D.int m),.v ((eT D.int) o),.v ((eT D.int) s),.v (D.int A),.v (D.int G),.u,.u,.u])) (Oc (D8 (QX CJ Kg (Oa (AM rfl) (AM rfl)) (AM rfl))) (Ng (D8 (Tf CJ (Oa (AM rfl) (AM rfl)) (mS rfl (AM rfl)))) (D8 (Nc CJ (AM rfl) (AM rfl))))) (FT (C1 rfl)) (LA (.refl _))) (λ_=>(.same (.same (.same (.same (.same (.same (.drop (.drop (.same (.same (.same .nil))))))))))))))))))) (λ_=>(BE (IA (B:=(λ(_:Unit)=>[.q (Nst D.int g),.z ((oL (eP (eT D.int) (eT D.int))) j),.v ((eT D.int) l),.v (D.int m),.v ((eT D.int) o),.v ((eT D.int) s),.u,.u,.u,.u,.u])) (D8 (Nc CJ (AM rfl) (AM rfl))) (FT (C1 rfl)) (LA (.refl _))) (λ_=>(BE (Hr (s0:=()) (B:=(λ(_:Unit)=>[.q (Nst D.int g),.z ((oL (eP (eT D.int) (eT D.int))) j),.v ((eT D.int) l),.v (D.int m),.v ((eT D.int) o),.v ((eT D.int) s),.u,.u,.u,.u,.u])) (OZ rfl) TZ (.refl _) (λ_ C=>(BE (Ge (C9 (EI (VI.k (Lb (AM rfl))) (λH=>(D8 (JY CJ (AM rfl) (AM rfl)))) (λH=>(AM rfl))))) (λI=>(DU (IA (B:=(λ(_:Unit)=>[.q (Nst D.int g),.z ((oL (eP (eT D.int) (eT D.int))) j),.v ((eT D.int) l),.v (D.int m),.v ((eT D.int) o),.v ((eT D.int) s),.u,.u,.v ((eT D.int) C.1),.v ((eT D.int) C.2),.y ((oL D.int) I)])) (Ng (D8 (QX CJ Kg (MQ (DF rfl)) (EV (MP (AM rfl)) (C1 rfl)))) (D8 (k8 (MQ (Em (C9 (EI (VI.k (Lb (AM rfl))) (λJ=>(D8 (Tf CJ (AM rfl) (DF rfl)))) (λJ=>(AM rfl)))))) (C1 rfl)))) (FT (C1 rfl)) (LA (.refl _))) (λ_=>(.same (.same (.same (.same (.same (.same (.same (.same (.drop (.drop (.drop .nil))))))))))))))))) (λ_=>(FT (C1 rfl))))))))))))
def Ka(R:(List ZLi))(X:ZLi)(Y:Int)(o:Int):Option (Fw ZLi Unit):=
 Ba ((some [(o,(0:Int))]).bind λZ=>some (.nx Z)) λv1=>Ba (((some (o :: [])).bind KF).bind λx8=>some (.nx x8)) λv5=>Ba (some (.nx (0:Int))) λv9=>Ba (whF (λ(g:(List ZPi)×ZLi×Int)=>some (decide (g.2.2 < (g.2.1.length:Int)))) (λ(g:(List ZPi)×ZLi×Int)=>Ba (((atI g.2.1 g.2.2).bind λvz=>atI R vz).bind λs=>Gq s (g.1,g.2.1) λ(j:(List ZPi)×ZLi) m=>Fm (λS=>(S.1,S.2)) ((if (decide (m∈X))=true then some (!(C3 j.1 m).isSome)else some false).bind λvb=>if vb=true then Ba ((((atI j.2 g.2.2).bind λzw=>C3 j.1 zw).bind λA=>some (A+(1:Int))).bind λvS=>(SE j.1 m vS).bind λB=>some (.nx B)) λzz=>Fm (λwM=>(zz,wM)) ((Ra j.2 m).bind λC=>some (.nx C))else some (.nx (j.1,j.2)))) λT=>Fm (λE=>(T.1,T.2,E)) (some (.nx (g.2.2+(1:Int))))) wN (v1,v5,v9)) λU=>Ba (((some (Y :: [])).bind KF).bind λwo=>some (.nx wo)) λG=>Ba (whF (λ(l:ZLi)=>(atI l (-(1:Int))).bind λH=>some (!decide (H=o))) (λ(l:ZLi)=>Fm (λw4=>w4) (((((atI l (-(1:Int))).bind λxV=>atI R xV).bind λI=>Ec I (λJ=>(((atI l (-(1:Int))).bind λL=>C3 U.1 L).bind λN=>some (N - (1:Int))).bind λxX=>some (decide (((C3 U.1 J).getD (60:Int))=xX))) (λJ=>some J)).bind λO=>atI O (0:Int)).bind λxY=>(Ra l xY).bind λP=>some (.nx P))) wN G) λQ=>some (.rt Q)
def Kc(g:(List ZLi))(j:ZLi)(l:Int)(m:Int):Option ZLi:=LM (Ka g j l m)
theorem XO(W:Wd)(g:(List ZLi))(j:ZLi)(l:Int)(m:Int):VF (NG W) [.q (Nst D.int g),.v ((eT D.int) j),.v (D.int l),.v (D.int m)] (rN (oL D.int)) (Kc g j l m):=by
 refine J9 (n:=9) (b:=NJ W) (p:=Ka g j l m) (B:=λ_=>[]) ?_;show VS [.q (Nst D.int g),.v ((eT D.int) j),.v (D.int l),.v (D.int m),.u,.u,.u,.u,.u] _ _ _ _;unfold NJ Ka;exact(BE (Gf (cJ (AM rfl) (C1 rfl))) (λI=>(BE (Gf (C9 (Fi (Gg (AM rfl) Hs)))) (λJ=>(BE (DH (C1 rfl)) (λL=>(BE (VM (s0:=(I,J,L)) (B:=(λ(o:(List ZPi)×ZLi×Int)=>[.q (Nst D.int g),.v ((eT D.int) j),.v (D.int l),.v (D.int m),.w 4 ((oDK D.int) o.1),.w 5 ((oL D.int) o.2.1),.v (D.int o.2.2),.u,.u])) (.refl _) (λs=>(D8 (cF (AM rfl) (MQ (Cv rfl))))) (λs=>(BE (Hr (s0:=(s.1,s.2.1)) (B:=(λ(A:(List ZPi)×ZLi)=>[.q (Nst D.int g),.v ((eT D.int) j),.v (D.int l),.v (D.int m),.w 4 ((oDK D.int) A.1),.w 5 ((oL D.int) A.2),.v (D.int s.2.2),.u,.u])) (cC rfl (D7 (Cv rfl) (AM rfl))) ID (.refl _) (λS N=>(DU (IA (B:=(λ(C:(List ZPi)×ZLi)=>[.q (Nst D.int g),.v ((eT D.int) j),.v (D.int l),.v (D.int m),.w 4 ((oDK D.int) C.1),.w 5 ((oL D.int) C.2),.v (D.int s.2.2),.v (D.int N),.u])) (Oc (D8 (JY CJ (AM rfl) (AM rfl))) (D8 (cI (AM rfl) (Cv rfl)))) (BE (QT rfl (AM rfl) (EV (Nd (Cv rfl) (D7 (Cv rfl) (AM rfl))) (C1 rfl)) rfl) (λT=>(DU (M5 rfl (AM rfl) rfl) (λU=>(.refl _))))) (LA (.refl _))) (λX=>(.same (.same (.same (.same (.same (.same (.same (.drop (.same .nil))))))))))))) (λY=>(DU (DH (EV (AM rfl) (C1 rfl))) (λO=>(.refl _))))))) (λE=>(BE (Gf (C9 (Fi (Gg (AM rfl) Hs)))) (λG=>(BE (VM (s0:=G) (B:=(λ(H:ZLi)=>[.q (Nst D.int g),.v ((eT D.int) j),.v (D.int l),.v (D.int m),.w 4 ((oDK D.int) E.1),.w 5 ((oL D.int) E.2.1),.v (D.int E.2.2),.u,.w 8 ((oL D.int) H)])) (.refl _) (λP=>(D8 (QX CJ Kg (D7 (Cv rfl) (Tg (C1 rfl))) (AM rfl)))) (λP=>(DU (M5 rfl (D7 (Em (C9 (EI (VI.k (cC rfl (D7 (Cv rfl) (Tg (C1 rfl))))) (λQ=>(D8 (cH CJ Kg (Th (Cv rfl) (AM rfl) (C1 rfl)) (Te (Nd (Cv rfl) (D7 (Cv rfl) (Tg (C1 rfl)))) (C1 rfl))))) (λQ=>(AM rfl))))) (C1 rfl)) rfl) (λZ=>(.refl _))))) (λR=>(YU rfl)))))))))))))
def Kb(T:(List ZLi))(U:(List (ZLi×ZLi)))(R:ZLi)(j:Int):Option (Fw ZLi Unit):=
 Ba (((Ec U (λs=>some (decide (j∈s.1))) (λs=>some s)).bind λX=>atI X (0:Int)).bind λY=>some (.nx Y)) λl=>Ba (((Ec l.1 (λm=>if (decide (m∈R))=true then some (!decide (m∈l.2))else some false) (λm=>some m)).bind λA=>atI A (0:Int)).bind λϩ=>some (.nx ϩ)) λg=>Ba (((some (g :: (j :: []))).bind KF).bind λZ=>some (.nx Z)) λB=>Ba (if (decide ((0:Int) < (l.2.length:Int)))=true then Fm (λC=>C) (((((((some (g :: (j :: []))).bind KF).bind λvS=>OE l.2 vS).bind λE=>some (E,(g,(j,())))).bind λG=>some (T,G)).bind λo=>Kc o.1 o.2.1 o.2.2.1 o.2.2.2.1).bind λH=>some (.nx H))else some (.nx B)) λI=>Ba (some (.nx [])) λJ=>Ba (((some ((I.length:Int) - (1:Int))).bind T7).bind λL=>Gq L J λ(N:(List ZPi)) S=>Fm (λw4=>w4) ((atI I (S+(1:Int))).bind λxY=>(atI I S).bind λzB=>(SE N zB xY).bind λO=>some (.nx O))) λP=>(Ec R (λQ=>some true) (λQ=>some ((C3 P Q).getD Q))).bind λxX=>some (.rt xX)
def Kd(g:(List ZLi))(j:(List (ZLi×ZLi)))(l:ZLi)(m:Int):Option ZLi:=LM (Kb g j l m)
theorem XQ(W:Wd)(g:(List ZLi))(j:(List (ZLi×ZLi)))(l:ZLi)(m:Int):VF (NH W) [.q (Nst D.int g),.z ((oL (eP (eT D.int) (eT D.int))) j),.v ((eT D.int) l),.v (D.int m)] (rV (eT D.int)) (Kd g j l m):=by
 refine J9 (n:=10) (b:=NK W) (p:=Kb g j l m) (B:=λ_=>[]) ?_;show VS [.q (Nst D.int g),.z ((oL (eP (eT D.int) (eT D.int))) j),.v ((eT D.int) l),.v (D.int m),.u,.u,.u,.u,.u,.u] _ _ _ _;unfold NK Kb;exact(BE (iI (D7 (Em (C9 (EI (VI.k (OZ rfl)) (λH=>(D8 (JY CJ (AM rfl) (QY (AM rfl))))) (λH=>(AM rfl))))) (C1 rfl))) (λs=>(BE (DH (D7 (Em (C9 (EI (VI.k (Lb (AM rfl))) (λI=>(Oc (D8 (JY CJ (AM rfl) (AM rfl))) (D8 (Nc CJ (AM rfl) (AM rfl))))) (λI=>(AM rfl))))) (C1 rfl))) (λo=>(BE (Ge (C9 (Fi (Gg (AM rfl) (Gg (AM rfl) Hs))))) (λJ=>(BE (IA (B:=(λ(C:ZLi)=>[.q (Nst D.int g),.z ((oL (eP (eT D.int) (eT D.int))) j),.v ((eT D.int) l),.v (D.int m),.v ((eT D.int) s.1),.v ((eT D.int) s.2),.v (D.int o),.y ((oL D.int) C),.u,.u])) (D8 (k8 (MP (AM rfl)) (C1 rfl))) (DU (Ge (Dd (mW rfl (E1 (Yd (AM rfl) (cE (Gg (AM rfl) (Gg (AM rfl) Hs)))) (E1 (AM rfl) (E1 (AM rfl) EX)))) (λA=>XO W A.1 A.2.1 A.2.2.1 A.2.2.2.1) (λ_=>rfl) Vt)) (λL=>(.refl _))) (LA (.refl _))) (λN=>(BE (Gf VX) (λE=>(BE (Hr (s0:=E) (B:=(λ(G:(List ZPi))=>[.q (Nst D.int g),.z ((oL (eP (eT D.int) (eT D.int))) j),.v ((eT D.int) l),.v (D.int m),.v ((eT D.int) s.1),.v ((eT D.int) s.2),.v (D.int o),.y ((oL D.int) N),.w 8 ((oDK D.int) G),.u])) (IV (Te (MQ (DF rfl)) (C1 rfl))) ID (.refl _) (λO R=>(DU (QT rfl (D7 (DF rfl) (AM rfl)) (D7 (DF rfl) (EV (AM rfl) (C1 rfl))) rfl) (λS=>(.same (.same (.same (.same (.same (.same (.same (.same (.same (.drop .nil)))))))))))))) (λP=>(FT (G5 (Em (C9 (EI (VI.k (Lb (AM rfl))) (λQ=>Nf) (λQ=>(Th (Cv rfl) (AM rfl) (AM rfl))))))))))))))))))))
def Dg(G:Int)(H:Int)(j:ZLi)(l:Int)(I:(List ZPi)):Option (Fw Unit (List ZPi)):=
 Fm (λJ=>J) ((i7 (1:Int) (j.length:Int)).bind λm=>Gq m I λ(B:(List ZPi)) g=>Fm (λo=>o) (if (decide (l=(0:Int)))=true then Fm (λL=>L) ((((some g).bind T7).bind λs=>Ec s (λC=>some true) (λC=>(atI j C).bind λN=>(atI j g).bind λO=>some (N,O))).bind λP=>(OE B P).bind λϨ=>some (.nx Ϩ))else Ba ((((((((aO (64:Int) g).bind λQ=>some (H+Q)).bind λR=>some (R,())).bind λϫ=>some (G,ϫ)).bind λE=>Gk E.1 E.2.1).bind λS=>some (S / 8)).bind λT=>SK T (if l < g then l else g)).bind λϰ=>some (.nx ϰ)) λU=>Fm (λX=>X) (((atI j U).bind λY=>(atI j g).bind λϱ=>some (Y,ϱ)).bind λZ=>(Ra B Z).bind λA=>some (.nx A))))
theorem Qd(W:Wd)(g:Int)(j:Int)(l:ZLi)(m:Int)(o:(List ZPi)):VS [.v (D.int g),.v (D.int j),.z ((oL D.int) l),.v (D.int m),.w 4 ((oL (eP D.int D.int)) o),.u,.u] (HX W) (rV eU) (Dg g j l m o) (λ(s:(List ZPi))=>[.v (D.int g),.v (D.int j),.z ((oL D.int) l),.v (D.int m),.w 4 ((oL (eP D.int D.int)) s),.u,.u]):=by
 unfold HX Dg;exact(DU (Hr (s0:=o) (B:=(λ(A:(List ZPi))=>[.v (D.int g),.v (D.int j),.z ((oL D.int) l),.v (D.int m),.w 4 ((oL (eP D.int D.int)) A),.u,.u])) (Zu (C1 rfl) (MQ (Ft rfl))) ID (.refl _) (λJ E=>(DU (IA (B:=(λ(G:(List ZPi))=>[.v (D.int g),.v (D.int j),.z ((oL D.int) l),.v (D.int m),.w 4 ((oL (eP D.int D.int)) G),.v (D.int E),.u])) (D8 (cH CJ Kg (AM rfl) (C1 rfl))) (DU (mL rfl (C9 (EI (VI.k (IV (AM rfl))) (λH=>Nf) (λH=>(KQ (D7 (Ft rfl) (AM rfl)) (D7 (Ft rfl) (AM rfl)))))) rfl) (λL=>(.refl _))) (BE (DH (M6 (Lc rfl (Dd (E1 (AM rfl) (E1 (EV (AM rfl) (XJ (C1 rfl) (AM rfl))) EX)) (λC=>Nh W C.1 C.2.1) (λ_=>rfl) Lp)) (YZ (AM rfl) (AM rfl)))) (λN=>(DU (M5 rfl (KQ (D7 (Ft rfl) (AM rfl)) (D7 (Ft rfl) (AM rfl))) rfl) (λO=>(.same (.same (.same (.same (.same (.same (.drop .nil)))))))))))) (λI=>(.same (.same (.same (.same (.same (.drop (.same .nil))))))))))) (λP=>(.refl _)))
def di{β:Type}(p:Option (Fw Unit β)):Option β:=match p with
 | some (.nx s)=>some s
 | _=>none
theorem XZ(W:Wd):Sty 4 (HX W):=iq (by decide) (nI Vg (ip (io (by decide)) Vg))
theorem cq{S:Sto}{n:Nat}{o:Ob}(h:S[n]?=some o):S.set n o=S:=by
 obtain⟨g,j⟩:=AD.mp h;rw[<-j];exact List.set_getElem_self g
theorem X6(W:Wd){c s i:Int}{I:ZLi}{l R:List ZPi}{S:Sto}{E n:Nat}(hp:S[E]?=some (oL D.int I))(N:S[n]?=some (oL (eP D.int D.int) l))(ne:E≠n)(h:di (Dg c s I i l)=some R) :
  ∃G,HW W [.int c,.int s,.ref E,.int i,.ref n] S=.ok .non G/\Keeps S (G.set n (oL (eP D.int D.int) l))/\G[n]?=some (oL (eP D.int D.int) R):=by
 have T:=Ce N
 cases H:Dg c s I i l with
 | none=>rw[H]at h;cases h
 | some f=>
  cases f with
  | rt r=>rw[H]at h;cases h
  | bk r=>rw[H]at h;cases h
  | ct r=>rw[H]at h;cases h
  | nx r=>
   rw[H]at h;cases h
   let F:Fz:=λk=>if k=n then .ow 4 else match S[k]? with
    | some o=>.fz o
    | none=>.no
   have J:∀k,k≠n->∀o,S[k]?=some o->F k=.fz o:=λk C o ho=>by
    show(if k=n then Cel.ow 4 else _)=_;rw[qY C,ho]
   have L:∀k,k≠n->S[k]?=none->F k=.no:=λk C B=>by
    show(if k=n then Cel.ow 4 else _)=_;rw[qY C,B]
   have U:F n=.ow 4:=qX rfl
   have st:Vs [] [.v (D.int c),.v (D.int s),.z ((oL D.int) I),.v (D.int i),.w 4 ((oL (eP D.int D.int)) l),.u,.u] (E2 7 [.int c,.int s,.ref E,.int i,.ref n]) F S:=by
    refine⟨⟨CZ _,λk C=>zX C (Ep _)⟩,λk o q=>?_,λk j q=>?_,λk C=>?_,λj a A=>?_⟩
    ·by_cases e:k=n
     ·subst e;rw[U]at q;cases q
     ·cases B:S[k]? with
      | none=>rw[L k e B]at q;cases q
      | some O=>rw[J k e O B]at q;cases q;rfl
    ·by_cases e:k=n
     ·subst e;exact⟨CZ _,T⟩
     ·cases B:S[k]? with
      | none=>rw[L k e B]at q;cases q
      | some O=>rw[J k e O B]at q;cases q
    ·have e:k≠n:=λc=>by subst c;exact zX T (JV.mpr C)
     show(if k=n then Cel.ow 4 else _)=_;rw[qY e,CM C]
    ·match j,A with
     | 0,A=>cases A;exact⟨_,rfl,rfl⟩
     | 1,A=>cases A;exact⟨_,rfl,rfl⟩
     | 2,A=>cases A;exact⟨_,rfl,E,rfl,J E ne _ hp⟩
     | 3,A=>cases A;exact⟨_,rfl,rfl⟩
     | 4,A=>cases A;exact⟨_,rfl,n,rfl,U,N⟩
     | 5,A=>cases A;exact⟨_,rfl,trivial⟩
     | 6,A=>cases A;exact⟨_,rfl,trivial⟩
     | k+7,A=>simp at A
   obtain⟨g,G,X,e',F',rfl,P,Y⟩:=Qd W c s I i l _ H _ _ _ _ st;have Z:=XZ W _ _ _ _ X _ rfl;obtain⟨x,hx,m,rfl,hm,Q⟩:=P.sl 4 _ rfl;rw[hx]at Z;cases Z;refine⟨G,L2.T6 X,⟨?_,λk C=>?_⟩,Q⟩
   ·rw[Ek]
    refine LK λtm=>?_
    by_cases e:G.length=n
    ·have:=Ce Q;lia
    ·have B:=AZ tm
     have:=P.fz _ _ (Y _ _ (J _ e _ B));have:=Ce this
     lia
   ·by_cases e:k=n
    ·subst e
     rw[BH (Ce Q),N]
    ·rw[A1 (CY e)]
     have B:=AZ C;rw[B];exact P.fz _ _ (Y _ _ (J k e _ B))
theorem Zt(W:Wd){ρ:Type}{R:Rk ρ}{A:List Sl}{J m2 L:ME}{N O P:Option Int}{i j:Nat}{Q:ZLi}{l:List ZPi}(h1:VE A J (rV D.int) N)(h2:VE A m2 (rV D.int) O)(hj:A[j]?=some (.y (oL D.int Q)))(h4:VE A L (rV D.int) P)(hi:A[i]?=some (.w i (oL (eP D.int D.int) l)))(ht:((A.set i .u).all (Sl.oth i))=true) :
  VS A (C6 (Cd 5 (HW W) (AU J (AU m2 (AU (AE j) (AU L (AU (AE i) BY))))))) R (N.bind λB=>O.bind λC=>P.bind λE=>(di (Dg B C Q E l)).bind λm=>some (.nx m)) (λm=>A.set i (.w i (oL (eP D.int D.int) m))):=λf g G e F S o=>by
 obtain⟨B,a1,g⟩:=A6 g;obtain⟨C,a2,g⟩:=A6 g;obtain⟨E,a4,g⟩:=A6 g;obtain⟨m,a5,g⟩:=A6 g;cases g;obtain⟨d1,S1,c1,H,rfl⟩:=h1 B a1 G e F S o;obtain⟨d2,S2,c2,T,rfl⟩:=h2 C a2 G e _ S1 (o.grow H);obtain⟨d4,U,c4,k4,rfl⟩:=h4 E a4 G e _ S2 ((o.grow H).grow T);have kk:=(H.trans T).trans k4;have s:=o.grow kk;obtain⟨y,g1,X,rfl,Y,g3⟩:=s.sl j _ hj;obtain⟨z,Z,n,rfl,I,w3⟩:=s.sl i _ hi
 have ne:X≠n:=λc=>by subst c;rw[Y]at I;cases I
 obtain⟨S',r1,r2,r3⟩:=X6 W (s.fz _ _ Y) w3 ne a5;have hb:=s.grow r2;have hp:=hb.put (o':=oL (eP D.int D.int) m) ht hi Z (by rw[EN (Ce w3)];exact I);rw[List.set_set,cq r3]at hp;exact⟨_,S',EZ ((Fx (ds:=[.int B,.int C,.ref X,.int E,.ref n]) (S1:=U) (B8 c1 (B8 c2 (B8 (Tj g1) (B8 c4 (B8 (Tj Z) rfl))))) rfl).trans r1),e,_,rfl,hp,(o.fle U).trans (s.fle _)⟩
section
variable{W:Wd}{w:Nat×List ZPi}{S S':Sto}{wn cn:Nat}{c:Int}{st:ZLi}{d:D}
theorem kT(hw:S[wn]?=some (FY W w))(h:¬(0<=c/\c < (w.1:Int))∨c∈st):∃S',EM W [.ref wn,eT D.int st,.int c] S=.err W.NoCall S'/\Keeps S S':=by
 have j:MJ S [.z (FY W w),.v (eT D.int st),.v (D.int c)] [.ref wn,eT D.int st,.int c]:=⟨⟨wn,rfl,hw⟩,rfl,rfl,trivial⟩;have t:VB [.z (FY W w),.v (eT D.int st),.v (D.int c)] (mOr (Pu (mB (m3 leD ltD (mC (.int 0)) (AE 2) (NC W.Web "places" (AE 0))))) (mB (m2 (inA false) (AE 2) (AE 1)))) _:=Ng (QZ (D8 (VY lR lQ (C1 rfl) (AM rfl) (Sd (Ft rfl))))) (D8 (JY CJ (AM rfl) (AM rfl)))
 obtain⟨l,m,o⟩:=t true (by
  simp only[AC]
  by_cases q:0<=c/\c < (w.1:Int)
  ·rw[wX q.1,qX rfl,wX q.2]
   simp only[AC,GF,BW,if_false];rw[wX (h.resolve_left λz=>z q)]
  ·by_cases g:(0:Int)<=c
   ·rw[wX g,qX rfl,wY (λz=>q ⟨g,z⟩)]
    rfl
   ·rw[wY g,qY Ac]
    rfl) S _ _ S (Vs.start (n:=3) j)
 refine⟨l,L2.cw (e:=E2 3 [.ref wn,eT D.int st,.int c]) ?_,o⟩;unfold FN;rw[PY m,qX rfl];exact dF (ds:=[.str "a call comes from a place of the web without a guard"]) rfl (by decide)
theorem bI(hw:S[wn]?=some (FY W w))(h:¬(0<=c/\c < (w.1:Int))∨c∈st):∃S',C8 W [.ref wn,.ref cn,eT D.int st,.int c] S=.err W.NoCall S'/\Keeps S S':=by
 obtain⟨S1,g,j⟩:=kT hw h;refine⟨S1,L2.cw (e:=E2 8 [.ref wn,.ref cn,eT D.int st,.int c]) ?_,j⟩;unfold Fy;exact nL (au ((Fx (n:=3) (f:=EM W) (m:=AU (AE 0) (AU (AE 2) (AU (AE 3) BY))) (e:=E2 8 [.ref wn,.ref cn,eT D.int st,.int c]) (S:=S) (ds:=[.ref wn,eT D.int st,.int c]) (S1:=S) rfl rfl).trans g))
abbrev eK(wn cn:Nat)(st:ZLi)(c:Int)(a b z:Option D):Lo:=[sR wn,sR cn,some (eT D.int st),sI c,a,b,z]
theorem gV(a b z:Option D):Cd 4 (C8 W) (AU (AE 0) (AU (AE 1) (AU (AE 2) (AU (AE 3) BY)))) (eK wn cn st c a b z) S=C8 W [.ref wn,.ref cn,eT D.int st,.int c] S:=Fx (ds:=[.ref wn,.ref cn,eT D.int st,.int c]) (S1:=S) rfl rfl
theorem iZ(h:C8 W [.ref wn,.ref cn,eT D.int st,.int c] S=.ok d S'):Hf W [.ref wn,.ref cn,eT D.int st,.int c] S=.ok d S':=by
 refine L2.Ih ?_;unfold MB;rw[B5 (e:=E2 7 [.ref wn,.ref cn,eT D.int st,.int c]) (e1:=eK wn cn st c (some .non) none none) (S1:=S) rfl];rw[B5 (e1:=eK wn cn st c (some .non) (some .non) none) (S1:=S) rfl];rw[B5 (e1:=eK wn cn st c (some .non) (some d) none) (S1:=S') (mw (Ic (i:=5) ((gV _ _ _).trans h)))];refine Xd (IT (PY (c:=true) rfl) ?_);rw[qX rfl];exact Je rfl
theorem ie(h:C8 W [.ref wn,.ref cn,eT D.int st,.int c] S=.err W.NoCall S'):Hf W [.ref wn,.ref cn,eT D.int st,.int c] S=.ok (.bl true) S':=by
 have g:W.NoCall∈W.excs:=by simp[Wd.excs]
 refine L2.Ih ?_;unfold MB;rw[B5 (e:=E2 7 [.ref wn,.ref cn,eT D.int st,.int c]) (e1:=eK wn cn st c (some .non) none none) (S1:=S) rfl];rw[B5 (e1:=eK wn cn st c (some .non) (some .non) none) (S1:=S) rfl];rw[B5 (e1:=eK wn cn st c (some (.exc W.NoCall)) (some .non) none) (S1:=S') (mz (e2:=eK wn cn st c (some (.exc W.NoCall)) (some .non) (some (.exc W.NoCall))) (iz ((gV _ _ _).trans h)) g rfl)];rw[B5 (e1:=eK wn cn st c (some (.exc W.NoCall)) (some .non) none) (S1:=S') rfl];refine Je ?_;unfold eW;rw[fF (C:=W.NoCall) (b:=true) rfl (by unfold Oh;simp)];dsimp only[Res.bind];exact fF (C:=W.NoCall) (b:=true) rfl (by unfold JZ;simp)
end
def Hc(w:Nat×List ZPi)(cs:List (ZLi×ZLi))(st:ZLi)(c:Int):Option BR:=if (0<=c/\c < (w.1:Int))/\c∉st then(Fv w cs st c).map .inr else some (.inl true)
theorem Va(W:Wd)(nd:W.excs.Nodup)(w:Nat×List ZPi)(cs:List (ZLi×ZLi))(st:ZLi)(c:Int):VF (Hf W) [.z (FY W w),.z (oL (eP (eT D.int) (eT D.int)) cs),.v (eT D.int st),.v (D.int c)] (rV eS) (Hc w cs st c):=λv g S s A=>by
 match s,A with
 | [d1,d2,d3,d4],⟨⟨o,B,hw⟩,⟨cn,C,E⟩,G,H,_⟩=>
  cases B;cases C;cases G;cases H;unfold Hc at g;split at g
  ·obtain⟨r,I,rfl⟩:=Ux.mp g
   obtain⟨d,j,l,m,rfl⟩:=Pn W w cs st c r I S [.ref o,.ref cn,eT D.int st,.int c] ⟨⟨o,rfl,hw⟩,⟨cn,rfl,E⟩,rfl,rfl,trivial⟩;exact⟨_,j,iZ l,m,rfl⟩
  ·rename_i h
   cases g;obtain⟨j,l,m⟩:=bI (cn:=cn) (c:=c) (st:=st) hw (Ca λz=>h ⟨Ca λq=>z (.inl q),λq=>z (.inr q)⟩);exact⟨_,j,ie l,m,rfl⟩
def HN(G:ZLi):Option (Fw (Int×(List ZPi)×(List (ZLi×ZLi))) Unit):=
 Ba (some (.nx (0:Int))) λv1=>Ba (((some []).bind KF).bind λx4=>some (.nx x4)) λv3=>Ba (((((E6 G (0:Int)).bind λϬ=>some (Ϭ % 6)).bind λzu=>some ((1:Int)+zu)).bind T7).bind λH=>Gq H (v3,v1) λ(j:(List ZPi)×Int) Pq=>Ba ((E6 G ((1:Int)+Pq)).bind λzx=>some (.nx zx)) λwK=>Ba (some (.nx ((1:Int)+(wK % 6)))) λI=>Ba (((SK (wK / 6) I).bind λvS=>some (I,vS)).bind λϯ=>(Ra j.1 ϯ).bind λJ=>some (.nx J)) λL=>Fm (λN=>(L,N)) (some (.nx (j.2+I)))) λg=>Ba ((((E6 G (7:Int)).bind λwk=>some (wk,(g.2,()))).bind λzD=>II zD.1 zD.2.1).bind λzt=>some (.nx zt)) λO=>Ba (((some []).bind KF).bind λwo=>some (.nx wo)) λP=>Ba (((some []).bind KF).bind λQ=>some (.nx Q)) λR=>Ba (some (.nx (0:Int))) λS=>Ba (((some (g.1.length:Int)).bind T7).bind λl=>Gq l (P,R,S) λ(m:(List ZPi)×(List (ZLi×ZLi))×Int) o=>Ba ((((((atI g.1 o).bind λzE=>some zE.1).bind λxV=>some (m.2.2+xV)).bind λvp=>some (some vp)).bind λxW=>some (Gv O (some m.2.2) xW)).bind λT=>some (.nx T)) λU=>Ba (((atI g.1 o).bind λX=>some X.2).bind λY=>some (.nx Y)) λs=>Ba ((E6 G ((1:Int)+o)).bind λZ=>(di (Dg Z ((900:Int)+o) U s m.1)).bind λl94=>some (.nx l94)) λv95=>Ba ((Ra m.2.1 ((CO U),(CO (Gv U none (some s))))).bind λl98=>some (.nx l98)) λv96=>Fm (λzF=>(v95,v96,zF)) ((((atI g.1 o).bind λxZ=>some xZ.1).bind λy3=>some (m.2.2+y3)).bind λy7=>some (.nx y7))) λy8=>((Ec y8.1 (λA=>some true) (λA=>((some [A.1,A.2]).bind SL).bind λy9=>((some [A.1,A.2]).bind jm).bind λB=>some (y9,B))).bind λC=>some (PL C)).bind λE=>some (.rt (g.2,E,y8.2.1))
def HR(g:ZLi):Option (Int×(List ZPi)×(List (ZLi×ZLi))):=LM (HN g)
theorem R6(W:Wd)(g:ZLi):VF (Jk W) [.v (eF g)] (rP3 D.int (oL (eP D.int D.int)) (oL (eP (eT D.int) (eT D.int)))) (HR g):=by
 refine J9 (n:=12) (b:=Jo W) (p:=HN g) (B:=λ_=>[]) ?_;show VS [.v (eF g),.u,.u,.u,.u,.u,.u,.u,.u,.u,.u,.u] _ _ _ _;unfold Jo HN;exact(BE (DH (C1 rfl)) (λN=>(BE (Gf (C9 (Fi Hs))) (λO=>(BE (Hr (s0:=(O,N)) (B:=(λ(H:(List ZPi)×Int)=>[.v (eF g),.v (D.int H.2),.w 2 ((oL (eP D.int D.int)) H.1),.u,.u,.u,.u,.u,.u,.u,.u,.u])) (IV (EV (C1 rfl) (JF rfl (Dd (E1 (AM rfl) (E1 (C1 rfl) EX)) (λI=>JG W I.1 I.2.1) (λ_=>rfl) Lp)))) ID (.refl _) (λP Y=>(BE (DH (Dd (E1 (AM rfl) (E1 (EV (C1 rfl) (AM rfl)) EX)) (λl=>JG W l.1 l.2.1) (λ_=>rfl) Lp)) (λZ=>(BE (DH (EV (C1 rfl) (JF rfl (AM rfl)))) (λV'=>(BE (M5 rfl (KQ (AM rfl) (M6 (Lc rfl (AM rfl)) (AM rfl))) rfl) (λQ=>(DU (DH (EV (AM rfl) (AM rfl))) (λR=>(.same (.same (.same (.drop (.drop (.drop (.same (.same (.same (.same (.same (.same .nil)))))))))))))))))))))) (λJ=>(BE (Ge (Dd (E1 (Dd (E1 (AM rfl) (E1 (C1 rfl) EX)) (λm=>JG W m.1 m.2.1) (λ_=>rfl) Lp) (E1 (AM rfl) EX)) (λL=>To W L.1 L.2.1) (λ_=>rfl) Vt)) (λs=>(BE (Gf (C9 (Fi Hs))) (λA=>(BE (Gf (C9 (Fi Hs))) (λC=>(BE (DH (C1 rfl)) (λE=>(BE (Hr (s0:=(A,C,E)) (B:=(λ(G:(List ZPi)×(List (ZLi×ZLi))×Int)=>[.v (eF g),.v (D.int J.2),.w 2 ((oL (eP D.int D.int)) J.1),.u,.u,.u,.y ((oL D.int) s),.w 7 ((oL (eP D.int D.int)) G.1),.w 8 ((oL (eP (eT D.int) (eT D.int))) G.2.1),.v (D.int G.2.2),.u,.u])) (IV (MQ (Cv rfl))) ID (.refl _) (λyq yr=>(BE (Ge (Ti (DF rfl) (Nb (AM rfl)) (Nb (EV (AM rfl) (QY (D7 (Cv rfl) (AM rfl))))))) (λw4=>(BE (DH (XG (D7 (Cv rfl) (AM rfl)))) (λS=>(BE (Zt W (Dd (E1 (AM rfl) (E1 (EV (C1 rfl) (AM rfl)) EX)) (λo=>JG W o.1 o.2.1) (λ_=>rfl) Lp) (EV (C1 rfl) (AM rfl)) (j:=10) rfl (AM rfl) (i:=7) rfl rfl) (λT=>(BE (M5 rfl (KQ (G5 (Em (QW (DF rfl)))) (G5 (Em (QW (Em (Ti (DF rfl) Tb (Nb (AM rfl)))))))) rfl) (λU=>(DU (DH (EV (AM rfl) (QY (D7 (Cv rfl) (AM rfl))))) (λzF=>(.same (.same (.same (.drop (.same (.same (.same (.same (.same (.same (.drop (.drop .nil)))))))))))))))))))))))) (λy8=>(Zs (AM rfl) (VU (Em (C9 (EI (mO (Cv rfl)) (λX=>Nf) (λX=>(KQ (Ya (YV (AM rfl))) (iP (YV (AM rfl))))))))) rfl)))))))))))))))))
def Yt(L:ZLi):Option (Fw Bool Unit):=
 Ba ((HR L).bind λx5=>some (.nx x5)) λg=>Ba (((some (g.2.1,(g.1,((Gv L (some (8:Int)) none),())))).bind λN=>JL N.1 N.2.1 N.2.2.1).bind λvz=>some (.nx vz)) λZ=>Ba ((IJ g.1 Z).bind λxR=>some (.nx xR)) λvA=>Ba ((XD g.1 Z).bind λyn=>some (.nx yn)) λwy=>Ba ((FL wy g.2.2).bind λvS=>some (.nx vS)) λO=>Ba ((((some ((0:Int) :: [])).bind KF).bind λP=>OE P L).bind λl=>Gq l O λ(m:ZLi) Q=>Ba (((SK Q (g.1+(2:Int))).bind λwk=>some (wk - (1:Int))).bind λR=>some (.nx R)) λS=>Ba (if (decide (((Q / 97) % 19)=(1:Int)))=true then Fm (λY'=>Y') ((((((T9 (10:Int) (40:Int)).bind λT=>some (T+S)).bind λxV=>((((T9 (10:Int) (40:Int)).bind λxY=>some (-xY)).bind λzB=>some (zB - S)).bind λzE=>some (zE :: [])).bind λU=>some (xV :: U)).bind KF).bind λX=>atI X ((Q / 1843) % 2)).bind λxX=>some (.nx xX))else some (.nx S)) λj=>Ba ((Hc wy g.2.2 m j).bind λY=>some (.nx Y)) λJ=>Fm (λzG=>zG) ((if (decide (j < (0:Int)))=true then some true else if (decide (g.1<=j))=true then some true else some (decide (j∈m))).bind λo=>if o=true then Fm (λ_=>m) (if (ntS J)=true then some (.rt false)else some (.nx ()))else Fm (λzH=>zH) ((((((((((some J).bind dh).bind λxZ=>some (xZ,())).bind λy3=>some (j,y3)).bind λy7=>some (m,y7)).bind λs=>some (g.2.2,s)).bind λA=>some (vA,A)).bind λB=>JM B.1 B.2.1 B.2.2.1 B.2.2.2.1 B.2.2.2.2.1).bind λuJ=>some (!uJ)).bind λC=>if C=true then some (.rt false)else Fm (λzI=>zI) ((((some J).bind dh).bind λE=>(Kd vA g.2.2 m j).bind λy9=>some (!decide (E=y9))).bind λG=>if G=true then some (.rt false)else Fm (λzJ=>zJ) ((((some J).bind dh).bind λH=>some (CO H)).bind λI=>some (.nx I)))))) λs144=>some (.rt true)
def dg(g:ZLi):Option Bool:=LM (Yt g)
theorem qk(W:Wd)(nd:W.excs.Nodup)(j:ZLi):VF (ZN W) [.v (eF j)] (rV D.bl) (dg j):=by
 refine J9 (n:=10) (b:=gN W) (p:=Yt j) (B:=λ_=>[]) ?_;show VS [.v (eF j),.u,.u,.u,.u,.u,.u,.u,.u,.u] _ _ _ _;unfold gN Yt;exact(BE (cA (Dd (E1 (AM rfl) EX) (λX=>R6 W X.1) (λ_=>rfl) nQ)) (λg=>(BE (Ge (Dd (Od (DF rfl) (E1 (AM rfl) (Od (Em (iU (AM rfl) (Nb (C1 rfl)) Tb)) EX))) (λQ=>Vb W Q.1 Q.2.1 Q.2.2.1) (λ_=>rfl) Vt)) (λl=>(BE (Zr (Dd (E1 (AM rfl) (Od (DF rfl) EX)) (λs=>Tp W s.1 s.2.1) (λ_=>rfl) i9)) (λm=>(BE (Ge (cD (AM rfl) (DF rfl))) (λo=>(BE (DH (Dd (Od (DF rfl) (Od (DF rfl) EX)) (λA=>Of W A.1 A.2.1) (λ_=>rfl) Lp)) (λR=>(BE (Hr (s0:=R) (B:=(λ(C:ZLi)=>[.v (eF j),.v (D.int g.1),.y ((oL (eP D.int D.int)) l),.y ((oL (eP (eT D.int) (eT D.int))) g.2.2),.q (Nst D.int m),.y ((FY W) o),.v ((eT D.int) C),.u,.u,.u])) (mP (iV (Em (C9 (Fi (Gg (C1 rfl) Hs)))) (Em (C9 (Td (iJ (AM rfl))))))) ID (.refl _) (λT E=>(BE (DH (Te (M6 (AM rfl) (EV (AM rfl) (C1 rfl))) (C1 rfl))) (λY=>(BE (IA (B:=(λ(S:Int)=>[.v (eF j),.v (D.int g.1),.y ((oL (eP D.int D.int)) l),.y ((oL (eP (eT D.int) (eT D.int))) g.2.2),.q (Nst D.int m),.y ((FY W) o),.v ((eT D.int) T),.v (D.int E),.v (D.int S),.u])) (D8 (cH CJ Kg (JF rfl (Lc rfl (AM rfl))) (C1 rfl))) (DU (DH (D7 (Em (C9 (Fi (Gg (EV (XH (C1 rfl) (C1 rfl)) (AM rfl)) (Gg (Te (Tg (XH (C1 rfl) (C1 rfl))) (AM rfl)) Hs))))) (JF rfl (Lc rfl (AM rfl))))) (λZ=>(.refl _))) (LA (.refl _))) (λL=>(BE (DH (Dd (Od (DF rfl) (Od (Em (C9 (Td (Tc (DF rfl))))) (E1 (AM rfl) (E1 (AM rfl) EX)))) (λN=>Va W nd N.1 N.2.1 N.2.2.1 N.2.2.2.1) (λ_=>rfl) Lp)) (λO=>(DU (IA (B:=(λ(G:ZLi)=>[.v (eF j),.v (D.int g.1),.y ((oL (eP D.int D.int)) l),.y ((oL (eP (eT D.int) (eT D.int))) g.2.2),.q (Nst D.int m),.y ((FY W) o),.v ((eT D.int) G),.v (D.int E),.v (D.int L),.v (eS O)])) (Ng (D8 (cF (AM rfl) (C1 rfl))) (Ng (D8 (qj (AM rfl) (AM rfl))) (D8 (JY CJ (AM rfl) (AM rfl))))) (DU (IA (B:=(λ(_:Unit)=>[.v (eF j),.v (D.int g.1),.y ((oL (eP D.int D.int)) l),.y ((oL (eP (eT D.int) (eT D.int))) g.2.2),.q (Nst D.int m),.y ((FY W) o),.v ((eT D.int) T),.v (D.int E),.v (D.int L),.v (eS O)])) (D8 (iS (AM rfl))) (FT (C1 rfl)) (LA (.refl _))) (λ_=>(.refl _))) (DU (IA (B:=(λ(H:ZLi)=>[.v (eF j),.v (D.int g.1),.y ((oL (eP D.int D.int)) l),.y ((oL (eP (eT D.int) (eT D.int))) g.2.2),.q (Nst D.int m),.y ((FY W) o),.v ((eT D.int) H),.v (D.int E),.v (D.int L),.v (eS O)])) (QZ (mV (Dd (mW rfl (Od (DF rfl) (E1 (AM rfl) (E1 (AM rfl) (E1 (XM (AM rfl)) EX))))) (λI=>Vc W I.1 I.2.1 I.2.2.1 I.2.2.2.1 I.2.2.2.2.1) (λ_=>rfl) Lp))) (FT (C1 rfl)) (DU (IA (B:=(λ(J:ZLi)=>[.v (eF j),.v (D.int g.1),.y ((oL (eP D.int D.int)) l),.y ((oL (eP (eT D.int) (eT D.int))) g.2.2),.q (Nst D.int m),.y ((FY W) o),.v ((eT D.int) J),.v (D.int E),.v (D.int L),.v (eS O)])) (D8 (QX (kI CJ) oU (XM (AM rfl)) (Dd (mW rfl (Od (DF rfl) (E1 (AM rfl) (E1 (AM rfl) EX)))) (λP=>XQ W P.1 P.2.1 P.2.2.1 P.2.2.2.1) (λ_=>rfl) Lp))) (FT (C1 rfl)) (DU (DH (G5 (Em (Sb (XM (AM rfl)))))) (λzJ=>(.refl _)))) (λzI=>(.refl _)))) (λzH=>(.refl _)))) (λzG=>(.same (.same (.same (.same (.same (.same (.same (.drop (.drop (.drop .nil)))))))))))))))))))) (λU=>(FT (C1 rfl))))))))))))))
theorem RD{k:Int}:∀{l:ZLi},k∈l->∃j,NE k l=some j
 | [],h=>zX h BL
 | x :: l,h=>by
  unfold NE
  by_cases c:x=k
  ·rw[qX c];exact⟨0,rfl⟩
  ·rw[qY c]
   rcases Aq.mp h with e | h
   ·exact zX e.symm c
   ·obtain⟨j,e⟩:=RD h
    exact⟨j+1,by rw[e];rfl⟩
theorem ZB{k:Int}:∀{l:ZLi},k∉l->NE k l=none
 | [],_=>rfl
 | x :: l,h=>by
  unfold NE;rw[qY λe=>h (by rw[e];exact Ao),ZB λg=>h (AT _ g)];rfl
def rk(l:ZLi)(x:Int):Int:=(RC l x).getD 0
theorem N5{l:ZLi}{x:Int}(h:x∈l):RC l x=some (rk l x):=by
 obtain⟨j,e⟩:=RD h;unfold rk RC;rw[e];rfl
theorem LC{l:ZLi}{x:Int}(h:x∈l):∃j:Nat,rk l x=j/\l[j]?=some x:=by
 obtain⟨j,e⟩:=RD h;obtain⟨g,m,_⟩:=UP e;refine⟨j,?_,?_⟩
 ·unfold rk RC;rw[e];rfl
 ·rw[AZ g,m]
theorem cO{l:ZLi}(g:l.Pairwise (· < ·)){i j:Nat}{x y:Int}(hi:l[i]?=some x)(m:l[j]?=some y)(h:i < j):x < y:=by
 obtain⟨o,s⟩:=AD.mp hi;obtain⟨A,B⟩:=AD.mp m;have:=Jp.mp g i j o A h;rwa [s,B]at this
theorem mX{l:ZLi}(g:l.Pairwise (· < ·)){i j:Nat}{x:Int}(hi:l[i]?=some x)(m:l[j]?=some x):i=j:=by
 rcases Pj i j with h | h | h
 ·have:=cO g hi m h;lia
 ·exact h
 ·have:=cO g m hi h;lia
theorem Yp{l:ZLi}(g:l.Pairwise (· < ·)){j:Nat}{x:Int}(h:l[j]?=some x):rk l x=j:=by
 obtain⟨i,m,o⟩:=LC (An h);rw[m,mX g o h]
theorem Yq{l:ZLi}{x:Int}(h:x∈l):0<=rk l x/\rk l x < l.length:=by
 obtain⟨j,m,g⟩:=LC h;have:=(AD.mp g).1
 lia
theorem lA{l:ZLi}(o:l.Pairwise (· < ·)){x y:Int}(s:x∈l)(A:y∈l)(h:x < y):rk l x < rk l y:=by
 obtain⟨i,B,m⟩:=LC s;obtain⟨j,C,g⟩:=LC A
 rcases Pj i j with c | c | c
 ·lia
 ·subst c;rw[m]at g;cases g;lia
 ·have:=cO o g m c;lia
theorem dC{l:ZLi}{x y:Int}(m:x∈l)(o:y∈l)(h:rk l x=rk l y):x=y:=by
 obtain⟨i,A,s⟩:=LC m;obtain⟨j,B,g⟩:=LC o
 have:i=j:=by lia
 subst this;rw[s]at g;exact Ch g
def inB(l:ZLi)(t:Int×Int):Bool:=decide (t.1∈l)&&decide (t.2∈l)
def wt(ts:List ZPi)(l:ZLi):List ZPi:=(ts.filter (inB l)).map λt=>(rk l t.1,rk l t.2)
theorem MZ{l:ZLi}{t:Int×Int}:inB l t=true↔t.1∈l/\t.2∈l:=by
 unfold inB;rw[CF,decide_eq_true_iff,decide_eq_true_iff]
def Tz(p:Int)(ts:List ZPi):Prop:=(∀t∈ts,0<=t.1/\t.1 < t.2/\t.2 < p)/\ts.Nodup
theorem Yz{x:Int×Int}(h:x.1 < x.2):nrm x=x:=by
 unfold nrm;rw[qY (by lia),qX (by omega)]
theorem Tz.nrm{p:Int}{ts:List ZPi}(h:Tz p ts):ts.map M.nrm=ts:=by
 conv=>rhs;rw[<-Ms ts]
 exact Ci λt g=>Yz (h.1 t g).2.1
theorem Tz.fit{p:Nat}{ts:List ZPi}(h:Tz p ts):HF p ts:=by
 refine⟨λt g=>?_,by rw[h.nrm];exact h.2⟩;have:=h.1 t g;unfold Fit;rw[Yz this.2.1];omega
theorem Tz.perm{p:Int}{ts us:List ZPi}(h:Tz p ts)(g:us.Perm ts):Tz p us:=⟨λt j=>h.1 t (g.mem_iff.mp j),g.nodup_iff.mpr h.2⟩
theorem YT{p:Int}{ts:List ZPi}(h:Tz p ts){l:ZLi}(s:l.Pairwise (· < ·)):Tz l.length (wt ts l):=by
 refine⟨λt m=>?_,?_⟩
 ·obtain⟨u,o,rfl⟩:=Ap.mp m
  obtain⟨A,B⟩:=BF.mp o;obtain⟨g,j⟩:=MZ.mp B;have:=lA s g j (h.1 u A).2.1;have:=Yq g;have:=Yq j;dsimp only
  lia
 ·refine B3.mpr ((h.2.filter (inB l)).imp_of_mem λ{t u} m o C e=>C ?_)
  obtain⟨g,j⟩:=MZ.mp (BF.mp m).2;obtain⟨E,G⟩:=MZ.mp (BF.mp o).2;have H:=congrArg SW e;have I:=congrArg kn e;exact K7 (dC g E H) (dC j G I)
theorem az(l:ZLi):(L6 l).map (·.2)=l:=by
 unfold L6;rw[Bc];exact List.zipIdx_map_fst 0 l
theorem No{l:List ZPi}{k v:Int}(h:k∉l.map (·.1)):FX l k v=l++[(k,v)]:=by
 unfold FX;rw[qY];intro c;obtain⟨x,g,e⟩:=Hj.mp c;exact h (Ap.mpr ⟨x,g,of_decide_eq_true e⟩)
def aM(l:ZLi):List ZPi:=(L6 l).map λx=>(x.2,x.1)
theorem dq(l:ZLi):(aM l).length=l.length:=by
 unfold aM L6;simp
theorem Qz{l:ZLi}(x:Int):C3 (aM l) x=RC l x:=by
 have g:∀(l:ZLi) (k:Nat),C3 ((l.zipIdx k).map λy=>(y.1,(y.2:Int))) x=(NE x l).map λj=>((j+k:Nat):Int):=by
  intro l
  induction l with
  | nil=>intro k;rfl
  | cons y l m=>
   intro k;rw[gh,BB];unfold C3 NE;rw[Bo]
   by_cases c:y=x
   ·rw[wX c,qX c]
    simp
   ·rw[wY c,qY c]
    have:=m (k+1);unfold C3 at this;dsimp only;rw[this]
    cases NE x l with
    | none=>rfl
    | some j=>simp;lia
 have:=g l 0;unfold aM L6;rw[Bc];unfold RC;exact this
theorem bw{w:Nat×List ZPi}(h:Tz w.1 w.2)(G:w.2.length<=1000){l:ZLi}(A:l.Pairwise (· < ·))(T:1<=l.length)(U:l.length<=60):IH w l=some (l.length,FU (wt w.2 l)):=by
 unfold IH IE;simp only[AC,BI]
 have m:l.Nodup:=A.imp λh=>by lia
 obtain⟨s,e,rfl⟩:=Kr (ρ:=Nat×List ZPi) (l:=L6 l) (s0:=([]:List ZPi)) (q:=λ(H:(List ZPi)) B=>Fm (λI=>I) ((SE H B.2 B.1).bind λJ=>some (.nx J))) (λg s=>s=g.map λx=>(x.2,x.1)) rfl (by
  rintro g x s X ⟨t,o⟩ rfl
  have C:(g++[x]).map (·.2)++t.map (·.2)=l:=by rw[<-BG,o,az]
  rw[<-C,BG]at m
  have L:x.2∉(g.map λx=>(x.2,x.1)).map (·.1):=by
   rw[Bc];intro c;have N:=(BP.mp (BP.mp m).1).2.2;exact N x.2 c x.2 (by simp) rfl
  have j:g.length < 1000000:=by
   have:=congrArg EB C;simp at this
   lia
  refine⟨(g.map λx=>(x.2,x.1))++[(x.2,x.1)],?_,?_⟩
  ·unfold SE
   rw[qX (by rw[AF];exact j),No L];rfl
  ·rw[BG];rfl)
 rw[e,BI];have O:((L6 l).map λx=>(x.2,x.1))=aM l:=rfl;rw[O]
 have E:∀x,(C3 (aM l) x).isSome=decide (x∈l):=λx=>by
  rw[Qz]
  by_cases c:x∈l
  ·rw[N5 c,wX c];rfl
  ·unfold RC
   rw[ZB c,wY c];rfl
 rw[OG (P:=inB l) (f:=λt=>(rk l t.1,rk l t.2)) (by lia) (λt _=>by
  rw[E,E];unfold inB
  cases decide (t.1∈l) <;> rfl) (λt _ o=>by
  obtain⟨Q,R⟩:=MZ.mp o;rw[Qz,Qz,N5 Q,N5 R]
  rfl)]
 simp only[AC,BI];rw[dq];have o:=YT h A
 have j:(wt w.2 l).length<=1000:=by
  unfold wt;rw[AF];exact Av (MN _ _) G
 show LM ((XD (l.length:Int) (wt w.2 l)).bind λS=>some (.rt S))=_;unfold XD;rw[qX ⟨by lia,by lia,Tz.fit o,by lia⟩,Ak];rfl
theorem dy{x y:Int}(h:(-1000000000000<=x/\x<=1000000000000)∨(-1000000000000<=y/\y<=1000000000000)):aO x y=some (x * y):=qX (h.imp (λh=>⟨JW (by decide) h.1,JX h.2 (by decide)⟩) λh=>⟨JW (by decide) h.1,JX h.2 (by decide)⟩)
theorem pP{x y:Int}(h:0 < y)(g:y<=1000000):ZM x y=some (x / y):=qX ⟨h,by lia⟩
theorem Y4(c s:Int):∃v,Gk c s=some v/\0<=v:=by
 have g:=Cu ((c % 2147483647+s) * 48271) (show(2147483647:Int)≠0 by decide);have j:=C0 ((c % 2147483647+s) * 48271) (show(0:Int) < 2147483647 by decide);unfold Gk IG;simp only[AC,BI];generalize (c % 2147483647+s) * 48271 % 2147483647=m at g j;rw[dy (.inl ⟨by lia,by lia⟩)];simp only[AC,BI];rw[dy (.inl ⟨by decide,by decide⟩)];exact⟨_,rfl,Cu _ (by decide)⟩
theorem fJ{l:ZLi}(i:Nat)(x:Int):(l.take i++[x]++l.drop i).Perm (x :: l):=by
 rw[A8,Es];exact List.perm_middle.trans (by rw[Dx])
theorem jX(c:Int){p:Nat}(J:p<=60):Ok (II c p) λl=>l.length=p/\l.Nodup/\∀x∈l,0<=x/\x < p:=by
 unfold II IF;simp only[AC,BI,kG];rw[MU (by lia) (by lia),Ak];simp only[AC];refine OkF.out (OkF.seq (OkF.for (λg (s:ZLi)=>s.length=g.length/\s.Nodup/\∀x:Int,x∈s->0<=x/\x < (g.length:Int)) ⟨rfl,FQ,λx m=>(nomatch m)⟩ ?_) λs o=>?_)
 ·rintro g x s m B ⟨C,E,A⟩
  obtain⟨e,lt⟩:=KA B;rw[LZ]at e;subst e;obtain⟨v,G,L⟩:=Y4 c (7000+(g.length:Int));rw[G];simp only[AC];rw[Ki (by lia)];simp only[AC];have H:=Cu (v / 8) (show(g.length:Int)+1≠0 by lia);have N:=C0 (v / 8) (show(0:Int) < (g.length:Int)+1 by lia);rw[show jy s (v / 8 % ((g.length:Int)+1)) (g.length:Int)=some _ from qX ⟨H,by lia,by lia⟩];have j:=fJ (l:=s) (v / 8 % ((g.length:Int)+1)).toNat (g.length:Int);refine .nx ⟨by rw[j.length_eq,A0,AK,C];rfl,j.nodup_iff.mpr (Ct.mpr ⟨λz=>?_,E⟩),λy I=>?_⟩
  ·have:=(A _ z).2
   lia
  ·rw[AK,Al]
   rcases Aq.mp (j.mem_iff.mp I)with q | q
   ·lia
   ·have:=A y q
    lia
 ·rw[Fk]at o
  exact .rt o
def nrP(x y:Int):Int×Int:=(if y < x then y else x,if y > x then y else x)
theorem Nj(l:List ZPi):(PL l).Perm l:=by
 have:=(Ib (l.map λx=>[x.1,x.2])).map m9;rw[Bc]at this
 have e:l.map (m9∘λx=>[x.1,x.2])=l:=by
  conv=>rhs;rw[<-Ms l]
  exact Ci λ_ _=>rfl
 rw[e]at this;exact this
theorem Tz.add{p:Nat}{ts:List ZPi}(h:Tz p ts){x y:Int}(m:0<=x/\x < p)(o:0<=y/\y < p)(s:x≠y)(g:nrP x y∉ts):Tz p (ts++[nrP x y]):=by
 refine⟨λt j=>?_,?_⟩
 ·rcases Au.mp j with q | q
  ·exact h.1 t q
  ·rw[AS.mp q]
   unfold nrP;dsimp only
   split <;> split <;> lia
 ·rw[BP]
  exact⟨h.2,by simp,λa l b hb e=>g (by rw[AS.mp hb]at e;rw[<-e];exact l)⟩
theorem oW{p:Nat}(O:1<=p)(P:p<=60){ts:List ZPi}(h:Tz p ts)(Q:ts.length<=1000){cs:ZLi}(R:cs.length<=1000):Ok (JL ts p cs) λr=>(Tz p r/\∀t∈ts,t∈r)/\r.length<=ts.length+cs.length:=by
 unfold JL JI;simp only[AC,BI];refine OkF.out (OkF.seq (OkF.for (λg s=>(Tz p s/\∀t∈ts,t∈s)/\s.length<=ts.length+g.length) ⟨⟨h,λ_ q=>q⟩,AN _⟩ ?_) λs l=>?_)
 ·rintro g c s S G ⟨j,T⟩
  have H:=G.length_le;rw[AK,Al]at H;rw[Ki (by lia),pP (by lia) (by lia)];simp only[AC,BI];rw[Ki (by lia)];simp only[AC,BI];have A:=Cu c (show(p:Int)≠0 by lia);have B:=C0 c (show(0:Int) < p by lia);have C:=Cu (c / p) (show(p:Int)≠0 by lia);have E:=C0 (c / p) (show(0:Int) < p by lia);generalize c % (p:Int)=x at A B;generalize c / (p:Int) % (p:Int)=y at C E;show OkF (Fm (λI=>I) ((if (!decide (x=y))=true then some (!inG (nrP x y) s)else some false).bind λJ=>if J=true then Fm (λL=>L) ((Ra s (nrP x y)).bind λϮ=>some (.nx Ϯ))else some (.nx s))) _ _
  refine OkF.map (N:=λm=>(Tz p m/\∀t∈ts,t∈m)/\m.length<=ts.length+(g++[c]).length) ?_ λ_ q=>q
  rw[AK,Al]
  by_cases e:x=y
  ·rw[wX e]
   exact .nx ⟨j,by lia⟩
  ·rw[wY e]
   by_cases q:nrP x y∈s
   ·rw[ZA.mpr q]
    exact .nx ⟨j,by lia⟩
   ·rw[show inG (nrP x y) s=false from by rw[<-Bool.not_eq_true,ZA];exact q]
    simp only[SZ,if_true,AC];rw[K0 (by lia)];exact .nx ⟨⟨j.1.add ⟨A,B⟩ ⟨C,E⟩ e q,λt o=>As _ (j.2 t o)⟩,by rw[AK,Al];lia⟩
 ·refine .rt ⟨⟨l.1.1.perm (Nj s),λt o=>(Nj s).mem_iff.mpr (l.1.2 t o)⟩,?_⟩
  rw[(Nj s).length_eq];exact l.2
theorem aN{us:List ZPi}{x:Nat}{z:Int}:z∈Bp us x↔((x:Int),z)∈us∨(z,(x:Int))∈us:=by
 unfold Bp;rw[Hi]
 constructor
 ·rintro⟨t,g,j⟩
  rcases Au.mp j with q | q
  ·split at q
   ·rename_i e
    rw[AS]at q
    left;rw[q,<-e];exact g
   ·cases q
  ·split at q
   ·rename_i e
    rw[AS]at q
    right;rw[q,<-e];exact g
   ·cases q
 ·rintro(q | q)
  ·exact⟨_,q,As _ (by rw[qX rfl];simp)⟩
  ·exact⟨_,q,Aw _ (by rw[qX rfl];simp)⟩
theorem Sm(x:Nat):∀g:List ZPi,(Bp g x).length<=2 * g.length
 | []=>AN _
 | t :: g=>by
  have:=Sm x g;unfold Bp at this ⊢;rw[bh,AK,AK,A0]
  have j:(if t.1=(x:Int)then[t.2]else[]).length<=1:=by split <;> simp
  have l:(if t.2=(x:Int)then[t.1]else[]).length<=1:=by split <;> simp
  lia
theorem Tz.nb{p:Nat}{ts:List ZPi}(h:Tz p ts){x y:Int}(h0:0<=x):y∈nbW (FU ts) x↔(x,y)∈ts∨(y,x)∈ts:=by
 have g:=IW ts;rw[h.nrm]at g;unfold nbW;rw[(Bs _).mem_iff,aN,CN h0,g.mem_iff,g.mem_iff]
theorem Tz.ok{p:Nat}{ts:List ZPi}(h:Tz p ts)(l:p<=60)(s:ts.length<=400):sf p (FU ts):=by
 have j:=IW ts;rw[h.nrm]at j;refine⟨l,λx g A y m=>?_,λx=>?_,λx y g o q=>?_⟩
 ·rcases(h.nb g).mp m with q | q <;> (have:=h.1 _ q;lia)
 ·unfold nbW
  rw[(Bs _).length_eq];have:=Sm x.toNat (FU ts);rw[j.length_eq]at this
  lia
 ·exact(h.nb o).mpr ((h.nb g).mp q).symm
end M
namespace L4
open L2
theorem XC{ρ g:Type}{c:g->Option Bool}{q:g->Option (Fw ρ g)}(I:g->Prop)(j:g->Nat)(h:∀s,I s->c s=some false∨(c s=some true/\∃s',q s=some (.nx s')/\I s'/\j s' < j s)) :
  ∀(n:Nat) (s:g),I s->j s < n->∃s',whF c q n s=some (.nx s')/\I s'/\c s'=some false
 | 0,s,_,m=>zX m (Ep _)
 | n+1,s,o,m=>by
  unfold whF
  rcases h s o with l | ⟨l,s',A,B,C⟩
  ·rw[l]
   exact⟨s,rfl,o,l⟩
  ·rw[l]
   simp only[AC,if_true];rw[A];exact XC I j h n s' B (by lia)
end L4
namespace M
open L2 L4
def Ad(ts:List ZPi)(x y:Int):Prop:=(x,y)∈ts∨(y,x)∈ts
def Cn(ts:List ZPi)(l:ZLi):Prop:=∀C:ZLi,(∀a,l[0]?=some a->a∈C)->(∀x∈l,x∈C->∀y∈l,Ad ts x y->y∈C)->∀z∈l,z∈C
def LG(ts:List ZPi)(g j:ZLi):Prop:=if j=[]then g≠[]/\∀x∈g,∀y∈g,x≠y->Ad ts x y else(∀x∈j,x∈g)/\j.length≠g.length/\Cn ts j/\∀x∈g,x∈j∨∃y∈j,Ad ts x y
section
variable{p:Nat}{ts:List ZPi}{l:ZLi}
theorem bu(m:l.Pairwise (· < ·)){i j:Nat}{x y:Int}(hi:l[i]?=some x)(g:l[j]?=some y):((i:Int),(j:Int))∈wt ts l↔(x,y)∈ts:=by
 constructor
 ·intro h
  obtain⟨u,A,e⟩:=Ap.mp h;obtain⟨B,C⟩:=BF.mp A;obtain⟨E,G⟩:=MZ.mp C;obtain⟨a,H,o⟩:=LC E;obtain⟨b,I,s⟩:=LC G;have J:(i:Int)=rk l u.1:=(congrArg SW e).symm;have L:(j:Int)=rk l u.2:=(congrArg kn e).symm
  have:i=a:=by lia
  have:j=b:=by lia
  subst i j;rw[hi]at o;rw[g]at s;cases o;cases s;exact B
 ·intro h
  refine Ap.mpr ⟨(x,y),BF.mpr ⟨h,MZ.mpr ⟨An hi,An g⟩⟩,?_⟩;rw[Yp m hi,Yp m g]
theorem kz(h:Tz p ts)(g:l.Pairwise (· < ·)){i j:Nat}{x y:Int}(hi:l[i]?=some x)(m:l[j]?=some y):(j:Int)∈nbW (FU (wt ts l)) i↔Ad ts x y:=by
 rw[(YT h g).nb (by lia),bu g hi m,bu g m hi];exact Iff.rfl
theorem mH:(wt ts l).length<=ts.length:=by
 unfold wt;rw[AF];exact MN _ _
end
theorem kP{g:Type}(l:List g){k:Int}(h0:0<=k):Gv l (some k) none=l.drop k.toNat:=by
 unfold Gv;rw[show(k:Int)=((k.toNat:Nat):Int) by lia,HT.P2,HT.Vm,Ak]
 by_cases c:k.toNat<=l.length
 ·rw[IZ c,Bg (by simp)]
 ·rw[QO (by lia),G0 (AN _),G0 (by lia)]
  simp
theorem kN{g:Type}(l:List g){k:Int}(h0:0<=k):Gv l none (some k)=l.take k.toNat:=by
 unfold Gv;rw[show(k:Int)=((k.toNat:Nat):Int) by lia,HT.P2,HT.Vm,Ak,ko,Nat.sub_zero]
 by_cases c:k.toNat<=l.length
 ·rw[IZ c]
 ·rw[QO (by lia),Bg (AN _),Bg (by lia)]
theorem jq{l:ZLi}(h:l≠[]):∃x,atI l (-1)=some x/\l[l.length - 1]?=some x:=by
 have:=NT.mpr h;refine⟨l[l.length - 1],?_,AZ (by lia)⟩;unfold atI ixN;rw[qY (by decide),qX (by lia)];show l[((-1:Int)+(l.length:Int)).toNat]?=_;rw[show((-1:Int)+(l.length:Int)).toNat=l.length - 1 by lia];exact AZ (by lia)
def fl(cs:List (ZLi×ZLi)):ZLi:=cs.flatMap (·.1)
theorem kE(cs:List (ZLi×ZLi))(c:ZLi×ZLi):fl (cs++[c])=fl cs++c.1:=by
 unfold fl;rw[NU];simp
theorem UF{x y:Int×Int}(h:nrm x=nrm y):x=y∨x=(y.2,y.1):=by
 unfold nrm at h;have g:=congrArg SW h;have j:=congrArg kn h;dsimp only at g j
 by_cases c:x.1=y.1/\x.2=y.2
 ·exact .inl (K7 c.1 c.2)
 ·refine .inr (K7 ?_ ?_) <;> dsimp only <;> split at g <;> split at g <;> split at j <;> split at j <;> omega
theorem V1{ts:List ZPi}{x:Nat}{z:Int}:z∈Bp ts x↔∃t∈ts,(t.1=x/\z=t.2)∨(t.2=x/\z=t.1):=by
 unfold Bp;rw[Hi]
 constructor
 ·rintro⟨t,g,m⟩
  refine⟨t,g,?_⟩
  rcases Au.mp m with h | h
  ·split at h
   ·rename_i e;exact .inl ⟨e,AS.mp h⟩
   ·cases h
  ·split at h
   ·rename_i e;exact .inr ⟨e,AS.mp h⟩
   ·cases h
 ·rintro⟨t,g,⟨j,l⟩ | ⟨j,l⟩⟩
  ·exact⟨t,g,by rw[qX j];simp[l]⟩
  ·exact⟨t,g,by rw[qX j];simp[l]⟩
theorem Nv{x:Nat}:∀{ts:List ZPi},ts.Nodup->(∀t∈ts,t.1 < t.2)->(Bp ts x).Nodup
 | [],_,_=>FQ
 | t :: ts,h,j=>by
  obtain⟨A,B⟩:=Ct.mp h
  have C:=Nv (x:=x) B λu g=>j u (AT _ g)
  have I:=j t Ao;show(((if t.1=(x:Int)then[t.2]else[])++(if t.2=(x:Int)then[t.1]else[]))++Bp ts x).Nodup;rw[BP];refine⟨?_,C,λa E b hb e=>?_⟩
  ·by_cases o:t.1=(x:Int)
   ·rw[qX o,qY (by lia)];simp
   ·rw[qY o];split <;> simp
  ·subst e
   obtain⟨u,g,s⟩:=V1.mp hb;have G:=j u (AT _ g)
   have:t=u:=by
    rcases Au.mp E with q | q
    ·split at q
     ·rename_i H
      have:=AS.mp q
      rcases s with⟨l,m⟩ | ⟨l,m⟩
      ·exact K7 (by lia) (by lia)
      ·lia
     ·cases q
    ·split at q
     ·rename_i H
      have:=AS.mp q
      rcases s with⟨l,m⟩ | ⟨l,m⟩
      ·lia
      ·exact K7 (by lia) (by lia)
     ·cases q
   exact A (this▸g)
theorem V3{l:ZLi}(h:l.Nodup){i j:Nat}{x:Int}(hi:l[i]?=some x)(g:l[j]?=some x):i=j:=by
 obtain⟨s,m⟩:=AD.mp hi;obtain⟨A,o⟩:=AD.mp g;exact(gj h).mp (by rw[m,o])
def Sub(g:ZLi)(k:Nat)(t:Int×Int):Prop:=∃i j:Nat,i < j/\j<=k/\g[i]?=some t.1/\g[j]?=some t.2
theorem Sub.up{g:ZLi}{k m:Nat}{t:Int×Int}(h:Sub g k t)(s:k<=m):Sub g m t:=by
 obtain⟨i,j,l,A,o⟩:=h;exact⟨i,j,l,by lia,o⟩
theorem cV{g:ZLi}(l:g.Nodup){k j:Nat}{t:Int×Int}(h:Sub g k t){x y:Int}(A:g[j]?=some x)(m:g[k+1]?=some y)(B:j<=k):nrm t≠nrm (x,y):=λe=>by
 obtain⟨a,b,C,E,o,s⟩:=h
 rcases UF e with q | q
 ·rw[q]at s
  have:=V3 l s m
  lia
 ·rw[q]at o
  have:=V3 l o m
  lia
structure Lk(pl:ZLi)(inner:Int)(m:Nat)(L:List ZPi):Prop where
 sub:∀t∈L,Sub pl m t
 nd:(L.map nrm).Nodup
 c0:inner=0->∀(i j:Nat) (x y:Int),i < j->j<=m->pl[i]?=some x->pl[j]?=some y->(x,y)∈L
 c1:0 < inner->∀(j:Nat) (y:Int),1<=j->j<=m->pl[j]?=some y->∃(i:Nat) (x:Int),i < j/\(i:Int) < inner/\pl[i]?=some x/\(x,y)∈L
theorem gH(c s:Int){o:ZLi}(J:o.Nodup)(h1:1<=o.length)(h6:o.length<=6){g:Int}(i0:0<=g)(i1:g < o.length){T:List ZPi}(hT:T.length<=1000) :
  ∃L,di (Dg c s o g T)=some (T++L)/\L.length<=36/\Lk o g (o.length - 1) L:=by
 unfold Dg;simp only[AC];rw[i6 (by decide) (by decide) (by lia) (by lia)];simp only[AC]
 have at':∀k:Int,0<=k->k < o.length->∃x,atI o k=some x/\o[k.toNat]?=some x:=λk k0 k1=>Um k0 k1
 have O:=λq h=>Kr (ρ:=Unit) (l:=Hv 1 ((o.length:Int) - 1).toNat) (s0:=T) (q:=q) (λm s=>∃L,s=T++L/\L.length<=6 * m.length/\Lk o g m.length L) ⟨[],by simp,by simp,λt A=>zX A BL,FQ,λ_ i j x y h1 P=>zX P (by simp;lia),λ_ j y h1 P=>zX P (by simp;lia)⟩ h
 have fin:∀r:Option (Fw Unit (List ZPi)),(∃s,r=some (.nx s)/\∃L,s=T++L/\L.length<=6 * (Hv 1 ((o.length:Int) - 1).toNat).length/\Lk o g (Hv 1 ((o.length:Int) - 1).toNat).length L)->∃L,di (Fm (λw5=>w5) r)=some (T++L)/\L.length<=36/\Lk o g (o.length - 1) L:=by
  rintro r ⟨s,rfl,L,rfl,a1,C⟩;rw[Fk,show((o.length:Int) - 1).toNat=o.length - 1 by lia]at a1 C;exact⟨L,rfl,by lia,C⟩
 refine fin _ (O _ ?_);rintro m k s hk vx ⟨L,rfl,a1,C,a3,a4,a5⟩;obtain⟨ek,lt⟩:=KA vx
 have Q:k=((m.length+1:Nat):Int):=by lia
 subst Q;obtain⟨y,ey,B⟩:=at' ((m.length+1:Nat):Int) (by lia) (by lia);rw[Ak]at B
 have G:(m++[((m.length+1:Nat):Int)]).length=m.length+1:=by simp
 by_cases z:g=0
 ·rw[wX z,qX rfl]
  rw[MU (by lia) (by lia),Ak];simp only[AC]
  rw[Md (f:=λx=>(o.getD x.toNat 0,y)) (by rw[Fk];lia) λx R=>by
   have:=Hd.mp R;obtain⟨u,e1,E⟩:=at' x (by lia) (by lia);rw[e1,ey];simp only[AC];rw[BN,E]
   rfl]
  simp only[AC];rw[OD (by rw[AK,AF,Fk];lia)]
  have nm:∀t∈(Hv 0 (m.length+1)).map (λx=>(o.getD x.toNat 0,y)),∃i:Nat,i<=m.length/\o[i]?=some t.1/\t.2=y:=λt A=>by
   obtain⟨x,R,rfl⟩:=Ap.mp A;have:=Hd.mp R;obtain⟨u,e1,E⟩:=at' x (by lia) (by lia);refine⟨x.toNat,by lia,?_,rfl⟩;dsimp only;rw[BN,E];rfl
  refine⟨T++L++(Hv 0 (m.length+1)).map (λx=>(o.getD x.toNat 0,y)),rfl,L++(Hv 0 (m.length+1)).map (λx=>(o.getD x.toNat 0,y)),by rw[A8],?_,λt A=>?_,?_,λ_ i j a b xC hj ha hb=>?_,λN=>zX z (by lia)⟩
  ·rw[G,AK,AF,Fk];lia
  ·rw[G]
   rcases Au.mp A with q | q
   ·exact(C t q).up (by lia)
   ·obtain⟨i,h3,S,U⟩:=nm t q
    exact⟨i,m.length+1,by lia,AN _,S,by rw[U];exact B⟩
  ·rw[BG]
   refine BP.mpr ⟨a3,?_,λu I v H e=>?_⟩
   ·rw[Bc]
    refine B3.mpr ((P3 0 (m.length+1)).imp_of_mem λ{u v} I H huv e=>?_);have b1:=Hd.mp I;have b2:=Hd.mp H;obtain⟨xu,_,E⟩:=at' u (by lia) (by lia);obtain⟨xv,_,e4⟩:=at' v (by lia) (by lia)
    have X:o.getD u.toNat 0=xu:=by rw[BN,E];rfl
    have Y:o.getD v.toNat 0=xv:=by rw[BN,e4];rfl
    simp only[bq]at e;rw[X,Y]at e
    rcases UF e with q | q
    ·have:xu=xv:=congrArg SW q
     subst this;have:=V3 J E e4
     lia
    ·have:xu=y:=congrArg SW q
     subst this;have:=V3 J E B
     lia
   ·obtain⟨t,A,rfl⟩:=Ap.mp I
    obtain⟨t2,Z,rfl⟩:=Ap.mp H;obtain⟨i,h3,S,U⟩:=nm t2 Z;exact cV J (C t A) S B h3 (by rw[<-U];exact e)
  ·rw[G]at hj
   by_cases cj:j<=m.length
   ·exact As _ (a4 z i j a b xC cj ha hb)
   ·have:j=m.length+1:=by lia
    subst this;rw[B]at hb;cases hb;refine Aw _ (Ap.mpr ⟨(i:Int),Hd.mpr (by lia),?_⟩);rw[Ak,BN,ha];rfl
 ·rw[wY z,qY Ac]
  rw[dy (.inl ⟨by decide,by decide⟩)];simp only[AC];obtain⟨v,ev,v0⟩:=Y4 c (s+64 * ((m.length+1:Nat):Int));rw[ev];simp only[AC]
  have hm:(0:Int) < if g < ((m.length+1:Nat):Int)then g else((m.length+1:Nat):Int):=by split <;> lia
  rw[Ki hm];simp only[AC,BI];have d0:=Cu (v / 8) (show(if g < ((m.length+1:Nat):Int)then g else((m.length+1:Nat):Int))≠0 by lia);have d1:=C0 (v / 8) hm;generalize v / 8 % (if g < ((m.length+1:Nat):Int)then g else((m.length+1:Nat):Int))=j at d0 d1
  have dj:j < g/\j < ((m.length+1:Nat):Int):=by split at d1 <;> lia
  obtain⟨x,ex,lx⟩:=at' j d0 (by lia);rw[ex,ey];simp only[AC];rw[K0 (by rw[AK];lia)];refine⟨T++L++[(x,y)],rfl,L++[(x,y)],by rw[A8],?_,λt A=>?_,?_,λN=>zX N z,λN i b hi ς hb=>?_⟩
  ·rw[G,AK,Al];lia
  ·rw[G]
   rcases Au.mp A with q | q
   ·exact(C t q).up (by lia)
   ·rw[AS.mp q]
    exact⟨j.toNat,m.length+1,by lia,AN _,lx,B⟩
  ·rw[BG]
   refine BP.mpr ⟨a3,by simp,λu I v H e=>?_⟩;obtain⟨t,A,rfl⟩:=Ap.mp I;rw[List.map_singleton,AS]at H;subst H;exact cV J (C t A) lx B (by lia) e
  ·rw[G]at ς
   by_cases ci:i<=m.length
   ·obtain⟨i',x',X,Y,g3,g4⟩:=a5 N i b hi ci hb
    exact⟨i',x',X,Y,g3,As _ g4⟩
   ·have:i=m.length+1:=by lia
    subst this;rw[B]at hb;cases hb;exact⟨j.toNat,x,by lia,by lia,lx,Aw _ (by simp)⟩
theorem Ad.symm{ts:List ZPi}{x y:Int}(h:Ad ts x y):Ad ts y x:=Or.symm h
theorem LG.mono{ts s:List ZPi}{A uG:ZLi}(h:LG ts A uG)(m:∀x y,Ad ts x y->Ad s x y):LG s A uG:=by
 unfold LG at h ⊢;split
 ·rename_i c
  rw[qX c]at h;exact⟨h.1,λx j y l B=>m x y (h.2 x j y l B)⟩
 ·rename_i c
  rw[qY c]at h;refine⟨h.1,h.2.1,λC E G=>h.2.2.1 C E λx j o y l g=>G x j o y l (m x y g),λx j=>?_⟩
  rcases h.2.2.2 x j with q | ⟨y,l,g⟩
  ·exact .inl q
  ·exact .inr ⟨y,l,m x y g⟩
theorem Yk{l:ZLi}(h:l.Nodup):(CO l).Pairwise (· < ·):=Lg h
theorem eM{pl:ZLi}(hn:pl.Nodup)(h1:1<=pl.length){inner:Int}(i0:0<=inner)(i1:inner < pl.length){L:List ZPi}(H:Lk pl inner (pl.length - 1) L) :
  LG L (CO pl) (CO (pl.take inner.toNat)):=by
 have lt:∀{j:Nat} {y:Int},pl[j]?=some y->j<=pl.length - 1:=λh=>by have:=(AD.mp h).1;lia
 have G:∀x,x∈CO pl↔x∈pl:=λx=>(Bs _).mem_iff
 have s:∀x,x∈CO (pl.take inner.toNat)↔∃i:Nat,(i:Int) < inner/\pl[i]?=some x:=λx=>by
  rw[(Bs _).mem_iff]
  constructor
  ·intro h
   obtain⟨i,o⟩:=Hz h;have X:=(AD.mp o).1;rw[Bk]at X;rw[GD (by lia)]at o;exact⟨i,by lia,o⟩
  ·rintro⟨i,I,m⟩
   refine An (i:=i) ?_;rw[GD (by lia)];exact m
 unfold LG
 by_cases z:inner=0
 ·subst z
  have e:CO (pl.take (0:Int).toNat)=[]:=List.perm_nil.mp (Bs []);rw[qX e];refine⟨λq=>?_,λx E y g Y=>?_⟩
  ·have:=(Bs pl).length_eq
   rw[q]at this;simp at this
   lia
  ·obtain⟨i,o⟩:=Hz ((G x).mp E)
   obtain⟨j,l⟩:=Hz ((G y).mp g)
   rcases Pj i j with c | c | c
   ·exact .inl (H.c0 rfl i j x y c (lt l) o l)
   ·subst c;rw[o]at l;cases l;exact zX rfl Y
   ·exact .inr (H.c0 rfl j i y x c (lt o) l o)
 ·have Q:0 < inner:=by lia
  have N:(CO (pl.take inner.toNat)).length=inner.toNat:=by
   rw[(Bs _).length_eq,Bk]
   lia
  rw[qY λq=>by rw[q]at N;simp at N;lia];refine⟨λx E=>?_,?_,λC d1 d2=>?_,λx E=>?_⟩
  ·obtain⟨i,_,m⟩:=(s x).mp E
   exact(G x).mpr (An m)
  ·rw[N,(Bs pl).length_eq]
   lia
  ·-- down to the first place,and up g7
   have at':∀i:Nat,(i:Int) < inner->∃x,pl[i]?=some x:=λi o=>⟨_,AZ (by lia)⟩
   have step:∀(j:Nat) (y:Int),1<=j->(j:Int) < inner->pl[j]?=some y->∃(i:Nat) (x:Int),i < j/\(i:Int) < inner/\pl[i]?=some x/\(x∈C↔y∈C):=λj y l J g=>by
    obtain⟨i,x,I,m,A,B⟩:=H.c1 Q j y l (lt g) g;have R:=(s x).mpr ⟨i,m,A⟩;have S:=(s y).mpr ⟨j,J,g⟩;exact⟨i,x,I,m,A,λq=>d2 x R q y S (.inl B),λq=>d2 y S q x R (.inr B)⟩
   obtain⟨Z,O⟩:=at' 0 (by lia)
   have same:∀(n j:Nat) (y:Int),j<=n->(j:Int) < inner->pl[j]?=some y->(Z∈C↔y∈C):=λn=>by
    induction n with
    | zero=>
     intro j y l _ g
     have:j=0:=by lia
     subst this;rw[O]at g;cases g;exact Iff.rfl
    | succ n T=>
     intro j y l J g
     by_cases c:j=0
     ·exact T j y (by lia) J g
     ·obtain⟨i,x,I,m,A,B⟩:=step j y (by lia) J g
      exact(T i x (by lia) m A).trans B
   obtain⟨a,U⟩:∃a,(CO (pl.take inner.toNat))[0]?=some a:=⟨_,AZ (by lia)⟩
   obtain⟨k,k1,k2⟩:=(s a).mp (An U);have P:=(same k k a (AN _) k1 k2).mpr (d1 a U);intro y g;obtain⟨j,j1,j2⟩:=(s y).mp g;exact(same j j y (AN _) j1 j2).mp P
  ·obtain⟨j,l⟩:=Hz ((G x).mp E)
   by_cases c:(j:Int) < inner
   ·exact .inl ((s x).mpr ⟨j,c,l⟩)
   ·obtain⟨i,y,I,m,A,B⟩:=H.c1 Q j x (by lia) (lt l) l
    exact .inr ⟨y,(s y).mpr ⟨i,m,A⟩,.inr B⟩
theorem kO{g:Type}(l:List g){a b:Nat}(h:a<=b)(hb:b<=l.length):Gv l (some (a:Int)) (some (b:Int))=(l.drop a).take (b - a):=by
 unfold Gv;rw[HT.P2,HT.P2,IZ hb,IZ (by lia)]
theorem Ui(ns:ZLi){k:Int}(g:0<=k):∃c,E6 ns k=some c/\0<=c:=by
 unfold E6 JK
 by_cases c:k < ns.length
 ·obtain⟨x,j,_⟩:=Um g c
  rw[wX c,qX rfl,j];rw[show T9 10 60=some (10 ^ 60)from qX (by decide)];simp only[AC];rw[Ki (by decide)];exact⟨_,rfl,Cu _ (by decide)⟩
 ·rw[wY c,qY Ac]
  exact⟨0,rfl,Rh _⟩
def sm(K:List ZPi):Int:=(K.map (·.1)).sum
theorem Yl(K:List ZPi)(x:Int×Int):sm (K++[x])=sm K+x.1:=by
 unfold sm;simp
theorem cp{m:Int}(g:0<=m):∀{K:List ZPi},(∀k∈K,1<=k.1/\k.1<=m)->K.length<=sm K/\sm K<=m * K.length
 | [],_=>by simp[sm]
 | k :: K,h=>by
  have j:=cp g (K:=K) λd hd=>h d (AT _ hd)
  have l:=h k Ao
  have e:sm (k :: K)=k.1+sm K:=by unfold sm;simp
  rw[e,A0]
  have:m * ((K.length+1:Nat):Int)=m * (K.length:Int)+m:=by rw[show((K.length+1:Nat):Int)=(K.length:Int)+1 by lia,Int.mul_add,tL]
  lia
structure Gi(od:ZLi)(i a:Nat)(T:List ZPi)(cs:List (ZLi×ZLi)):Prop where
 ne:∀t∈T,t.1≠t.2/\t.1∈od.take a/\t.2∈od.take a
 nd:(T.map nrm).Nodup
 tl:T.length<=36 * i
 cl:cs.length=i
 cu:∀c∈cs,c.1≠[]/\c.1.Pairwise (· < ·)/\c.2.Pairwise (· < ·)/\c.1.length<=6/\c.2.length<=6
 co:∀c∈cs,LG T c.1 c.2
 fp:(fl cs).Perm (od.take a)
theorem Gi.next{m:ZLi}(R:m.Nodup){i a n:Nat}{T L:List ZPi}{cs:List (ZLi×ZLi)}(h:Gi m i a T cs)(ha:a+n<=m.length)(n1:1<=n)(n6:n<=6){l:Int}(S:0<=l)(i1:l < n)
  (l1:L.length<=36) (B:Lk ((m.drop a).take n) l (((m.drop a).take n).length - 1) L) :
  Gi m (i+1) (a+n) (T++L) (cs++[(CO ((m.drop a).take n),CO (((m.drop a).take n).take l.toNat))]):=by
 have C:m.take (a+n)=m.take a++(m.drop a).take n:=by rw[List.take_add]
 have E:(m.take a++(m.drop a).take n).Nodup:=by rw[<-C];exact R.sublist (Gy _ _)
 obtain⟨vW,A,O⟩:=BP.mp E
 have U:((m.drop a).take n).length=n:=by rw[Bk,CD];lia
 generalize (m.drop a).take n=pl at *
 have o:∀t∈L,t.1≠t.2/\t.1∈pl/\t.2∈pl:=λt s=>by
  obtain⟨i,j,h1,h2,P,G⟩:=B.sub t s;refine⟨λe=>?_,An P,An G⟩;rw[<-e]at G;have:=V3 A P G
  lia
 refine⟨λt s=>?_,?_,?_,?_,λc H=>?_,λc H=>?_,?_⟩
 ·rw[C]
  rcases Au.mp s with q | q
  ·obtain⟨I,J,N⟩:=h.ne t q
   exact⟨I,As _ J,As _ N⟩
  ·obtain⟨I,J,N⟩:=o t q
   exact⟨I,Aw _ J,Aw _ N⟩
 ·rw[BG]
  refine BP.mpr ⟨h.nd,B.nd,λu X v Y e=>?_⟩;obtain⟨t,s,rfl⟩:=Ap.mp X;obtain⟨w,hw,rfl⟩:=Ap.mp Y;have g:=(h.ne t s).2.1;have gl:=o w hw
  rcases UF e with q | q
  ·rw[q]at g
   exact O _ g _ gl.2.1 rfl
  ·rw[q]at g
   exact O _ g _ gl.2.2 rfl
 ·rw[AK]
  have:=h.tl
  lia
 ·rw[AK,h.cl]
  rfl
 ·rcases Au.mp H with q | q
  ·exact h.cu c q
  ·rw[AS.mp q]
   have Q:=(Bs pl).length_eq;have Z:=(Bs (pl.take l.toNat)).length_eq;rw[Bk]at Z;refine⟨λz=>?_,Yk A,Yk (A.sublist (Gy _ _)),by dsimp only;lia,by dsimp only;lia⟩;dsimp only at z;rw[z]at Q;simp at Q
   lia
 ·have m1:∀x y,Ad T x y->Ad (T++L) x y:=λx y q=>q.imp (As _) (As _)
  have m2:∀x y,Ad L x y->Ad (T++L) x y:=λx y q=>q.imp (Aw _) (Aw _)
  rcases Au.mp H with q | q
  ·exact(h.co c q).mono m1
  ·rw[AS.mp q]
   exact(eM A (by lia) S (by lia) B).mono m2
 ·rw[kE,C]
  exact h.fp.append (Bs pl)
theorem da{g:ZLi}{p:Nat}(j:g.Nodup)(A:g.length=p)(m:∀x∈g,0<=x/\x < p):g.Perm (Hv 0 p):=by
 refine(JB j ((P3 0 p).imp λq=>by lia)).mpr λx=>⟨λh=>Hd.mpr (by have:=m x h;lia),λh=>Ca λo=>?_⟩
 have:=UH (l:=x :: g) (k:=Hv 0 p) (Ct.mpr ⟨o,j⟩) λy s=>by
  rcases Aq.mp s with q | q
  ·rw[q];exact h
  ·exact Hd.mpr (by have:=m y q;lia)
 rw[Fk,A0]at this
 lia
theorem cb(p:Nat):CO (Hv 0 p)=Hv 0 p:=(Bs _).eq_of_pairwise (λa b _ _ g j=>R0 g j) (Lh _) ((P3 0 p).imp λq=>by lia)
structure Gr(p:Nat)(ts:List ZPi)(cs:List (ZLi×ZLi)):Prop where
 p1:1<=p
 p2:p<=36
 tz:Tz p ts
 tl:ts.length<=216
 c1:1<=cs.length
 c2:cs.length<=6
 cu:∀c∈cs,c.1≠[]/\c.1.Pairwise (· < ·)/\c.2.Pairwise (· < ·)/\c.1.length<=6/\c.2.length<=6
 co:∀c∈cs,LG ts c.1 c.2
 fp:CO (fl cs)=Hv 0 p
theorem WU(x:Int×Int):SL [x.1,x.2]=some (nrm x).1/\jm [x.1,x.2]=some (nrm x).2:=by
 unfold SL jm RU nrm;simp only[GX,List.foldl_nil];unfold ltZ gtZ;simp
theorem fU(ns:ZLi):Ok (HR ns) λv=>∃p:Nat,v.1=p/\Gr p v.2.1 v.2.2:=by
 unfold HR HN;simp only[AC,kG,BI];obtain⟨Y,e0,c0n⟩:=Ui ns (k:=0) (by decide);rw[e0];simp only[AC];have m0:=Cu Y (show(6:Int)≠0 by decide);have m1:=C0 Y (show(0:Int) < 6 by decide);rw[MU (by lia) (by lia)];simp only[AC];refine OkF.out (OkF.seq (OkF.for (λ(g:ZLi) (s:List ZPi×Int)=>s.1.length=g.length/\(∀k∈s.1,(1<=k.1/\k.1<=6)/\0<=k.2/\k.2 < k.1)/\s.2=sm s.1) ⟨rfl,λk o=>zX o BL,rfl⟩ ?_) ?_)
 ·rintro g x s hx I ⟨s1,s2,s3⟩
  obtain⟨ex,lt⟩:=KA I;obtain⟨c,J,cn⟩:=Ui ns (k:=1+x) (by lia);rw[J];simp only[AC,BI];have a0:=Cu c (show(6:Int)≠0 by decide);have a1:=C0 c (show(0:Int) < 6 by decide);generalize c % 6=m at a0 a1;rw[Ki (by lia)];have b0:=Cu (c / 6) (show 1+m≠0 by lia);have b1:=C0 (c / 6) (show(0:Int) < 1+m by lia);generalize c / 6 % (1+m)=j at b0 b1;simp only[AC];rw[K0 (by lia)];refine .nx ⟨?_,λk o=>?_,?_⟩
  ·dsimp only;rw[AK,AK,s1];rfl
  ·rcases Au.mp o with q | q
   ·exact s2 k q
   ·rw[AS.mp q]
    dsimp only
    lia
  ·dsimp only;rw[Yl,s3]
 ·rintro⟨K,Z⟩ ⟨k1,E,k3⟩
  dsimp only at k1 E k3;subst k3;rw[Fk]at k1
  have sl:=cp (m:=6) (by decide) (K:=K) λk o=>(E k o).1
  obtain⟨p,ep⟩:∃p:Nat,sm K=p:=⟨(sm K).toNat,by lia⟩
  have Kl:1<=K.length/\K.length<=6:=by lia
  have N:p<=36:=by lia
  have p1:1<=p:=by lia
  dsimp only;obtain⟨c7,e7,_⟩:=Ui ns (k:=7) (by decide);rw[e7];simp only[AC];rw[ep];obtain⟨od,eo,o1,O,P⟩:=jX c7 (p:=p) (by lia);rw[eo];simp only[AC,kG,BI];rw[MU (by lia) (by lia),Ak];simp only[AC];refine OkF.seq (OkF.for (λ(g:ZLi) (s:List ZPi×List (ZLi×ZLi)×Int)=>∃a:Nat,s.2.2=a/\s.2.2=sm (K.take g.length)/\Gi od g.length a s.1 s.2.1) ⟨0,rfl,rfl,⟨λt A=>zX A BL,FQ,AN _,rfl,λc B=>zX B BL,λc B=>zX B BL,List.Perm.refl _⟩⟩ ?_) ?_
  ·rintro g x ⟨T,cs,at'⟩ hx I ⟨a,H,C,G⟩
   dsimp only at H C G;obtain⟨ex,lt⟩:=KA I;rw[LZ]at ex;subst ex;obtain⟨k,ek,Q⟩:=Um (l:=K) (i:=(g.length:Int)) (by lia) (by lia);rw[Ak]at Q;obtain⟨⟨q1,q2⟩,R,q4⟩:=E k (An Q)
   obtain⟨n,en⟩:∃n:Nat,k.1=n:=⟨k.1.toNat,by lia⟩
   have tk:K.take (g.length+1)=K.take g.length++[k]:=take_snoc Q
   have nx:sm (K.take (g.length+1))=sm (K.take g.length)+k.1:=by rw[tk,Yl]
   have le:a+n<=od.length:=by
    have h1:sm K=sm (K.take (g.length+1))+sm (K.drop (g.length+1)):=by
     conv=>lhs;rw[<-Dx (g.length+1) K]
     unfold sm;rw[BG,List.sum_append]
    have h2:=cp (m:=6) (by decide) (K:=K.drop (g.length+1)) λk o=>(E k (List.mem_of_mem_drop o)).1
    lia
   simp only[AC];rw[ek];simp only[AC,BI];rw[H,en,show(a:Int)+(n:Int)=((a+n:Nat):Int) by lia,kO od (by lia) le,show a+n - a=n by lia];obtain⟨c,J,_⟩:=Ui ns (k:=1+(g.length:Int)) (by lia);rw[J];simp only[AC,BI]
   have pll:((od.drop a).take n).length=n:=by rw[Bk,CD];lia
   have S:((od.drop a).take n).Nodup:=O.sublist ((Gy _ _).trans (bj _ _));have tl:=G.tl;obtain⟨L,eL,g1,g2⟩:=gH c (900+(g.length:Int)) S (by lia) (by lia) R (by lia) (T:=T) (by lia);rw[eL];simp only[AC,BI];rw[kN _ R];rw[K0 (by rw[G.cl];lia)];simp only[AC,BI];refine .nx ⟨a+n,rfl,?_,?_⟩
   ·rw[AK,Al]
    dsimp only
    lia
   ·rw[AK,Al]
    exact G.next O le (by lia) (by lia) R (by lia) g1 g2
  ·rintro⟨T,cs,at'⟩ ⟨a,H,C,G⟩
   dsimp only at H C G;rw[Fk]at C G;rw[ER]at C
   have ap:a=p:=by lia
   subst ap;have tk:od.take a=od:=Bg (by lia);have ne:=G.ne;have fp:=G.fp;rw[tk]at ne fp;dsimp only;have tl:=G.tl
   rw[Md (f:=nrm) (by lia) λx _=>by
    rw[(WU x).1,(WU x).2]
    rfl]
   simp only[AC]
   have U:Tz (a:Int) (T.map nrm):=by
    refine⟨λt A=>?_,G.nd⟩;obtain⟨u,hu,rfl⟩:=Ap.mp A;obtain⟨h1,h2,h3⟩:=ne u hu;have r1:=P _ h2;have r2:=P _ h3;unfold nrm;dsimp only
    split <;> split <;> lia
   have X:=Nj (T.map nrm);refine .rt ⟨a,rfl,⟨p1,N,U.perm X,?_,?_,?_,G.cu,λc B=>(G.co c B).mono λx y q=>?_,?_⟩⟩
   ·dsimp only
    rw[X.length_eq,AF]
    lia
   ·dsimp only;rw[G.cl];lia
   ·dsimp only;rw[G.cl];lia
   ·have mm:∀t∈T,nrm t∈PL (T.map nrm):=λt A=>X.mem_iff.mpr (Ap.mpr ⟨t,A,rfl⟩)
    have tw:∀u v:Int,nrm (u,v)=(u,v)∨nrm (u,v)=(v,u):=λu v=>by
     unfold nrm;dsimp only
     split <;> split
     ·lia
     ·exact .inr rfl
     ·exact .inl rfl
     ·exact .inl (K7 rfl (by dsimp only;lia))
    rcases q with q | q
    ·have:=mm _ q
     rcases tw x y with e | e
     ·rw[e]at this;exact .inl this
     ·rw[e]at this;exact .inr this
    ·have:=mm _ q
     rcases tw y x with e | e
     ·rw[e]at this;exact .inr this
     ·rw[e]at this;exact .inl this
   ·dsimp only
    rw[cf (fp.trans (da O o1 P)),cb]
section
variable{nb u6:Int->ZLi}{p q:Nat}{s s':Int}{f:Int->Int}{L L':Met}
theorem Fd.map_le(h:Fd nb p s L)(h':Fd u6 q s' L')(e:f s=s')(j:∀x y,x∈A2 L->y∈nb x->f y∈u6 (f x)):∀(n:Nat) (x:Int),(x,(n:Int))∈L->f x∈A2 L'/\stp L' (f x)<=n
 | 0,x,g=>by
  have:=h.zero _ g rfl;dsimp only at this;rw[this,e];exact⟨h'.src'.1,by rw[h'.src'.2];exact Rh _⟩
 | n+1,x,g=>by
  obtain⟨⟨b,d⟩,hb,m,l⟩:=h.par _ g (by dsimp only;lia);dsimp only at m l
  have:d=(n:Int):=by lia
  subst this;obtain⟨o,B⟩:=Fd.map_le h h' e j n b hb;obtain⟨A,C⟩:=h'.le' o (j b x (Cb.mpr ⟨_,hb⟩) l);exact⟨A,by lia⟩
theorem Sa(h:Fd nb p s L)(m:∀x y:Int,0<=x->0<=y->y∈nb x->x∈nb y)(o:∀x∈A2 L,u6 (f x)=(nb x).map f)(g:∀x∈A2 L,stp L' (f x)=stp L x):∀(n:Nat) (x:Int),(x,(n:Int))∈L->E0 u6 L' n (f x)=(E0 nb L n x).map f
 | 0,x,_=>rfl
 | n+1,x,A=>by
  have j:x∈A2 L:=Cb.mpr ⟨_,A⟩;obtain⟨y,l,C,B⟩:=h.next m A (by lia)
  have E:Eb u6 L' (f x)=(Eb nb L x).map f:=by
   unfold Eb;rw[o x j,List.filter_map]
   congr 1
   refine bi λz G=>?_
   simp only[bq];rw[g x j,g z (h.le' j G).1]
  show f x :: E0 u6 L' n ((Eb u6 L' (f x)).headD 0)=f x :: (E0 nb L n ((Eb nb L x).headD 0)).map f;rw[E,C];rw[show((n+1:Nat):Int) - 1=n by lia]at B;exact congrArg _ (Sa h m o g n y B)
end
theorem ql{l k:ZLi}(g:l.Pairwise (· < ·))(j:k.Pairwise (· < ·))(h:∀x,x∈l↔x∈k):l=k:=
 ((JB (g.imp λq=>by lia) (j.imp λq=>by lia)).mpr h).eq_of_pairwise (λa b _ _ m o=>by lia) g j
def nbG(g:List ZPi)(G:ZLi)(x:Int):ZLi:=if x∈G then(nr g x.toNat).filter λy=>decide (y∈G)else[]
section
variable{p:Nat}{us:List ZPi}{G l:ZLi}
theorem lE(h:Tz p us)(x:Nat):(nr us x).Pairwise (· < ·):=by
 unfold nr;exact Lg (Nv h.2 λt g=>(h.1 t g).2.1)
theorem Xn{x:Int}(g:x∈G):nbG us G x=(nr us x.toNat).filter λy=>decide (y∈G):=qX g
theorem HS{x y:Int}(h0:0<=x):y∈nbG us G x↔x∈G/\Ad us x y/\y∈G:=by
 unfold nbG;split
 ·rename_i g
  rw[BF,Xj,CN h0,decide_eq_true_iff];exact⟨λq=>⟨g,q⟩,λq=>q.2⟩
 ·rename_i g
  exact⟨λq=>zX q BL,λq=>zX q.1 g⟩
theorem Kh(x y:Int)(h0:0<=x)(g:0<=y)(h:y∈nbG us G x):x∈nbG us G y:=by
 obtain⟨a,b,c⟩:=(HS h0).mp h;exact(HS g).mpr ⟨c,b.symm,a⟩
theorem Y2(h:Tz p us)(x:Int)(h0:0<=x)(_:x < p):∀y∈nbG us G x,0<=y/\y < p:=λy g=>by
 rcases((HS h0).mp g).2.1 with q | q <;> (have:=h.1 _ q;dsimp only at this;lia)
theorem MR(h:Tz p us):Tz p (FU us):=by
 have g:=IW us;rw[h.nrm]at g;exact h.perm g
theorem dw(h:Tz p us)(x:Int):(nbW (FU us) x).Pairwise (· < ·):=lE (MR h) x.toNat
theorem lT(h:Tz p us){x y:Int}:Ad (FU us) x y↔Ad us x y:=by
 have g:=IW us;rw[h.nrm]at g;unfold Ad;rw[g.mem_iff,g.mem_iff]
theorem Xm(h:Tz p us)(o:l.Pairwise (· < ·))(g:∀x,x∈G↔x∈l)(h0:∀x∈l,0<=x){x:Int}(s:x∈l):nbW (FU (wt (FU us) l)) (rk l x)=(nbG us G x).map (rk l):=by
 have B:=YT (MR h) o;obtain⟨i,H,I⟩:=LC s
 refine ql (dw B _) ?_ λz=>⟨λA=>?_,λA=>?_⟩
 ·rw[Xn ((g x).mpr s)]
  refine B3.mpr (((lE h x.toNat).filter _).imp_of_mem λ{a b} L hb q=>lA o ?_ ?_ q)
  ·exact(g a).mp (of_decide_eq_true (BF.mp L).2)
  ·exact(g b).mp (of_decide_eq_true (BF.mp hb).2)
 ·have Q:0<=z/\z < (l.length:Int):=by
   rcases(B.nb (by lia)).mp A with q | q <;> (have:=B.1 _ q;dsimp only at this;lia)
  have m:=AZ (l:=l) (i:=z.toNat) (by lia)
  have J:z=((z.toNat:Nat):Int):=by lia
  generalize l[z.toNat]'(by lia)=y at m;rw[H,J]at A;have C:=(lT h).mp ((kz (MR h) o I m).mp A);have E:=An m;exact Ap.mpr ⟨y,(HS (h0 x s)).mpr ⟨(g x).mpr s,C,(g y).mpr E⟩,by rw[Yp o m];exact J.symm⟩
 ·obtain⟨y,E,rfl⟩:=Ap.mp A
  obtain⟨_,N,O⟩:=(HS (h0 x s)).mp E;obtain⟨j,P,m⟩:=LC ((g y).mp O);rw[H,P];exact(kz (MR h) o I m).mpr ((lT h).mpr N)
theorem Fd.inG{c:Int}{L:Met}(h:Fd (nbG us G) p c L)(j:c∈G){x:Int}(m:x∈A2 L):x∈G:=by
 have g:=h.at' m
 by_cases z:stp L x=0
 ·have:=h.zero _ g z
  dsimp only at this;rw[this];exact j
 ·obtain⟨b,hb,_,o⟩:=h.par _ g (by have:=h.nn _ g;dsimp only at this ⊢;lia)
  exact((HS (h.rng _ hb).1).mp o).2.2
theorem Tq(e c:Int):KF (e :: c :: [])=some [e,c]:=qX (by simp)
theorem Zz(h:Tz p us)(hp:p<=60)(ul:us.length<=400){s:ZLi}{e c:Int}(hr:∀x∈s++[e,c],0<=x/\x < p)(nd:(s++[e,c]).Nodup){L:Met}(m:Fd (nbG us (s++[e,c])) p c L)(Q:e∈A2 L):HP (p,FU us) s e c=some (E0 (nbG us (s++[e,c])) L (stp L e).toNat e):=by
 generalize T:s++[e,c]=G at *
 have U:e∈G/\c∈G:=by rw[<-T];simp
 have lG:=V2 p G nd hr
 have lI:s.length+2=G.length:=by rw[<-T];simp
 unfold HP HM;simp only[AC,Tq];rw[OD (by simp;lia),T];simp only[AC,BI];have H:=Bs G
 have o:∀x,x∈G↔x∈CO G:=λx=>H.mem_iff.symm
 have B:(CO G).Pairwise (· < ·):=Lg nd;have ll:(CO G).length=G.length:=H.length_eq
 generalize CO G=l at *
 have R:∀x∈l,0<=x:=λx g=>(hr x ((o x).mpr g)).1
 have I:=(o e).mp U.1;have X:=(o c).mp U.2
 have zV:(FU us).length<=400:=by
  have H:=IW us;rw[h.nrm]at H;rw[H.length_eq];exact ul
 rw[bw (w:=(p,FU us)) (MR h) (by dsimp only;lia) B (by lia) (by lia),N5 I,N5 X];simp only[AC];have hz:=YT (MR h) B;have ok:=hz.ok (by lia) (Av mH zV);have re:=Yq I;have rc:=Yq X;have hb:=ON ok.2.1 rc l.length;have J:=hb.fd hb.len;unfold HQ;rw[qX ⟨⟨ok,dw hz⟩,re,rc⟩]
 generalize Rn (nbW (FU (wt (FU us) l))) (rk l c) l.length=Y at *
 have N:∀x∈A2 L,x∈l:=λx g=>(o x).mp (m.inG U.2 g)
 have m1:=Fd.map_le (f:=rk l) m J rfl λx y g S=>by
  rw[Xm h B o R (N x g)];exact Ap.mpr ⟨y,S,rfl⟩
 have C:∀{x},x∈l->l.getD (rk l x).toNat 0=x:=λ{x} g=>by
  obtain⟨i,E,A⟩:=LC g;rw[E,Ak,BN,A];rfl
 have m2:=Fd.map_le (f:=λi=>l.getD i.toNat 0) J m (C X) λi j Z hj=>by
  obtain⟨d,hd⟩:=Cb.mp Z;have ri:=J.rng _ hd;dsimp only at ri;have A:=AZ (l:=l) (i:=i.toNat) (by lia);have g:=An A;generalize l[i.toNat]'(by lia)=x at A g
  have E:i=rk l x:=by rw[Yp B A];lia
  rw[E,Xm h B o R g]at hj;obtain⟨y,S,rfl⟩:=Ap.mp hj;rw[E,C g,C ((o y).mp ((HS (R x g)).mp S).2.2)];exact S
 have st:∀x∈A2 L,rk l x∈A2 Y/\stp Y (rk l x)=stp L x:=λx g=>by
  have h1:=m.at' g;have n1:=m.nn _ h1;dsimp only at n1;obtain⟨a1,a2⟩:=m1 (stp L x).toNat x (by rw[CN n1];exact h1);have h2:=J.at' a1;have n2:=J.nn _ h2;dsimp only at n2;have a3:=(m2 (stp Y (rk l x)).toNat (rk l x) (by rw[CN n2];exact h2)).2;rw[C (N x g)]at a3;exact⟨a1,by lia⟩
 obtain⟨k1,k2⟩:=st e Q;rw[qX k1,k2];simp only[AC,id,BI];have vW:=m.nn _ (m.at' Q);dsimp only at vW
 have tU:(e,((stp L e).toNat:Int))∈L:=by rw[CN vW];exact m.at' Q
 have uO:=m.far _ (m.at' Q);dsimp only at uO;rw[Sa m Kh (λx g=>Xm h B o R (N x g)) (λx g=>(st x g).2) _ e tU]
 rw[Md (f:=λi=>l.getD i.toNat 0) (by rw[AF,IU];lia) λi Z=>by
  obtain⟨x,g,rfl⟩:=Ap.mp Z;rw[Na]at g;obtain⟨k,O,rfl⟩:=Ap.mp g;have O:=DM.mp O;have:=(m.bk Kh tU k (by lia)).1;have P:=N _ (Cb.mpr ⟨_,this⟩);obtain⟨i,E,A⟩:=LC P;rw[C P,E]
  exact Iq (by lia) (by rw[Ak];exact A)]
 simp only[AC];refine congrArg some ?_;rw[Bc]
 conv=>rhs;rw[<-Ms (E0 _ _ _ _)]
 refine Ci λx g=>?_
 rw[Na]at g;obtain⟨k,O,rfl⟩:=Ap.mp g;have O:=DM.mp O;have:=(m.bk Kh tU k (by lia)).1;exact C (N _ (Cb.mpr ⟨_,this⟩))
end
end M
namespace L4
open L2
section
variable{ρ σ τ:Type}
theorem Ke{r:Option (Fw ρ σ)}{K:σ->Option (Fw ρ τ)}{v:ρ}{P:σ->Prop}(h:∃s,r=some (.nx s)/\P s)(g:∀s,P s->LM (K s)=some v):LM (Ba r K)=some v:=by
 obtain⟨s,rfl,j⟩:=h;rw[BI];exact g s j
theorem oR{r:Option (Fw ρ σ)}{K:σ->Option (Fw ρ τ)}{P:σ->Prop}{Q:τ->Prop}(h:∃s,r=some (.nx s)/\P s)(g:∀s,P s->∃s',K s=some (.nx s')/\Q s'):∃s',Ba r K=some (.nx s')/\Q s':=by
 obtain⟨s,rfl,j⟩:=h;rw[BI];exact g s j
end
end L4
namespace M
open L2 L4
theorem Yf(L:Met)(z:Int):(C3 L z).isSome=decide (z∈A2 L):=by
 rw[Ri,decide_eq_true_iff];unfold C3;rw[JU,List.find?_isSome];unfold A2;rw[Ap];exact⟨λ⟨a,g,j⟩=>⟨a,g,of_decide_eq_true j⟩,λ⟨a,g,j⟩=>⟨a,g,wX j⟩⟩
theorem Tk{L:Met}(nd:(A2 L).Nodup){z d:Int}(h:(z,d)∈L)(N:Met):C3 (L++N) z=some d:=by
 unfold C3;rw[List.find?_append,RK nd h];rfl
theorem cL{L:Met}{z:Int}(h:z∉A2 L):C3 L z=none:=by
 have:=Yf L z;rw[wY h]at this;exact Option.isNone_iff_eq_none.mp (by rw[<-Option.not_isSome,this];rfl)
theorem ZZ(g:ZLi)(x:Int):atI (g++[x]) (-1)=some x:=by
 obtain⟨y,m,j⟩:=jq (l:=g++[x]) (by simp);rw[m];rw[AK,Al,Nat.add_sub_cancel,A4 (AN _),Pi]at j;exact j.symm
section
variable{p:Nat}{us:List ZPi}{G:ZLi}{e c:Int}
theorem gR{x:Int}(h0:0<=x)(g:x < p):atI ((BM p).map (nr us)) x=some (nr us x.toNat):=Iq h0 (by
 rw[Ah,CH (by lia)]
 rfl)
theorem ee(h:Tz p us)(hp:p<=60)(ul:us.length<=400)(hr:∀x∈G,0<=x/\x < p)(J:c∈G)(he:e∈A2 (Rn (nbG us G) c p)):Kc ((BM p).map (nr us)) G e c=some (E0 (nbG us G) (Rn (nbG us G) c p) (stp (Rn (nbG us G) c p) e).toNat e):=by
 have U:=ON (Y2 (G:=G) h) (hr c J);have o:=(U p).fd (U p).len;unfold Kc Ka;simp only[AC,sU,BI];refine Ke (XC (λs:List ZPi×ZLi×Int=>∃i:Nat,i<=p/\s=(Rn (nbG us G) c i,A2 (Rn (nbG us G) c i),(i:Int))) (λs=>p - s.2.2.toNat) ?_ wN _ ⟨0,CZ _,rfl⟩ (A5 (Nat.sub_le _ _) (A5 hp (by decide)))) ?_
 ·rintro s ⟨i,hi,rfl⟩
  have B:=U i;have hL:=B.len
  have X:(A2 (Rn (nbG us G) c i)).length=(Rn (nbG us G) c i).length:=by unfold A2;rw[AF]
  dsimp only;rw[X]
  by_cases q:i < (Rn (nbG us G) c i).length
  ·refine .inr ⟨congrArg some (wX (by lia)),?_⟩
   have O:=AZ q
   obtain⟨⟨x,d⟩,ea⟩:∃a,(Rn (nbG us G) c i)[i]=a:=⟨_,rfl⟩
   rw[ea]at O;have wQ:Rn (nbG us G) c (i+1)=F9 d (nbG us G x) (Rn (nbG us G) c i):=MV O;have hm:=An O;have A:=B.rng _ hm;dsimp only at A
   have hxG:x∈G:=by
    obtain⟨N,Y⟩:=Rb (nb:=nbG us G) (s:=c) i (p - i);rw[show i+(p - i)=p by lia]at Y;refine o.inG J (Cb.mpr ⟨d,?_⟩);rw[Y];exact As _ hm
   rw[Xn hxG]at wQ
   have Q:atI (A2 (Rn (nbG us G) c i)) (i:Int)=some x:=Iq (by lia) (by
    unfold A2;rw[Ak,Ah,O]
    rfl)
   have nl:=dr us x.toNat;rw[Q];simp only[AC];rw[gR A.1 A.2];simp only[AC]
   generalize Rn (nbG us G) c i=L at *
   have fin:∀r:Option (Fw ZLi (List ZPi×ZLi×Int)),(∃E,r=some (.nx E)/\E=(Rn (nbG us G) c (i+1),A2 (Rn (nbG us G) c (i+1)),((i+1:Nat):Int)))->∃E,r=some (.nx E)/\(∃j:Nat,j<=p/\E=(Rn (nbG us G) c j,A2 (Rn (nbG us G) c j),(j:Int)))/\p - E.2.2.toNat < p - ((i:Int)).toNat:=by
    rintro r ⟨E,k1,rfl⟩;refine⟨_,k1,⟨i+1,by lia,rfl⟩,?_⟩;dsimp only
    lia
   refine fin _ (oR (Kr (λg s=>s=(F9 d (g.filter λy=>decide (y∈G)) L,A2 (F9 d (g.filter λy=>decide (y∈G)) L))/\(F9 d (g.filter λy=>decide (y∈G)) L).length<=60+g.length) ⟨rfl,by show L.length<=_;lia⟩ ?_) ?_)
   ·rintro g y s hy uf ⟨rfl,hle⟩
    have tX:=uf.length_le;rw[AK,Al]at tX ⊢;rw[OP]
    by_cases Z:y∈G
    ·rw[show[y].filter (λy=>decide (y∈G))=[y]from U9 (wX Z),MH]
     obtain⟨N,Y,_⟩:=Hh d (g.filter λy=>decide (y∈G)) L;rw[wX Z,qX rfl,Yf];rw[Y]at hle ⊢
     by_cases R:y∈A2 (L++N)
     ·rw[wX R,show X9 d (L++N) y=L++N from qX R]
      exact⟨_,rfl,rfl,by lia⟩
     ·rw[wY R,show X9 d (L++N) y=L++N++[(y,d+1)]from qY R]
      have hk2:atI (A2 (L++N)) (i:Int)=some x:=Iq (by lia) (by
       unfold A2;rw[Ak,Ah,Aa q,O]
       rfl)
      dsimp only[AC,SZ,if_true];simp only[AC,SZ,if_true];rw[hk2];simp only[AC];rw[Tk B.nd hm];simp only[AC];rw[show SE (L++N) y (d+1)=some (L++N++[(y,d+1)])from(qX (by lia)).trans (congrArg some (No R))];simp only[AC,BI];rw[K0 (by unfold A2;rw[AF];lia)];refine⟨_,rfl,?_,by rw[AK,Al];lia⟩;rw[Eg (L++N)];rfl
    ·rw[show[y].filter (λy=>decide (y∈G))=[]from VC (by simp[Z]),A3,wY Z]
     exact⟨_,rfl,rfl,by lia⟩
   ·rintro s ⟨rfl,_⟩
    rw[<-wQ];exact⟨_,rfl,rfl⟩
  ·exact .inl (congrArg some (wY (by lia)))
 ·rintro s ⟨⟨i,hi,rfl⟩,C⟩
  have X:(A2 (Rn (nbG us G) c i)).length=(Rn (nbG us G) c i).length:=by unfold A2;rw[AF]
  have C:=of_decide_eq_false (Ch C);dsimp only at C;rw[X]at C;rw[show Rn (nbG us G) c i=Rn (nbG us G) c p from gW (by lia) (U p).len]
  clear C X
  clear C
  generalize Rn (nbG us G) c p=L at *
  have vW:=o.nn _ (o.at' he);have uO:=o.far _ (o.at' he);dsimp only at vW uO
  obtain⟨n,hn⟩:∃n:Nat,stp L e=n:=⟨(stp L e).toNat,by lia⟩
  have tU:=o.at' he;rw[hn]at tU uO ⊢;rw[Ak];dsimp only;refine Ke (XC (λs:ZLi=>∃(g:ZLi) (x:Int) (k:Nat),s=g++[x]/\(x,(k:Int))∈L/\g++E0 (nbG us G) L k x=E0 (nbG us G) L n e) (λs=>n+1 - s.length) ?_ wN _ ⟨[],e,n,rfl,tU,rfl⟩ (A5 (Nat.sub_le _ _) (A5 (show n+1<=61 by lia) (by decide)))) ?_
  ·rintro s ⟨g,x,k,rfl,A,hw⟩
   have hl:=congrArg EB hw;rw[AK,IU,IU]at hl;rw[ZZ];simp only[AC]
   cases k with
   | zero=>
    have:=o.zero _ A rfl;dsimp only at this;exact .inl (by rw[wX this];rfl)
   | succ m=>
    have H:x≠c:=λe=>by
     have h1:=FV o.nd A;rw[e,o.src'.2]at h1
     lia
    refine .inr ⟨by rw[wY H];rfl,?_⟩;have Q:x∈A2 L:=Cb.mpr ⟨_,A⟩;have I:=o.rng _ A;dsimp only at I;have ex:=FV o.nd A;obtain⟨y,l,e1,hy⟩:=o.next Kh A (by lia);have nl:=dr us x.toNat;have hfx:=o.far _ A;dsimp only at hfx
    have e2:(nr us x.toNat).filter (λz=>decide ((C3 L z).getD 60=((m+1:Nat):Int) - 1))=Eb (nbG us G) L x:=by
     unfold Eb;rw[Xn (o.inG J Q),List.filter_filter]
     refine bi λz hz=>?_
     rw[Ri,CF,decide_eq_true_iff,decide_eq_true_iff,decide_eq_true_iff,ex]
     have had:Ad us x z:=by
      rw[Xj,CN I.1]at hz;exact hz
     by_cases cz:z∈G
     ·have S:z∈nbG us G x:=(HS I.1).mpr ⟨o.inG J Q,had,cz⟩
      obtain⟨z1,z2⟩:=o.le' Q S;have T:=o.at' z1;have zr:=o.rng _ T;obtain⟨_,z3⟩:=o.le' z1 (Kh x z I.1 zr.1 S);have v:=Tk o.nd T [];rw[A3]at v;rw[v];dsimp only[PB];rw[ex]at z2 z3;exact⟨λq=>⟨by lia,cz⟩,λq=>by lia⟩
     ·rw[cL λq=>cz (o.inG J q)]
      dsimp only[PD];exact⟨λq=>by lia,λq=>zX q.2 cz⟩
    rw[gR I.1 I.2];simp only[AC];have v:=Tk o.nd A [];rw[A3]at v;rw[v];simp only[AC];rw[F8 (P:=λz=>decide ((C3 L z).getD 60=((m+1:Nat):Int) - 1)) (by lia) λ_ _=>rfl,e2,e1];simp only[AC];rw[show atI (y :: l) 0=some y from Iq (by decide) rfl];simp only[AC];rw[K0 (by rw[AK,Al];lia)];rw[show((m+1:Nat):Int) - 1=m by lia]at hy;refine⟨_,rfl,⟨g++[x],y,m,rfl,hy,?_⟩,?_⟩
    ·rw[<-hw,A8]
     show g++([x]++E0 (nbG us G) L m y)=g++(x :: E0 (nbG us G) L m ((Eb (nbG us G) L x).headD 0));rw[e1];rfl
    ·rw[AK,AK,Al,Al]
     lia
  ·rintro s ⟨⟨g,x,k,rfl,A,hw⟩,C⟩
   rw[ZZ]at C;have C:=Ch C
   have H:x=c:=by simpa using C
   have h1:=FV o.nd A;rw[H,o.src'.2]at h1
   have:k=0:=by lia
   subst this;rw[<-hw];rfl
end
def gl(w:Nat->Int)(n:Nat):List ZPi:=(BM n).map λk=>(w k,w (k+1))
theorem j4(w:Nat->Int)(n:Nat):gl w (n+1)=gl w n++[(w n,w (n+1))]:=by
 unfold gl;rw[IS,BG];rfl
theorem QA(w:Nat->Int)(n:Nat):(gl w n).map (·.1)=(BM n).map w:=by
 unfold gl;rw[Bc];rfl
theorem WJ:∀(l g:List ZPi),((g++l).map (·.1)).Nodup->l.foldl (λd p=>FX d p.1 p.2) g=g++l
 | [],g,_=>(A3 g).symm
 | x :: l,g,h=>by
  have e:g++x :: l=g++[x]++l:=by simp
  have j:x.1∉g.map (·.1):=λq=>by
   rw[BG]at h;exact(BP.mp h).2.2 _ q _ (by simp) rfl
  rw[GX,No j,e];rw[e]at h;exact WJ l _ h
section
variable{w:Nat->Int}{n:Nat}{s:ZLi}{c:Int}
structure Tn(w:Nat->Int)(n:Nat)(s:ZLi)(c:Int):Prop where
 pos:1<=n
 inj:∀i j,i<=n->j<=n->w i=w j->i=j
 ins:∀k,k < n->w k∈s
 cal:w n=c
 out:c∉s
theorem Tn.nd(T:Tn w n s c){m:Nat}(j:m<=n+1):((BM m).map w).Nodup:=
 B3.mpr (Wi.imp_of_mem λ{a b} g hb q e=>by
  have:=T.inj a b (by have:=DM.mp g;lia) (by have:=DM.mp hb;lia) e
  lia)
theorem Tn.dz(T:Tn w n s c):dzP ((BM (n+1)).map w) (Gv ((BM (n+1)).map w) (some 1) none)=gl w n:=by
 rw[kP _ (by decide)]
 have e:((BM (n+1)).map w).zip (((BM (n+1)).map w).drop (1:Int).toNat)=gl w n:=by
  refine gk (by simp[gl]) λk g j=>?_
  simp[gl,Nat.add_comm]
 unfold dzP;rw[e,WJ]
 ·rfl
 ·rw[hU,QA]
  exact T.nd (by lia)
def mv(w:Nat->Int)(n:Nat)(x:Int):Int:=(C3 (gl w n) x).getD x
theorem Tn.mv_at(T:Tn w n s c){k:Nat}(h:k < n):mv w n (w k)=w (k+1):=by
 have:=Tk (L:=gl w n) (z:=w k) (d:=w (k+1)) (by unfold A2;rw[QA];exact T.nd (by lia)) (Ap.mpr ⟨k,DM.mpr h,rfl⟩) [];rw[A3]at this;unfold mv;rw[this];rfl
theorem Q2{x:Int}(h:∀k,k < n->w k≠x):mv w n x=x:=by
 unfold mv;rw[cL]
 ·rfl
 ·unfold A2
  rw[QA];intro q;obtain⟨k,g,e⟩:=Ap.mp q;exact h k (DM.mp g) e
theorem Vw(w:Nat->Int)(n:Nat)(x:Int):(∃k,k < n/\w k=x)∨∀k,k < n->w k≠x:=by
 by_cases q:∃k,k < n/\w k=x
 ·exact .inl q
 ·exact .inr λk g e=>q ⟨k,g,e⟩
theorem Tn.mem(T:Tn w n s c){x:Int}:x∈s.map (mv w n)↔(x∈s/\x≠w 0)∨x=c:=by
 have g:=T.pos
 constructor
 ·intro h
  obtain⟨y,l,rfl⟩:=Ap.mp h
  rcases Vw w n y with⟨k,j,rfl⟩ | q
  ·rw[T.mv_at j]
   by_cases z:k+1=n
   ·right;rw[z,T.cal]
   ·exact .inl ⟨T.ins _ (by lia),λe=>by have:=T.inj _ _ (by lia) (by lia) e;lia⟩
  ·rw[Q2 q]
   exact .inl ⟨l,(q 0 g).symm⟩
 ·rintro(⟨m,o⟩ | rfl)
  ·rcases Vw w n x with⟨k,j,rfl⟩ | q
   ·cases k with
    | zero=>exact zX rfl o
    | succ k=>exact Ap.mpr ⟨w k,T.ins k (by lia),T.mv_at (by lia)⟩
   ·exact Ap.mpr ⟨x,m,Q2 q⟩
  ·refine Ap.mpr ⟨w (n - 1),T.ins _ (by lia),?_⟩
   rw[T.mv_at (by lia),Nat.sub_add_cancel g,T.cal]
theorem Tn.nodup(T:Tn w n s c)(h:s.Nodup):(s.map (mv w n)).Nodup:=by
 have g:∀(k:Nat) (b:Int),k < n->b∈s->(∀j,j < n->w j≠b)->w (k+1)≠b:=λk b E hb A e=>by
  by_cases z:k+1=n
  ·rw[z,T.cal]at e
   exact T.out (e▸hb)
  ·exact A _ (by lia) e
 refine B3.mpr (h.imp_of_mem λ{a b} B hb C e=>C ?_)
 rcases Vw w n a with⟨i,l,rfl⟩ | m <;> rcases Vw w n b with⟨j,o,rfl⟩ | qb
 ·rw[T.mv_at l,T.mv_at o]at e
  have:=T.inj _ _ (by lia) (by lia) e;rw[show i=j by lia]
 ·rw[T.mv_at l,Q2 qb]at e
  exact zX e (g i b l hb qb)
 ·rw[T.mv_at o,Q2 m]at e
  exact zX e.symm (g j a o B m)
 ·rw[Q2 m,Q2 qb]at e
  exact e
end
theorem RJ{g:Type}{l:List g}{P:g->Bool}{x:g}(j:x∈l)(m:P x=true):∃y r,l.filter P=y :: r/\y∈l/\P y=true:=by
 cases h:l.filter P with
 | nil=>exact zX m (Wm.mp h x j)
 | cons y r=>
  have:y∈l.filter P:=by rw[h];exact Ao
  exact⟨y,r,rfl,(BF.mp this).1,(BF.mp this).2⟩
theorem at0{g:Type}(y:g)(r:List g):atI (y :: r) 0=some y:=Iq (by decide) rfl
theorem ZK(c:ZLi×ZLi)(cs:List (ZLi×ZLi)):fl (c :: cs)=c.1++fl cs:=rfl
theorem WL{cs:List (ZLi×ZLi)}{x:Int}:x∈fl cs↔∃c∈cs,x∈c.1:=Hi
theorem ZJ:∀{cs:List (ZLi×ZLi)},(fl cs).Nodup->∀c∈cs,∀d∈cs,∀x,x∈c.1->x∈d.1->c=d
 | [],_,c,l,_,_,_,_,_=>zX l BL
 | a :: cs,h,c,l,d,hd,x,m,o=>by
  rw[ZK]at h;obtain⟨_,C,s⟩:=BP.mp h
  rcases Aq.mp l with A | g <;> rcases Aq.mp hd with B | j
  ·rw[A,B]
  ·subst A;exact zX rfl (s x m x (WL.mpr ⟨d,j,o⟩))
  ·subst B;exact zX rfl (s x o x (WL.mpr ⟨c,g,m⟩))
  ·exact ZJ C c g d j x m o
structure Cl(p:Nat)(us:List ZPi)(cs:List (ZLi×ZLi)):Prop where
 up:∀c∈cs,c.1.Pairwise (· < ·)/\c.2.Pairwise (· < ·)/\c.1.length<=6/\c.2.length<=6
 co:∀c∈cs,LG us c.1 c.2
 nd:(fl cs).Nodup
 mem:∀x,x∈fl cs↔0<=x/\x < p
 few:cs.length<=6
section
variable{p:Nat}{us:List ZPi}{cs:List (ZLi×ZLi)}{h:ZLi×ZLi}
theorem Cl.sub(H:Cl p us cs)(j:h∈cs):∀x∈h.2,x∈h.1:=λx g=>by
 have:=H.co h j;unfold LG at this;split at this
 ·rename_i e;rw[e]at g;exact zX g BL
 ·exact this.1 x g
theorem Cl.rng(H:Cl p us cs)(g:h∈cs){x:Int}(j:x∈h.1):0<=x/\x < p:=(H.mem x).mp (WL.mpr ⟨h,g,j⟩)
theorem Cl.more(H:Cl p us cs)(j:h∈cs):∃x∈h.1,x∉h.2:=by
 have:=H.co h j;unfold LG at this;split at this
 ·rename_i e
  obtain⟨x,g⟩:=List.exists_mem_of_ne_nil _ this.1;exact⟨x,g,by rw[e];exact BL⟩
 ·refine Ca λq=>this.2.1 ?_
  have u:=H.up h j
  have a:=UH (u.1.imp λq=>by lia:h.1.Nodup) (k:=h.2) λx g=>Ca λz=>q ⟨x,g,z⟩
  have b:=UH (u.2.1.imp λq=>by lia:h.2.Nodup) this.1
  lia
theorem Cl.met(H:Cl p us cs)(Q:h∈cs){e c:Int}(R:e∈h.1)(s:c∈h.1)(X:c≠e)(Y:e∉h.2)(Z:c∉h.2){L:Met}(C:Fd (nbG us (h.2++[e,c])) p c L):e∈A2 L/\(h.2=[]->stp L e<=1):=by
 have A:=H.co h Q
 have r0:∀{x},x∈h.1->0<=x:=λE=>(H.rng Q E).1
 have o:∀x y,x∈h.1->x∈A2 L->Ad us x y->y∈h.2++[e,c]->y∈A2 L/\stp L y<=stp L x+1:=λx y E S g B=>C.le' S ((HS (r0 E)).mpr ⟨C.inG (by simp) S,g,B⟩)
 have j:=C.src';unfold LG at A;split at A
 ·rename_i z
  obtain⟨a,b⟩:=o c e s j.1 (A.2 c s e R X) (by simp);exact⟨a,λ_=>by rw[j.2]at b;exact b⟩
 ·rename_i z
  refine⟨?_,λq=>zX q z⟩;obtain⟨G,o2,T,U⟩:=A;obtain⟨y,B,g⟩:=(U c s).resolve_left Z;have I:=(o c y s j.1 g (by simp[B])).1
  obtain⟨a,J⟩:∃a,h.2[0]?=some a:=⟨_,AZ (NT.mpr z)⟩
  have N:a∈A2 L:=Ca λhn=>by
   have:=T (h.2.filter λx=>!decide (x∈A2 L)) (λb hb=>by
    rw[J]at hb;cases hb
    exact BF.mpr ⟨An J,by simp[hn]⟩) (λu O l v m g=>by
    refine BF.mpr ⟨m,?_⟩
    have P:u∉A2 L:=by simpa using(BF.mp l).2
    have:v∉A2 L:=λq=>P (o v u (G v m) q g.symm (by simp[O])).1
    simp[this]) y B
   have:y∉A2 L:=by simpa using(BF.mp this).2
   exact this I
  have all:=T (A2 L) (λb hb=>by rw[J]at hb;cases hb;exact N) (λu O l v m g=>(o u v (G u O) l g (by simp[m])).1);obtain⟨v,m,g⟩:=(U e R).resolve_left Y;exact(o v e (G v m) (all v m) g.symm (by simp)).1
end
theorem WK(v:Nat->Int):∀i:Nat,((BM i).map v).Nodup->EQ v i=(BM i).map v
 | 0,_=>rfl
 | i+1,h=>by
  rw[IS,BG]at h ⊢;obtain⟨g,m,j⟩:=BP.mp h;rw[sr,WK v i g];unfold sj;rw[qY]
  ·rfl
  ·intro z
   obtain⟨y,l,e⟩:=Hj.mp z;exact j y l (v i) (by simp) (by simpa using e)
theorem Z6{l:ZLi}(h:l.Nodup)(g:l.length<=4000):Z7 l=some (l.length:Int):=by
 have e:(BM l.length).map (λi=>l.getD i 0)=l:=by
  refine gk (by simp) λj o m=>?_
  simp[m]
 unfold Z7;rw[qX g];unfold Ol;rw[WK _ _ (by rw[e];exact h),e]
structure St(p:Nat)(cs:List (ZLi×ZLi))(s:ZLi):Prop where
 up:s.Pairwise (· < ·)
 rng:∀x∈s,0<=x/\x < p
 col:∀c∈cs,∃e,e∈c.1/\e∉c.2/\∀x∈c.1,(x∈s↔x∈c.2∨x=e)
section
variable{p:Nat}{us:List ZPi}{cs:List (ZLi×ZLi)}{s:ZLi}{call:Int}
theorem mj(hu:Tz p us)(hp:p<=60)(ul:us.length<=400)(H:Cl p us cs)(S:St p cs s)(c0:0<=call)(c1:call < p)(hc:call∉s) :
  ∃f,Fv (p,FU us) cs s call=some f/\Kd ((BM p).map (nr us)) cs s call=some f/\JM ((BM p).map (nr us)) cs s call f=some true/\St p cs (CO f):=by
 have few:=H.few
 have snd:s.Nodup:=S.up.imp λq=>by lia
 have sl:s.length<=p:=V2 p s snd S.rng;obtain⟨d0,hd0,hd1⟩:=WL.mp ((H.mem call).mpr ⟨c0,c1⟩);obtain⟨h,Z,eh,E,U⟩:=RJ (P:=λc:ZLi×ZLi=>decide (call∈c.1)) hd0 (wX hd1);have U:=of_decide_eq_true U;obtain⟨hu1,hu2,uD,ue⟩:=H.up h E;obtain⟨e,X,uk,vU⟩:=S.col h E;have Β:e∈s:=(vU e X).mpr (.inr rfl)
 have xt:call≠e:=λq=>hc (q▸Β)
 have vi:∀x∈h.2,x∈s:=λx m=>(vU x (H.sub E x m)).mpr (.inl m)
 have vF:call∉h.2:=λq=>hc (vi _ q)
 have hG1:∀x∈h.2++[e,call],x∈h.1:=λx m=>by
  rcases Au.mp m with q | q
  ·exact H.sub E x q
  ·rcases Aq.mp q with q | q
   ·rw[q];exact X
   ·rw[AS.mp q];exact U
 have hGr:∀x∈h.2++[e,call],0<=x/\x < p:=λx m=>H.rng E (hG1 x m)
 have hGn:(h.2++[e,call]).Nodup:=by
  refine BP.mpr ⟨hu2.imp λq=>by lia,by simp[xt.symm],λa ha b hb q=>?_⟩;subst q
  rcases Aq.mp hb with q | q
  ·exact uk (q▸ha)
  ·exact vF (AS.mp q▸ha)
 have bf:=ON (Y2 (G:=h.2++[e,call]) hu) ⟨c0,c1⟩ p;have A:=bf.fd bf.len;obtain⟨I,hek2⟩:=H.met E X U xt uk vF A;have zM:=Zz hu hp ul hGr hGn A I;have zN:=ee hu hp ul hGr (c:=call) (by simp) I
 generalize Rn (nbG us (h.2++[e,call])) call p=L at *
 have tU:=jj A I;have uO:=A.far _ tU;dsimp only at uO
 have u9:h.2=[]->(stp L e).toNat<=1:=λq=>by have:=hek2 q;lia
 rw[Na]at zM zN;have bk:=A.bk Kh tU;have zO:=A.bk_end Kh tU;have w0:wf (nbG us (h.2++[e,call])) L e 0=e:=rfl
 have inG:∀i,i<=(stp L e).toNat->wf (nbG us (h.2++[e,call])) L e i∈h.2++[e,call]:=λi hi=>A.inG (by simp) (Cb.mpr ⟨_,(bk i hi).1⟩)
 have adj:∀i,i < (stp L e).toNat->Ad us (wf (nbG us (h.2++[e,call])) L e i) (wf (nbG us (h.2++[e,call])) L e (i+1)):=λi hi=>((HS (A.rng _ (bk i (by lia)).1).1).mp ((bk i (by lia)).2 hi)).2.1
 have inj:∀i j,i<=(stp L e).toNat->j<=(stp L e).toNat->wf (nbG us (h.2++[e,call])) L e i=wf (nbG us (h.2++[e,call])) L e j->i=j:=λi j hi hj q=>by
  have a:=FV A.nd (bk i hi).1;have b:=FV A.nd (bk j hj).1;rw[q,b]at a
  lia
 have npos:1<=(stp L e).toNat:=Nat.pos_of_ne_zero λz=>by
  rw[z]at zO;exact xt zO.symm
 generalize (stp L e).toNat=n at *
 generalize wf (nbG us (h.2++[e,call])) L e=w at *
 have T:Tn w n s call:=⟨npos,inj,λk J=>by
  rcases Au.mp (inG k (by lia))with q | q
  ·exact vi _ q
  ·rcases Aq.mp q with q | q
   ·rw[q];exact Β
   ·have:=inj k n (by lia) (AN _) ((AS.mp q).trans zO.symm)
    lia,zO,hc⟩
 have fm:∀{x:Int},x∈s.map (mv w n)↔(x∈s/\x≠e)∨x=call:=λ{x}=>by rw[<-w0];exact T.mem
 have N:=T.nodup snd;have fl':(s.map (mv w n)).length=s.length:=AF _
 have atn:∀x∈s,atI ((BM p).map (nr us)) x=some (nr us x.toNat):=λx m=>gR (S.rng x m).1 (S.rng x m).2
 have zP:Ec cs (λx1=>some (decide (call∈x1.1))) (λx1=>some x1)=some (h :: Z):=by
  rw[F8 (P:=λc:ZLi×ZLi=>decide (call∈c.1)) (by lia) λ_ _=>rfl,eh]
 have cm:Ec s (λ_=>some true) (λx=>some ((C3 (gl w n) x).getD x))=some (s.map (mv w n)):=Md (f:=mv w n) (by lia) λx _=>rfl
 have zQ:∀c∈cs,∃B,B∈c.1/\B∉c.2/\∀x∈c.1,(x∈s.map (mv w n)↔x∈c.2∨x=B):=λc C=>by
  by_cases z:c=h
  ·subst z
   refine⟨call,U,vF,λx m=>?_⟩;rw[fm,vU x m]
   constructor
   ·rintro(⟨q1 | q1,q2⟩ | q)
    ·exact .inl q1
    ·exact zX q1 q2
    ·exact .inr q
   ·rintro(q | q)
    ·exact .inl ⟨.inl q,λz=>uk (z▸q)⟩
    ·exact .inr q
  ·obtain⟨B,Y,a2,O⟩:=S.col c C
   refine⟨B,Y,a2,λx m=>?_⟩;rw[fm,<-O x m]
   have x1:x≠e:=λq=>z (ZJ H.nd c C h E x m (q▸X))
   have x2:x≠call:=λq=>z (ZJ H.nd c C h E x m (q▸U))
   exact⟨λq=>q.elim (·.1) λq=>zX q x2,λq=>.inl ⟨q,x1⟩⟩
 refine⟨s.map (mv w n),?_,?_,?_,?_⟩
 ·unfold Fv Fu
  have r:FK (p,FU us) s call=some ():=by
   unfold FK FI;rw[wX c0,qX rfl,wX c1];simp only[AC,GF,BW,if_false];rw[wY hc];rfl
  rw[r];simp only[AC,BI];rw[zP];simp only[AC];rw[at0];simp only[AC,BI];obtain⟨y,r2,e2,yk,Q⟩:=RJ (l:=s) (P:=λx=>decide (x∈h.1)&&!decide (x∈h.2)) Β (by simp[X,uk])
  have R:y=e:=by
   simp only[CF,decide_eq_true_iff,Jy,decide_eq_false_iff_not]at Q;exact((vU y Q.1).mp yk).resolve_left Q.2
  subst R;rw[F8 (P:=λx=>decide (x∈h.1)&&!decide (x∈h.2)) (by lia) λx _=>by cases decide (x∈h.1) <;> rfl,e2];simp only[AC];rw[at0];simp only[AC,BI];rw[zM];simp only[AC,BI];rw[T.dz];rw[cm];rfl
 ·unfold Kd Kb
  rw[zP];simp only[AC];rw[at0];simp only[AC,BI];obtain⟨y,r2,e2,yk,Q⟩:=RJ (l:=h.1) (P:=λx=>decide (x∈s)&&!decide (x∈h.2)) X (by simp[Β,uk])
  have R:y=e:=by
   simp only[CF,decide_eq_true_iff,Jy,decide_eq_false_iff_not]at Q;exact((vU y yk).mp Q.1).resolve_left Q.2
  subst R;rw[F8 (P:=λx=>decide (x∈s)&&!decide (x∈h.2)) (by lia) λx _=>by cases decide (x∈s) <;> rfl,e2];simp only[AC];rw[at0];simp only[AC,BI,Tq];refine Ke (P:=λq=>q=(BM (n+1)).map w) ?_ ?_
  ·by_cases z:h.2=[]
   ·rw[z]
    have n1:=u9 z
    have:n=1:=by lia
    subst this;refine⟨_,rfl,?_⟩;show[y,call]=[w 0,w 1];rw[w0,zO]
   ·have:=NT.mpr z
    rw[wX (show(0:Int) < (h.2.length:Int) by lia),qX rfl];rw[OD (by simp;lia)];simp only[AC];rw[zN];exact⟨_,rfl,rfl⟩
  ·rintro q rfl
   have Wl:((BM (n+1)).map w).length=n+1:=by simp
   have Wa:∀k:Nat,k<=n->atI ((BM (n+1)).map w) (k:Int)=some (w k):=λk J=>Iq (by lia) (by
    rw[Ak,Ah,CH (by lia)]
    rfl)
   rw[Wl,show((n+1:Nat):Int) - 1=n by lia,MU (by lia) (by lia),Ak];simp only[AC];refine Ke (Kr (λg q=>q=gl w g.length) rfl ?_) ?_
   ·rintro g x q m uf rfl
    obtain⟨ex,lt⟩:=KA uf;rw[LZ]at ex;subst ex;rw[show(g.length:Int)+1=((g.length+1:Nat):Int) by lia,Wa _ (by lia),Wa _ (by lia)];simp only[AC]
    have hg:(gl w g.length).length=g.length:=by unfold gl;simp
    rw[show SE (gl w g.length) (w g.length) (w (g.length+1))=some (gl w g.length++[(w g.length,w (g.length+1))])from(qX (by lia)).trans (congrArg some (No (by
     rw[QA];intro q;obtain⟨k,J,e⟩:=Ap.mp q;have J:=DM.mp J;have:=inj _ _ (by lia) (by lia) e
     lia)))]
    refine⟨_,rfl,?_⟩;rw[AK,Al,j4]
   ·rintro q rfl
    rw[Fk,cm];rfl
 ·unfold JM JJ
  have g0:(if (!true)=true then some true else if (!decide (((s.map (mv w n)).length:Int)=(s.length:Int)))=true then some true else((some (s.map (mv w n))).bind Z7).bind λx7=>some (!decide (x7=((s.map (mv w n)).length:Int))))=some false:=by
   simp only[AC];rw[Z6 N (by lia),fl'];simp
  rw[g0,fl'];simp only[AC,BW,if_false,BI];rw[OG (P:=λc:ZLi×ZLi=>decide (call∈c.1)) (f:=λc=>c.1) (by lia) (λ_ _=>rfl) (λ_ _ _=>rfl),eh,BB];simp only[AC];rw[at0];simp only[AC,BI];rw[MU (by lia) (by lia),Ak];simp only[AC];refine Ke (P:=λ_:Unit=>True) (Kr (λ_ _=>True) trivial ?_) ?_
  ·rintro g x _ m uf _
   obtain⟨ex,lt⟩:=KA uf;rw[LZ]at ex;subst ex;have g1:=AZ lt;have hm:=An g1;generalize s[g.length]=o at g1 hm;rw[show atI (s.map (mv w n)) (g.length:Int)=some (mv w n o)from Iq (by lia) (by rw[Ak,Ah,g1];rfl),show atI s (g.length:Int)=some o from Iq (by lia) (by rw[Ak];exact g1)];simp only[AC,GF,BW,if_false,BI];rw[atn o hm];simp only[AC]
   rcases Vw w n o with⟨k,J,rfl⟩ | q
   ·rw[T.mv_at J,wX (show w (k+1)∈nr us (w k).toNat by rw[Xj,CN (S.rng _ hm).1];exact adj k J),wX (hG1 _ (inG k (by lia)))]
    cases decide (w (k+1)=w k) <;> exact⟨_,rfl,trivial⟩
   ·rw[Q2 q,wX rfl]
    exact⟨_,rfl,trivial⟩
  ·rintro _ _
   rw[wX (fm.mpr (.inr rfl))];simp only[GF,BW,if_false,BI]
   refine Ke (P:=λ_:Unit=>True) (Kr (λ_ _=>True) trivial ?_) λ_ _=>rfl
   rintro g c _ C _ _;obtain⟨B,Y,a2,O⟩:=zQ c C;obtain⟨cu1,cu2,cl1,cl2⟩:=H.up c C;rw[F8 (P:=λx=>decide (x∈c.1)) (by lia) λ_ _=>rfl];simp only[AC,BI]
   have mm:∀x,x∈(s.map (mv w n)).filter (λx=>decide (x∈c.1))↔x∈B :: c.2:=λx=>by
    rw[BF,decide_eq_true_iff,Aq]
    constructor
    ·rintro⟨q1,q2⟩
     exact((O x q2).mp q1).symm
    ·rintro(q | q)
     ·subst q;exact⟨(O x Y).mpr (.inr rfl),Y⟩
     ·have:=H.sub C x q
      exact⟨(O x this).mpr (.inl q),this⟩
   have pm:=(JB (N.filter _) (Ct.mpr ⟨a2,cu2.imp λq=>by lia⟩)).mpr mm;have ln:=pm.length_eq;rw[A0]at ln;rw[wX (show(((s.map (mv w n)).filter (λx=>decide (x∈c.1))).length:Int)=(c.2.length:Int)+1 by lia)];rw[F8 (P:=λx=>!decide (x∈(s.map (mv w n)).filter (λx=>decide (x∈c.1)))) (by lia) λ_ _=>rfl]
   have nil:c.2.filter (λx=>!decide (x∈(s.map (mv w n)).filter (λx=>decide (x∈c.1))))=[]:=by
    rw[Wm];intro x m;rw[wX ((mm x).mpr (AT _ m))];simp
   rw[nil];exact⟨_,rfl,trivial⟩
 ·have pm:=Bs (s.map (mv w n))
  refine⟨Lg N,λx m=>?_,λc C=>?_⟩
  ·rcases fm.mp (pm.mem_iff.mp m)with q | q
   ·exact S.rng x q.1
   ·rw[q];exact⟨c0,c1⟩
  ·obtain⟨B,Y,a2,O⟩:=zQ c C
   exact⟨B,Y,a2,λx m=>by rw[pm.mem_iff];exact O x m⟩
end
theorem Ua:∀(l:ZLi) (a:Int),l.foldl (λm x=>if ltZ x m=true then x else m) a∈a :: l
 | [],a=>AS.mpr rfl
 | x :: l,a=>by
  rw[GX]
  by_cases c:ltZ x a=true
  ·rw[qX c]
   exact AT _ (Ua l x)
  ·rw[qY c]
   rcases Aq.mp (Ua l a)with q | q
   ·rw[q];exact Ao
   ·exact AT _ (AT _ q)
theorem oX{l:ZLi}(h:l≠[]):∃m,SL l=some m/\m∈l:=by
 cases l with
 | nil=>exact zX rfl h
 | cons a l=>exact⟨_,rfl,Ua l a⟩
def fs(m:ZLi×ZLi->Int)(cs:List (ZLi×ZLi)):ZLi:=cs.flatMap λc=>c.2++[m c]
theorem ff{m:ZLi×ZLi->Int}{cs:List (ZLi×ZLi)}{x:Int}:x∈fs m cs↔∃c∈cs,x∈c.2∨x=m c:=by
 unfold fs;rw[Hi]
 constructor
 ·rintro⟨c,g,j⟩
  exact⟨c,g,by simpa using j⟩
 ·rintro⟨c,g,j⟩
  exact⟨c,g,by simpa using j⟩
theorem lM{m:ZLi×ZLi->Int}:∀{cs:List (ZLi×ZLi)},(fl cs).Nodup->(∀c∈cs,c.2.Nodup/\(∀x∈c.2,x∈c.1)/\m c∈c.1/\m c∉c.2)->(fs m cs).Nodup
 | [],_,_=>FQ
 | c :: cs,h,g=>by
  rw[ZK]at h;obtain⟨_,s,A⟩:=BP.mp h;obtain⟨B,C,E,G⟩:=g c Ao
  have H:=lM (m:=m) s λd hd=>g d (AT _ hd)
  show(c.2++[m c]++fs m cs).Nodup;refine BP.mpr ⟨BP.mpr ⟨B,by simp,λx j y l e=>?_⟩,H,λx j y l e=>?_⟩
  ·rw[AS.mp l]at e
   exact G (e▸j)
  ·subst e
   have I:x∈c.1:=by
    rcases Au.mp j with q | q
    ·exact C x q
    ·rw[AS.mp q];exact E
   obtain⟨d,hd,o⟩:=ff.mp l;obtain⟨_,J,L,_⟩:=g d (AT _ hd)
   have N:x∈d.1:=by
    rcases o with q | q
    ·exact J x q
    ·rw[q];exact L
   exact A x I x (WL.mpr ⟨d,hd,N⟩) rfl
theorem fc{m:ZLi×ZLi->Int}:∀{cs:List (ZLi×ZLi)},(∀c∈cs,c.2.length<=6)->(fs m cs).length<=7 * cs.length
 | [],_=>AN _
 | c :: cs,h=>by
  have g:=fc (m:=m) (cs:=cs) λd hd=>h d (AT _ hd)
  have j:=h c Ao;show(c.2++[m c]++fs m cs).length<=_;rw[AK,AK,Al,A0]
  lia
section
variable{p:Nat}{us:List ZPi}{cs:List (ZLi×ZLi)}
theorem kF(H:Cl p us cs)(w:Nat×List ZPi):∃s,FL w cs=some s/\St p cs s:=by
 have G:=H.few
 have I:∀c∈cs,∃m,SL (c.1.filter λx=>!decide (x∈c.2))=some m/\m∈c.1/\m∉c.2:=λc g=>by
  obtain⟨x,J,L⟩:=H.more g;obtain⟨m,e,N⟩:=oX (l:=c.1.filter λx=>!decide (x∈c.2)) (List.ne_nil_of_mem (BF.mpr ⟨J,by simp[L]⟩));obtain⟨O,m2⟩:=BF.mp N;exact⟨m,e,O,by simpa using m2⟩
 let m:ZLi×ZLi->Int:=λc=>(SL (c.1.filter λx=>!decide (x∈c.2))).getD 0
 have o:∀c∈cs,SL (c.1.filter λx=>!decide (x∈c.2))=some (m c)/\m c∈c.1/\m c∉c.2:=λc g=>by
  obtain⟨k,e,Q,R⟩:=I c g
  have:m c=k:=by
   show(SL (c.1.filter λx=>!decide (x∈c.2))).getD 0=k;rw[e];rfl
  rw[this];exact⟨e,Q,R⟩
 clear_value m
 refine⟨CO (fs m cs),?_,?_⟩
 ·unfold FL FJ
  simp only[AC,kG,BI];refine Ke (Kr (λj s=>s=fs m j) rfl ?_) ?_
  ·rintro j c s g B rfl
   obtain⟨T,U,X,Y⟩:=H.up c g;have S:=B.length_le;rw[AK,Al]at S
   have fl:=fc (m:=m) (cs:=j) λd hd=>(H.up d (B.subset (As _ hd))).2.2.2
   rw[OD (by lia)];simp only[AC,BI];rw[F8 (P:=λx=>!decide (x∈c.2)) (by lia) λ_ _=>rfl];simp only[AC];rw[(o c g).1];simp only[AC];rw[K0 (by rw[AK];lia)];refine⟨_,rfl,?_⟩;unfold fs;rw[NU];simp
  ·rintro s rfl
   rfl
 ·have C:=Bs (fs m cs)
  have nd:=lM (m:=m) H.nd λc g=>⟨(H.up c g).2.1.imp λq=>by lia,H.sub g,(o c g).2⟩
  have E:∀x,∀c∈cs,(x∈c.2∨x=m c)->x∈c.1:=λx c g q=>by
   rcases q with q | q
   ·exact H.sub g x q
   ·rw[q];exact(o c g).2.1
  refine⟨Lg nd,λx A=>?_,λc g=>⟨m c,(o c g).2.1,(o c g).2.2,λx A=>?_⟩⟩
  ·obtain⟨c,g,q⟩:=ff.mp (C.mem_iff.mp A)
   exact H.rng g (E x c g q)
  ·rw[C.mem_iff,ff]
   constructor
   ·rintro⟨d,hd,q⟩
    have:=ZJ H.nd c g d hd x A (E x d hd q);subst this;exact q
   ·exact λq=>⟨c,g,q⟩
end
theorem pU(v x:Int):∃c,(if decide (x / 97 % 19=1)=true then Fm (λo=>o) ((((((T9 (10:Int) (40:Int)).bind λg=>some (g+v)).bind λs=>((((T9 (10:Int) (40:Int)).bind λA=>some (-A)).bind λB=>some (B - v)).bind λC=>some (C :: [])).bind λj=>some (s :: j)).bind KF).bind λm=>atI m (x / 1843 % 2)).bind λE=>some (.nx E))else some (.nx v):Option (Fw Bool Int))=some (.nx c):=by
 by_cases q:x / 97 % 19=1
 ·rw[wX q,qX rfl,show T9 10 40=some (10 ^ 40)from qX (by decide)]
  simp only[AC,Tq];have G:=Cu (x / 1843) (show(2:Int)≠0 by decide);have H:=C0 (x / 1843) (show(0:Int) < 2 by decide);obtain⟨c,e,_⟩:=Um (l:=[10 ^ 40+v,-10 ^ 40 - v]) (i:=x / 1843 % 2) G (by simpa using H);rw[e];exact⟨c,rfl⟩
 ·rw[wY q]
  exact⟨v,rfl⟩
theorem sE(ns:ZLi)(R:ns.length<=63):dg ns=some true:=by
 refine Ok.is (v:=true) ?_;unfold dg Yt;simp only[AC];obtain⟨⟨T,U,cs⟩,B,p,o,G⟩:=fU ns;dsimp only at o G;subst o;rw[B];simp only[AC,BI];have C:=G.p1;have X:=G.p2;have Y:=G.tl;have Z:=gB ns (some 8) none;obtain⟨us,eu,⟨j,sub⟩,ul⟩:=oW (p:=p) C (by lia) G.tz (by lia) (cs:=Gv ns (some 8) none) (by lia);rw[eu];simp only[AC,BI];have g:pX p 0 us:=⟨λx A=>by have:=j.1 x A;exact⟨this.1,this.2.1,.inl this.2.2⟩,j.2⟩;rw[show IJ (p:Int) us=some ((BM p).map (nr us))from(qX ⟨by lia,by lia,by rw[Ak];exact g,by lia⟩).trans (by rw[Ak])];simp only[AC,BI];rw[show XD (p:Int) us=some (p,FU us)from(qX ⟨by lia,by lia,j.fit,by lia⟩).trans (by rw[Ak])];simp only[AC,BI];have l:=Bs (fl cs);rw[G.fp]at l;have H:Cl p us cs:=⟨λc m=>(G.cu c m).2,λc m=>(G.co c m).mono λx y q=>q.imp (sub _) (sub _),l.nodup_iff.mp ((P3 0 p).imp λq=>by lia),λx=>by rw[<-l.mem_iff,Hd,LZ],G.c2⟩;obtain⟨s0,E,I⟩:=kF H (p,FU us);rw[E,sU];simp only[AC,BI];rw[OD (by rw[Al];lia)];simp only[AC];refine OkF.out (OkF.seq (OkF.for (λ(_:ZLi) s=>St p cs s) I ?_) λ_ _=>.rt rfl);rintro J x s A _ S;rw[Ki (by lia)];simp only[AC,BI];obtain⟨c,L⟩:=pU (x % ((p:Int)+2) - 1) x;rw[L];simp only[BI]
 by_cases q:(0<=c/\c < p)/\c∉s
 ·obtain⟨f,N,O,P,Q⟩:=mj j (by lia) (by lia) H S q.1.1 q.1.2 q.2
  rw[show Hc (p,FU us) cs s c=some (.inr f)from(qX q).trans (by rw[N];rfl)];simp only[AC,BI];rw[wY (show ¬c < 0 by lia),wY (show ¬(p:Int)<=c by lia),wY q.2];simp only[AC,BW,if_false];rw[show dh (.inr f)=some f from rfl];simp only[AC];rw[P,O];simp only[AC,GF,BW,if_false];rw[wX trivial];exact .nx Q
 ·rw[show Hc (p,FU us) cs s c=some (.inl true)from qY q]
  simp only[AC,BI]
  have e:(if decide (c < 0)=true then some true else if decide ((p:Int)<=c)=true then some true else some (decide (c∈s)))=some true:=by
   by_cases a:c < 0
   ·rw[wX a];rfl
   ·by_cases b:(p:Int)<=c
    ·rw[wY a,wX b];rfl
    ·rw[wY a,wY b,wX (Ca λz=>q ⟨⟨by lia,by lia⟩,z⟩)]
     rfl
  rw[e];exact .nx S
theorem good:∀(W:Wd),W.excs.Nodup->∀ns:ZLi,ns.length<=63->∃S',ZN W [.fro (ns.map D.int)] []=.ok (.bl true) S':=λW nd ns h=>VF.law (by rw[<-sE ns h];exact qk W nd ns)
end M
structure PySem.W.Fast:Prop where(tw10510505658615234091 tw5026012567939141031 tw11062528439271010885 tw12208139605991160742 tw11889270540570664441 tw1049485436830216065 tw10258246025627964658 tw12819658688442719566 tw7721271068789461563 tw11386592923736120321 tw9001534663747902399 tw8755575545224358353 tw1154730835236631849 tw14559443429826841250 tw11930956165752945847 tw3766666704400576817 tw13060225072793466690 tw17472017488169232307 tw15892342916105663273 tw13915351482862734952 tw8985620954709971887 tw2153689157939243276 tw11946814081621276048 tw10375607877927784616 tw11729890120009647557 tw18160368798794536719 tw8239135396164981431 tw17371718065562080079 tw9161198736311122484 tw15573242745649003201 tw2679232291033093570 tw9021589459065355694 tw15840554753718508836 tw17716124322389776294 tw16742486586228064232 tw10406821722898316013 tw18437127506316347806 tw14783170628460744587 tw922248714581647325 tw13182918726320601315 tw15897465835450279180 tw16269846780319193592 tw12443309540472140310 tw4293535192346211326 tw8017267710799813345 tw14955640197785815710 tw496000222221216519 tw8374593658447370626 tw15492894683740327175 tw10543501023011753915 tw14367088233009646754 tw15739666173122744569 tw11446729860159564219 tw695117956960789997 tw9337961029890330228 tw7387455754776618257 tw5425788618367024750 tw17643093203336441654 tw6599763224624474376 tw15891025796030898930 tw16005938366556699016 tw17472144613935553580 tw11415054961048596768 tw495921889052708472 tw10410037277686878408 tw9019856884285152541 tw7411376123819645189 tw17143744160255470044 tw5524743952260094457 tw13350836830336166324 tw7049255471994472553 tw15100209235177247304 tw11467047583215016417 tw17124882886758896472 tw1464869073654131484 tw4373607043563451494 tw2478854371289810613 tw8577449263852539766 tw1698185952622960872:True)
namespace M
open L2 PySem.W
theorem pW{l:OpenLaw}{w:By}{K:Frag}{h:CS}{o:Str->Option AH}{U:AV}(X:K.In h)(G:h.Ns BJ o)(A:o "law" = some (.ref U))
  {f1 f2 f3 f4 f5 f6 f7 f8 f9 Χ B C E H I J L N O P Q R S m g t5 j:AV} {Y:Tok}
  (o_Web:ClsAt K "Web" j)
  (a_GuardError:nsIn K BJ "GuardError" = some (some (.ref g)))
  (a_NoCall:nsIn K BJ "NoCall" = some (some (.ref t5)))
  (d1:Eo K "checked_ties" Ig f1)
  (d2:Eo K "near_sets_of" Ie f2)
  (d4:Eo K "refuse_no_place" Gh f4)
  (d5:Eo K "near" Xe f5)
  (d6:Eo K "steps_from" KU f6)
  (d7:Eo K "way_between" Jb f7)
  (d8:Eo K "web_within" KS f8)
  (d9:Eo K "refuse_no_call" G7 f9)
  (d10:Eo K "first_standing" G8 Χ)
  (d11:Eo K "way_through" Ja B)
  (d12:Eo K "colony_answer" Hu C)
  (d13:Eo K "_law_cell" Ln E)
  (d14:Eo K "_law_mixed" KZ H)
  (d15:Eo K "_law_nears" KY I)
  (d16:Eo K "_law_order" KW J)
  (d17:Eo K "_law_colony" Jd L)
  (d18:Eo K "_law_ground" Jc N)
  (d19:Eo K "_law_more" Ll O)
  (d20:Eo K "_law_told" Lj P)
  (d21:Eo K "_law_good" Lm Q)
  (d22:Eo K "_law_way" M8 R)
  (d23:Eo K "_law_due" M9 S)
  (d24:Eo K "law" Yo m)
  (d3:gX K j "__init__" "Web.__init__" NA f3)
  (n_Web_places:findIn K (.ref j) "places" = some none)
  (n_Web_ties:findIn K (.ref j) "ties" = some none)
  (n_Web_near_sets:findIn K (.ref j) "near_sets" = some none)
  (sp:specialIn K (.builtin "object.__class__") "__get__" = some (some (.builtin "getset_descriptor.__get__")))
  (tk:takesIn K (.builtin "object.__class__")=some true)
  (xnd:([t5]:List AV).Nodup)
  (xo_GuardError:mroIn K g (.type "object")=some true)
  (xb_GuardError:mroIn K g (.type "BaseException")=some true)
  (xt_GuardError:typeIn K (.ref g)=some (.type "type"))
  (xo_NoCall:mroIn K t5 (.type "object")=some true)
  (xb_NoCall:mroIn K t5 (.type "BaseException")=some true)
  (xt_NoCall:typeIn K (.ref t5)=some (.type "type"))
  (xe_NoCall:excIn K t5 ZY "ValueError.__new__" = true)
  (xg_NoCall:findIn K (.ref t5) "__getattribute__" = some (some (.builtin "BaseException.__getattribute__")))
  (xn_NoCall:findIn K (.ref t5) "__getattr__" = some none)
  (xa_NoCall:findIn K (.ref t5) "__class__" = some (some (.builtin "object.__class__")))
  (xs_NoCall_GuardError:subIn K (.ref t5) (.ref g)=some true)
  (xi_NoCall_NoCall:kitOne K (.ref t5) (.ref t5)=some true)
  (xi_NoCall_ValueError:kitOne K (.ref t5) (.type "ValueError")=some true)
  (z_ValueError:nsIn K BJ "ValueError" = some none)
  (z_bool:nsIn K BJ "bool" = some none)
  (z_dict:nsIn K BJ "dict" = some none)
  (z_enumerate:nsIn K BJ "enumerate" = some none)
  (z_int:nsIn K BJ "int" = some none)
  (z_isinstance:nsIn K BJ "isinstance" = some none)
  (z_len:nsIn K BJ "len" = some none)
  (z_list:nsIn K BJ "list" = some none)
  (z_max:nsIn K BJ "max" = some none)
  (z_min:nsIn K BJ "min" = some none)
  (z_range:nsIn K BJ "range" = some none)
  (z_set:nsIn K BJ "set" = some none)
  (z_sorted:nsIn K BJ "sorted" = some none)
  (z_tuple:nsIn K BJ "tuple" = some none)
  (z_zip:nsIn K BJ "zip" = some none)
  (g_MOST_PLACES:nsIn K BJ "MOST_PLACES" = some (some (.int 60 Y)))
  : ∃(W:Wd) (T:Txt K o W),U=T.d_law.f/\W.excs.Nodup/\∀(s:AL) (v:AH),Wp s T.d_law.fd ⟨[v],[]⟩ [("script",v)]:=by
 obtain⟨Z,_,_,_,_,_,_,_,_,_,l,c,k⟩:=d24;have F:=fb (st:=Yo) l c k
 let W:Wd:=⟨g,t5,j⟩
 have uE:(clsIn K g).isSome=true:=RS xo_GuardError;have uH:(clsIn K t5).isSome=true:=RS xo_NoCall;have uP:XIs K t5:=⟨uH,xg_NoCall,xn_NoCall,xa_NoCall,sp,tk,xo_NoCall,xb_NoCall⟩
 let T:Txt K o W:={
  d_checked_ties:=mkD X G d1 (bd2 λ_ _ _ _ _ _ _ _ _ _=>rfl)
  d_near_sets_of:=mkD X G d2 (bd2 λ_ _ _ _ _ _ _ _ _ _=>rfl)
  d_Web_init:=mkM d3 (bd3 λ_ _ _ _ _ _ _ _ _ _ _=>rfl)
  d_refuse_no_place:=mkD X G d4 (bd2 λ_ _ _ _ _ _ _ _ _ _=>rfl)
  d_near:=mkD X G d5 (bd2 λ_ _ _ _ _ _ _ _ _ _=>rfl)
  d_steps_from:=mkD X G d6 (bd2 λ_ _ _ _ _ _ _ _ _ _=>rfl)
  d_way_between:=mkD X G d7 (bd3 λ_ _ _ _ _ _ _ _ _ _ _=>rfl)
  d_web_within:=mkD X G d8 (bd2 λ_ _ _ _ _ _ _ _ _ _=>rfl)
  d_refuse_no_call:=mkD X G d9 (bd3 λ_ _ _ _ _ _ _ _ _ _ _=>rfl)
  d_first_standing:=mkD X G d10 (bd2 λ_ _ _ _ _ _ _ _ _ _=>rfl)
  d_way_through:=mkD X G d11 (bd4 λ_ _ _ _ _ _ _ _ _ _ _ _=>rfl)
  d_colony_answer:=mkD X G d12 (bd4 λ_ _ _ _ _ _ _ _ _ _ _ _=>rfl)
  d__law_cell:=mkD X G d13 (bd2 λ_ _ _ _ _ _ _ _ _ _=>rfl)
  d__law_mixed:=mkD X G d14 (bd2 λ_ _ _ _ _ _ _ _ _ _=>rfl)
  d__law_nears:=mkD X G d15 (bd2 λ_ _ _ _ _ _ _ _ _ _=>rfl)
  d__law_order:=mkD X G d16 (bd2 λ_ _ _ _ _ _ _ _ _ _=>rfl)
  d__law_colony:=mkD X G d17 (bd5 λ_ _ _ _ _ _ _ _ _ _ _ _ _=>rfl)
  d__law_ground:=mkD X G d18 (bd1 λ_ _ _ _ _ _ _ _ _=>rfl)
  d__law_more:=mkD X G d19 (bd3 λ_ _ _ _ _ _ _ _ _ _ _=>rfl)
  d__law_told:=mkD X G d20 (bd4 λ_ _ _ _ _ _ _ _ _ _ _ _=>rfl)
  d__law_good:=mkD X G d21 (bd5 λ_ _ _ _ _ _ _ _ _ _ _ _ _=>rfl)
  d__law_way:=mkD X G d22 (bd4 λ_ _ _ _ _ _ _ _ _ _ _ _=>rfl)
  d__law_due:=mkD X G d23 (bd4 λ_ _ _ _ _ _ _ _ _ _ _ _=>rfl)
  d_law:=⟨m,_,F,F.binds ((bd1 λ_ _ _ _ _ _ _ _ _=>rfl) _ _),gv X G Z⟩
  c_Web:=mkO X G o_Web d3
  n_Web_places:=n_Web_places
  n_Web_ties:=n_Web_ties
  n_Web_near_sets:=n_Web_near_sets
  xm_GuardError:=gv X G a_GuardError
  x_NoCall:=⟨⟨xe_NoCall⟩,gv X G a_NoCall⟩
  nd:=xnd
  caught_GuardError:=(all_cons ⟨xt_GuardError,uE,xb_GuardError,xs_NoCall_GuardError⟩ OK)
  is_NoCall:=cR (al:=[t5]) (ex:=[t5]) (all_cons ⟨uP,xi_NoCall_NoCall⟩ OK) (all_cons (λn=>zX (by simp) n) OK)
  i_NoCall:=⟨uH,xt_NoCall⟩
  is_ValueError:=cR (al:=[t5]) (ex:=[t5]) (all_cons ⟨uP,xi_NoCall_ValueError⟩ OK) (all_cons (λn=>zX (by simp) n) OK)
  b_ValueError:=DT X G z_ValueError
  b_bool:=DT X G z_bool
  b_dict:=DT X G z_dict
  b_enumerate:=DT X G z_enumerate
  b_int:=DT X G z_int
  b_isinstance:=DT X G z_isinstance
  b_len:=DT X G z_len
  b_list:=DT X G z_list
  b_max:=DT X G z_max
  b_min:=DT X G z_min
  b_range:=DT X G z_range
  b_set:=DT X G z_set
  b_sorted:=DT X G z_sorted
  b_tuple:=DT X G z_tuple
  b_zip:=DT X G z_zip
  g_MOST_PLACES:=⟨Y,gv X G g_MOST_PLACES⟩ }
 refine⟨W,T,?_,xnd,λs v=>.of_eq rfl⟩;have e:=A.symm.trans (gv X G Z);cases e;rfl
theorem walk{l:OpenLaw}{q:Bb}{g:List Str}{B:(Str->Option AH)->CS->Prop}{o:By->CS->Prop}{d:DefRec}{K:Params->Frag}(C:l.most=some 63)(E:d.params.defaults=[])
  (I:∀(w:By) (h:CS),o w h->(K w.params).In h)
  (F:∀(w:By) (j:Str->Option AH) (m:AV) (h:CS),(K w.params).In h->h.Ns BJ j->j d.name=some (.ref m) ->
   ∃(W:Wd) (T:Txt (K w.params) j W),m=T.d_law.f/\W.excs.Nodup/\∀(s:AL) (v:AH),Wp s T.d_law.fd ⟨[v],[]⟩ [("script",v)])
  (good:∀(W:Wd),W.excs.Nodup->∀ns:ZLi,ns.length<=63->∃J,ZN W [.fro (ns.map D.int)] []=.ok (.bl true) J) :
  WalkO q g B o l.row.toRowW d [] (λf L=>Zh f L):=
 L2.iD (n:=63) (k:=8) (x:="script") (CX:=λw=>CXG l.prog w) (sp:=λw=>cZ (K w.params)) C (by decide) E ⟨rfl,by decide,by decide⟩ I
  (λw j m h N G O=>by
   obtain⟨W,T,e,nd,hb⟩:=F w j m h N G O;subst e
   exact⟨T.d_law.fd,hb,λA _ _=>ef (oP T) (good W nd)⟩)
  (λ_ _ a ns P Q R=>⟨a,ns,rfl,pN Q R,P,λ_=>rfl⟩) (λw H s e S z=>pT z)
end M
open PySem.W
set_option maxRecDepth 100000 in
set_option maxHeartbeats 0 in
theorem PySem.Challenge.cw_guardround_k48_colonies_answer_holds : PySem.Challenge.rw_guardround_k48_colonies_answer.Holds := by
 w_on;o_law;k_head;(case hw=>w_witness2)
 k_fill
 refine M.walk (l:=HJ) rfl rfl (λw h Y=>by first | exact kIn_of Y | exact km_in_of Y) ?F M.good
 case F=>
  intro w mg fa h KX G wW;refine' M.pW (l:=HJ) (w:=w) KX G wW ?o_Web ?a_GuardError ?a_NoCall ?d1 ?d2 ?d4 ?d5 ?d6 ?d7 ?d8 ?d9 ?d10 ?d11 ?d12 ?d13 ?d14 ?d15 ?d16 ?d17 ?d18 ?d19 ?d20 ?d21 ?d22 ?d23 ?d24 ?d3 ?n_Web_places ?n_Web_ties ?n_Web_near_sets ?sp ?tk ?xnd ?xo_GuardError ?xb_GuardError ?xt_GuardError ?xo_NoCall ?xb_NoCall ?xt_NoCall ?xe_NoCall ?xg_NoCall ?xn_NoCall ?xa_NoCall ?xs_NoCall_GuardError ?xi_NoCall_NoCall ?xi_NoCall_ValueError ?z_ValueError ?z_bool ?z_dict ?z_enumerate ?z_int ?z_isinstance ?z_len ?z_list ?z_max ?z_min ?z_range ?z_set ?z_sorted ?z_tuple ?z_zip ?g_MOST_PLACES
  (case o_Web=>exact⟨by k_is,by k_is,by k_is,by k_is,by k_is,by k_is,by k_is⟩)
  (case a_GuardError | a_NoCall=>k_is)
  (case d1 | d2 | d4 | d5 | d6 | d7 | d8 | d9 | d10 | d11 | d12 | d13 | d14 | d15 | d16 | d17 | d18 | d19 | d20 | d21 | d22 | d23 | d24=>exact⟨by k_is,_,_,_,_,_,_,_,_,_,by k_is,by k_is,by k_is⟩)
  (case d3=>exact⟨by k_is,by k_is,_,_,_,_,_,_,_,_,_,by k_is,by k_is,by k_is⟩)
  (case n_Web_places | n_Web_ties | n_Web_near_sets | sp | tk=>k_is)
  (case xnd=>decide)
  (case xo_GuardError | xb_GuardError | xt_GuardError | xo_NoCall | xb_NoCall | xt_NoCall=>k_is)
  (case xe_NoCall=>k_exc)
  (case xg_NoCall | xn_NoCall | xa_NoCall | xs_NoCall_GuardError=>k_is)
  (case xi_NoCall_NoCall | xi_NoCall_ValueError=>kit_is)
  (case z_ValueError | z_bool | z_dict | z_enumerate | z_int | z_isinstance | z_len | z_list | z_max | z_min | z_range | z_set | z_sorted | z_tuple | z_zip | g_MOST_PLACES=>k_is)
#print axioms PySem.Challenge.cw_guardround_k48_colonies_answer_holds
