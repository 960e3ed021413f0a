import PyProof.Rows.All
import Wide.All
import OpenK.AllK
import Wide.FinOn
import Lean
import PyProof.EqAt
import PyProof.EqKinds
import PyProof.TupleCall
import PyProof.ExcBaseAll.ValueError
import PyProof.NsDelKeeps
import PyProof.NeKinds
import PyProof.Rows.SortShell
import PyProof.Rows.FStr
import PyProof.FString
import PyProof.ExcAttrAll.ValueError
import PyProof.ExcArgsOwn
import PyProof.Rows.SortRuns
import PyProof.TupleIter
import PyProof.Dict
import KE.KDictSum
import PyProof.Rows.SetFrom
import PyProof.SetRoads
import PyProof.Rows.Range3
import PyProof.WalksMore
import PyProof.TupleOfSeq
import PyProof.EnumMake
import PyProof.SliceList
import PyProof.MinMaxWalk
import PyProof.Rows.EnumRows
import PyProof.WalkInts
import PyProof.Rows.SeqCalls
import KE.KRevIter
import PyProof.CollectIter
import PyProof.TupleOfGen
import PyProof.Rows.FactsT2
import PyProof.ListRange
import PyProof.Rows.CallKwBuiltin
import PyProof.ZipIter
import PyProof.Rows.ZipGen
import PyProof.Rows.RuleM_int
import PyProof.Rows.AssignMoreSeq
import KE.KIntText
import PyProof.Rows.StrKeys3
import PyProof.StrBlock
import PyProof.StrCalls2
import PyProof.StrWalks
import PyProof.Rows.RuleN_abs
import PyProof.CollectWalk
import PySem.Challenge.RW_guardround_k34_rows_refused
set_option Elab.async false
set_option linter.all false
set_option maxRecDepth 100000
set_option maxHeartbeats 8000000
noncomputable abbrev ZLi:=List Int
noncomputable abbrev ZPi:=Int×Int
theorem qX{c:Prop}{h:Decidable c}(g:c){j:Sort u}{t e:j}:ite c t e=t:=if_pos g
theorem qY{c:Prop}{h:Decidable c}(g:Not c){j:Sort u}{t e:j}:ite c t e=e:=if_neg g
theorem wX{p:Prop}[i:Decidable p](h:p):decide p=true:=decide_eq_true h
theorem wY{p:Prop}[i:Decidable p](h:Not p):decide p=false:=decide_eq_false h
theorem zX{a b:Prop}(h:a)(n:Not a):b:=absurd h n
noncomputable section
open Array renaming append_assoc->bI,back?->qZ,forIn_toList->bH,getD_eq_getD_getElem?->Ix,getElem?_eq_getElem->D9,getElem?_eq_some_iff->Fn,getElem?_setIfInBounds_ne->QK,getElem?_toList->Xx,length_toList->Ch,mem_toList_iff->Fm,perm_iff_toList_perm->Jg,toList->mT,toList_map->K6
open Array.Perm renaming refl->O9
open Bool renaming and_eq_true->B0,false_eq_true->CH,false_ne_true->AT,false_or->mS,not_eq_true'->dQ,not_true->mR,or_eq_true->MX,true_or->qW
open Classical renaming byContradiction->Iw
open Eq renaming trans->ES
open False renaming elim->EO
open ForInStep renaming yield->Hx
open Function renaming comp_def->YI
open Int renaming emod_lt_of_pos->G3,emod_nonneg->FE,le_trans->qu,lt_of_le_of_lt->KN,lt_of_lt_of_le->PP,mul_comm->qt,natCast_nonneg->PN,one_mul->tw,toNat_natCast->Am,toNat_of_nonneg->Dr
open List renaming all_eq_true->Dz,all_map->qS,any_cons->II,any_eq_false->dN,any_eq_true->IE,any_toArray->Ly,append_assoc->EN,append_nil->Ba,concat_eq_append->FI,drop_drop->lT,drop_zero->lS,eq_nil_of_length_eq_zero->IV,eq_nil_or_concat->FH,ext_getElem?->QH,filterMap_cons->OT,find?_cons->CL,find?_eq_none->c9,find?_isSome->dM,flatMap_append->bD,flatMap_cons->Kk,foldl_append->HW,foldl_nil->Tr,forIn_cons->G2,forIn_nil->HV,getD_eq_getElem?_getD->Jl,getElem?_append_left->Al,getElem?_append_right->BV,getElem?_drop->O8,getElem?_eq_getElem->Ax,getElem?_eq_none->DL,getElem?_eq_none_iff->DK,getElem?_eq_some_iff->AF,getElem?_map->Ae,getElem?_range->Dm,getElem?_replicate->Dh,getElem?_set->EM,getElem?_set_ne->Af,getElem?_set_self->A0,getElem?_set_self'->WT,getElem?_zipIdx->Nm,getElem?_zipWith->YH,getElem_mem->Q1,getElem_of_mem->bC,getElem_set->Q0,length->RV,length_append->AV,length_cons->Aj,length_drop->ID,length_map->AJ,length_nil->Dj,length_range->dL,length_replicate->ND,length_reverse->OS,length_set->Cw,length_singleton->Ac,length_take->Dy,lookup->IU,lookup_cons->BQ,map->Jk,mapM_toArray->dJ,map_append->BZ,map_congr_left->CN,map_cons->As,map_drop->mO,map_id->RU,map_map->BX,map_nil->Jb,map_reverse->ig,map_set->qR,map_take->WL,mem_append->Bg,mem_append_left->Br,mem_append_right->BN,mem_cons->Aq,mem_cons_of_mem->AS,mem_cons_self->Ah,mem_filter->i3,mem_filterMap->c8,mem_flatMap->Lx,mem_iff_getElem->Zd,mem_map->BS,mem_of_getElem?->Ca,mem_range->Jj,mem_singleton->Ab,mergeSort_perm->bB,nil_append->S8,nodup_append->HU,nodup_cons->Bz,nodup_nil->HS,not_mem_nil->Bq,of_mem_zip->S7,pairwise_append->IT,pairwise_flatMap->YG,pairwise_iff_getElem->Uo,pairwise_map->DD,pairwise_mergeSort->WS,pairwise_singleton->Lw,range->Bl,range_succ->Im,range_succ_eq_map->HR,replicate->BM,reverse_cons->Kj,size_toArray->AZ,sum_append->S6,sum_cons->OZ,take_add_one->HQ,take_length->IC,take_of_length_le->MP,take_sublist->QG,take_zero->lR,zipIdx_nil->i0,zip_cons_cons->O7,zip_eq_zipWith->bA,zip_nil_left->dI,zip_nil_right->c7
open List.Pairwise renaming and->Tt,nil->qr
open List.Perm renaming refl->bF,swap->bE
open List.Sublist renaming refl->tu
open Nat renaming add_le_add_left->OY,and_div_two->lQ,and_mod_two_pow->c6,beq->qq,le_of_eq->YF,le_of_lt->MW,le_of_not_lt->RT,le_of_succ_le->Qb,le_refl->AO,le_succ->Ib,le_trans->Au,lt_irrefl->Cf,lt_of_le_of_lt->BR,lt_of_lt_of_le->AW,lt_of_not_le->iz,lt_of_succ_lt_succ->YE,lt_succ_of_lt->Kx,lt_succ_self->C0,lt_trans->qp,min_le_right->iy,ne_of_gt->DX,ne_of_lt->Ao,not_lt->KM,not_lt_zero->TK,pow_le_pow_right->a9,sub_add_cancel->KL,sub_self->qo,succ_ne_self->iw,testBit->tt,testBit_and->Iv,testBit_lt_two_pow->YD,testBit_or->Um,testBit_succ->GP,testBit_two_pow->Ja,testBit_zero->GN,two_pow_pos->TJ,zero_add->Qa,zero_le->Dx,zero_testBit->RS
open Nat.succ renaming inj->OR
open Ne renaming symm->BW
open Option renaming bind_eq_some_iff->Ul,bind_some->AB,getD_none->cy,getD_some->QF,isSome_iff_exists->Ke,isSome_map->HK,isSome_some->Zc,map->Zb,map_eq_some_iff->Dl
open Option.some renaming inj->CC
open Or renaming inl->Sy,inr->QE
open Prod.mk renaming inj->lP
open PyProof.Rows renaming AllBare->Jc,Call_->qV,IntsAre->Dt,IsTup->dA,Keyed->DQ,SortKind->PL,SortSt->FK,Subscript_->mM,arrOf->Ap,boot_int->tq,boot_isinstance->OQ,boot_list->Qz,boot_max->tm,boot_min->RQ,boot_range->mL,boot_sorted->tj,boot_tuple->QZ,boot_zip->tf,bubble->mK,callWith_builtin1->tZ,callWith_type1->BJ,envOfC->Nz,firstOfTuple'->az,general'->X7,listUpdate_at->ay,ltAt'->qN,lt_int->tY,mirror->K0,mirror_perm->WJ,pairsOf->MN,pairsOf_size->TC,pendingOf->CB,reverseSlice'->Qy,reverseSlice'_eq->NV,seqEpoch_at->iq,seqObj->KH,slot_tuple_getitem->Gr,sortedHeap->mI,subscriptTail->aw,subscriptTail_builtinR->dE,tuples'->qJ,wpS_bind->Bj,wpS_forRange->IF,wpS_get->Xn,wpS_modify->Ky,wpS_mono->PB,wpS_pure->Cn
open PyProof.Rows.IsTup renaming new->dO
open PyProof.Rows.SortSt renaming mk'->Lu
open PySem renaming Addr->AN,Around->Bw,BindsTo->Xw,Builtin->N4,DictEntry->dC,FuncData->Je,Heap->CS,IsEnum->Ur,IsPair->RW,IsPart->Uq,Keyword->Xu,NameKind->PM,Paired->IH,PassesOwn->QD,Program->BP,Scope->TH,Shared->AK,Stmt->Dg,Value->AE,Within->WR,World->Bu,ZipApart->NW,argBest->GH,assign->N0,assignEach->FJ,atKey->YA,attributeBase->Ei,backTo->Da,backToKw->X9,behindInMarks->Df,binaryOp->DV,bindArgs->iu,bindC->cr,bindL->cq,bootBuiltins->G0,builtinLookup_eq_fast->ic,builtinsNs->X8,cLine->Ez,call->a7,call_meets->mJ,callerA->TF,cellsFrom->CK,checkBuiltinCall->qj,codeAny->JZ,codeAny_builtin->KI,codeAny_mono->TD,compareOp->Bt,concat_meets->dG,eval->Bd,field->WK,firstArgMember->PK,foldedSetIterable->GF,getItem->Ny,getMethod->cp,holding->Gz,isSubtype_stop->X6,isTrue->X5,keywordEach->PJ,letOwnedTupleGo->OP,mainGlobals->Av,mem_of_lookup->Dk,model->Ad,newFunctionEnv->X4,noFill_tuple_add->Uh,noteFrame->ck,plainId_quiet->JY,pushCells->Ey,pushCells_keeps->WQ,pyIter->dF,pyNext->Hc,rawInt->EV,relabel->Kf,release->qM,richCompare->ir,seqIndex?->qi,seqIndex_of->ip,seqItems?->Ug,seq_tuple_add->ax,setField->X3,setItem->Xo,sizeLine_eq->io,sliceBounds->Jd,slot_list_getitem->qL,spliced->qK,standAt->QC,starEach->AQ,storeName->qh,subscripted->WI,swapsWith->Gy,sysModules->EI,truthy->mH,tupleKind->Uf,tupleKind_room_in1->Kz,typeLookup->X1,typeLookup_type->tV,updateSeq->QB,valueAt->TB,wpAny->AY,wpAny_Call_Name_kw->EG,wpAny_Dict_empty->qg,wpAny_Name->mG,wpAny_assign_Name->qI,wpAny_attempt->Fv,wpAny_bind->AA,wpAny_call->X0,wpAny_callSpecial?_slot->Ce,wpAny_call_entry->Cj,wpAny_comprehension_free->av,wpAny_dictEntries->S9,wpAny_dictEpoch->WP,wpAny_eqBool_int->qf,wpAny_execs_cons->qe,wpAny_execs_nil->KG,wpAny_field->CJ,wpAny_fieldsOf->PH,wpAny_holding->By,wpAny_isInstance->Ue,wpAny_isOneOf_keyiter->OU,wpAny_isTrue_Compare1->ib,wpAny_letGo->PF,wpAny_loadName_cell->lL,wpAny_loadName_local->im,wpAny_loadPart->Xz,wpAny_mono->Eh,wpAny_newObj_type->CG,wpAny_nextOf_list_end->ia,wpAny_nextOf_list_item->Nx,wpAny_of_eq->WH,wpAny_passesOwn->Fj,wpAny_pure->AG,wpAny_pyIter_enum->MM,wpAny_pyIter_list->qH,wpAny_pyIter_revIter->il,wpAny_pyIter_slot->qG,wpAny_pyIter_tuple->Ha,wpAny_pyIter_zip->qd,wpAny_pyNext_zip_end->ik,wpAny_pyNext_zip_item->iZ,wpAny_rule->Xy,wpAny_seqItems->Ex,wpAny_setField->Gk,wpAny_specialOf->WO,wpAny_standAt->au,wpAny_truthy_bool->DJ,wpAny_tryCatch->PD,wpAny_typeNameOfWhole_keyiter->FG,wpAny_typeNameOf_keyiter->HM,wpAny_typeOf->dD,wpAny_updateSeq->Fi
open PySem.Around renaming under->WN,under_plainId->Fh
open PySem.AutoSeq1 renaming wpAny_loadPart'->GM
open PySem.Builtin renaming bitAnd->BL,bitNot->dP,bitOr->Be
open PySem.Builtin.Builtins renaming bindParams->Na
open PySem.Builtin.Dict renaming dictSlotNone->t6,showsAll->RY
open PySem.Builtin.Dict_items renaming ownsTuple->MQ
open PySem.Builtin.Int renaming intBits->DY
open PySem.Builtin.List renaming listExtendWith->Ej,listItems->EU,listLengthHint->t5,listSameRef->QJ,listTouch->tz,listUpdate->Qc
open PySem.Builtin.ObjectAttr renaming bindTo->ij
open PySem.Builtin.Range renaming rangeSize->QI
open PySem.Builtin.Slice renaming sliceAdjust->IJ,sliceApplied->Oc,sliceFields->q9,slicePartIndex->qz,slicePlaces->E8
open PySem.Builtin.SmallTypes renaming nextOf->Bv,ownedTupleIsFree->DM
open PySem.Builtin.Tuple renaming tupleCompareSizes->qy,tupleExact->FN,tupleItemsOf->qw
open PySem.Calls renaming Name_function_global->TM,callWith_builtin->WU,evalArgs_plain->YJ,spliced_cons->Oa,spliced_nil->PQ
open PySem.Challenge renaming pw_guardround_k34_rows_refused->mN,rw_guardround_k34_rows_refused->IG
open PySem.Code renaming frames->qv,isFrame->Xv
open PySem.Data renaming cell->N3,fields->RX,seq->lW
open PySem.EntryCells renaming newEntry->Uu
open PySem.F renaming args_dict_keyiterator_next_1->NZ,args_tuple_add_2->KJ,args_tuple_iterator_next_1->Ut,args_zip_next_1->lV,entry_dict_keyiterator_next->Nl,entry_extend_loop->ii,entry_min_loop->TL,entry_tuple_add->Ki,entry_tuple_iterator_next->WM,entry_zip_next->mP,excAttr_ValueError->RP,plainAttrs_list->Kh,plain_extend_loop->Jm,plain_min_loop->Ep,slot_dict_iter->Uk,slot_dict_keyiterator_next->Cp,slot_enumerate_next->dB,slot_tuple_add->K5,slot_tuple_iterator_next->GR,slot_zip_iter->qU,slot_zip_next->Jf
open PySem.Heap renaming ExtBut->Zf,SameBut->Du,get?_none_of_le->Ze,get?_push_of_some->AI,get?_push_size->Aa,get?_update_ne->bG,get?_update_other->At,get?_update_self->BY,lt_size->AL,size_push->Cb,size_update->Lz
open PySem.Heap.IsSliceOf renaming new->qT
open PySem.Heap.SameBut renaming refl->Us,update->Hd
open PySem.IsRange renaming new->lU
open PySem.NameKind renaming cell->C2,free->GK
open PySem.Obj renaming cls_mapFields->Kw,data_mapFields->Cc,isFreed_of_fields->FM,mapFields->DW,mapSeq->CI
open PySem.Paired renaming length->E1,snoc->Xt
open PySem.SeqAt.RcAt renaming tuples->qk
open PySem.Str renaming empty->Xp,ofString->E0
open PySem.Value renaming bool->OV,builtin->lN,bytes->qQ,float->YB,int->QW,isInt->qP,isStrOf->lM,none->BI,ref->Ai,str->QV,type->G1
open PySem.W renaming Frag->AD,InstAt->dH,Looks->Hl,callWith_K->N2,cellsFrom_some->Uj,clsIn->EK,codeIn->RO,emptyDict->DA,excIn->ie,findIn->CU,findObj->cx,fnOf->Ia,handedIn->a8,hasDictIn->OX,hideAll->Lv,hideAll_get->Xs,hideAll_none->MV,instObj->D7,isFn->Ui,kdu_collect->Xr,keepIn->FL,kia_one->CY,kitAny->EX,kitOne->Bb,kitx_dict->Za,kitx_list->ZZ,lookIn->MU,looks_findIn->MR,looks_subIn->Xq,makesIn->cw,methodObj->OW,mg_none_of->EJ,mg_of->OO,mroIn->Nk,nsOkIn->RN,of_hideAll->N1,plainGet->Kg,plainGet_of->NY,plainOver->ZY,specialIn->ZX,subIn->Nj,tail_of_in->YC,takerIn->QY,takesIn->cu,typeIn->Iu
open PySem.W.Looks renaming here->qm,ld->ql
open PySem.W.WData renaming int->tW
open PySem.W.WShape renaming has->qO
open PySem.Within renaming cons->tX
open Sum renaming inl->IS,inr->QX
open True renaming intro->Eu
namespace L2
open PySem PySem.Spec PyProof.Rows
noncomputable abbrev Key:=Sum Int Str
noncomputable def UO:Key->AE->Bool
 | .inl k,v=>qP k v
 | .inr x,v=>lM x v
noncomputable def keyH(w:Bu):Key->Int
 | .inl k=>hashInt k
 | .inr x=>hashStr w x
theorem Dq:∀{k:Key} {v:AE},UO k v=true->(∃i t,k=IS i/\v=QW i t)∨(∃x t,k=QX x/\v=QV x t)
 | .inl i,v,h=>by
  obtain⟨t,e⟩:=AE.isInt_shape (k:=i) (v:=v) h;exact .inl ⟨i,t,rfl,e⟩
 | .inr x,v,h=>by
  obtain⟨t,e⟩:=AE.isStrOf_shape (x:=x) (v:=v) h;exact .inr ⟨x,t,rfl,e⟩
theorem b6(i:Int)(t:Tok):UO (.inl i) (.int i t)=true:=by simp[UO,qP]
theorem b0(x:Str)(t:Tok):UO (.inr x) (.str x t)=true:=by simp[UO,lM]
theorem oq(a b:Int):decide ((IS a:Key)=IS b)=(a==b):=by
 by_cases e:a=b
 ·subst e;simp
 ·have h:¬(IS a:Key)=IS b:=λq=>e (IS.inj q)
  rw[wY h];exact(beq_eq_false_iff_ne.mpr e).symm
theorem oj(a b:Str):decide ((QX a:Key)=QX b)=decide (a=b):=by
 by_cases e:a=b
 ·subst e;simp
 ·have h:¬(QX a:Key)=QX b:=λq=>e (QX.inj q)
  rw[wY h,wY e]
theorem oo(a:Int)(b:Str):decide ((IS a:Key)=QX b)=false:=wY (λq=>nomatch q)
theorem om(a:Str)(b:Int):decide ((QX a:Key)=IS b)=false:=wY (λq=>nomatch q)
noncomputable def Em(prog:BP)(w:Bu):PySem.KeyKind prog w Key where
 is:=UO
 hash:=keyH w
 inj:=λv a b m hb=>by
  rcases Dq m with⟨i,t,rfl,rfl⟩ | ⟨x,t,rfl,rfl⟩
  ·rcases Dq hb with⟨j,u,rfl,e⟩ | ⟨y,u,rfl,e⟩
   ·injection e with g _;rw[g]
   ·exact nomatch e
  ·rcases Dq hb with⟨j,u,rfl,e⟩ | ⟨y,u,rfl,e⟩
   ·exact nomatch e
   ·injection e with g _;rw[g]
 byValue:=λk v h=>by
  rcases Dq h with⟨i,t,rfl,rfl⟩ | ⟨x,t,rfl,rfl⟩ <;> rfl
 pyHash:=λl h=>by
  rcases Dq l with⟨i,t,rfl,rfl⟩ | ⟨x,t,rfl,rfl⟩
  ·exact wpAny_pyHash_int h
  ·exact wpAny_pyHash_str h
 eqBool:=λo l h=>by
  rcases Dq o with⟨i,t,rfl,rfl⟩ | ⟨x,t,rfl,rfl⟩
  ·rcases Dq l with⟨j,u,rfl,rfl⟩ | ⟨y,u,rfl,rfl⟩
   ·rw[oq]at h;exact qf h
   ·rw[oo]at h;exact SeqAt.EqAt.int_str i t y u _ _ _ _ h
  ·rcases Dq l with⟨j,u,rfl,rfl⟩ | ⟨y,u,rfl,rfl⟩
   ·rw[om]at h;exact SeqAt.EqAt.str_int x t j u _ _ _ _ h
   ·rw[oj]at h;exact wpAny_eqBool_str h
 «strs»:=λk x t v h=>by
  rcases Dq h with⟨i,u,rfl,e⟩ | ⟨y,u,rfl,e⟩
  ·exact nomatch e
  ·injection e with g _
   subst g
   cases v <;> rfl
theorem XA(prog:BP)(w:Bu)(i:Int)(t:Tok):(Em prog w).is (.inl i) (.int i t)=true:=b6 i t
theorem W9(prog:BP)(w:Bu)(x:Str)(t:Tok):(Em prog w).is (.inr x) (.str x t)=true:=b0 x t
inductive V where
 | non | bl (b:Bool) | int (i:Int) | str (x:Str) | byt (b:Array UInt8) | flt (b:UInt64) | ref (a:AN) | ty (n:String)
 deriving DecidableEq
noncomputable def RelV:V->AE->Prop
 | .non,u=>u=BI
 | .bl b,u=>u=OV b
 | .int i,u=>∃t,u=QW i t
 | .str x,u=>∃t,u=QV x t
 | .byt b,u=>∃t,u=qQ b t
 | .flt b,u=>∃t,u=YB b t
 | .ref a,u=>u=Ai a
 | .ty n,u=>u=G1 n
noncomputable abbrev Bf:List V->List AE->Prop:=IH RelV
theorem Bf.length(r:Bf xs us):xs.length=us.length:=E1 r
theorem Bf.get:∀{xs:List V} {us:List AE} {i:Nat} {x:V},Bf xs us->xs[i]?=some x->∃u,us[i]?=some u/\RelV x u
 | _,_,_,_,.nil,e=>by simp at e
 | _,_,0,_,.cons r _,e=>by simp at e;subst e;exact⟨_,rfl,r⟩
 | _,_,i+1,x,.cons _ t,e=>by
  obtain⟨u,g,j⟩:=Bf.get (i:=i) (x:=x) t (by simpa using e);exact⟨u,by simpa using g,j⟩
theorem Bf.set(r:RelV x u):∀{xs:List V} {us:List AE} (i:Nat),Bf xs us->Bf (xs.set i x) (us.set i u)
 | _,_,_,.nil=>.nil
 | _,_,0,.cons _ t=>.cons r t
 | _,_,i+1,.cons q t=>.cons q (Bf.set r i t)
theorem Bf.append:∀{xs ys:List V} {us g:List AE},Bf xs us->Bf ys g->Bf (xs++ys) (us++g)
 | _,_,_,_,.nil,s=>s
 | _,_,_,_,.cons r t,s=>.cons r (Bf.append t s)
theorem Bf.take:∀{xs:List V} {us:List AE} (n:Nat),Bf xs us->Bf (xs.take n) (us.take n)
 | _,_,0,_=>.nil
 | _,_,_+1,.nil=>.nil
 | _,_,n+1,.cons r t=>.cons r (Bf.take n t)
theorem Bf.drop:∀{xs:List V} {us:List AE} (n:Nat),Bf xs us->Bf (xs.drop n) (us.drop n)
 | _,_,0,r=>r
 | _,_,_+1,.nil=>.nil
 | _,_,n+1,.cons _ t=>Bf.drop n t
noncomputable def Ni:Option V->Option AE->Prop
 | some v,some u=>RelV v u
 | none,none=>True
 | _,_=>False
noncomputable def KV{g:Type}:List (g×V)->List (g×AE)->Prop:=IH λ(p:g×V) (q:g×AE)=>p.1=q.1/\RelV p.2 q.2
noncomputable def kV:Key->V
 | .inl i=>.int i
 | .inr x=>.str x
inductive HO where
 | lst (xs:List V)
 | tup (xs:List V)
 | dK (f':List (Key×V)) | dT (f':List (List Key×V))
 | set (S:Int->Bool) (n:Nat)
 | ins (C dx:AN) (fs:List (Str×V))
 | own (x:AN)
 | xd (fs:List (Str×V))
 | met (f x:AN)
 | rng (lo hi:Int)
 | frz (o:Obj) (u:HO)
 | tbl (ps:Array AE)
 | ext (φ:CS->Prop)
noncomputable abbrev Hp:=AN->Option HO
noncomputable def upd(H:Hp)(a:AN)(o:HO):Hp:=λb=>if b=a then some o else H b
theorem Bc:upd H a o a=some o:=by unfold upd;rw[qX rfl]
theorem BA(h:b≠a):upd H a o b=H b:=by unfold upd;rw[qY h]
theorem sW{H:Hp}{a b:AN}{o u:HO}(h:H a=some o)(h':H b=some u)(d:o≠u):a≠b:=by
 intro e;subst e;rw[h]at h';exact d (CC h')
theorem BU{H:Hp}{a b:AN}{o:HO}(h:H a=some o)(h':H b=none):a≠b:=by
 intro e;subst e;rw[h]at h';cases h'
section
variable(P:BP)(w:Bu)
noncomputable def Cz(H:Hp)(h:CS)(a:AN):HO->Prop
 | .lst g=>g.length<=sizeLine/\∃(l:List AE) (n:Nat),Bf g l/\h.get? a=some { cls:=.type "list",data:=.seq l.toArray n }
 | .tup g=>(g.length<=sizeLine/\∃o,h.get? a=some o/\o.dict=none)/\∃l:List AE,Bf g l/\dA h a l.toArray
 | .dK m=>m.length<=sizeLine/\(a==EI)=false/\∃B,KV m B/\h.DictOf (Em P w) a B
 | .dT m=>m.length<=sizeLine/\(a==EI)=false/\∃g:List (List Key×AN×AE),
   IH (λ(p:List Key×V) (q:List Key×AN×AE)=>p.1=q.1/\H q.2.1=some (.tup (p.1.map kV))/\RelV p.2 q.2.2) m g /\
   ∃o E J,h.get? a=some o/\o.ExactDict/\o.data=.dict E J/\E.toList=g.map (entryOfKey (Uf (Em P w)))/\(g.map (·.1)).Nodup
 | .set S n=>h.SetOf (intKind P w) a S n
 | .ins C s fs=>H s=some (.own a)/\fs.length<=1000/\s≠a/\h.get? a=some (D7 C s) /\
   ∃j,h.Ns1 s j/\(∀f,Ni (fs.lookup f) (j f))/\WR j (fs.map (·.1))
 | .own _=>∃o,h.get? a=some o
 | .xd fs=>∃j,h.Ns1 a j/\∀f,Ni (fs.lookup f) (j f)
 | .rng lo L=>∃t u v,h.get? a=some { cls:=.type "range",data:=.fields #[.int lo t,.int L u,.int 1 v] }
 | .frz o u=>h.get? a=some o/\Cz H h a u
 | .tbl N=>h.get? a=some { cls:=.none,data:=.fields N }
 | .met f x=>h.get? a=some (OW (.ref f) (.ref x))
 | .ext A=>A h/\(∃o,h.get? a=some o)/\∀G I:CS,A G->(∀o,G.get? a=some o->I.get? a=some o)->A I
noncomputable def HOk(H:Hp)(h:CS):Prop:=∀a o,H a=some o->Cz P w H h a o
end
section
variable{P:BP}{w:Bu}{H H':Hp}{h h':CS}{a:AN}{o:HO}
theorem Cz.lt(x:Cz P w H h a o):a < h.objs.size:=by
 cases o with
 | lst g=>obtain⟨_,_,_,_,e⟩:=x;exact AL e
 | tup g=>obtain⟨_,_,_,p⟩:=x;exact p.lt
 | dK j=>obtain⟨_,_,_,_,o,_,_,e,_⟩:=x;exact AL e
 | dT j=>obtain⟨_,_,_,_,o,_,_,e,_⟩:=x;exact AL e
 | set S n=>obtain⟨o,_,_,_,e,_⟩:=x;exact AL e
 | ins C l fs=>obtain⟨_,_,_,e,_⟩:=x;exact AL e
 | own y=>obtain⟨_,e⟩:=x;exact AL e
 | xd fs=>obtain⟨_,⟨_,_,_,e,_⟩,_⟩:=x;exact AL e
 | rng lo m=>obtain⟨_,_,_,e⟩:=x;exact AL e
 | frz s u=>obtain⟨e,_⟩:=x;exact AL e
 | tbl A=>exact AL (show h.get? a=some _ from x)
 | met f y=>exact AL (show h.get? a=some _ from x)
 | ext B=>obtain⟨_,⟨_,e⟩,_⟩:=x;exact AL e
theorem IH.mapP{l m:Type}{F G:l->m->Prop}:∀{g:List l} {j:List m},IH F g j->(∀a b,F a b->G a b)->IH G g j
 | _,_,.nil,_=>.nil
 | _,_,.cons r t,f=>.cons (f _ _ r) (IH.mapP t f)
theorem Cz.stay(x:Cz P w H h a o)(k:∀b u,(b=a∨H b=some (.own a))->h.get? b=some u->h'.get? b=some u)
  (ho:∀b,H b=some (.own a)->H' b=some (.own a)) (G:∀b xs,H b=some (.tup xs)->H' b=some (.tup xs)):Cz P w H' h' a o:=by
 induction o with
 | lst xs=>obtain⟨z,m,n,r,e⟩:=x;exact⟨z,m,n,r,k _ _ (.inl rfl) e⟩
 | tup xs=>obtain⟨⟨z,I,s,J⟩,m,r,g,e,c⟩:=x;exact⟨⟨z,I,k _ _ (.inl rfl) s,J⟩,m,r,g,k _ _ (.inl rfl) e,c⟩
 | dK L=>obtain⟨z,y,N,r,g,j,l,e,c⟩:=x;exact⟨z,y,N,r,g,j,l,k _ _ (.inl rfl) e,c⟩
 | dT L=>
  obtain⟨z,y,xs,r,g,j,l,e,c⟩:=x;exact⟨z,y,xs,IH.mapP r λp q z=>⟨z.1,G _ _ z.2.1,z.2.2⟩,g,j,l,k _ _ (.inl rfl) e,c⟩
 | set S n=>obtain⟨g,j,l,t,e,c⟩:=x;exact⟨g,j,l,t,k _ _ (.inl rfl) e,c⟩
 | ins C R fs=>
  obtain⟨d,z,O,e,A,⟨B,j,l,s,c⟩,r⟩:=x;exact⟨ho _ d,z,O,k _ _ (.inl rfl) e,A,⟨B,j,l,k _ _ (.inr d) s,c⟩,r⟩
 | own y=>obtain⟨g,e⟩:=x;exact⟨g,k _ _ (.inl rfl) e⟩
 | xd fs=>obtain⟨A,⟨B,j,l,e,c⟩,r⟩:=x;exact⟨A,⟨B,j,l,k _ _ (.inl rfl) e,c⟩,r⟩
 | rng lo U=>obtain⟨t,u,v,e⟩:=x;exact⟨t,u,v,k _ _ (.inl rfl) e⟩
 | frz g u Q=>obtain⟨e,q⟩:=x;exact⟨k _ _ (.inl rfl) e,Q q⟩
 | tbl E=>
  have e:h.get? a=some { cls:=.none,data:=.fields E }:=x;show h'.get? a=some { cls:=.none,data:=.fields E };exact k a _ (.inl rfl) e
 | met f y=>
  have e:h.get? a=some (OW (.ref f) (.ref y)):=x;show h'.get? a=some (OW (.ref f) (.ref y));exact k a _ (.inl rfl) e
 | ext X=>obtain⟨p,⟨o,e⟩,st⟩:=x;exact⟨st _ _ p λo q=>k _ _ (.inl rfl) q,⟨o,k _ _ (.inl rfl) e⟩,st⟩
theorem HOk.lt(x:HOk P w H h)(e:H a=some o):a < h.objs.size:=(x a o e).lt
theorem HOk.fresh(x:HOk P w H h)(e:h.objs.size<=a):H a=none:=by
 cases q:H a with
 | none=>rfl
 | some u=>exact zX (AW (x.lt q) e) (Cf _)
theorem HOk.kept(x:HOk P w H h)(k:∀b u,h.get? b=some u->h'.get? b=some u):HOk P w H h':=λa o e=>
 (x a o e).stay (λb u _ q=>k b u q) (λ_ q=>q) λ_ _ q=>q
theorem HOk.laid(x:HOk P w H h)(k:∀b u,h.get? b=some u->h'.get? b=some u)(j:h.objs.size<=a)(new:Cz P w (upd H a o) h' a o):HOk P w (upd H a o) h':=λb u e=>by
 have g:=x.fresh j
 by_cases hb:b=a
 ·subst hb;rw[Bc]at e;cases e;exact new
 ·rw[BA hb]at e
  exact(x b u e).stay (λc v _ q=>k c v q) (λc q=>by rw[BA (BU q g)];exact q) λc l q=>by rw[BA (BU q g)];exact q
end
noncomputable def Rd(H:Hp)(a:AN)(u:HO):Prop:=H a=some u∨∃o,H a=some (.frz o u)
theorem Rd.ok(r:Rd H a u)(x:HOk P w H h):Cz P w H h a u:=by
 rcases r with r | ⟨o,r⟩
 ·exact x a u r
 ·obtain⟨_,q⟩:=x a _ r
  exact q
noncomputable def Mut:Option HO->Prop
 | some (.lst _)=>True
 | some (.dK _)=>True
 | some (.dT _)=>True
 | some (.set _ _)=>True
 | some (.ins _ _ _)=>True
 | some (.ext _)=>True
 | _=>False
section
variable{P:BP}{w:Bu}{H:Hp}{h h':CS}{x e:AN}
theorem HOk.write(ok:HOk P w H h)(j:Mut (H x))(o:e=x∨H e=some (.own x))(k:∀b u,b≠e->h.get? b=some u->h'.get? b=some u)(B:∃u,h'.get? e=some u)
  (new:Cz P w (upd H x o') h' x o'):HOk P w (upd H x o') h':=λb u q=>by
 have s:∀c y,H c=some (.own y)->c≠x:=λc y r z=>by subst z;rw[r]at j;exact j
 have C:∀c l,H c=some (.tup l)->c≠x:=λc l r z=>by subst z;rw[r]at j;exact j
 by_cases hb:b=x
 ·subst hb;rw[Bc]at q;cases q;exact new
 ·rw[BA hb]at q
  by_cases g:b=e
  ·have A:H b=some (.own x):=by
    rcases o with z | z
    ·exact zX (g.trans z) hb
    ·rw[g];exact z
   rw[q]at A;cases A;obtain⟨v,E⟩:=B;exact⟨v,by rw[g];exact E⟩
  ·refine(ok b u q).stay (λc v m r=>k c v ?_ r) (λc r=>by rw[BA (s c b r)];exact r) λc l r=>by rw[BA (C c l r)];exact r
   rcases m with rfl | m
   ·exact g
   ·rintro rfl
    rcases o with z | z
    ·exact s c b m z
    ·rw[m]at z;cases z;exact hb rfl
end
structure Un(fs ex:List AN)(H H':Hp)(h h':CS):Prop where
 keep:∀b o,h.get? b=some o->H b=none->b∉fs->b∉ex->h'.get? b=some o
 slot:∀b o,h.get? b=some o->H b=none->b∈fs->b∉ex->∃sl,h'.get? b=some { o with slots:=sl }
 free:∀b o,h.get? b=some o->H b=none->b∉ex->H' b=none
 there:∀b o,h.get? b=some o->b∉ex->∃o',h'.get? b=some o'
 tups:∀b xs,H b=some (.tup xs)->H' b=some (.tup xs)
 frzs:∀b o u,H b=some (.frz o u)->H' b=some (.frz o u)
 tbls:∀b ps,H b=some (.tbl ps)->∃more,H' b=some (.tbl (ps++more))
section
variable{fs ex:List AN}{H H1:Hp}{h h1 h':CS}{a x e:AN}{o:HO}
theorem Un.any(u:Un fs ex H H1 h h1)(q:h.get? b=some g)(n:H b=none)(j:b∉ex):∃sl,h1.get? b=some { g with slots:=sl }:=by
 by_cases hb:b∈fs
 ·exact u.slot b g q n hb j
 ·exact⟨g.slots,u.keep b g q n hb j⟩
theorem Un.kept(k:∀b u,h.get? b=some u->h'.get? b=some u):Un fs ex H H h h':=
 ⟨λb g q _ _ _=>k b g q,λb g q _ _ _=>⟨g.slots,k b g q⟩,λ_ _ _ n _=>n,λb g q _=>⟨g,k b g q⟩,λ_ _ q=>q,λ_ _ _ q=>q,λ_ j q=>⟨#[],by rw[q];simp⟩⟩
theorem Un.refl:Un fs ex H H h h:=Un.kept λ_ _ q=>q
theorem Un.laid(k:∀b u,h.get? b=some u->h'.get? b=some u)(j:h.objs.size<=a)(g:H a=none):Un fs ex H (upd H a o) h h' where
 keep:=λb u q _ _ _=>k b u q
 slot:=λb u q _ _ _=>⟨u.slots,k b u q⟩
 free:=λb u q n _=>by rw[BA (Ao (AW (AL q) j))];exact n
 there:=λb u q _=>⟨u,k b u q⟩
 tups:=λb l q=>by rw[BA (BU q g)];exact q
 frzs:=λb u l q=>by rw[BA (BU q g)];exact q
 tbls:=λb m q=>⟨#[],by rw[BA (BU q g),q];simp⟩
theorem Un.write(j:Mut (H x))(s:e=x∨H e=some (.own x))(k:∀b u,b≠e->h.get? b=some u->h'.get? b=some u)(A:∃u,h'.get? e=some u):Un fs ex H (upd H x o) h h':=by
 have m:∀b,H b=none->b≠x:=λb n z=>by subst z;rw[n]at j;exact j
 have hb:∀b,H b=none->b≠e:=λb n z=>by
  subst z
  rcases s with r | r
  ·exact m b n r
  ·rw[n]at r;cases r
 have l:∀b u,H b=some u->¬Mut (some u)->b≠x:=λb u q B z=>by subst z;rw[q]at j;exact B j
 refine⟨λb u q n _ _=>k b u (hb b n) q,λb u q n _ _=>⟨u.slots,k b u (hb b n) q⟩,λb u q n _=>by rw[BA (m b n)];exact n,λb u q _=>?_,
  λb C q=>by rw[BA (l b _ q λz=>z)];exact q,λb u C q=>by rw[BA (l b _ q λz=>z)];exact q,λb E q=>⟨#[],by rw[BA (l b _ q λz=>z),q];simp⟩⟩
 by_cases g:b=e
 ·subst g;exact A
 ·exact⟨u,k b u g q⟩
end
noncomputable def trk(h:CS)(H:Hp):List AN:=(Bl h.objs.size).filter λa=>(H a).isSome
noncomputable def Vu(h:CS)(H:Hp):CS:=Lv h (trk h H)
theorem cC(h:CS)(H:Hp):(Vu h H).objs.size=h.objs.size:=PySem.W.hideAll_size _ _
theorem ge(e:h.get? b=some o)(n:H b=none):(Vu h H).get? b=some o:=
 Xs _ e λg=>by
  have q:(H b).isSome=true:=(i3.mp g).2;rw[n]at q;simp at q
theorem kL(e:(Vu h H).get? b=some o):h.get? b=some o/\H b=none:=by
 have g:h.get? b=some o:=N1 (trk h H) e;refine⟨g,?_⟩
 cases q:H b with
 | none=>rfl
 | some x=>
  have j:b∈trk h H:=i3.mpr ⟨Jj.mpr (AL g),by simp[q]⟩;have z:(Vu h H).get? b=none:=MV (trk h H) j;rw[z]at e;cases e
structure Mod(K:AD)(mg:Str->Option AE)(base:CS):Prop where
 kin:K.In base
 glob:base.Ns Av mg
 blt:∃mb,base.Ns X8 mb/\∀x:Str,x≠"__name__"->mb x=G0 x
 nolimit:base.NoLimit
structure Cx where
 prog:BP
 w:Bu
 K:AD
 mg:Str->Option AE
 base:CS
 A:Bw
 N:List Str
 s₀:AK
 H₀:Hp
 env:Env
 outer:List Env
 stack:List Env
 ex:List AN
 fn:Str->Bool
 calm:Bool
 pn:List (AN×Obj)
 xe:AE->AK->Prop
noncomputable def frs(l:List Env):List AN:=l.filterMap (·.frame)
noncomputable abbrev Cx.fs(X:Cx):List AN:=frs X.outer
noncomputable def Vis(g:TH)(x:Str):Prop:=g.names.lookup x=some .local∨g.names.lookup x=some .cell∨g.names.lookup x=some .free
noncomputable def Loc(g:TH)(x:Str):Prop:=g.names.lookup x=some .local∨g.names.lookup x=some .cell
noncomputable def Look(env:Env)(h:CS)(m:Str->Option AE)(x:Str)(u:AE):Prop:=
 (env.kindOf x=some .local/\m x=some u)∨((env.kindOf x=some .cell∨env.kindOf x=some .free)/\∃c,env.cells.lookup x=some c/\h.IsCell c (some u))
structure Cx.Ok(X:Cx):Prop where
 mod:Mod X.K X.mg X.base
 kind:X.env.scope.kind=.function
 glob:X.env.globals=Av
 blt:X.env.builtins=X8
 above:X.s₀.heap.objs.size<=X.env.locals
 inj:∀x y c,X.env.cells.lookup x=some c->X.env.cells.lookup y=some c->x=y
 has:∀x,(X.env.kindOf x=some .cell∨X.env.kindOf x=some .free)->∃c,X.env.cells.lookup x=some c
 cab:∀x c,X.fn x=true->X.env.cells.lookup x=some c->X.s₀.heap.objs.size<=c
 hd:X.calm=true->X.A.handled=none
 frames:X.A.frames=some X.stack
 stk:X.stack=X.outer∨(X.stack=X.env :: X.outer/\X.env.frame=some X.env.locals)
 exf:∀b∈X.ex,b≠X.env.locals/\∀x c,X.env.cells.lookup x=some c->c≠b
 bs:∀b o,X.base.get? b=some o->X.s₀.heap.get? b=some o/\X.H₀ b=none
 bsz:X.base.objs.size<=X.s₀.heap.objs.size
 noex:∀b o,X.base.get? b=some o->b∉X.ex
 exfs:∀b∈X.ex,b∉X.fs
 funs:X.s₀.heap.FunFrames X.base X.outer
 frf:∀b∈X.fs,X.H₀ b=none
structure Inv(X:Cx)(ζ:List (AN×Obj))(σ:List (Option V))(H:Hp)(s:AK):Prop where
 ok:X.Ok
 os:s.os=X.s₀.os
 bare:Jc s.gens
 base:Un X.fs X.ex X.H₀ H X.s₀.heap s.heap
 loc:∃m,s.heap.Ns X.env.locals m/\∀(i:Nat) (x:Str) (v:V),X.N[i]?=some x->σ[i]?=some (some v)->Vis X.env.scope x->∃u,RelV v u/\Look X.env s.heap m x u
 cell:∀x c,X.env.cells.lookup x=some c->∃v,s.heap.IsCell c v
 free:H X.env.locals=none
 freeC:∀x c,X.env.cells.lookup x=some c->H c=none
 pin:∀p∈X.pn++ζ,s.heap.get? p.1=some p.2/\H p.1=none/\p.1≠X.env.locals/\p.1∉X.fs/\∀v,p.2.data≠.cell v
 hok:HOk X.prog X.w H s.heap
 len:σ.length=X.N.length
section
variable{X:Cx}{ζ:List (AN×Obj)}{σ:List (Option V)}{H H':Hp}{s:AK}{h':CS}
theorem Cx.Ok.nofr(ok:X.Ok)(e:X.base.get? b=some o):b∉X.fs:=λhb=>by
 have:=(ok.funs.mem hb).1;rw[e]at this;cases this
theorem Inv.bs(I:Inv X ζ σ H s):∀b o,X.base.get? b=some o->s.heap.get? b=some o/\H b=none:=λb o e=>
 ⟨I.base.keep b o (I.ok.bs b o e).1 (I.ok.bs b o e).2 (I.ok.nofr e) (I.ok.noex b o e),I.base.free b o (I.ok.bs b o e).1 (I.ok.bs b o e).2 (I.ok.noex b o e)⟩
theorem Inv.bk(I:Inv X ζ σ H s):∀b o,X.base.get? b=some o->s.heap.get? b=some o:=λb o e=>(I.bs b o e).1
theorem Inv.mod(I:Inv X ζ σ H s):Mod X.K X.mg X.base:=I.ok.mod
theorem Inv.kIn(I:Inv X ζ σ H s):X.K.In s.heap:=I.ok.mod.kin.keeps I.bk
theorem Inv.lt(I:Inv X ζ σ H s):X.env.locals < s.heap.objs.size:=let ⟨_,g,_⟩:=I.loc;g.lt
theorem Inv.sz(I:Inv X ζ σ H s):X.s₀.heap.objs.size<=s.heap.objs.size:=Au I.ok.above (MW I.lt)
theorem Inv.nofs(I:Inv X ζ σ H s)(h:s.heap.objs.size<=a):a∉X.fs:=λhb=>by
 obtain⟨_,o,g,_⟩:=I.ok.funs.mem hb;exact zX (AW (AL g) (Au I.sz h)) (Cf _)
theorem Inv.cne(I:Inv X ζ σ H s):∀x c,X.env.cells.lookup x=some c->c≠X.env.locals:=λx c e z=>by
 obtain⟨v,o,g,j⟩:=I.cell x c e;obtain⟨m,⟨B,C,E,l,A,_⟩,_⟩:=I.loc;rw[z,l]at g;cases g;rw[A]at j;cases j
theorem Inv.funs(I:Inv X ζ σ H s):s.heap.FunFrames X.base X.outer:=by
 have all:∀(l:List Env),(∀b∈frs l,b∈X.fs)->X.s₀.heap.FunFrames X.base l->s.heap.FunFrames X.base l:=by
  intro l
  induction l with
  | nil=>intro _ _;trivial
  | cons A r B=>
   intro m C;obtain⟨E,⟨L,o,g,G,J,N⟩,O⟩:=C;have j:L∈X.fs:=m L (by unfold frs;rw[OT,g];exact Ah)
   obtain⟨sl,e⟩:=I.base.slot L o J (I.ok.frf L j) j λz=>I.ok.exfs L z j
   exact⟨E,⟨L,_,g,G,e,N⟩,B (λb hb=>m b (by unfold frs;rw[OT,g];exact AS _ hb)) O⟩
 exact all X.outer (λ_ hb=>hb) I.ok.funs
theorem Inv.stack(I:Inv X ζ σ H s):s.heap.FunFrames X.base X.stack:=by
 rcases I.ok.stk with e | ⟨e,g⟩
 ·rw[e];exact I.funs
 ·rw[e]
  obtain⟨m,j,_⟩:=I.loc;refine .cons (by rw[I.ok.kind];decide) g j ?_ I.funs;exact Ze (Au I.ok.bsz I.ok.above)
theorem Inv.stkSub(I:Inv X ζ σ H s):∀b∈frs X.stack,b∈X.env.locals :: X.fs:=λb hb=>by
 rcases I.ok.stk with e | ⟨e,g⟩
 ·rw[e]at hb;exact AS _ hb
 ·rw[e]at hb
  unfold frs at hb;rw[OT,g]at hb;exact hb
theorem Inv.stkFree(I:Inv X ζ σ H s):∀b∈frs X.stack,H b=none:=λb hb=>by
 rcases Aq.mp (I.stkSub b hb)with e | hb
 ·rw[e];exact I.free
 ·obtain⟨_,o,g,_⟩:=I.ok.funs.mem hb
  exact I.base.free b o g (I.ok.frf b hb) λz=>I.ok.exfs b z hb
theorem Inv.step{g':Array GenState}{t':Nat}{d':Drawn}{ch:List AN}(I:Inv X ζ σ H s)
  (E:∀b∈ch,(b∈X.ex∨X.s₀.heap.objs.size<=b)/\b≠X.env.locals/\(∀x c,X.env.cells.lookup x=some c->c≠b)/\∀p∈X.pn++ζ,p.1≠b)
  (keep:∀b o,b≠X.env.locals->b∉X.fs->b∉ch->s.heap.get? b=some o->H b=none->h'.get? b=some o)
  (B:∀b o,b≠X.env.locals->b∈X.fs->b∉ch->s.heap.get? b=some o->H b=none->∃sl,h'.get? b=some { o with slots:=sl }) (free:∀b o,b∉ch->s.heap.get? b=some o->H b=none->H' b=none)
  (there:∀b o,b∉ch->s.heap.get? b=some o->∃o',h'.get? b=some o')
  (G:∀b xs,H b=some (.tup xs)->H' b=some (.tup xs)) (J:∀b o u,H b=some (.frz o u)->H' b=some (.frz o u)) (L:∀b ps,H b=some (.tbl ps)->∃more,H' b=some (.tbl (ps++more)))
  (ns:∀m,s.heap.Ns X.env.locals m->h'.Ns X.env.locals m) (Q:HOk X.prog X.w H' h') (hg:Jc g') :
  Inv X ζ σ H' { s with heap:=h',gens:=g',drawn:=d',toks:=t' }:=by
 have S:∀b o,X.s₀.heap.get? b=some o->b≠X.env.locals:=λb o e=>Ao (AW (AL e) I.ok.above)
 have P:∀b o,X.s₀.heap.get? b=some o->b∉X.ex->b∉ch:=λb o e g hb=>by
  rcases(E b hb).1 with z | z
  ·exact g z
  ·exact zX (AW (AL e) z) (Cf _)
 have j:∀x c,X.env.cells.lookup x=some c->∀v,s.heap.IsCell c v->h'.IsCell c v:=by
  rintro x c e v ⟨o,C,R⟩
  have N:c∉ch:=λz=>(E c z).2.2.1 x c e rfl
  by_cases U:c∈X.fs
  ·obtain⟨sl,q⟩:=B c o (I.cne x c e) U N C (I.freeC x c e)
   exact⟨_,q,R⟩
  ·exact⟨o,keep c o (I.cne x c e) U N C (I.freeC x c e),R⟩
 refine⟨I.ok,I.os,hg,⟨λb o e n hb g=>?_,λb o e n hb g=>?_,λb o e n g=>?_,λb o e g=>?_,λb xs e=>G b xs (I.base.tups b xs e),λb o xs e=>J b o xs (I.base.frzs b o xs e),λb ps e=>?_⟩,?_,λx c e=>?_,?_,λx c e=>?_,λp Y=>?_,Q,I.len⟩
 ·exact keep b o (S b o e) hb (P b o e g) (I.base.keep b o e n hb g) (I.base.free b o e n g)
 ·obtain⟨sl,A⟩:=I.base.slot b o e n hb g
  obtain⟨B',O⟩:=B b _ (S b o e) hb (P b o e g) A (I.base.free b o e n g);exact⟨B',O⟩
 ·obtain⟨o',A⟩:=I.base.there b o e g
  exact free b o' (P b o e g) A (I.base.free b o e n g)
 ·obtain⟨o',A⟩:=I.base.there b o e g
  exact there b o' (P b o e g) A
 ·obtain⟨m1,A⟩:=I.base.tbls b ps e
  obtain⟨m2,O⟩:=L b _ A;exact⟨m1++m2,by rw[O,bI]⟩
 ·obtain⟨m,hn,hl⟩:=I.loc
  refine⟨m,ns m hn,λi x v A O e3=>?_⟩;obtain⟨u,r,l⟩:=hl i x v A O e3;refine⟨u,r,?_⟩
  rcases l with l | ⟨k,c,e,z⟩
  ·exact .inl l
  ·exact .inr ⟨k,c,e,j x c e _ z⟩
 ·obtain⟨v,z⟩:=I.cell x c e
  exact⟨v,j x c e v z⟩
 ·obtain⟨m,⟨o,_,_,C,_⟩,_⟩:=I.loc
  exact free _ o (λz=>(E _ z).2.1 rfl) C I.free
 ·obtain⟨v,o,C,R⟩:=I.cell x c e
  exact free c o (λz=>(E c z).2.2.1 x c e rfl) C (I.freeC x c e)
 ·obtain⟨e,n,Z,nf,d⟩:=I.pin p Y
  have N:p.1∉ch:=λz=>(E p.1 z).2.2.2 p Y rfl
  exact⟨keep p.1 p.2 Z nf N e n,free p.1 p.2 N e n,Z,nf,d⟩
theorem Inv.stepN{g':Array GenState}{t':Nat}{d':Drawn}{ch:List AN}(I:Inv X ζ σ H s)
  (E:∀b∈ch,(b∈X.ex∨X.s₀.heap.get? b=none)/\b≠X.env.locals/\(∀x c,X.env.cells.lookup x=some c->c≠b)/\∀p∈X.pn++ζ,p.1≠b)
  (keep:∀b o,b≠X.env.locals->b∉X.fs->b∉ch->s.heap.get? b=some o->H b=none->h'.get? b=some o)
  (B:∀b o,b≠X.env.locals->b∈X.fs->b∉ch->s.heap.get? b=some o->H b=none->∃sl,h'.get? b=some { o with slots:=sl }) (free:∀b o,b∉ch->s.heap.get? b=some o->H b=none->H' b=none)
  (there:∀b o,b∉ch->s.heap.get? b=some o->∃o',h'.get? b=some o')
  (G:∀b xs,H b=some (.tup xs)->H' b=some (.tup xs)) (J:∀b o u,H b=some (.frz o u)->H' b=some (.frz o u)) (L:∀b ps,H b=some (.tbl ps)->∃more,H' b=some (.tbl (ps++more)))
  (ns:∀m,s.heap.Ns X.env.locals m->h'.Ns X.env.locals m) (Q:HOk X.prog X.w H' h') (hg:Jc g') :
  Inv X ζ σ H' { s with heap:=h',gens:=g',drawn:=d',toks:=t' }:=by
 have S:∀b o,X.s₀.heap.get? b=some o->b≠X.env.locals:=λb o e=>Ao (AW (AL e) I.ok.above)
 have P:∀b o,X.s₀.heap.get? b=some o->b∉X.ex->b∉ch:=λb o e g hb=>by
  rcases(E b hb).1 with z | z
  ·exact g z
  ·rw[z]at e;cases e
 have j:∀x c,X.env.cells.lookup x=some c->∀v,s.heap.IsCell c v->h'.IsCell c v:=by
  rintro x c e v ⟨o,C,R⟩
  have N:c∉ch:=λz=>(E c z).2.2.1 x c e rfl
  by_cases U:c∈X.fs
  ·obtain⟨sl,q⟩:=B c o (I.cne x c e) U N C (I.freeC x c e)
   exact⟨_,q,R⟩
  ·exact⟨o,keep c o (I.cne x c e) U N C (I.freeC x c e),R⟩
 refine⟨I.ok,I.os,hg,⟨λb o e n hb g=>?_,λb o e n hb g=>?_,λb o e n g=>?_,λb o e g=>?_,λb xs e=>G b xs (I.base.tups b xs e),λb o xs e=>J b o xs (I.base.frzs b o xs e),λb ps e=>?_⟩,?_,λx c e=>?_,?_,λx c e=>?_,λp Y=>?_,Q,I.len⟩
 ·exact keep b o (S b o e) hb (P b o e g) (I.base.keep b o e n hb g) (I.base.free b o e n g)
 ·obtain⟨sl,A⟩:=I.base.slot b o e n hb g
  obtain⟨B',O⟩:=B b _ (S b o e) hb (P b o e g) A (I.base.free b o e n g);exact⟨B',O⟩
 ·obtain⟨o',A⟩:=I.base.there b o e g
  exact free b o' (P b o e g) A (I.base.free b o e n g)
 ·obtain⟨o',A⟩:=I.base.there b o e g
  exact there b o' (P b o e g) A
 ·obtain⟨m1,A⟩:=I.base.tbls b ps e
  obtain⟨m2,O⟩:=L b _ A;exact⟨m1++m2,by rw[O,bI]⟩
 ·obtain⟨m,hn,hl⟩:=I.loc
  refine⟨m,ns m hn,λi x v A O e3=>?_⟩;obtain⟨u,r,l⟩:=hl i x v A O e3;refine⟨u,r,?_⟩
  rcases l with l | ⟨k,c,e,z⟩
  ·exact .inl l
  ·exact .inr ⟨k,c,e,j x c e _ z⟩
 ·obtain⟨v,z⟩:=I.cell x c e
  exact⟨v,j x c e v z⟩
 ·obtain⟨m,⟨o,_,_,C,_⟩,_⟩:=I.loc
  exact free _ o (λz=>(E _ z).2.1 rfl) C I.free
 ·obtain⟨v,o,C,R⟩:=I.cell x c e
  exact free c o (λz=>(E c z).2.2.1 x c e rfl) C (I.freeC x c e)
 ·obtain⟨e,n,Z,nf,d⟩:=I.pin p Y
  have N:p.1∉ch:=λz=>(E p.1 z).2.2.2 p Y rfl
  exact⟨keep p.1 p.2 Z nf N e n,free p.1 p.2 N e n,Z,nf,d⟩
theorem Inv.un{t':Nat}(I:Inv X ζ σ H s)(u:Un X.fs [] H H' s.heap h')(g:HOk X.prog X.w H' h'):Inv X ζ σ H' { s with heap:=h',toks:=t' }:=by
 obtain⟨m,⟨o,J,L,j,r⟩,_⟩:=id I.loc;obtain⟨sl,A⟩:=u.any j I.free (by simp)
 exact I.step (g':=s.gens) (d':=s.drawn) (ch:=[]) (λ_ z=>nomatch z) (λb o _ hb _ e n=>u.keep b o e n hb (by simp)) (λb o _ hb _ e n=>u.slot b o e n hb (by simp)) (λb o _ e n=>u.free b o e n (by simp)) (λb o _ e=>u.there b o e (by simp)) u.tups u.frzs u.tbls (λN B=>by
  obtain⟨O,C,E,l,G⟩:=B;rw[j]at l;cases l
  exact⟨_,C,E,A,G⟩) g I.bare
theorem Inv.call{g':Array GenState}{t':Nat}{d':Drawn}{ch:List AN}(I:Inv X ζ σ H s)(u:Un (frs X.stack) ch H H' s.heap h')(j:HOk X.prog X.w H' h')(E:Jc g')
  (A:∀b∈ch,(b∈X.ex∨X.s₀.heap.objs.size<=b)/\b≠X.env.locals/\(∀x c,X.env.cells.lookup x=some c->c≠b)/\∀p∈X.pn++ζ,p.1≠b) :
  Inv X ζ σ H' { s with heap:=h',gens:=g',drawn:=d',toks:=t' }:=by
 obtain⟨m,⟨o,O,P,B,r⟩,_⟩:=id I.loc
 obtain⟨sl,l⟩:=u.any B I.free λz=>(A _ z).2.1 rfl
 exact I.step (ch:=ch) A (λb o l hb g e n=>u.keep b o e n (λz=>(Aq.mp (I.stkSub b z)).elim l hb) g) (λb o _ _ g e n=>u.any e n g) (λb o g e n=>u.free b o e n g) (λb o g e=>u.there b o e g) u.tups u.frzs u.tbls (λQ G=>by
  obtain⟨R,J,L,C,N⟩:=G;rw[B]at C;cases C
  exact⟨_,J,L,l,N⟩) j E
theorem Inv.turned{t':Nat}{it:AN}(I:Inv X ζ σ H s)(k:∀b o,b≠it->s.heap.get? b=some o->h'.get? b=some o)(A:H it=none)(j:it≠X.env.locals)
  (B:it∈X.ex∨X.s₀.heap.objs.size<=it) (C:∀x c,X.env.cells.lookup x=some c->c≠it) (E:∀p∈X.pn++ζ,p.1≠it):Inv X ζ σ H { s with heap:=h',toks:=t' }:=by
 have l:∀b u,H b=some u->b≠it:=λb u e z=>by rw[z,A]at e;cases e
 refine I.step (g':=s.gens) (d':=s.drawn) (ch:=[it]) (λb hb=>?_) (λb o _ _ g e _=>k b o (λz=>g (by simp[z])) e) (λb o _ _ g e _=>⟨o.slots,k b o (λz=>g (by simp[z])) e⟩) (λ_ _ _ _ n=>n)
  (λb o g e=>⟨o,k b o (λz=>g (by simp[z])) e⟩) (λ_ _ e=>e) (λ_ _ _ e=>e) (λb O e=>⟨#[],by rw[e];simp⟩) (λm G=>?_) (λb u e=>?_) I.bare
 ·have e:b=it:=by simpa using hb
  subst e;exact⟨B,j,C,E⟩
 ·obtain⟨o,J,L,N,r⟩:=G
  exact⟨o,J,L,k _ o (BW j) N,r⟩
 ·refine(I.hok b u e).stay (λc v g q=>k c v ?_ q) (λ_ q=>q) λ_ _ q=>q
  rcases g with z | z
  ·rw[z];exact l b u e
  ·exact l c _ z
theorem Inv.tok(I:Inv X ζ σ H s)(t:Nat):Inv X ζ σ H { s with toks:=t }:=I.un (h':=s.heap) (t':=t) Un.refl I.hok
theorem Inv.kept(I:Inv X ζ σ H s)(k:∀b u,s.heap.get? b=some u->h'.get? b=some u):Inv X ζ σ H { s with heap:=h',toks:=t' }:=I.un (Un.kept k) (I.hok.kept k)
theorem Inv.laid(I:Inv X ζ σ H s)(k:∀b u,s.heap.get? b=some u->h'.get? b=some u)(g:s.heap.objs.size<=a)(new:Cz X.prog X.w (upd H a o) h' a o) :
  Inv X ζ σ (upd H a o) { s with heap:=h',toks:=t' }:=I.un (Un.laid k g (I.hok.fresh g)) (I.hok.laid k g new)
theorem Inv.write(I:Inv X ζ σ H s)(g:Mut (H x))(j:e=x∨H e=some (.own x))(k:∀b u,b≠e->s.heap.get? b=some u->h'.get? b=some u)(l:∃u,h'.get? e=some u)
  (new:Cz X.prog X.w (upd H x o) h' x o):Inv X ζ σ (upd H x o) { s with heap:=h',toks:=t' }:=I.un (Un.write g j k l) (I.hok.write g j k l new)
theorem Inv.pins_of(I:Inv X ζ σ H s)(h:∀p∈pins',s.heap.get? p.1=some p.2/\H p.1=none/\p.1≠X.env.locals/\p.1∉X.fs/\∀v,p.2.data≠.cell v):Inv X pins' σ H s:=
 ⟨I.ok,I.os,I.bare,I.base,I.loc,I.cell,I.free,I.freeC,λp g=>(Bg.mp g).elim (λz=>I.pin p (Br _ z)) (h p),I.hok,I.len⟩
theorem SJ{N:List Str}(g:N.Nodup){i j:Nat}{x:Str}(a:N[i]?=some x)(b:N[j]?=some x):i=j:=by
 obtain⟨o,l⟩:=AF.mp a;obtain⟨A,m⟩:=AF.mp b;exact(List.getElem_inj g).mp (l.trans m.symm)
theorem T9{M:Model}{A:Bw}{E:AE->AK->Prop}{i:Nat}{x:Str}{v:V}{u:AE}{Q:Unit->AK->Prop}(I:Inv X ζ σ H s)(hN:X.N.Nodup)(hi:X.N[i]?=some x)(G:Loc X.env.scope x)(r:RelV v u)
  (h:∀s',Inv X ζ (σ.set i (some v)) H s'->(∃a,Du a s.heap s'.heap/\(a=X.env.locals∨X.env.cells.lookup x=some a))->Q () s') (hf:X.fn x=true∨X.env.scope.names.lookup x=some .local:=by first | exact .inl rfl | exact .inr rfl | assumption):AY M A (qh X.env x u) Q E s:=by
 obtain⟨m,Z,hl⟩:=id I.loc
 have G':(X.env.scope.kind==.class||(X.env.scope.kind==.module&&X.env.locals != X.env.globals))=false:=by rw[I.ok.kind];rfl
 have L:i < σ.length:=by rw[I.len];exact(AF.mp hi).1
 have cne:=I.cne
 have l:∀{a:AN} {h':CS},(∃o,s.heap.get? a=some o/\H a=none)->Du a s.heap h'->HOk X.prog X.w H h':=λ{a h'} ha g b ob e=>by
  obtain⟨_,_,wB⟩:=ha
  refine(I.hok b ob e).stay (λc w' C q=>(g.2 c ?_).trans q) (λ_ q=>q) λ_ _ q=>q
  rintro rfl
  rcases C with rfl | C
  ·rw[wB]at e;cases e
  ·rw[wB]at C;cases C
 rcases G with O | O
 ·refine wpAny_storeName_local O Z (λh' uX g=>?_) G'
  obtain⟨oL,_,_,hoL,_⟩:=id Z;refine h _ ⟨I.ok,I.os,I.bare,⟨λb o e n hb G=>?_,λb o e n hb G=>?_,I.base.free,λb o e G=>?_,I.base.tups,I.base.frzs,I.base.tbls⟩,⟨_,uX,λj y v' B J e3=>?_⟩,λy c e=>?_,I.free,I.freeC,λp hp=>?_,l ⟨oL,hoL,I.free⟩ g,by simpa using I.len⟩ ⟨_,g,.inl rfl⟩
  ·exact(g.2 b (Ao (AW (AL e) I.ok.above))).trans (I.base.keep b o e n hb G)
  ·obtain⟨sl,B⟩:=I.base.slot b o e n hb G
   exact⟨sl,(g.2 b (Ao (AW (AL e) I.ok.above))).trans B⟩
  ·obtain⟨o',B⟩:=I.base.there b o e G
   exact⟨o',(g.2 b (Ao (AW (AL e) I.ok.above))).trans B⟩
  ·by_cases P:j=i
   ·subst P
    rw[hi]at B;cases B;rw[A0 L]at J;cases J;exact⟨u,r,.inl ⟨O,by simp⟩⟩
   ·rw[Af (BW P)]at J
    obtain⟨u',r',q⟩:=hl j y v' B J e3;refine⟨u',r',?_⟩
    rcases q with⟨k,e⟩ | ⟨k,c,e,z⟩
    ·refine .inl ⟨k,?_⟩
     have:y≠x:=λe=>P (SJ hN B (e▸hi))
     simp[this,e]
    ·exact .inr ⟨k,c,e,z.sameBut g (cne y c e)⟩
  ·obtain⟨w',z⟩:=I.cell y c e
   exact⟨w',z.sameBut g (cne y c e)⟩
  ·obtain⟨e,n,U,nf,d⟩:=I.pin p hp
   exact⟨(g.2 p.1 U).trans e,n,U,nf,d⟩
 ·have J':X.fn x=true:=by
   rcases hf with z | z
   ·exact z
   ·rw[z]at O;cases O
  obtain⟨c,C⟩:=I.ok.has x (.inl O);obtain⟨w',z⟩:=I.cell x c C;refine wpAny_storeName_cell I.ok.kind O C z (λh' vD g=>?_);obtain⟨oc,R,K'⟩:=id z;refine h { s with heap:=h' } ⟨I.ok,I.os,I.bare,⟨λb o e n hb G=>?_,λb o e n hb G=>?_,I.base.free,λb o e G=>?_,I.base.tups,I.base.frzs,I.base.tbls⟩,⟨m,Z.sameBut g (BW (cne x c C)),λj y v' B J e3=>?_⟩,λy Y e=>?_,I.free,I.freeC,λp hp=>?_,l ⟨oc,R,I.freeC x c C⟩ g,by simpa using I.len⟩ ⟨c,g,.inr C⟩
  ·exact(g.2 b (Ao (AW (AL e) (I.ok.cab x c J' C)))).trans (I.base.keep b o e n hb G)
  ·obtain⟨sl,B⟩:=I.base.slot b o e n hb G
   exact⟨sl,(g.2 b (Ao (AW (AL e) (I.ok.cab x c J' C)))).trans B⟩
  ·obtain⟨o',B⟩:=I.base.there b o e G
   exact⟨o',(g.2 b (Ao (AW (AL e) (I.ok.cab x c J' C)))).trans B⟩
  ·by_cases P:j=i
   ·subst P
    rw[hi]at B;cases B;rw[A0 L]at J;cases J;exact⟨u,r,.inr ⟨.inl O,c,C,vD⟩⟩
   ·rw[Af (BW P)]at J
    obtain⟨u',r',q⟩:=hl j y v' B J e3;refine⟨u',r',?_⟩
    rcases q with q | ⟨k,Y,e,z'⟩
    ·exact .inl q
    ·refine .inr ⟨k,Y,e,z'.sameBut g ?_⟩
     rintro rfl;exact P (SJ hN B (I.ok.inj _ _ _ e C▸hi))
  ·by_cases S:Y=c
   ·subst S;exact⟨_,vD⟩
   ·obtain⟨w2,z2⟩:=I.cell y Y e
    exact⟨w2,z2.sameBut g S⟩
  ·obtain⟨e,n,U,nf,d⟩:=I.pin p hp
   refine⟨(g.2 p.1 ?_).trans e,n,U,nf,d⟩;intro q;rw[q,R]at e;have q':oc=p.2:=CC e;exact d w' (by rw[<-q'];exact K')
theorem Of(I:Inv X ζ σ H s)(g:X.N.Nodup)(hi:X.N[i]?=some x)(j:Loc X.env.scope x)(r:RelV v u)
  (h:∀s',Inv X ζ (σ.set i (some v)) H s'->Q () s') (l:X.fn x=true∨X.env.scope.names.lookup x=some .local:=by first | exact .inl rfl | exact .inr rfl | assumption):AY M A (qh X.env x u) Q E s:=
 T9 I g hi j r (λs' m _=>h s' m) l
theorem Inv.call'(I:Inv X ζ σ H s)(ho:s'.os=s.os)(u:Un (frs X.stack) ch H H' s.heap s'.heap)(g:HOk X.prog X.w H' s'.heap)(j:Jc s'.gens)
  (l:∀b∈ch,(b∈X.ex∨X.s₀.heap.objs.size<=b)/\b≠X.env.locals/\(∀x c,X.env.cells.lookup x=some c->c≠b)/\∀p∈X.pn++ζ,p.1≠b):Inv X ζ σ H' s':=by
 obtain⟨h',g',d',t',m⟩:=s';have e:m=s.os:=ho;subst e;exact I.call (g':=g') (t':=t') (d':=d') u g j l
end
noncomputable abbrev XK:=AE->Option AN->Hp->Prop
noncomputable abbrev St:=List (Option V)
noncomputable abbrev VK:=V->Hp->Prop
noncomputable abbrev TE:=St->Hp->VK->Prop
noncomputable abbrev TT:=St->Hp->(Bool->Hp->Prop)->Prop
noncomputable abbrev TA:=St->Hp->(List V->Hp->Prop)->Prop
structure ZV where
 nx:St->Hp->Prop
 rt:VK
 bk:St->Hp->Prop:=λ_ _=>False
 ct:St->Hp->Prop:=λ_ _=>False
noncomputable abbrev TS:=ZV->St->Hp->Prop
noncomputable def EP(X:Cx)(j:List (AN×Obj))(l:St)(Q:VK)(u:AE)(s':AK):Prop:=∃v g,Inv X j l g s'/\RelV v u/\Q v g
noncomputable def TP(X:Cx)(j:List (AN×Obj))(l:St)(Q:Bool->Hp->Prop)(b:Bool)(s':AK):Prop:=∃g,Inv X j l g s'/\Q b g
noncomputable def AP(X:Cx)(l:List (AN×Obj))(m:St)(Q:List V->Hp->Prop)(us:List AE)(s':AK):Prop:=∃g j,Inv X l m j s'/\Bf g us/\Q g j
noncomputable def SP(X:Cx)(l:List (AN×Obj))(D:ZV)(f:Flow)(s':AK):Prop:=
 match f with
 | .next=>∃g j,Inv X l g j s'/\D.nx g j
 | .brk=>∃g j,Inv X l g j s'/\D.bk g j
 | .cont=>∃g j,Inv X l g j s'/\D.ct g j
 | .ret u=>∃v g j,Inv X l g j s'/\RelV v u/\D.rt v j
noncomputable def PE(X:Cx)(e:Expr)(t:TE):Prop:=
 ∀(j:List (AN×Obj)) (s:AK) (g:St) (H:Hp) (Q:VK),Inv X j g H s->t g H Q->AY (Ad X.prog X.w) X.A (Bd e X.env) (EP X j g Q) X.xe s
noncomputable def PT(X:Cx)(e:Expr)(t:TT):Prop:=
 ∀(j:List (AN×Obj)) (s:AK) (g:St) (H:Hp) (Q:Bool->Hp->Prop),Inv X j g H s->t g H Q->AY (Ad X.prog X.w) X.A (X5 e X.env (Bd e X.env)) (TP X j g Q) X.xe s
noncomputable def PW(X:Cx)(e:Expr)(t:TT):Prop:=
 ∀(g:Sem AE) (l:List (AN×Obj)) (s:AK) (j:St) (H:Hp) (Q:Bool->Hp->Prop),Inv X l j H s->t j H Q->AY (Ad X.prog X.w) X.A (X5 e X.env g) (TP X l j Q) X.xe s
theorem PW.pt(h:PW X e t):PT X e t:=h _
noncomputable def PA(X:Cx)(es:List Expr)(t:TA):Prop:=
 ∀(g:Pos) (l:List (AN×Obj)) (s:AK) (j:St) (H:Hp) (Q:List V->Hp->Prop),Inv X l j H s->t j H Q->AY (Ad X.prog X.w) X.A (qK (Da g (AQ es X.env))) (AP X l j Q) X.xe s
noncomputable def PS(X:Cx)(st:Dg)(t:TS):Prop:=
 ∀(g:List (AN×Obj)) (s:AK) (j:St) (H:Hp) (D:ZV),Inv X g j H s->t D j H->AY (Ad X.prog X.w) X.A (exec st X.env) (SP X g D) X.xe s
noncomputable def PSs(X:Cx)(st:List Dg)(t:TS):Prop:=
 ∀(g:List (AN×Obj)) (s:AK) (j:St) (H:Hp) (D:ZV),Inv X g j H s->t D j H->AY (Ad X.prog X.w) X.A (execs st X.env) (SP X g D) X.xe s
theorem thn{g:Type}{t:Sem g}{Q j:g->AK->Prop}{M:Model}{A:Bw}{E:AE->AK->Prop}{s:AK}(h:AY M A t Q E s)(l:∀a s,Q a s->j a s):AY M A t j E s:=Eh h l λ_ _ x=>x
section
variable{X:Cx}
noncomputable def nC(i:Nat):TE:=λg H Q=>∃v,g[i]?=some (some v)/\Q v H
noncomputable def tC(v:V):TE:=λ_ H Q=>Q v H
theorem nz(B:X.N[i]?=some x)(C:Vis X.env.scope x)(j:(x==("__debug__" : Str))=false:=by decide) (E:(x==("__classdict__" : Str))=false:=by decide):PE X (.Name x pos) (nC i):=by
 intro G s J H Q I h;obtain⟨v,e,h⟩:=h;obtain⟨m,L,O⟩:=I.loc;obtain⟨u,r,l⟩:=O i x v B e C;have fin:EP X G J Q u s:=⟨v,H,I,r,h⟩
 rcases l with⟨g,P⟩ | ⟨g,c,o,A⟩
 ·exact mG (im I.ok.kind g L P fin) j
 ·rcases g with g | g
  ·exact mG (lL I.ok.kind g o A fin) j
  ·exact mG (wpAny_loadName_free I.ok.kind g o A fin E) j
theorem oC{i j pos}:PE X (.Constant (.int i) j pos) (tC (.int i)):=λ_ _ _ H _ I h=>wpAny_Constant_int ⟨.int i,H,I.tok _,⟨_,rfl⟩,h⟩
theorem sE{b j pos}:PE X (.Constant (.bool b) j pos) (tC (.bl b)):=λ_ _ _ H _ I h=>Constant_bool ⟨.bl b,H,I,rfl,h⟩
theorem oA{j pos}:PE X (.Constant .none j pos) (tC .non):=λ_ _ _ H _ I h=>Constant_none ⟨.non,H,I,rfl,h⟩
theorem n8{x j pos}:PE X (.Constant (.str x) j pos) (tC (.str x)):=λ_ _ _ H _ I h=>Calls.Constant_str ⟨.str x,H,I.tok _,⟨_,rfl⟩,h⟩
noncomputable def Gl(X:Cx)(x:Str):Prop:=X.env.kindOf x=some .globalImplicit
theorem Oq(I:Inv X m o H s)(g:Gl X x)(j:X.mg x=some u)(h:Q u s)
  (l:(x==("__debug__" : Str))=false:=by decide):AY (Ad X.prog X.w) X.A (Bd (.Name x pos) X.env) Q E s:=
 TM I.ok.kind g (Calls.loadGlobal_global (by rw[I.ok.glob];exact I.mod.glob.keeps I.bk) j h) l
theorem IN(I:Inv X G J H s)(g:Gl X x)(j:X.mg x=none)(l:G0 x=some u)(h:Q u s)
  (m:x≠"__name__":=by decide) (o:(x==("__debug__" : Str))=false:=by decide):AY (Ad X.prog X.w) X.A (Bd (.Name x pos) X.env) Q E s:=by
 obtain⟨L,B,C⟩:=I.mod.blt;exact TM I.ok.kind g (Calls.loadGlobal_builtin (by rw[I.ok.glob];exact I.mod.glob.keeps I.bk) j (by rw[I.ok.blt];exact B.keeps I.bk) ((C x m).trans l) h) o
theorem Jw(g:Gl X x)(j:X.mg x=some u)(r:RelV v u)(l:(x==("__debug__" : Str))=false:=by decide):PE X (.Name x pos) (tC v):=
 λ_ _ _ H _ I h=>Oq I g j ⟨v,H,I,r,h⟩ l
theorem Z6(g:Gl X x)(j:X.mg x=none)(l:G0 x=some u)(r:RelV v u)(m:x≠"__name__":=by decide) (o:(x==("__debug__" : Str))=false:=by decide):PE X (.Name x pos) (tC v):=
 λ_ _ _ H _ I h=>IN I g j l ⟨v,H,I,r,h⟩ m o
variable{a b:Expr}{ta tb:TE}{pos:Pos}
noncomputable def PC(X:Cx)(op:CmpOp)(a b:Expr)(t:TE):Prop:=
 ∀(m:List (AN×Obj)) (s:AK) (l:St) (H:Hp) (Q:VK),Inv X m l H s->t l H Q ->
  AY (Ad X.prog X.w) X.A (Bd a X.env) (λv g=>AY (Ad X.prog X.w) X.A (Bd b X.env) (λu j=>AY (Ad X.prog X.w) X.A (Bt op v u) (EP X m l Q) X.xe j) X.xe g) X.xe s
noncomputable def tB(t:TE):TT:=λg H Q=>t g H λx j=>∃c,x=.bl c/\Q c j
theorem eX(h:PC X op a b t)(g:Df op b=false:=by first | exact nobehind _ (by decide) (by decide) | rfl):PT X (.Compare a [op] [b] pos) (tB t):=by
 intro j s l H Q I hw;refine ib (thn (h j s l H _ I hw) λv E g=>thn g λu G m=>thn m λc J ⟨x,o,A,B,C⟩=>?_) g;obtain⟨d,rfl,q⟩:=C;cases B;exact DJ ⟨o,A,q⟩
theorem nU(h:PE X e t)(j:∀g,X5 e X.env g=(do let v <-g;QC e.pos;Gz [v] (mH v)):=by intro _;rfl):PT X e (tB t):=by
 intro l s m H Q I hw;refine isTrue_plain (thn (h l s m H _ I hw) λv E ⟨x,o,A,B,C⟩=>?_) (j _);obtain⟨d,rfl,q⟩:=C;cases B;exact DJ ⟨o,A,q⟩
variable{tA tB':TT}{rest:List Expr}
noncomputable def tOr(t u:TT):TT:=λg H Q=>t g H λc j=>if c=true then Q true j else u g j Q
noncomputable def tNot(t:TT):TT:=λg H Q=>t g H λc j=>Q (!c) j
theorem nR(g:PT X a tA):PW X (.BoolOp .Or [a] pos) tA:=by
 intro m j s l H Q I h;refine isTrue_or (thn (g j s l H Q I h) λc o e=>?_)
 cases c with
 | false=>exact isTrue_or_nil e
 | true=>exact e
theorem rp(A:PT X a tA)(hb:PW X (.BoolOp .Or (b :: rest) pos) tB'):PW X (.BoolOp .Or (a :: b :: rest) pos) (tOr tA tB'):=by
 intro B g s j H Q I h;refine isTrue_or (thn (A g s j H _ I h) λc C ⟨l,m,o⟩=>?_)
 cases c with
 | true=>exact⟨l,m,o⟩
 | false=>exact hb B g C j l Q m o
theorem nV(g:PT X a tA):PT X (.UnaryOp .Not a pos) (tNot tA):=by
 intro j s l H Q I h;exact isTrue_not (g j s l H (λc m=>Q (!c) m) I h)
noncomputable def rX(ta tb:TE):TE:=λg H Q=>ta g H λx j=>∃c,x=.bl c/\if c=true then tb g j Q else Q (.bl false) j
theorem n9{op}{t}(h:PE X a t):PE X (.BoolOp op [a] pos) t:=λg s j H Q I hw=>BoolOp_one (h g s j H Q I hw)
theorem oF(A:PE X a ta)(hb:PE X (.BoolOp .And (b :: rest) pos) tb):PE X (.BoolOp .And (a :: b :: rest) pos) (rX ta tb):=by
 intro j s l H Q I h;refine BoolOp_and (thn (A j s l H _ I h) λv B ⟨x,m,o,C,g⟩=>?_);obtain⟨c,rfl,g⟩:=g;cases C;refine DJ ?_
 cases c with
 | true=>exact hb j B l m Q o g
 | false=>exact⟨.bl false,m,o,rfl,g⟩
noncomputable def tIf(t:TT)(ta tb:TE):TE:=λg H Q=>t g H λc j=>if c=true then ta g j Q else tb g j Q
theorem fA(B:PT X c tA)(C:PE X a ta)(hb:PE X b tb):PE X (.IfExp c a b pos) (tIf tA ta tb):=by
 intro g s j H Q I h;refine wpAny_IfExp (thn (B g s j H _ I h) λd l ⟨m,o,A⟩=>?_)
 cases d with
 | true=>exact C g l j m Q o A
 | false=>exact hb g l j m Q o A
end
noncomputable def SqL(K:AD)(H:Hp)(a:AN)(xs:List V):Prop:=
 Rd H a (.lst xs) ∨
  ∃(o:Obj) (g:Array AE) (n:Nat),K.lookup a=some o/\o.cls=.type "list"/\o.dict=none/\o.data=.seq g n/\g.size<=sizeLine/\Bf xs g.toList
noncomputable def SqT(K:AD)(H:Hp)(a:AN)(xs:List V):Prop:=
 Rd H a (.tup xs) ∨
  ∃(o:Obj) (g:Array AE) (n:Nat),K.lookup a=some o/\o.cls=.type "tuple"/\o.data=.seq g n/\g.size<=sizeLine/\Bf xs g.toList
noncomputable def absV:AE->Option V
 | .none=>some .non
 | .bool b=>some (.bl b)
 | .int i _=>some (.int i)
 | .str x _=>some (.str x)
 | .bytes b _=>some (.byt b)
 | .float b _=>some (.flt b)
 | .ref a=>some (.ref a)
 | .type n=>some (.ty n)
 | _=>none
theorem RelV.abs(r:RelV x u):absV u=some x:=by
 cases x with
 | non=>cases r;rfl
 | bl _=>cases r;rfl
 | int _=>obtain⟨t,rfl⟩:=r;rfl
 | str _=>obtain⟨t,rfl⟩:=r;rfl
 | byt _=>obtain⟨t,rfl⟩:=r;rfl
 | flt _=>obtain⟨t,rfl⟩:=r;rfl
 | ref _=>cases r;rfl
 | ty _=>cases r;rfl
theorem RelV.inj(r:RelV x u)(q:RelV y u):x=y:=CC (r.abs.symm.trans q.abs)
theorem Bf.inj:∀{xs ys:List V} {us:List AE},Bf xs us->Bf ys us->xs=ys
 | _,_,_,.nil,.nil=>rfl
 | _,_,_,.cons r t,.cons g j=>by rw[r.inj g,Bf.inj t j]
section
variable{X:Cx}{ζ:List (AN×Obj)}{σ:St}{H:Hp}{s:AK}{a:AN}{xs ys:List V}
theorem Inv.list(I:Inv X ζ σ H s)(h:SqL X.K H a xs):∃g:List AE,Bf xs g/\PlainL s.heap a g.toArray/\xs.length<=sizeLine:=by
 rcases h with h | ⟨o,g,n,j,l,m,A,B,r⟩
 ·obtain⟨z,g,n,r,e⟩:=h.ok I.hok
  exact⟨g,r,⟨_,n,e,rfl,rfl,rfl⟩,z⟩
 ·refine⟨g.toList,r,⟨o,n,I.kIn a o j,l,m,by simpa using A⟩,?_⟩
  have e:=r.length;simp only[Ch]at e
  lia
theorem Inv.tuple(I:Inv X ζ σ H s)(h:SqT X.K H a xs):∃g:List AE,Bf xs g/\dA s.heap a g.toArray/\xs.length<=sizeLine:=by
 rcases h with h | ⟨o,g,n,j,l,m,A,r⟩
 ·obtain⟨z,g,r,p⟩:=h.ok I.hok
  exact⟨g,r,p,z.1⟩
 ·refine⟨g.toList,r,⟨o,I.kIn a o j,l,n,by simpa using m⟩,?_⟩
  have e:=r.length;simp only[Ch]at e
  lia
theorem Inv.list_inj(I:Inv X ζ σ H s)(h:SqL X.K H a xs)(h':SqL X.K H a ys):xs=ys:=by
 obtain⟨l,r,⟨o,n,e,_,_,d⟩,_⟩:=I.list h;obtain⟨its',m,⟨A,B,g,_,_,j⟩,_⟩:=I.list h';rw[e]at g;cases g;rw[d]at j
 injection j with d1 _
 have:l=its':=by simpa using congrArg mT d1
 subst this;exact r.inj m
theorem Inv.tuple_inj(I:Inv X ζ σ H s)(h:SqT X.K H a xs)(h':SqT X.K H a ys):xs=ys:=by
 obtain⟨l,r,⟨o,e,_,n,d⟩,_⟩:=I.tuple h;obtain⟨its',m,⟨A,g,_,B,j⟩,_⟩:=I.tuple h';rw[e]at g;cases g;rw[d]at j
 injection j with d1 _
 have:l=its':=by simpa using congrArg mT d1
 subst this;exact r.inj m
end
section
variable{X:Cx}{st:Dg}{rest:List Dg}{t u:TS}{e:Expr}{te:TE}{pos:Pos}
noncomputable def rK:TS:=λD g H=>D.nx g H
noncomputable def tSeq(t u:TS):TS:=λD g H=>t { D with nx:=u D } g H
theorem jp:PSs X [] rK:=λ_ _ g H _ I h=>KG ⟨g,H,I,h⟩
theorem eZ(l:PS X st t)(m:PSs X rest u):PSs X (st :: rest) (tSeq t u):=by
 intro j s o H D I h;refine qe (thn (l j s o H { D with nx:=u D } I h) λf A q=>?_)
 cases f with
 | next=>
  obtain⟨g,B,C,q⟩:=q;exact m j A g B D C q
 | ret v=>exact q
 | brk=>exact q
 | cont=>exact q
theorem jo(g:PS X st t):PSs X [st] t:=by
 intro j s l H D I h;refine qe (thn (g j s l H D I h) λf m q=>?_)
 cases f with
 | next=>exact KG q
 | ret v=>exact q
 | brk=>exact q
 | cont=>exact q
noncomputable def nH:TS:=λD g H=>D.bk g H
theorem eh:PS X (.Break pos) nH:=λ_ _ g H _ I h=>wpAny_Break ⟨g,H,I,h⟩
theorem Inv.quiet(I:Inv X g j H s):interactive X.env=false:=by simp[interactive,I.ok.kind]
noncomputable def rM(te:TE):TS:=λD g H=>te g H λ_ j=>D.nx g j
theorem jq(j:PE X e te)(l:Gy e none pos.line X.env=pure false:=by rfl):PS X (.Expr e pos) (rM te):=by
 intro m s g H D I h;exact wpAny_Expr_any (thn (j m s g H _ I h) λv C ⟨x,o,A,E,B⟩=>⟨g,o,A,B⟩) I.quiet l
noncomputable def tRet(te:TE):TS:=λD g H=>te g H D.rt
theorem nX(j:PE X e te):PS X (.Return (some e) pos) (tRet te):=by
 intro l s g H D I h;exact wpAny_Return_some (thn (j l s g H _ I h) λv C ⟨x,m,o,A,B⟩=>⟨x,g,m,o,A,B⟩)
noncomputable def tIfS(c:TT)(t u:TS):TS:=λD g H=>c g H λb j=>if b=true then t D g j else u D g j
theorem rq(B:PT X c tc)(C:PSs X a t)(hb:PSs X b u):PS X (.If c a b pos) (tIfS tc t u):=by
 intro g s j H D I h;refine wpAny_If (thn (B g s j H _ I h) λd l ⟨m,o,A⟩=>?_)
 cases d with
 | true=>exact C g l j m D o A
 | false=>exact hb g l j m D o A
noncomputable def nE:TS:=λ_ _ _=>False
theorem ee:PS X st nE:=λ_ _ _ _ _ _ h=>h.elim
end
noncomputable abbrev TG:=V->St->Hp->(St->Hp->Prop)->Prop
noncomputable abbrev TGs:=List V->St->Hp->(St->Hp->Prop)->Prop
noncomputable def PG(X:Cx)(o:Expr)(t:TG):Prop:=
 ∀(j:List (AN×Obj)) (s:AK) (l:St) (H:Hp) (v:V) (u:AE) (Q:St->Hp->Prop),Inv X j l H s->RelV v u->t v l H Q ->
  AY (Ad X.prog X.w) X.A (N0 o X.env u) (λ_ B=>∃g m,Inv X j g m B/\Q g m) X.xe s
noncomputable def PGs(X:Cx)(ts:List Expr)(t:TGs):Prop:=
 ∀(j:List (AN×Obj)) (s:AK) (l:St) (H:Hp) (m:List V) (o:List AE) (Q:St->Hp->Prop),Inv X j l H s->Bf m o->t m l H Q ->
  AY (Ad X.prog X.w) X.A (assignInOrder ((FJ ts X.env).map (·.2)) o) (λ_ C=>∃g B,Inv X j g B C/\Q g B) X.xe s
noncomputable abbrev qA:=V->V->V->Hp->(Hp->Prop)->Prop
noncomputable def qC(X:Cx)(t:qA):Prop:=
 ∀(g:List (AN×Obj)) (s:AK) (j:St) (H:Hp) (o i v:V) (l m u:AE) (Q:Hp->Prop),Inv X g j H s->RelV o l->RelV i m->RelV v u->t o i v H Q ->
  AY (Ad X.prog X.w) X.A (Xo l m u) (λ_ C=>∃B,Inv X g j B C/\Q B) X.xe s
noncomputable abbrev TIp:=V->V->Hp->VK->Prop
noncomputable def PIp(X:Cx)(op:Operator)(t:TIp):Prop:=
 ∀(g:List (AN×Obj)) (s:AK) (j:St) (H:Hp) (x y:V) (v u:AE) (Q:VK),Inv X g j H s->RelV x v->RelV y u->t x y H Q ->
  AY (Ad X.prog X.w) X.A (inplaceOp op v u) (EP X g j Q) X.xe s
section
variable{X:Cx}{pos:Pos}
noncomputable def aS(i:Nat):TG:=λv g H Q=>Q (g.set i (some v)) H
theorem j6(g:X.N.Nodup)(hi:X.N[i]?=some x)(j:Loc X.env.scope x)(l:X.fn x=true∨X.env.scope.names.lookup x=some .local:=by first | exact .inl rfl | exact .inr rfl | assumption):PG X (.Name x pos) (aS i):=by
 intro o s A H v u Q I r h;exact qI (Of I g hi j r (λB m=>⟨_,H,m,h⟩) l)
noncomputable def gNil:TGs:=λg j H Q=>g=[]/\Q j H
noncomputable def tJ(t:TG)(u:TGs):TGs:=λj l H Q=>∃v r,j=v :: r/\t v l H λg m=>u r g m Q
theorem j4:PGs X [] gNil:=by
 intro j s g H l m Q I r h;obtain⟨e,h⟩:=h;subst e;cases r;exact assignInOrder_nil ⟨g,H,I,h⟩
theorem ez(l:PG X e t)(m:PGs X es u)
  (o:(FJ (e :: es) X.env).map (·.2)=N0 e X.env :: (FJ es X.env).map (·.2):=by rfl):PGs X (e :: es) (tJ t u):=by
 intro j s A H N O Q I r h;obtain⟨v,P,B,h⟩:=h;subst B
 cases r with
 | cons r C=>
  rw[o];refine assignInOrder_cons (thn (l j s A H _ _ _ I r h) λ_ E ⟨g,G,J,L⟩=>?_);exact m j E g G _ _ Q J C L
noncomputable def gTup(K:AD)(n:Nat)(t:TGs):TG:=λv j H Q=>∃a g,v=.ref a/\SqT K H a g/\g.length=n/\t g j H Q
theorem nv(m:X.calm=true)(h:PGs X es t)
  (A:(FJ es X.env).length=n:=by rfl) (B:(FJ es X.env).findIdx? (·.1)=none:=by rfl):PG X (.Tuple es k pos) (gTup X.K n t):=by
 intro g s j H v u Q I r hw;obtain⟨a,C,E,G,J,hw⟩:=hw;subst E;cases r;obtain⟨R,l,L,S⟩:=I.tuple G
 refine assign_Tuple_tuple (I.ok.hd m) L (by simp[A,<-J,l.length]) B λN O=>?_
 have P:Inv X g j H { s with heap:=N }:=I.kept (t':=s.toks) λb o e=>O b o (Ao (AL e)) e
 exact h g _ j H C _ Q P (by simpa using l) hw
noncomputable def gSub(to j:TE)(t:qA):TG:=λv g H Q=>to g H λo l=>j g l λi m=>t o i v m λs=>Q g s
theorem ny(ho:PE X o to)(hi:PE X i A)(B:qC X t)
  (C:∀v,N0 (.Subscript o i pos) X.env v=(do
   let g <-Gz [v] (Bd o X.env)
   let j <-Gz [v,g] (Bd i X.env)
   QC pos
   Gz [v,g,j] (Xo g j v)
   qM [v,g,j] []):=by intro _;rfl):PG X (.Subscript o i pos) (gSub to A t):=by
 intro m s l H v u Q I r h;rw[C];refine AA (By (thn (ho m s l H _ I h) λg E ⟨x,G,J,L,N⟩=>?_));refine AA (By (thn (hi m E l G _ J N) λj O ⟨y,P,R,S,U⟩=>?_));refine AA (au (AA (By (thn (B m O l P x y v g j u _ R L S r U) λ_ s3 ⟨Y,Z,q3⟩=>?_))));exact wpAny_release ⟨l,Y,Z,q3⟩
noncomputable def nI(te:TE)(g:TG):TS:=λD j H=>te j H λx l=>g x j l D.nx
theorem nb(m:PE X e te)(o:PG X tg g)(A:swapsWithSole [tg] e pos.line X.env=pure false:=by rfl)(hw:swappedStores [tg] e X.env=pure none:=by rfl)
  (B:(FJ [tg] X.env).map (·.2)=[N0 tg X.env]:=by rfl):PS X (.Assign [tg] e pos) (nI te g):=by
 intro j s l H D I h;refine wpAny_Assign_stores (thn (m j s l H _ I h) λv C ⟨x,E,G,J,L⟩=>?_) A hw;rw[B]
 exact thn (o j C l E x v _ G J L) λ_ N q=>q
theorem nW(j:X.N.Nodup)(hi:X.N[i]?=some x)(l:Loc X.env.scope x)(m:PE X e te)(o:Gy e (some (.Name x g)) pos.line X.env=pure false:=by rfl)(A:X.fn x=true∨X.env.scope.names.lookup x=some .local:=by first | exact .inl rfl | exact .inr rfl | assumption) :
  PS X (.Assign [.Name x g] e pos) (nI te (aS i)):=by
 intro B s C H D I h;refine wpAny_Assign_Name (thn (m B s C H _ I h) λv P ⟨y,E,G,J,L⟩=>?_) o;exact Of G j hi l J (λQ O=>⟨_,E,O,L⟩) A
noncomputable def tAug(i:Nat)(te:TE)(j:TIp):TS:=λD g H=>∃x,g[i]?=some (some x)/\te g H λy l=>j x y l λz m=>D.nx (g.set i (some z)) m
theorem na(L:X.N.Nodup)(hi:X.N[i]?=some x)(B:Loc X.env.scope x)(O:PE X e te)(ho:PIp X op P)(Q:X.fn x=true∨X.env.scope.names.lookup x=some .local:=by first | exact .inl rfl | exact .inr rfl | assumption) :
  PS X (.AugAssign (.Name x G) op e pos) (tAug i te P):=by
 intro C s J H D I h;obtain⟨v,R,h⟩:=h;obtain⟨m,S,U⟩:=I.loc
 have E:Vis X.env.scope x:=by rcases B with k | k;exact .inl k;exact .inr (.inl k)
 obtain⟨u,r,l⟩:=U i x v hi R E;refine wpAny_AugAssign_Name ?_
 have go:AY (Ad X.prog X.w) X.A (Bd e X.env) (λw j=>AY (Ad X.prog X.w) X.A (inplaceOp op u w) (λr o=>AY (Ad X.prog X.w) X.A (qh X.env x r) (λ_=>SP X C D .next) X.xe o) X.xe j) X.xe s:=by
  refine thn (O C s J H _ I h) λw Y ⟨y,Z,I1,r1,q1⟩=>?_
  refine thn (ho C Y J Z v y u w _ I1 r r1 q1) λz s2 ⟨zv,H2,I2,r2,q2⟩=>?_
  exact Of I2 L hi B r2 (λs3 I3=>⟨_,H2,I3,q2⟩) Q
 rcases l with⟨g,hm⟩ | ⟨g,c,hc,uy⟩
 ·exact im I.ok.kind g S hm go
 ·rcases g with g | g
  ·exact lL I.ok.kind g hc uy go
  ·rcases B with k | k
   ·have:X.env.scope.names.lookup x=some .free:=g
    rw[k]at this;cases this
   ·have:X.env.scope.names.lookup x=some .free:=g
    rw[k]at this;cases this
noncomputable def rW(to j te:TE)(l:V->V->Hp->VK->Prop)(m:TIp)(s:qA):TS:=λD g H=>to g H λo A=>j g A λi B=>l o i B λx C=>te g C λy E=>m x y E λz G=>s o i z G λI=>D.nx g I
noncomputable def tT(X:Cx)(t:V->V->Hp->VK->Prop):Prop:=
 ∀(g:List (AN×Obj)) (s:AK) (j:St) (H:Hp) (o i:V) (l m:AE) (Q:VK),Inv X g j H s->RelV o l->RelV i m->t o i H Q ->
  AY (Ad X.prog X.w) X.A (Ny l m) (EP X g j Q) X.xe s
theorem ju(ho:PE X o to)(hi:PE X i G)(J:tT X L)(N:PE X e te)(O:PIp X op P)(Q:qC X R)
  (S:∀g j new,augStore i g j new=(do Gz [new,g,j] (Xo g j new);qM [new,g,j] [];pure .next):=by intros;rfl):PS X (.AugAssign (.Subscript o i tpos) op e pos) (rW to G te L P R):=by
 intro m s l H D I h;refine wpAny_AugAssign_SubscriptAny (thn (ho m s l H _ I h) λg U ⟨A,Y,Z,B,q1⟩=>?_) S
 refine thn (hi m U l Y _ Z q1) λj s2 ⟨C,H2,I2,E,q2⟩=>?_
 refine thn (J m s2 l H2 A C g j _ I2 B E q2) λold s3 ⟨x3,H3,I3,r3,q3⟩=>?_
 refine thn (N m s3 l H3 _ I3 q3) λv s4 ⟨x4,H4,I4,r4,q4⟩=>?_
 refine thn (O m s4 l H4 x3 x4 old v _ I4 r3 r4 q4) λnew s5 ⟨x5,H5,I5,r5,q5⟩=>?_
 exact thn (Q m s5 l H5 A C x5 g j new _ I5 B E r5 q5) λ_ s6 ⟨H6,I6,q6⟩=>⟨l,H6,I6,q6⟩
noncomputable def ipI(f:Int->Int->Int):TIp:=λx y H Q=>∃i j,x=.int i/\y=.int j/\Q (.int (f i j)) H
noncomputable def nB(c:TT)(A:TS):TS:=λD g H=>∃W:Nat->St->Hp->Prop,(∃m,W m g H)/\∀m g H,W m g H ->
 c g H λb l=>if b=true then ∃N:St->Hp->Prop,(∀j o,N j o->∃s,s < m/\W s j o)/\A { D with nx:=N,ct:=N,bk:=D.nx } g l else D.nx g l
theorem ed(P:QD (Ad X.prog X.w) X.A X.env X.xe)(Z:PT X c tc)(hb:PSs X body tb):PS X (.While c body [] pos) (nB tc tb):=by
 intro C s σ H D I h;obtain⟨W,⟨m0,w0⟩,turn⟩:=h;refine wpAny_While (codeAny_whileLoop (λn s'=>∃l Q,Inv X C l Q s'/\W n l Q) ?_ m0 ⟨σ,H,I,w0⟩);rintro n s1 ⟨j,R,I1,w1⟩;refine Fj P (thn (Z C s1 j R _ I1 (turn n j R w1)) λb s2 ⟨S,U,o⟩=>?_)
 cases b with
 | true=>
  obtain⟨N,Y,o⟩:=o;rw[qX rfl];refine Fj P (thn (hb C s2 j S _ U o) λf s3 B=>?_)
  cases f with
  | next=>
   obtain⟨g,m,E,G⟩:=B;obtain⟨J,L,O⟩:=Y g m G;exact⟨J,L,g,m,E,O⟩
  | cont=>
   obtain⟨g,m,E,G⟩:=B;obtain⟨J,L,O⟩:=Y g m G;exact⟨J,L,g,m,E,O⟩
  | brk=>exact B
  | ret v=>exact B
 | false=>
  rw[qY AT];exact KG ⟨j,S,U,o⟩
end
structure It where
 go:Nat->Hp->Prop
 yld:Nat->Hp->V->Hp->Prop
 stop:Nat->Hp->Prop
noncomputable def MK(X:Cx)(g:List (AN×Obj))(H:Hp)(b:AN):Prop:=
 H b=none/\b≠X.env.locals/\b∉X.fs/\(b∈X.ex∨X.s₀.heap.objs.size<=b)/\(∀x c,X.env.cells.lookup x=some c->c≠b)/\∀p∈X.pn++g,p.1≠b
theorem Inv.fpOk(I:Inv X g o H s)(hb:s.heap.objs.size<=b)(j:l b=none):MK X g l b:=by
 refine⟨j,DX (AW I.lt hb),I.nofs hb,.inr (Au I.sz hb),λx c e z=>?_,λp m z=>?_⟩
 ·obtain⟨v,q⟩:=I.cell x c e
  exact zX (AW q.lt (by rw[z];exact hb)) (Cf _)
 ·exact zX (AW (AL (I.pin p m).1) (by rw[z];exact hb)) (Cf _)
structure Tl(P:BP)(w:Bu)(K:AD)(tg:Expr)(J:It)(fp:List AN)(it:AN)(tn:Nat->CS->Prop):Prop where
 mem:it∈fp
 obj:∀i h,tn i h->∀b∈fp,∃o,h.get? b=some o/\∀v,o.data≠.cell v
 keep:∀i h h',tn i h->(∀b∈fp,∀o,h.get? b=some o->h'.get? b=some o)->tn i h'
 item:∀(X:Cx),X.prog=P->X.w=w->X.K=K->X.calm=true->∀(i:Nat) (ζ:List (AN×Obj)) (s:AK) (σ:St) (H:Hp) (E:AE->AK->Prop),Inv X ζ σ H s->(∀b∈fp,MK X ζ H b)->tn i s.heap->J.go i H ->
  AY (Ad P w) X.A (Hc (.ref it)) (λr s1=>∃u,r=some u /\
   AY (Ad P w) X.A (OP tg (.ref it) u) (λ_ s2=>∃x H',Inv X ζ σ H' s2/\RelV x u/\J.yld i H x H'/\tn (i+1) s2.heap/\∀b∈fp,H' b=none) E s1) E s
 done:∀(X:Cx),X.prog=P->X.w=w->X.K=K->X.calm=true->∀(i:Nat) (ζ:List (AN×Obj)) (s:AK) (σ:St) (H:Hp) (E:AE->AK->Prop),Inv X ζ σ H s->(∀b∈fp,MK X ζ H b)->tn i s.heap->J.stop i H ->
  AY (Ad P w) X.A (Hc (.ref it)) (λr s1=>r=none/\Inv X ζ σ H s1) E s
 self:∀(A:Bw) (i:Nat) (s:AK) (Q:AE->AK->Prop) (E:AE->AK->Prop),tn i s.heap->Q (.ref it) s->AY (Ad P w) A (dF (.ref it)) Q E s
noncomputable abbrev TI:=St->Hp->(It->Hp->Prop)->Prop
noncomputable def PIE(X:Cx)(j:List (AN×Obj))(s:St)(tg:Expr)(R:It->Hp->Prop)(A:AE)(l:AK):Prop:=
 ∃(it:AN) (m:List AN) (o:Nat->CS->Prop) (J:It) (g:Hp),A=.ref it/\Inv X j s g l/\Tl X.prog X.w X.K tg J m it o/\o 0 l.heap/\(∀b∈m,MK X j g b)/\R J g
noncomputable def PI(X:Cx)(tg iter:Expr)(l:TI):Prop:=
 ∀(j:List (AN×Obj)) (s:AK) (g:St) (H:Hp) (R:It->Hp->Prop),Inv X j g H s->l g H R ->
  AY (Ad X.prog X.w) X.A (Bd iter X.env) (λv m=>AY (Ad X.prog X.w) X.A (dF v) (PIE X j g tg R) X.xe m) X.xe s
theorem aM(ho:s.heap.get? it=some o)(j:o.cls=.type n)(l:o.data=.fields vs)
  (m:["enumerate", "zip", "dict_itemiterator", "dict_reverseitemiterator", "odict_iterator", "itertools.zip_longest", "itertools.pairwise"].contains n=false) (g:Q () s):AY M A (OP tg (.ref it) u) Q E s:=by
 unfold OP
 cases tg <;> first
  | exact AG g
  | (cases u <;> first
    | exact AG g
    | (refine AA (wpAny_load ho ?_)
       rw[j,l];show AY M A (if (["enumerate", "zip", "dict_itemiterator", "dict_reverseitemiterator", "odict_iterator", "itertools.zip_longest", "itertools.pairwise"].contains n&&vs[0]?==some (EV _))=true then _ else _) Q E s;rw[qY (by intro h;rw[m,Bool.false_and]at h;cases h)]
       exact AG g))
noncomputable def Itl(K:AD)(a:AN):It:=
 ⟨λi H=>∃g x,SqL K H a g/\g[i]?=some x,λi H x j=>j=H/\∀g,SqL K H a g->g[i]?=some x,λi H=>∃g,SqL K H a g/\g.length<=i⟩
noncomputable def Itt(K:AD)(a:AN):It:=
 ⟨λi H=>∃g x,SqT K H a g/\g[i]?=some x,λi H x j=>j=H/\∀g,SqT K H a g->g[i]?=some x,λi H=>∃g,SqT K H a g/\g.length<=i⟩
noncomputable def Itr(lo:Int)(n:Nat):It:=⟨λi _=>i < n,λi H x g=>g=H/\x=.int (lo+i),λi _=>n<=i⟩
theorem bR{P}{w}{K}{tg}(a it:AN):Tl P w K tg (Itl K a) [it] it (λi h=>h.IsListIter it a i) where
 mem:=by simp
 obj:=λi h st b hb=>by
  have e:b=it:=by simpa using hb
  subst e;obtain⟨o,e,c,d⟩:=st;exact⟨o,e,λv z=>by rw[d]at z;cases z⟩
 keep:=λi h g st k=>st.at λo e=>k it (by simp) o e
 item:=by
  intro X m hw A R i S s U H E I j st B;subst m hw A;obtain⟨Z,x,l,C⟩:=B;obtain⟨i',G,p,hz⟩:=I.list l;obtain⟨u,hu,ru⟩:=G.get C;obtain⟨J,L,f2,N,O,Q⟩:=j it (by simp)
  refine wpAny_pyNext_list_item st p.isList (x:=u) (by simpa using hu) λg Y sb=>?_
  have I1:Inv X S U H { s with heap:=g }:=I.turned (t':=s.toks) (λb o hb e=>(sb.2 b hb).trans e) J L N O Q;obtain⟨o,e,c,d⟩:=id Y;exact⟨u,rfl,aM (s:={ s with heap:=g }) e c d (by decide) ⟨x,H,I1,ru,⟨rfl,λys hy=>by rw[I.list_inj hy l];exact C⟩,Y,λb hb=>(j b hb).1⟩⟩
 done:=by
  intro X m hw A R i S s U H E I j st B;subst m hw A;obtain⟨Z,l,C⟩:=B;obtain⟨i',G,p,hz⟩:=I.list l;obtain⟨J,L,f2,N,O,Q⟩:=j it (by simp);have hl:=G.length
  exact wpAny_pyNext_list_end (I.ok.hd R) st p.isList (by simp;lia) λg eb=>⟨rfl,I.turned (t':=s.toks) (λb o hb e=>eb b o hb e) J L N O Q⟩
 self:=λ_ _ _ _ _ st h=>wpAny_pyIter_listiter st h
theorem YT{P}{w}{K}{tg}(a it:AN):Tl P w K tg (Itt K a) [it] it (λi h=>h.IsTupleIter it a i) where
 mem:=by simp
 obj:=λi h st b hb=>by
  have e:b=it:=by simpa using hb
  subst e;obtain⟨o,e,c,d⟩:=st;exact⟨o,e,λv z=>by rw[d]at z;cases z⟩
 keep:=λi h g st k=>st.at λo e=>k it (by simp) o e
 item:=by
  intro X m hw A S i U s Y H E I j st B;subst m hw A;obtain⟨xs,x,l,C⟩:=B;obtain⟨G,J,p,hz⟩:=I.tuple l;obtain⟨u,hu,ru⟩:=J.get C;obtain⟨L,N,f2,O,Q,R⟩:=j it (by simp)
  refine wpAny_pyNext_tuple_item st (show s.heap.IsTuple a G.toArray from p) (x:=u) (by simpa using hu) λg Z sb=>?_
  have I1:Inv X U Y H { s with heap:=g }:=I.turned (t':=s.toks) (λb o hb e=>(sb.2 b hb).trans e) L N O Q R;obtain⟨o,e,c,d⟩:=id Z;exact⟨u,rfl,aM (s:={ s with heap:=g }) e c d (by decide) ⟨x,H,I1,ru,⟨rfl,λys hy=>by rw[I.tuple_inj hy l];exact C⟩,Z,λb hb=>(j b hb).1⟩⟩
 done:=by
  intro X m hw A S i U s Y H E I j st B;subst m hw A;obtain⟨xs,l,C⟩:=B;obtain⟨G,J,p,hz⟩:=I.tuple l;obtain⟨L,N,f2,O,Q,R⟩:=j it (by simp);have hl:=J.length
  exact wpAny_pyNext_tuple_end (I.ok.hd S) st (show s.heap.IsTuple a G.toArray from p) (by simp;lia) λg eb=>⟨rfl,I.turned (t':=s.toks) (λb o hb e=>eb b o hb e) L N O Q R⟩
 self:=λ_ _ _ _ _ st h=>wpAny_pyIter_tupleiter st h
theorem YU{P}{w}{K}{tg}(it:AN)(lo:Int)(n:Nat):Tl P w K tg (Itr lo n) [it] it (λi h=>IsRangeIter h it (lo+(i:Nat) * 1) ((n:Int) - (i:Nat)) 1) where
 mem:=by simp
 obj:=λi h st b hb=>by
  have e:b=it:=by simpa using hb
  subst e
  exact⟨_,st,λv z=>by
   have S:RX _=N3 v:=z
   cases S⟩
 keep:=λi h g st k=>k it (by simp) _ st
 item:=by
  intro X l hw m A i O s Q H E I j st B;subst l hw m;obtain⟨C,G,U,J,L,N⟩:=j it (by simp);have W:=Walks.range (prog:=X.prog) (w:=X.w) (I.ok.hd A) it lo 1 n
  refine W.item i s _ _ B st λv g tk Y R Z=>?_
  obtain⟨t,rfl⟩:=Y;have I1:Inv X O Q H { s with heap:=g,toks:=tk }:=I.turned (λb o hb e=>Z b o (by simpa using hb) e) C G J L N;refine⟨_,rfl,aM (s:={ s with heap:=g,toks:=tk }) (n:="range_iterator") R rfl rfl (by decide) ⟨.int (lo+i),H,I1,⟨t,?_⟩,⟨rfl,rfl⟩,R,λb hb=>(j b hb).1⟩⟩;rw[Int.mul_one]
 done:=by
  intro X l hw m A i O s Q H E I j st B;subst l hw m;obtain⟨C,G,U,J,L,N⟩:=j it (by simp)
  exact wpAny_pyNext_range_end (I.ok.hd A) st (by have:n<=i:=B;lia) λg eb=>⟨rfl,I.turned (t':=s.toks) (λb o hb e=>eb b o hb e) C G J L N⟩
 self:=λ_ _ _ _ _ st h=>wpAny_pyIter_rangeiter st h
section
variable{X:Cx}
noncomputable def tE(K:AD)(j:TE):TI:=λl H R=>j l H λx g=>∃a,x=.ref a/\(∃m,SqL K g a m)/\R (Itl K a) g
noncomputable def iTup(K:AD)(j:TE):TI:=λl H R=>j l H λx g=>∃a,x=.ref a/\(∃m,SqT K g a m)/\R (Itt K a) g
theorem jy{l}{m}(A:PE X l m):PI X tg l (tE X.K m):=by
 intro B s C H R I h
 refine thn (A B s C H _ I h) λv g ⟨x,E,j,G,J⟩=>?_
 obtain⟨a,e,⟨N,L⟩,q⟩:=J;subst e;cases G;obtain⟨O,P,p,Q⟩:=j.list L;refine qH p.isList ?_;refine⟨g.heap.objs.size,[g.heap.objs.size],_,_,E,rfl,j.kept (t':=g.toks) λb o e=>AI _ e,bR a _,⟨_,Aa _ rfl,rfl,rfl⟩,λb hb=>?_,q⟩
 have e:b=g.heap.objs.size:=by simpa using hb
 subst e;exact j.fpOk (AO _) (j.hok.fresh (AO _))
theorem nj{l}{m}(A:PE X l m):PI X tg l (iTup X.K m):=by
 intro B s C H R I h
 refine thn (A B s C H _ I h) λv g ⟨x,E,j,G,J⟩=>?_
 obtain⟨a,e,⟨O,L⟩,q⟩:=J;subst e;cases G;obtain⟨N,P,p,Q⟩:=j.tuple L;refine Ha (show g.heap.IsTuple a N.toArray from p) ?_;refine⟨g.heap.objs.size,[g.heap.objs.size],_,_,E,rfl,j.kept (t':=g.toks) λb o e=>AI _ e,YT a _,⟨_,Aa _ rfl,rfl,rfl⟩,λb hb=>?_,q⟩
 have e:b=g.heap.objs.size:=by simpa using hb
 subst e;exact j.fpOk (AO _) (j.hok.fresh (AO _))
theorem W0{g}{j}{H}{s}{R}{E}{lo hi}{t u v}{tk}(I:Inv X g j H s)(m:-(2 ^ 62)<=lo)(B:lo < 2 ^ 62)(C:-(2 ^ 62)<=hi)(G:hi < 2 ^ 62)
  (q:R (Itr lo (hi - lo).toNat) H):AY (Ad X.prog X.w) X.A (dF (.ref s.heap.objs.size)) (PIE X g j tg R) E { s with heap:=s.heap.push { cls:=.type "range",data:=.fields #[.int lo t,.int hi u,.int 1 v] },toks:=tk }:=by
 refine wpAny_pyIter_range (lU ..) (small_one m B C G) ?_
 have l:Inv X g j H { s with heap:=s.heap.push { cls:=.type "range",data:=.fields #[.int lo t,.int hi u,.int 1 v] },toks:=tk }:=I.kept λb o e=>AI _ e
 refine⟨(s.heap.push { cls:=.type "range",data:=.fields #[.int lo t,.int hi u,.int 1 v] }).objs.size,[(s.heap.push { cls:=.type "range",data:=.fields #[.int lo t,.int hi u,.int 1 v] }).objs.size],_,_,H,rfl,
  l.kept (t':=tk) λb o e=>AI _ e,YU _ lo (hi - lo).toNat,?_,λb hb=>?_,q⟩
 ·have J:lo+((0:Nat):Int) * 1=lo:=by simp
  have L:(((hi - lo).toNat:Nat):Int) - ((0:Nat):Int)=QI lo hi 1:=by rw[rangeSize_one];split <;> lia
  show IsRangeIter _ _ (lo+((0:Nat):Int) * 1) ((((hi - lo).toNat:Nat):Int) - ((0:Nat):Int)) 1;rw[J,L];exact Aa _ rfl
 ·have e:b=(s.heap.push { cls:=.type "range",data:=.fields #[.int lo t,.int hi u,.int 1 v] }).objs.size:=by simpa using hb
  subst e;exact l.fpOk (AO _) (l.hok.fresh (AO _))
noncomputable def sv(g:TA):TI:=λl H R=>g l H λm o=>∃j:Int,m=[.int j]/\-(2 ^ 62)<=j/\j < 2 ^ 62/\R (Itr 0 j.toNat) o
noncomputable def ss(g:TA):TI:=λl H R=>g l H λm o=>∃i j:Int,m=[.int i,.int j]/\(-(2 ^ 62)<=i/\i < 2 ^ 62/\-(2 ^ 62)<=j/\j < 2 ^ 62)/\R (Itr i (j - i).toNat) o
theorem bp{a}{l}{p pos}(m:Gl X "range") (o:X.mg "range" = none) (A:PA X [a] l) (B:AQ [a] X.env=[(false,Bd a X.env)]:=by rfl):PI X tg (.Call (.Name "range" p) [a] [] pos) (sv l):=by
 intro C s E H R I h;refine qV (IN I m o mL (BJ (thn (A pos C s E H _ I h) λO P ⟨Q,S,G,J,g⟩=>?_) B rfl));obtain⟨j,e,g,L,q⟩:=g;subst e
 cases J with
 | cons r N=>
  cases N;obtain⟨t,rfl⟩:=r;exact call_range_1 (W0 G (by lia) (by lia) g L (by simpa using q))
theorem bo(o:Gl X "range") (A:X.mg "range" = none) (B:PA X [a,b] C) (E:AQ [a,b] X.env=[(false,Bd a X.env),(false,Bd b X.env)]:=by rfl) (m:AQ [b] X.env=[(false,Bd b X.env)]:=by rfl) :
  PI X tg (.Call (.Name "range" p) [a,b] [] pos) (ss C):=by
 intro G s J H R I h;refine qV (IN I o A mL (BJ (thn (B pos G s J H _ I h) λU Y ⟨Z,H1,L,N,g⟩=>?_) (by rw[E,m]) (by rw[m];rfl)));obtain⟨i,j,e,⟨g,O,P,Q⟩,q⟩:=g;subst e
 cases N with
 | cons r l=>
  cases l with
  | cons S l=>
   cases l;obtain⟨t,rfl⟩:=r;obtain⟨t',rfl⟩:=S;exact call_range_2 (W0 L g O P Q q)
noncomputable def tFor(B:TI)(g:TG)(C:TS):TS:=λD j H=>B j H λJ E=>∃W:Nat->Nat->St->Hp->Prop,(∃m,W 0 m j E)/\∀i m j H,W i m j H ->
 (J.stop i H/\D.nx j H)∨(J.go i H/\∃N:St->Hp->Prop,(∀l o,N l o->∃A,A < m/\W (i+1) A l o)/\∀x o,J.yld i H x o->g x j o λs G=>C { D with nx:=N,ct:=N,bk:=D.nx } s G)
noncomputable def SB(fp:List AN)(h:CS):List (AN×Obj):=fp.filterMap λb=>(h.get? b).map λo=>(b,o)
theorem LY(hb:b∈fp)(e:h.get? b=some o):(b,o)∈SB fp h:=c8.mpr ⟨b,hb,by rw[e];rfl⟩
theorem bw(g:p∈SB fp h):p.1∈fp/\h.get? p.1=some p.2:=by
 obtain⟨b,hb,e⟩:=c8.mp g
 cases q:h.get? b with
 | none=>rw[q]at e;cases e
 | some o=>
  rw[q]at e;have j:(b,o)=p:=CC e;subst j;exact⟨hb,q⟩
theorem Inv.pinned(I:Inv X g l H s)(m:∀b∈fp,MK X g H b)(ho:∀b∈fp,∃o,s.heap.get? b=some o/\∀v,o.data≠.cell v):Inv X (g++SB fp s.heap) l H s:=
 I.pins_of λp A=>(Bg.mp A).elim (λz=>I.pin p (BN _ z)) λz=>by
  obtain⟨hb,e⟩:=bw z;obtain⟨B,C,E,_⟩:=m p.1 hb;obtain⟨o,j,d⟩:=ho p.1 hb;rw[e]at j;cases j;exact⟨e,B,C,E,d⟩
theorem Inv.unpinned(I:Inv X (g++pl) j H s):Inv X g j H s:=I.pins_of λp l=>I.pin p (BN _ (Br _ l))
theorem nY(P:QD (Ad X.prog X.w) X.A X.env X.xe)(hc:X.calm=true)(hi:PI X tg iter wi)(hg:PG X tg g)(hb:PSs X body tb)
  (hs:∀x,GF iter X.env x=pure x:=by intro _;rfl):PS X (.For tg iter body [] pos) (tFor wi g tb):=by
 intro L s σ H D I h;refine wpAny_For (thn (hi L s σ H _ I h) λv s1 h1=>thn h1 λzr s2 h2=>?_) hs;obtain⟨it,Q,tn,J,H2,e,I2,T,u0,f2,W,⟨m0,w0⟩,turn⟩:=h2;subst e
 have Z:∀{H':Hp},(∀b∈Q,H' b=none)->∀b∈Q,MK X L H' b:=λhn b hb=>⟨hn b hb,(f2 b hb).2⟩
 refine codeAny_forLoop_any (λn s'=>∃i l H',Inv X L l H' s'/\tn i s'.heap/\(∀b∈Q,H' b=none)/\W i n l H') ?_ m0 ⟨0,σ,H2,I2,u0,λb hb=>(f2 b hb).1,w0⟩;rintro n s3 ⟨i,B,Y,I3,vk,R,w3⟩
 rcases turn i n B Y w3 with⟨S,qn⟩ | ⟨go,N,hN,step⟩
 ·refine Fj P (thn (T.done X rfl rfl rfl hc i L s3 B Y X.xe I3 (Z R) vk S) λr s4 ⟨hr,I4⟩=>?_)
  subst hr;exact KG ⟨B,Y,I4,qn⟩
 ·refine Fj P (thn (T.item X rfl rfl rfl hc i L s3 B Y X.xe I3 (Z R) vk go) λr s4 ⟨u,hr,h4⟩=>?_)
  subst hr;refine Fj P (thn h4 λ_ s5 ⟨x,H5,I5,r5,y5,O,fr5⟩=>?_);have M':=I5.pinned (Z fr5) (T.obj _ _ O);refine Fj P (thn (hg _ s5 B H5 x u _ M' r5 (step x H5 y5)) λ_ s6 ⟨σ6,H6,I6,q6⟩=>?_);refine Fj P (thn (hb _ s6 σ6 H6 _ I6 q6) λf s7 G=>?_)
  have again:∀{j:St} {C:Hp},Inv X (L++SB Q s5.heap) j C s7->N j C->∃m,m < n/\∃i l H',Inv X L l H' s7/\tn i s7.heap/\(∀b∈Q,H' b=none)/\W i m l H':=λ{j C} E U=>by
   obtain⟨m',hm,w7⟩:=hN j C U;refine⟨m',hm,i+1,j,C,E.unpinned,T.keep _ _ _ O λb hb o e=>(E.pin (b,o) (BN _ (BN _ (LY hb e)))).1,λb hb=>?_,w7⟩;obtain⟨o,e,d⟩:=T.obj _ _ O b hb;exact(E.pin (b,o) (BN _ (BN _ (LY hb e)))).2.1
  cases f with
  | next=>obtain⟨j,C,E,U⟩:=G;exact again E U
  | cont=>obtain⟨j,C,E,U⟩:=G;exact again E U
  | brk=>obtain⟨j,C,E,G⟩:=G;exact⟨j,C,E.unpinned,G⟩
  | ret v=>obtain⟨x7,j,C,E,r7,G⟩:=G;exact⟨x7,j,C,E.unpinned,r7,G⟩
end
noncomputable abbrev R2:=V->V->Hp->VK->Prop
noncomputable def OpR(X:Cx)(f:AE->AE->Sem AE)(r:R2):Prop:=
 ∀(g:List (AN×Obj)) (s:AK) (j:St) (H:Hp) (x y:V) (v u:AE) (Q:VK),Inv X g j H s->RelV x v->RelV y u->r x y H Q ->
  AY (Ad X.prog X.w) X.A (f v u) (EP X g j Q) X.xe s
noncomputable def UnR(X:Cx)(f:AE->Sem AE)(r:V->Hp->VK->Prop):Prop:=
 ∀(g:List (AN×Obj)) (s:AK) (j:St) (H:Hp) (x:V) (v:AE) (Q:VK),Inv X g j H s->RelV x v->r x H Q ->
  AY (Ad X.prog X.w) X.A (f v) (EP X g j Q) X.xe s
noncomputable def Kv(X:Cx)(f:AE)(r:List V->Hp->VK->Prop):Prop:=
 ∀(g:List (AN×Obj)) (s:AK) (j:St) (H:Hp) (l:List V) (m:List AE) (Q:VK),Inv X g j H s->Bf l m->r l H Q ->
  AY (Ad X.prog X.w) X.A (call f m) (EP X g j Q) X.xe s
noncomputable def TruR(X:Cx)(r:V->Hp->(Bool->Hp->Prop)->Prop):Prop:=
 ∀(g:List (AN×Obj)) (s:AK) (j:St) (H:Hp) (x:V) (v:AE) (Q:Bool->Hp->Prop),Inv X g j H s->RelV x v->r x H Q ->
  AY (Ad X.prog X.w) X.A (mH v) (TP X g j Q) X.xe s
noncomputable def tOp(r:R2)(j l:TE):TE:=λg H Q=>j g H λx m=>l g m λy o=>r x y o Q
noncomputable def tUn(r:V->Hp->VK->Prop)(g:TE):TE:=λj H Q=>g j H λx l=>r x l Q
noncomputable def rI(C:Int->Int->Prop)(g:Int->Int->V):R2:=λx y H Q=>∃i j,x=.int i/\y=.int j/\C i j/\Q (g i j) H
noncomputable def rI0(g:Int->Int->V):R2:=λx y H Q=>∃i j,x=.int i/\y=.int j/\Q (g i j) H
noncomputable def rU(g:Int->V):V->Hp->VK->Prop:=λx H Q=>∃i,x=.int i/\Q (g i) H
section
variable{X:Cx}{a b:Expr}{ta tb:TE}{pos:Pos}
theorem p5(E:PE X a ta)(hb:PE X b tb){o:List (AN×Obj)}{s:AK}{g:St}{H:Hp}{R:V->V->Hp->Prop}(I:Inv X o g H s)
  (h:ta g H λx C=>tb g C λy j=>R x y j) {Q:AE->AK->Prop} {f:AE->AE->Sem AE}
  (G:∀v u B x y j,Inv X o g j B->RelV x v->RelV y u->R x y j->AY (Ad X.prog X.w) X.A (f v u) Q X.xe B) :
  AY (Ad X.prog X.w) X.A (Bd a X.env) (λv l=>AY (Ad X.prog X.w) X.A (Bd b X.env) (λu m=>AY (Ad X.prog X.w) X.A (f v u) Q X.xe m) X.xe l) X.xe s:=by
 refine thn (E o s g H _ I h) λv J ⟨x,C,L,N,O⟩=>?_
 refine thn (hb o J g C _ L O) λu B ⟨y,j,P,S,U⟩=>?_
 exact G v u B x y j P N S U
theorem sC{op:Operator}{r:R2}(ho:OpR X (DV op) r)(g:PE X a ta)(hb:PE X b tb):PE X (.BinOp a op b pos) (tOp r ta tb):=by
 intro j s l H Q I h;exact wpAny_BinOp (p5 g hb I h λv u m x y o A B C q=>ho j m l o x y v u Q A B C q)
theorem sA(ho:UnR X (unaryOp op) r)(l:PE X a ta):PE X (.UnaryOp op a pos) (tUn r ta):=by
 intro g s j H Q I h;exact UnaryOp_ (thn (l g s j H _ I h) λv m ⟨x,o,A,B,C⟩=>ho g m j o x v Q A B C)
theorem opI{f:AE->AE->Sem AE}{C:Int->Int->Prop}{g:Int->Int->Int}
  (rule:∀(i j:Int) (t u:Tok) (s:AK) (Q:AE->AK->Prop) (E:AE->AK->Prop),C i j->Q (.int (g i j) s.toks) { s with toks:=s.toks+1 }->AY (Ad X.prog X.w) X.A (f (.int i t) (.int j u)) Q E s) :
  OpR X f (rI C λi j=>.int (g i j)):=by
 intro G s J H x y v u Q I l m h;obtain⟨i,j,rfl,rfl,o,q⟩:=h;obtain⟨t,rfl⟩:=l;obtain⟨B,rfl⟩:=m;exact rule i j t B s _ _ o ⟨.int (g i j),H,I.tok _,⟨_,rfl⟩,q⟩
theorem oS{f:AE->AE->Sem AE}{g:Int->Int->Int}
  (rule:∀(i j:Int) (t u:Tok) (s:AK) (Q:AE->AK->Prop) (E:AE->AK->Prop),Q (.int (g i j) s.toks) { s with toks:=s.toks+1 }->AY (Ad X.prog X.w) X.A (f (.int i t) (.int j u)) Q E s) :
  OpR X f (rI0 λi j=>.int (g i j)):=by
 intro B s C H x y v u Q I l m h;obtain⟨i,j,rfl,rfl,q⟩:=h;obtain⟨t,rfl⟩:=l;obtain⟨o,rfl⟩:=m;exact rule i j t o s _ _ ⟨.int (g i j),H,I.tok _,⟨_,rfl⟩,q⟩
theorem kJ{f:AE->AE->Sem AE}{g:Int->Int->Bool}
  (rule:∀(i j:Int) (t u:Tok) (s:AK) (Q:AE->AK->Prop) (E:AE->AK->Prop),Q (.bool (g i j)) s->AY (Ad X.prog X.w) X.A (f (.int i t) (.int j u)) Q E s) :
  OpR X f (rI0 λi j=>.bl (g i j)):=by
 intro B s C H x y v u Q I l m h;obtain⟨i,j,rfl,rfl,q⟩:=h;obtain⟨t,rfl⟩:=l;obtain⟨o,rfl⟩:=m;exact rule i j t o s _ _ ⟨.bl (g i j),H,I,rfl,q⟩
noncomputable def iY(i j:Int):Prop:=0 < j/\j < 1073741824
noncomputable def iX(i j:Int):Prop:=0<=j/\j<=1000000/\i.natAbs < 2 ^ 64
noncomputable def Xm(i j:Int):Prop:=(-(2 ^ 64) < i/\i < 2 ^ 64)∨(-(2 ^ 64) < j/\j < 2 ^ 64)
theorem Xm.ok(h:Xm i j):IntMulOk i j:=by
 rcases h with⟨g,l⟩ | ⟨g,l⟩
 ·exact .of_left (intBits_le_64 g l)
 ·exact .of_right (intBits_le_64 g l)
theorem oR:OpR X (DV .Add) (rI0 λi j=>.int (i+j)):=oS λ_ _ _ _ _ _ _ q=>add_int q
theorem oI:OpR X (DV .Sub) (rI0 λi j=>.int (i - j)):=oS λ_ _ _ _ _ _ _ q=>sub_int q
theorem oK:OpR X (DV .Mult) (rI Xm λi j=>.int (i * j)):=opI λ_ _ _ _ _ _ _ g q=>mul_int q g.ok
theorem kG:OpR X (DV .FloorDiv) (rI iY λi j=>.int (i / j)):=opI λi j _ _ _ _ _ g q=>by
 have l:(0:Int) < j:=g.1;have m:j < 1073741824:=g.2;exact floordiv_int (by lia) (by rw[Int.fdiv_eq_ediv_of_nonneg i (by lia)];exact q) (.inl (PyProof.noPylong_small (by omega)))
theorem oM:OpR X (DV .Mod) (rI (λ_ j=>0 < j) λi j=>.int (i % j)):=opI λi j _ _ _ _ _ g q=>by
 have l:(0:Int) < j:=g;exact mod_int' (by lia) (by rw[Int.fmod_eq_emod_of_nonneg i (by lia)];exact q)
theorem oJ:OpR X (DV .LShift) (rI iX λi j=>.int (i * 2 ^ j.toNat)):=opI λ_ _ _ _ _ _ _ g q=>lshift_int_small g.1 g.2.1 g.2.2 q
theorem oQ:OpR X (DV .BitAnd) (rI0 λi j=>.int (BL i j)):=oS λ_ _ _ _ _ _ _ q=>and_int q
theorem unI{f:AE->Sem AE}{g:Int->Int}
  (rule:∀(i:Int) (t:Tok) (s:AK) (Q:AE->AK->Prop) (E:AE->AK->Prop),Q (.int (g i) s.toks) { s with toks:=s.toks+1 }->AY (Ad X.prog X.w) X.A (f (.int i t)) Q E s) :
  UnR X f (rU λi=>.int (g i)):=by
 intro l s m H x v Q I j h;obtain⟨i,rfl,q⟩:=h;obtain⟨t,rfl⟩:=j;exact rule i t s _ _ ⟨.int (g i),H,I.tok _,⟨_,rfl⟩,q⟩
theorem mr:UnR X (unaryOp .USub) (rU λi=>.int (-i)):=unI λ_ _ _ _ _ q=>neg_int q
end
section
variable{X:Cx}{a b c:Expr}{ta tb tc:TE}{pos:Pos}
theorem pY(I:Inv X g j H s)(q:Q (.bl k) H)(e:k=l):EP X g j Q (.bool l) s:=by
 subst e;exact⟨.bl k,H,I,rfl,q⟩
theorem sH:OpR X (Bt .Lt) (rI0 λi j=>.bl (decide (i < j))):=kJ λ_ _ _ _ _ _ _ q=>lt_int q
theorem sJ:OpR X (Bt .LtE) (rI0 λi j=>.bl (decide (i<=j))):=kJ λ_ _ _ _ _ _ _ q=>le_int q
theorem sK:OpR X (Bt .Gt) (rI0 λi j=>.bl (decide (j < i))):=kJ λ_ _ _ _ _ _ _ q=>gt_int q
theorem sL:OpR X (Bt .GtE) (rI0 λi j=>.bl (decide (j<=i))):=kJ λ_ _ _ _ _ _ _ q=>ge_int q
theorem oO:OpR X (Bt .Is) (λx y H Q=>y=.non/\Q (.bl (decide (x=.non))) H):=by
 intro l s m H x y v u Q I g j h;obtain⟨rfl,q⟩:=h;cases j;refine is_none_gen (pY I q ?_)
 cases x <;> first
  | (cases g;rfl)
  | (obtain⟨t,rfl⟩:=g;rfl)
theorem OpR.or(h:OpR X f r)(h':OpR X f o):OpR X f (λx y H Q=>r x y H Q∨o x y H Q):=by
 intro g s j H x y v u Q I l m q
 rcases q with q | q
 ·exact h g s j H x y v u Q I l m q
 ·exact h' g s j H x y v u Q I l m q
theorem GB(b:Expr)(h:op≠.In:=by decide)(g:op≠.NotIn:=by decide):Df op b=false:=by
 have j:(op==CmpOp.In)=false:=by cases op <;> first | rfl | exact zX rfl h
 have l:(op==CmpOp.NotIn)=false:=by cases op <;> first | rfl | exact zX rfl g
 cases b <;> simp[Df,j,l]
theorem kB{op:CmpOp}{r:R2}(ho:OpR X (Bt op) r)(g:PE X a ta)(hb:PE X b tb)(j:Df op b=false):PE X (.Compare a [op] [b] pos) (tOp r ta tb):=by
 intro l s m H Q I h;exact wpAny_Compare1 (p5 g hb I h λv u o x y A B C E q=>ho l o m A x y v u Q B C E q) j
noncomputable def lX(t:TE):TT:=λg H Q=>t g H λx j=>∃k,x=.bl k/\Q k j
theorem jn(ho:OpR X (Bt op) r)(l:PE X a ta)(hb:PE X b tb)(m:Df op b=false):PT X (.Compare a [op] [b] pos) (lX (tOp r ta tb)):=by
 intro g s j H Q I h
 refine ib (thn (l g s j H _ I h) λv o ⟨x,A,B,C,E⟩=>thn (hb g o j A _ B E) λu G ⟨y,J,L,N,O⟩=>
  thn (ho g G j J x y v u _ L C N O) λc Y ⟨z,P,R,S,k,e,U⟩=>?_) m
 subst e;cases S;exact DJ ⟨P,R,U⟩
noncomputable def dz(r l:R2)(ta tb tc:TE):TE:=λg H Q=>ta g H λx m=>tb g m λy o=>r x y o λz j=>∃k,z=.bl k /\
 (if k=true then tc g j λw' s=>l y w' s Q else Q (.bl false) j)
theorem eY(ho:OpR X (Bt op) r)(C:OpR X (Bt g) E)(G:PE X a ta)(hb:PE X b tb)(J:PE X c tc)
  (L:lastMarks [op,g] [b,c]=false:=by with_unfolding_all rfl):PT X (.Compare a [op,g] [b,c] pos) (lX (dz r E ta tb tc)):=by
 intro j s l H Q I h
 refine isTrue_chain (thn (G j s l H _ I h) λv N ⟨x,O,P,R,S⟩=>test_link (thn (hb j N l O _ P S) λu U ⟨y,Y,Z,m,q2⟩=>
  thn (ho j U l Y x y v u _ Z R m q2) λd s3 ⟨z,o,A,r3,k,e,B⟩=>?_)) L
 subst e;cases r3;refine DJ ?_
 cases k with
 | false=>
  obtain⟨k',e',q'⟩:=B;cases e';exact ite_ff ⟨o,A,q'⟩
 | true=>
  refine ite_tt (test_last (thn (J j s3 l o _ A B) λw' s4 ⟨z',H4,I4,r4,q4⟩=>thn (C j s4 l H4 y z' u w' _ I4 m r4 q4) λd' s5 ⟨z2,H5,I5,r5,k2,e2,q5⟩=>?_));subst e2;cases r5;exact DJ ⟨H5,I5,q5⟩
noncomputable def p8(K:AD)(x:V)(H:Hp)(k:Bool):Prop:=
 match x with
 | .non=>k=false
 | .bl b=>k=b
 | .int i=>k=(i != 0)
 | .str y=>y.length<=sizeLine/\k=((y.length:Int) != 0)
 | .byt y=>y.size<=sizeLine/\k=((y.size:Int) != 0)
 | .ref p=>(∃g,SqL K H p g/\k = !g.isEmpty)∨(∃g,SqT K H p g/\k = !g.isEmpty)∨∃j,H p=some (.dK j)/\k = !j.isEmpty
 | _=>False
theorem Y7{g:Type}{j:List (g×V)}{vs:List (g×AE)}(r:KV j vs):(!vs.isEmpty) = !j.isEmpty:=by
 cases r <;> rfl
theorem SW(r:Bf xs g):(!g.toArray.isEmpty) = !xs.isEmpty:=by
 cases r <;> simp
theorem Pw:(sizeLine:Nat) < 2 ^ 63:=by rw[io];decide
theorem m9:TruR X (λx H Q=>∃k,p8 X.K x H k/\Q k H):=by
 intro N s O H x v Q I o h;obtain⟨k,e,q⟩:=h;have R:=Pw;have S:sizeLine=16777216:=io
 cases x with
 | non=>
  cases o;have g:k=false:=e;subst g;exact truthy_none ⟨H,I,q⟩
 | bl b=>
  cases o;have g:k=b:=e;subst g;exact DJ ⟨H,I,q⟩
 | int i=>
  obtain⟨t,rfl⟩:=o;have g:k=(i != 0):=e;subst g;exact PySem.P.truthy_int ⟨H,I,q⟩
 | str y=>
  obtain⟨t,rfl⟩:=o;obtain⟨G,g⟩:y.length<=sizeLine/\k=((y.length:Int) != 0):=e;subst g;exact PySem.P.truthy_str (by lia) ⟨H,I.tok _,q⟩
 | byt y=>
  obtain⟨t,rfl⟩:=o;obtain⟨G,g⟩:y.size<=sizeLine/\k=((y.size:Int) != 0):=e;subst g;exact PySem.W.truthy_bytes (by lia) ⟨H,I.tok _,q⟩
 | ref p=>
  cases o
  have g:(∃l,SqL X.K H p l/\k = !l.isEmpty)∨(∃l,SqT X.K H p l/\k = !l.isEmpty)∨∃A,H p=some (.dK A)/\k = !A.isEmpty:=e
  rcases g with⟨l,B,g⟩ | ⟨l,B,g⟩ | ⟨A,B,g⟩
  ·subst g
   obtain⟨J,r,C,E⟩:=I.list B;have j:=r.length;exact wpAny_truthy_list C.isList (by simp only[AZ];lia) ⟨H,I.tok _,by rw[SW r];exact q⟩
  ·subst g
   obtain⟨J,r,C,E⟩:=I.tuple B;have j:=r.length;exact truthy_tuple C (by simp only[AZ];lia) ⟨H,I.tok _,by rw[SW r];exact q⟩
  ·subst g
   obtain⟨E,L,vs,r,m⟩:A.length<=sizeLine/\(p==EI)=false/\∃vs,KV A vs/\s.heap.DictOf (Em X.prog X.w) p vs:=I.hok p _ B
   have j:A.length=vs.length:=E1 r;exact wpAny_truthy_dict L m (by lia) ⟨H,I.tok _,by rw[Y7 r];exact q⟩
 | _=>exact(show False from e).elim
theorem eW(o:PE X a ta)(A:∀g,X5 a X.env g=(do let v <-g;QC a.pos;Gz [v] (mH v))) :
  PT X a (λj H Q=>ta j H λx l=>∃k,p8 X.K x l k/\Q k l):=by
 intro m s j H Q I h;exact isTrue_plain (thn (o m s j H _ I h) λv B ⟨x,C,E,G,J⟩=>m9 m B j C x v Q E G J) (A _)
theorem vals1(r:Bf [x] us):∃u,us=[u]/\RelV x u:=by
 cases r with
 | cons g j=>cases j;exact⟨_,rfl,g⟩
theorem vals2(r:Bf [x,y] us):∃u w',us=[u,w']/\RelV x u/\RelV y w':=by
 cases r with
 | cons g j=>
  cases j with
  | cons l m=>cases m;exact⟨_,_,rfl,g,l⟩
theorem cZ(l:X.calm=true):Kv X (.builtin "max") (λxs H Q=>∃i j,xs=[.int i,.int j]/\Q (.int (if j > i then j else i)) H):=by
 intro m s o H xs A Q I r h;obtain⟨i,j,rfl,q⟩:=h;obtain⟨u,w',rfl,⟨t,rfl⟩,⟨B,rfl⟩⟩:=vals2 r
 refine max_two_ints (I.ok.hd l) λC tk k=>⟨_,H,I.kept k,?_,q⟩
 by_cases g:j > i
 ·rw[qX g,qX g];exact⟨_,rfl⟩
 ·rw[qY g,qY g];exact⟨_,rfl⟩
theorem cY(l:X.calm=true):Kv X (.builtin "min") (λxs H Q=>∃i j,xs=[.int i,.int j]/\Q (.int (if j < i then j else i)) H):=by
 intro m s o H xs A Q I r h;obtain⟨i,j,rfl,q⟩:=h;obtain⟨u,w',rfl,⟨t,rfl⟩,⟨B,rfl⟩⟩:=vals2 r
 refine min_two_ints (I.ok.hd l) λC tk k=>⟨_,H,I.kept k,?_,q⟩
 by_cases g:j < i
 ·rw[qX g,qX g];exact⟨_,rfl⟩
 ·rw[qY g,qY g];exact⟨_,rfl⟩
theorem cb:Kv X (.type "int") (λxs H Q=>(∃i,xs=[.int i]/\Q (.int i) H)∨∃k,xs=[.bl k]/\Q (.int (if k then 1 else 0)) H):=by
 intro j s l H xs m Q I r h
 rcases h with⟨i,rfl,q⟩ | ⟨k,rfl,q⟩
 ·obtain⟨u,rfl,t,rfl⟩:=vals1 r
  exact call_int_int ⟨.int i,H,I,⟨_,rfl⟩,q⟩
 ·obtain⟨u,rfl,g⟩:=vals1 r
  cases g;exact call_int_bool ⟨.int (if k then 1 else 0),H,I.tok _,⟨_,rfl⟩,q⟩
end
structure ZT(h:CS)(x dx C:AN)(mA:Str->Option AE):Prop where
 obj:h.get? x=some (D7 C dx)
 ns:h.Ns1 dx mA
 ne:dx≠x
theorem bz{h:CS}{g:AN}{j:Str->Option AE}(n:h.Ns1 g j):∃l,h.get? g=some l/\∀name,MU name l=some (j name):=by
 obtain⟨o,m,J,s,A,B,_,C⟩:=n;refine⟨o,s,λname=>?_⟩;have e:=C name;unfold nsFind findBy at e;rw[<-Array.find?_toList]at e;unfold MU;rw[A];dsimp only;split
 ·rename_i y q
  rw[q]at e;exact congrArg some e
 ·rename_i q
  rw[q]at e
  have a:m.toList.any (·.refKey)=false:=by
   rw[dN];intro y E;obtain⟨z,t,G⟩:=B y (Fm.mp E);simp[dC.refKey,G]
  have I:¬m.toList.any (·.refKey)=true:=by rw[a];exact AT
  rw[qY I];exact congrArg some e
theorem ZT.look{h}{x j C}{l}(I:ZT h x j C l):∃g,dH h x (D7 C j) C (some g)/\∀name,MU name g=some (l name):=
 let ⟨g,m,o⟩:=bz I.ns
 ⟨g,⟨I.obj,rfl,rfl,m⟩,o⟩
section
variable{prog:BP}{w:Bu}{A:Bw}{E:AE->AK->Prop}{s:AK}{K:AD}{x dx C f:AN}{mA:Str->Option AE}{name:Str}{v:AE}
theorem kb(X:K.In s.heap)(I:ZT s.heap x dx C mA)(g:Kg K C name=true)(j:OX K C=true)
  (l:CU K (.ref C) name=some none) (m:mA name=some v) (o:a8 v=true) (h:Q v { s with toks:=s.toks+1 }) :
  AY (Ad prog w) A (getAttr (.ref x) name expr) Q E s:=by
 obtain⟨G,J,B⟩:=I.look;exact PySem.W.get_value X J (NY g).1 (PySem.W.findObj_own j l rfl (by rw[B,m])) o h
theorem gq(X:K.In s.heap)(I:ZT s.heap x dx C mA)(g:Kg K C name=true)
  (j:CU K (.ref C) name=some (some (.ref f))) (l:Ui K (.ref f)=true) (m:mA name=none) (h:Q (.ref f,[.ref x]) s) :
  AY (Ad prog w) A (cp (.ref x) name pl) Q E s:=by
 obtain⟨o,J,B⟩:=I.look;exact PySem.W.method_fn X J (NY g).1 (NY g).2 j (beq_iff_eq.mp l) (by show(MU name o).map (·.isSome)=some false;rw[B,m];rfl) h
theorem jc(X:K.In s.heap)(I:ZT s.heap x dx C mA)
  (B:CU K (.ref C) "__setattr__" = some (some (.builtin "object.__setattr__"))) (G:ZY K C=true) (L:QY K C name=some none) (N:OX K C=true)
  (hw:WR mA ns) (hsz:ns.length<=sizeLine)
  (h:∀h',ZT h' x dx C (λy=>if y=name then some v else mA y)->Du dx s.heap h'->Q () { s with heap:=h',toks:=s.toks+2 }) :
  AY (Ad prog w) A (setAttr (.ref x) name v) Q E s:=by
 obtain⟨Y,J,Z⟩:=I.look;refine PySem.W.set_plain X J B (PySem.W.osa_open (s:={ s with toks:=s.toks+1 }) (r:=none) X J G L λb=>?_);obtain⟨cd,O,P⟩:=PySem.W.any_some N;have R:s.heap.get? x=some ⟨.ref C,some dx,.plain,#[]⟩:=I.obj;refine AA (AG (AA (AA (Xz R (AA (qm (s:={ s with toks:=s.toks+1 }) (PySem.W.looks_clsIn X O) ?_))))));rw[P];refine AG (a:=some dx) (AA (AG (AA ?_)))
 refine wpAny_nsSet1 (s:={ s with toks:=s.toks+1 }) I.ns λh' m o=>?_
 obtain⟨oD,S,U,g,j,l⟩:=m.count (tX name v hw);refine AA (wpAny_lookBehind g (by rw[j];exact pastItsLine_dict (Au l (by rw[Aj];lia))) ?_);exact AG (h _ ⟨(o.2 _ (BW I.ne)).trans I.obj,m,I.ne⟩ o)
theorem fb(X:K.In s.heap)(m:cw K C=true)
  (hi:CU K (.ref C) "__init__" = some (some (.ref f))) (o:Iu K (.ref f)=some (.type "function"))
  (h:JZ (Ad prog w) (A.under (.builtin "type.__call__" ⟨.ref C :: vs,l⟩)) (.call (.ref f) ⟨.ref (s.heap.objs.size+1) :: vs,l⟩) (PySem.W.InitBack (s.heap.objs.size+1) R)
   { s with heap:=(s.heap.push DA).push (D7 C s.heap.objs.size) }) :
  JZ (Ad prog w) A (.call (.ref C) ⟨vs,l⟩) R s:=by
 obtain⟨B,g,d,t,os⟩:=s;exact PySem.W.make_core (PySem.W.makes_of X m) (MR X hi) (λj=>PySem.W.bind_fn X j o) (.inl rfl) h
end
noncomputable def putF(f:Str)(v:V):List (Str×V)->List (Str×V)
 | []=>[(f,v)]
 | (g,x) :: r=>if g=f then(g,v) :: r else(g,x) :: putF f v r
theorem QR(f g:Str)(v:V):∀fs:List (Str×V),(putF f v fs).lookup g=if g=f then some v else fs.lookup g
 | []=>by
  show IU g [(f,v)]=_
  by_cases h:g=f
  ·have hb:(g==f)=true:=beq_iff_eq.mpr h
   simp only[IU,hb,qX h]
  ·have hb:(g==f)=false:=beq_eq_false_iff_ne.mpr h
   simp only[IU,hb,qY h]
 | (k,x) :: r=>by
  have l:=QR f g v r;rw[show putF f v ((k,x) :: r)=(if k=f then(k,v) :: r else(k,x) :: putF f v r)from rfl]
  by_cases j:k=f
  ·rw[qX j]
   by_cases h:g=k
   ·have hb:(g==k)=true:=beq_iff_eq.mpr h
    simp only[IU,hb,qX (h.trans j)]
   ·have hb:(g==k)=false:=beq_eq_false_iff_ne.mpr h
    simp only[IU,hb,qY (λe:g=f=>h (e.trans j.symm))]
  ·rw[qY j]
   by_cases h:g=k
   ·have hb:(g==k)=true:=beq_iff_eq.mpr h
    simp only[IU,hb,qY (λe:g=f=>j (h.symm.trans e))]
   ·have hb:(g==k)=false:=beq_eq_false_iff_ne.mpr h
    simp only[IU,hb];exact l
theorem Px(f:Str)(v:V):∀fs:List (Str×V),f∈(putF f v fs).map (·.1)/\∀g,g∈fs.map (·.1)->g∈(putF f v fs).map (·.1)
 | []=>⟨by simp[putF],λg h=>by simp at h⟩
 | (k,x) :: r=>by
  obtain⟨l,m⟩:=Px f v r;rw[show putF f v ((k,x) :: r)=(if k=f then(k,v) :: r else(k,x) :: putF f v r)from rfl]
  by_cases j:k=f
  ·rw[qX j]
   subst j;exact⟨by simp,λg h=>by simpa using h⟩
  ·rw[qY j]
   refine⟨?_,λg h=>?_⟩
   ·rw[As]
    exact AS _ l
   ·rw[As]at h ⊢
    rcases Aq.mp h with e | e
    ·exact Aq.mpr (.inl e)
    ·exact AS _ (m g e)
theorem QT(f:Str)(v:V):∀fs:List (Str×V),(putF f v fs).length<=fs.length+1
 | []=>by simp[putF]
 | (k,x) :: r=>by
  have j:=QT f v r;rw[show putF f v ((k,x) :: r)=(if k=f then(k,v) :: r else(k,x) :: putF f v r)from rfl]
  by_cases g:k=f
  ·rw[qX g,Aj,Aj];lia
  ·rw[qY g,Aj,Aj];lia
theorem Ni.some_of(r:Ni (some v) o):∃u,o=some u/\RelV v u:=by
 cases o with
 | none=>exact(show False from r).elim
 | some u=>exact⟨u,rfl,r⟩
theorem Ni.none_of(r:Ni none o):o=none:=by
 cases o with
 | none=>rfl
 | some u=>exact(show False from r).elim
theorem cD(r:RelV v u):a8 u=true:=by
 cases v with
 | non=>cases(show u=BI from r);rfl
 | bl b=>cases(show u=OV b from r);rfl
 | int i=>obtain⟨t,e⟩:=(show ∃t,u=QW i t from r);cases e;rfl
 | str x=>obtain⟨t,e⟩:=(show ∃t,u=QV x t from r);cases e;rfl
 | byt b=>obtain⟨t,e⟩:=(show ∃t,u=qQ b t from r);cases e;rfl
 | flt b=>obtain⟨t,e⟩:=(show ∃t,u=YB b t from r);cases e;rfl
 | ref a=>cases(show u=Ai a from r);rfl
 | ty n=>cases(show u=G1 n from r);rfl
section
variable{P:BP}{w:Bu}{H:Hp}{h:CS}{a C dx:AN}{fs:List (Str×V)}
theorem RI(j:HOk P w H h)(e:H a=some (.ins C dx fs)):∃g,ZT h a dx C g/\(∀f,Ni (fs.lookup f) (g f))/\WR g (fs.map (·.1))/\fs.length<=1000/\H dx=some (.own a):=by
 obtain⟨d,z,l,m,g,n,r,q⟩:=(show Cz P w H h a (.ins C dx fs)from j a _ e);exact⟨g,⟨m,n,l⟩,r,q,z,d⟩
end
structure Cls(K:AD)(C:AN):Prop where
 pg:Kg K C Xp=true
 hd:OX K C=true
 po:ZY K C=true
 sa:CU K (.ref C) "__setattr__" = some (some (.builtin "object.__setattr__"))
theorem Cls.get{K}{C}(c:Cls K C)(f:Str):Kg K C f=true:=c.pg
noncomputable def E7(K:AD)(C:AN)(f:Str):Prop:=CU K (.ref C) f=some none
theorem E7.taker{K}{C}{f}(n:E7 K C f):QY K C f=some none:=by
 unfold QY;rw[show CU K (.ref C) f=some none from n];rfl
structure WF(K:AD)(C:AN)(m:Str)(f:AN):Prop where
 at_:CU K (.ref C) m=some (some (.ref f))
 fn:Ui K (.ref f)=true
 kp:FL K (.ref f)=true
section
variable{X:Cx}{ζ:List (AN×Obj)}{σ:St}{H:Hp}{s:AK}{a C dx:AN}{fs:List (Str×V)}{f:Str}{v:V}{A:Bw}{E:AE->AK->Prop}
theorem Y9(I:Inv X ζ σ H s)(e:H a=some (.ins C dx fs))(c:Cls X.K C)(n:E7 X.K C f)(l:fs.lookup f=some v)
  (h:∀u s',Inv X ζ σ H s'->RelV v u->Q u s'):AY (Ad X.prog X.w) A (getAttr (.ref a) f b) Q E s:=by
 obtain⟨j,O,r,_,_,_⟩:=RI I.hok e;obtain⟨u,m,g⟩:=Ni.some_of (v:=v) (o:=j f) (by rw[<-l];exact r f);exact kb I.kIn O (c.get f) c.hd n m (cD g) (h u _ (I.tok _) g)
theorem Y8(I:Inv X ζ σ H s)(e:H a=some (.ins C dx fs))(c:Cls X.K C)(k:WF X.K C m g)(l:fs.lookup m=none)
  (h:Q (.ref g,[.ref a]) s):AY (Ad X.prog X.w) A (cp (.ref a) m pl) Q E s:=by
 obtain⟨j,O,r,_,_,_⟩:=RI I.hok e;have o:j m=none:=Ni.none_of (by rw[<-l];exact r m);exact gq I.kIn O (c.get m) k.at_ k.fn o h
theorem Yd(I:Inv X ζ σ H s)(e:H a=some (.ins C dx fs))(c:Cls X.K C)(n:E7 X.K C f)(U:fs.length < 1000)(G:RelV y u)
  (h:∀s',Inv X ζ σ (upd H a (.ins C dx (putF f y fs))) s'->Q () s'):AY (Ad X.prog X.w) A (setAttr (.ref a) f u) Q E s:=by
 obtain⟨l,O,r,m,_,B⟩:=RI I.hok e
 have J:(fs.map (·.1)).length<=sizeLine:=by rw[AJ,io];lia
 refine jc I.kIn O c.sa c.po n.taker c.hd m J λL j N=>h _ ?_
 have P:∃o,L.get? dx=some o:=let ⟨o,_,_,R,_⟩:=j.ns;⟨o,R⟩
 refine I.write (x:=a) (e:=dx) (by rw[e];exact Eu) (.inr B) (λb q hb z=>(N.2 b hb).trans z) P ?_;refine⟨by rw[BA O.ne];exact B,?_,O.ne,j.obj,_,j.ns,λg=>?_,λg S=>?_⟩
 ·have:=QT f y fs;lia
 ·show Ni ((putF f y fs).lookup g) (if g=f then some u else l g)
  rw[QR]
  by_cases q:g=f
  ·rw[qX q,qX q];exact G
  ·rw[qY q,qY q];exact r g
 ·by_cases q:g=f
  ·rw[q];exact(Px f y fs).1
  ·refine(Px f y fs).2 g (m g λz=>S ?_)
   show(if g=f then some u else l g)=none;rw[qY q];exact z
theorem Inv.made(I:Inv X ζ σ H s):Inv X ζ σ (upd (upd H s.heap.objs.size (.own (s.heap.objs.size+1))) (s.heap.objs.size+1) (.ins C s.heap.objs.size []))
  { s with heap:=(s.heap.push DA).push (D7 C s.heap.objs.size) }:=by
 have g:(s.heap.push DA).get? s.heap.objs.size=some DA:=Aa s.heap rfl
 have l:((s.heap.push DA).push (D7 C s.heap.objs.size)).get? (s.heap.objs.size+1)=some (D7 C s.heap.objs.size):=by
  have:=Aa (s.heap.push DA) (o:=D7 C s.heap.objs.size) rfl;rwa [Cb]at this
 have m:(s.heap.push DA).Ns s.heap.objs.size (λ_=>none):=⟨DA,#[],_,g,rfl,(λe B=>zX B (by simp)),λ_=>rfl⟩;have G:=I.laid (a:=s.heap.objs.size) (o:=.own (s.heap.objs.size+1)) (h':=s.heap.push DA) (t':=s.toks) (λb u q=>AI _ q) (AO _) ⟨_,g⟩;refine G.laid (a:=s.heap.objs.size+1) (o:=.ins C s.heap.objs.size []) (t':=s.toks) (λb u q=>AI _ q) (YF (Cb _ _)) ?_;have j:s.heap.objs.size≠s.heap.objs.size+1:=Ao (C0 _);refine⟨by rw[BA j,Bc],Dx _,j,l,λ_=>none,(CS.Ns1.of_empty m).at λo q=>AI _ q,λ_=>Eu,λy J=>zX rfl J⟩
theorem lC(hb:Ei e f env (Bd e env)=Bd e env)
  (h:AY (Ad prog w) A (Bd e env) (λo g=>AY (Ad prog w) A (getAttr o f true) Q E g) E s):AY (Ad prog w) A (Bd (.Attribute e f pos) env) Q E s:=
 Attribute_any_ h (by rw[arm_eval_Attribute,hb])
end
noncomputable def tFld(K:AD)(j:TE)(f:Str):TE:=λl H Q=>j l H λx g=>∃a C m fs v,x=.ref a/\g a=some (.ins C m fs)/\Cls K C/\E7 K C f/\fs.lookup f=some v/\Q v g
noncomputable def sFld(K:AD)(m o:TE)(f:Str):TS:=λD g H=>o g H λy s=>m g s λx j=>∃a C l fs,x=.ref a/\j a=some (.ins C l fs)/\Cls K C/\E7 K C f/\fs.length < 1000 /\
 D.nx g (upd j a (.ins C l (putF f y fs)))
section
variable{X:Cx}{o e value:Expr}{f:Str}{pos pos':Pos}{ta tv:TE}
theorem oE(g:PE X e ta)(hb:Ei e f X.env (Bd e X.env)=Bd e X.env):PE X (.Attribute e f pos) (tFld X.K ta f):=by
 intro j s m H Q I h;refine lC hb (thn (g j s m H _ I h) λu N ⟨x,A,B,E,a,C,O,fs,v,ex,G,c,n,l,q⟩=>?_);subst ex;obtain rfl:u=Ai a:=E
 exact Y9 B G c n l λP R J L=>⟨v,A,J,L,q⟩
theorem nZ(m:PE X o ta)(A:PE X value tv)(B:Gy value (some (.Attribute o f pos')) pos.line X.env=pure false):PS X (.Assign [.Attribute o f pos'] value pos) (sFld X.K ta tv f):=by
 intro j s g H D I h;refine plainObj_wpAny_Assign_Attribute (thn (A j s g H _ I h) λu E ⟨y,G,J,L,q⟩=>thn (m j E g G _ J q) λN U ⟨x,Y,O,P,a,C,Z,fs,ex,Q,c,n,l,R⟩=>?_) B;subst ex;obtain rfl:N=Ai a:=P
 exact Yd O Q c n l L λs3 S=>⟨g,_,S,R⟩
end
section
variable{X:Cx}{ζ:List (AN×Obj)}{σ:St}{H:Hp}{s:AK}{A:Bw}{E:AE->AK->Prop}{Q:AE->AK->Prop}{c:AE}{b:Bool}
inductive O4(K:AD)(H:Hp):V->AE->Prop where
 | non:O4 K H .non (.type "NoneType")
 | bl (x:Bool):O4 K H (.bl x) (.type "bool")
 | int (i:Int):O4 K H (.int i) (.type "int")
 | str (x:Str):O4 K H (.str x) (.type "str")
 | flt (x:UInt64):O4 K H (.flt x) (.type "float")
 | lst {a:AN} {xs:List V} (e:H a=some (.lst xs)):O4 K H (.ref a) (.type "list")
 | frz {a:AN} {o:Obj} {xs:List V} (e:H a=some (.frz o (.lst xs))):O4 K H (.ref a) (.type "list")
 | tup {a:AN} {xs:List V} (e:H a=some (.tup xs)):O4 K H (.ref a) (.type "tuple")
 | dK {a:AN} {f':List (Key×V)} (e:H a=some (.dK f')):O4 K H (.ref a) (.type "dict")
 | dT {a:AN} {f':List (List Key×V)} (e:H a=some (.dT f')):O4 K H (.ref a) (.type "dict")
 | ins {a C dx:AN} {fs:List (Str×V)} (e:H a=some (.ins C dx fs)) (cl:Cls K C) (ha:CU K (.ref C) "__class__" = some (some (.builtin "object.__class__")))
   (hn:ZX K (.builtin "object.__class__") "__get__" = some (some (.builtin "getset_descriptor.__get__"))) (zt:cu K (.builtin "object.__class__")=some true)
   (hm:Nk K C (.type "object")=some true):O4 K H (.ref a) (.ref C)
theorem b8(I:Inv X ζ σ H s)(g:RelV x u)(ty:O4 X.K H x t)(e:Bb X.K t c=some b)(h:∀tk,Q (.bool b) { s with toks:=tk }) :
  AY (Ad X.prog X.w) A (call (.builtin "isinstance") [u,c]) Q E s:=by
 cases ty with
 | non=>cases(show u=BI from g);exact CY PySem.W.kitx_none I.kIn Eu e (λz=>nomatch z) h
 | bl y=>cases(show u=OV y from g);exact CY PySem.W.kitx_bool I.kIn Eu e (λz=>nomatch z) h
 | int i=>obtain⟨t,q⟩:=(show ∃t,u=QW i t from g);cases q;exact CY PySem.W.kitx_int I.kIn Eu e (λz=>nomatch z) h
 | str y=>obtain⟨t,q⟩:=(show ∃t,u=QV y t from g);cases q;exact CY PySem.W.kitx_str I.kIn Eu e (λz=>nomatch z) h
 | flt y=>obtain⟨t,q⟩:=(show ∃t,u=YB y t from g);cases q;exact CY PySem.W.kitx_float I.kIn Eu e (λz=>nomatch z) h
 | @lst a m j=>
  cases(show u=Ai a from g);obtain⟨_,_,n,_,l⟩:=(show Cz X.prog X.w H s.heap a (.lst m)from I.hok a _ j);exact CY ZZ I.kIn ⟨_,l,rfl⟩ e (λz=>nomatch z) h
 | @frz a N m j=>
  cases(show u=Ai a from g);obtain⟨_,_,_,n,_,l⟩:=(show Cz X.prog X.w H s.heap a (.frz N (.lst m))from I.hok a _ j);exact CY ZZ I.kIn ⟨_,l,rfl⟩ e (λz=>nomatch z) h
 | @tup a m j=>
  cases(show u=Ai a from g);obtain⟨_,_,_,p⟩:=(show Cz X.prog X.w H s.heap a (.tup m)from I.hok a _ j);obtain⟨o,l,B,_⟩:=p;exact CY PySem.W.kitx_tuple I.kIn ⟨o,l,B⟩ e (λz=>nomatch z) h
 | @dK a G j=>
  cases(show u=Ai a from g);obtain⟨_,_,vs,_,p⟩:=(show Cz X.prog X.w H s.heap a (.dK G)from I.hok a _ j);obtain⟨o,P,R,l,B,_⟩:=p;exact CY Za I.kIn ⟨o,l,B.1⟩ e (λz=>nomatch z) h
 | @dT a G j=>
  cases(show u=Ai a from g);obtain⟨_,_,m,_,o,P,R,l,B,_⟩:=(show Cz X.prog X.w H s.heap a (.dT G)from I.hok a _ j);exact CY Za I.kIn ⟨o,l,B.1⟩ e (λz=>nomatch z) h
 | @ins a C dx fs j L S U Y Z=>
  cases(show u=Ai a from g);obtain⟨mA,O,_⟩:=RI I.hok j;obtain⟨od,J,_⟩:=O.look;exact CY (PySem.W.kitx_own (L.get _) L.hd S U Y Z) I.kIn J e (λz=>nomatch z) h
end
structure HP(k:Nat)(A:Bw):Prop where
 hd:A.handled=none
 dp:A.depth+3 * k+5 < recursionLimit
 un:A.units+16 * k+200 < Ez
theorem HP.mono(r:HP k A)(h:j<=k):HP j A:=⟨r.hd,by have:=r.dp;lia,by have:=r.un;lia⟩
theorem HP.deeper(r:HP (k+1) A)(env:Env):HP k (A.deeper env):=
 ⟨r.hd,by have:=r.dp;show A.depth+1+3 * k+5 < _;lia,by have:=r.un;show A.units+3+16 * k+200 < _;lia⟩
theorem Yy{A:Bw}{C:AN}{us:List AE}{g:List (Str×AE)}:(A.under (.builtin "type.__call__" ⟨.ref C :: us,g⟩)).depth=A.depth+1:=by
 first | rfl | simp[WN,Code.weight,Code.isCreation,Code.isGuard,Code.isCaller,qv,Xv,guardIds]
theorem Yx{A:Bw}{C:AN}{us:List AE}{g:List (Str×AE)}:(A.under (.builtin "type.__call__" ⟨.ref C :: us,g⟩)).units=A.units+1:=by
 first | rfl | simp[WN,Code.cUnits,qv,Xv]
theorem HP.make{k}{A}(r:HP (k+1) A)(C:AN)(us:List AE)(g:List (Str×AE)):HP k (A.under (.builtin "type.__call__" ⟨.ref C :: us,g⟩)):=
 ⟨r.hd,by have:=r.dp;rw[Yy];lia,by have:=r.un;rw[Yx];lia⟩
theorem HP.depth(r:HP k A):A.depth < recursionLimit:=by have:=r.dp;lia
theorem HP.units(r:HP k A):A.units+64 < Ez:=by have:=r.un;lia
noncomputable def tNil:TA:=λ_ H Q=>Q [] H
noncomputable def rS(j:TE)(l:TA):TA:=λg H Q=>j g H λx m=>l g m λo s=>Q (x :: o) s
section
variable{X:Cx}{e:Expr}{es:List Expr}{te:TE}{t:TA}{pos:Pos}
theorem IM:PA X [] tNil:=λ_ _ _ _ H Q I h=>PQ ⟨[],H,I,.nil,h⟩
theorem FB(l:PE X e te)(m:PA X es t)(o:AQ (e :: es) X.env=(false,Bd e X.env) :: AQ es X.env:=by rfl):PA X (e :: es) (rS te t):=by
 intro pos g s j H Q I h;rw[o];show AY _ _ (qK ((false,Bd e X.env) :: Da pos (AQ es X.env))) _ _ s;refine Oa (thn (l g s j H _ I h) λu A ⟨x,B,C,E,G⟩=>?_)
 exact thn (m pos g A j B _ C G) λR S ⟨J,L,N,O,P⟩=>⟨x :: J,L,N,.cons E O,P⟩
noncomputable def tTup(t:TA):TE:=λl H Q=>t l H λg j=>g.length<=sizeLine/\∀p,j p=none->Q (.ref p) (upd j p (.tup g))
noncomputable def tLst(t:TA):TE:=λl H Q=>t l H λg j=>g.length<=sizeLine/\∀p,j p=none->Q (.ref p) (upd j p (.lst g))
theorem e7{m}(h:PA X es t):PE X (.Tuple es m pos) (tTup t):=by
 intro o s A H Q I B;refine wpAny_Tuple_spliced (thn (h pos o s A H _ I B) λC g ⟨E,j,l,r,z,q⟩=>⟨by rw[<-r.length];exact z,?_⟩);have G:j g.heap.objs.size=none:=l.hok.fresh (AO _);refine⟨.ref g.heap.objs.size,upd j g.heap.objs.size (.tup E),l.laid (t':=g.toks) (λb u e=>AI _ e) (AO _) ?_,rfl,q _ G⟩;exact⟨⟨z,⟨_,Aa _ rfl,rfl⟩⟩,C,r,⟨_,Aa _ rfl,rfl,_,rfl⟩⟩
theorem oB(h:PA X es t):PE X (.List es pos) (tLst t):=by
 intro m s o H Q I A;refine wpAny_List_spliced (thn (h pos m s o H _ I A) λB g ⟨C,j,l,r,z,q⟩=>⟨by rw[<-r.length];exact z,?_⟩);have E:j g.heap.objs.size=none:=l.hok.fresh (AO _);refine⟨.ref g.heap.objs.size,upd j g.heap.objs.size (.lst C),l.laid (t':=g.toks) (λb u e=>AI _ e) (AO _) ?_,rfl,q _ E⟩;exact⟨z,B,0,r,Aa _ rfl⟩
end
noncomputable abbrev Sp:=List V->Hp->VK->XK->Prop
noncomputable abbrev CXT:=List Env->Hp->AK->XK->AE->AK->Prop
structure ZU(P:BP)(w:Bu)(K:AD)(mg:Str->Option AE)(base:CS)(A:Bw)(outer:List Env)(s:AK)(H:Hp):Prop where
 frames:A.frames=some outer
 mod:Mod K mg base
 bs:∀b o,base.get? b=some o->s.heap.get? b=some o/\H b=none
 bsz:base.objs.size<=s.heap.objs.size
 funs:s.heap.FunFrames base outer
 frf:∀b∈frs outer,H b=none
 hok:HOk P w H s.heap
 bare:Jc s.gens
noncomputable def CE(g:List Env)(P:BP)(w:Bu)(H:Hp)(s:AK)(Q:VK)(u:AE)(s':AK):Prop:=
 ∃v j,s'.os=s.os/\Jc s'.gens/\Un (frs g) [] H j s.heap s'.heap/\HOk P w j s'.heap/\RelV v u/\Q v j
noncomputable def CR(CX:CXT)(g:List Env)(P:BP)(w:Bu)(H:Hp)(s:AK)(Q:VK)(E:XK)(r:Result)(s':AK):Prop:=
 match r with
 | .ok (.ret u)=>CE g P w H s Q u s'
 | .ok _=>False
 | .error e=>CX g H s E e s'
structure DI(P:BP)(w:Bu)(K:AD)(mg:Str->Option AE)(base:CS)(CX:CXT)(k:Nat)(f:AN)(fd:Je)(ps:List Str)(sp:Sp):Prop where
 len:∀vs H Q E,sp vs H Q E->vs.length=ps.length
 run:∀(A:Bw) (outer:List Env) (s:AK) (H:Hp) (args:Args) (us:List AE) (vs:List V) (Q:VK) (E:XK),HP k A->ZU P w K mg base A outer s H->Xw s fd args (ps.zip us)->Bf vs us->sp vs H Q E ->
  JZ (Ad P w) A (.call (.ref f) args) (CR CX outer P w H s Q E) s
theorem DI.imp{P}{w}{K}{l}{base}{CX}{k}{f}{fd}{ps}{sp sp'}(F:DI P w K l base CX k f fd ps sp)
  (h:∀vs H Q E,sp' vs H Q E->sp vs H Q E):DI P w K l base CX k f fd ps sp':=
 ⟨λvs H Q E q=>F.len vs H Q E (h _ _ _ _ q),λA g s H j m vs Q E o B hb C G=>F.run A g s H j m vs Q E o B hb C (h _ _ _ _ G)⟩
theorem ZU.make{P}{w}{K}{j}{base}{A}{g}{s}{H}(e:ZU P w K j base A g s H)(C:AN)(us:List AE)(l:List (Str×AE)) :
  ZU P w K j base (A.under (.builtin "type.__call__" ⟨.ref C :: us,l⟩)) g s H:=⟨by first | exact e.frames | (simpa[WN,Code.envs,Xv,pushEnvs]using e.frames),e.mod,e.bs,e.bsz,e.funs,e.frf,e.hok,e.bare⟩
section
variable{X:Cx}{ζ:List (AN×Obj)}{σ:St}{H:Hp}{s s':AK}
theorem Inv.env0(I:Inv X ζ σ H s):ZU X.prog X.w X.K X.mg X.base X.A X.stack s H:=
 ⟨I.ok.frames,I.ok.mod,I.bs,Au I.ok.bsz I.sz,I.stack,I.stkFree,I.hok,I.bare⟩
theorem Inv.after(I:Inv X ζ σ H s)(h:CE X.stack X.prog X.w H s Q u s'):EP X ζ σ Q u s':=by
 obtain⟨v,o,os,j,un,l,r,q⟩:=h;obtain⟨A,g,d,t,m⟩:=s';obtain rfl:m=s.os:=os;exact⟨v,o,I.call (h':=A) (g':=g) (d':=d) (t':=t) (ch:=[]) un l j (λb z=>zX z (by simp)),r,q⟩
end
noncomputable def rT(sp:Sp)(j:List V)(E:St->XK)(t:TA):TE:=λg H Q=>t g H λl m=>sp (l++j) m Q (E g)
noncomputable def lY(C:AN)(m:Str)(sp:Sp)(l:List V)(E:St->XK)(o:TE)(t:TA):TE:=λg H Q=>o g H λx j=>∃a s fs,x=.ref a/\j a=some (.ins C s fs)/\fs.lookup m=none /\
 t g j λA B=>sp (x :: (A++l)) B Q (E g)
noncomputable def rL(C:AN)(sp:Sp)(m:List V)(E:St->XK)(t:TA):TE:=λl H Q=>t l H λo j=>∀x g,j x=none->j g=none->g≠x ->
 sp (.ref x :: (o++m)) (upd (upd j g (.own x)) x (.ins C g [])) (λv s=>v=.non/\Q (.ref x) s) (E l)
noncomputable def Binds(K:AD)(fd:Je)(ps:List Str)(ds:List AE):Prop:=
 ∀(s:AK) (g:List AE),K.In s.heap->(g++ds).length=ps.length->Xw s fd ⟨g,[]⟩ (ps.zip (g++ds))
theorem Binds.all{K}{fd}{ps}(h:∀us:List AE,us.length=ps.length->iu fd ⟨us,[]⟩=pure (ps.zip us)):Binds K fd ps []:=λs us _ g=>by
 rw[Ba]at g ⊢;exact .of_eq (h us g)
noncomputable def Ls(CX:CXT)(X:Cx)(E:St->XK):Prop:=∀(l:List (AN×Obj)) (g:St) (H:Hp) (s:AK) (e:AE) (j:AK),Inv X l g H s->CX X.stack H s (E g) e j->X.xe e j
section
variable{X:Cx}{k:Nat}{f C:AN}{fd:Je}{ps:List Str}{sp:Sp}{E:St->XK}{x m:Str}{p pos apos:Pos}{e o:Expr}{es:List Expr}{ta:TE}{t:TA}
theorem eL(F:DI X.prog X.w X.K X.mg X.base CX k f fd ps sp)(J:HP k X.A)(hb:Binds X.K fd ps ds)(L:Bf l ds)(N:Ls CX X E)
  (I:Inv X B j H s) (r:Bf vs us) (h:sp (vs++l) H Q (E j)):AY (Ad X.prog X.w) X.A (call (.ref f) us) (EP X B j Q) X.xe s:=by
 have G:Bf (vs++l) (us++ds):=r.append L
 have O:(us++ds).length=ps.length:=by rw[<-G.length];exact F.len _ _ _ _ h
 refine X0 (TD (F.run X.A X.stack s H ⟨us,[]⟩ (us++ds) (vs++l) Q (E j) J I.env0 (hb s us I.kIn O) G h) λr P g=>?_)
 cases r with
 | error e=>exact N B j H s e P I g
 | ok R=>
  cases R with
  | ret u=>exact I.after g
  | next=>exact EO g
  | brk=>exact EO g
  | cont=>exact EO g
theorem kC(F:DI X.prog X.w X.K X.mg X.base CX k f fd ps sp)(j:HP k X.A)(l:Gl X x)(B:X.mg x=some (.ref f))(G:FL X.K (.ref f)=true)(hb:Binds X.K fd ps ds)(J:Bf L ds)(N:Ls CX X E)
  (O:PA X (e :: es) t) (P:(x==("__debug__" : Str))=false:=by decide) (R:AQ (e :: es) X.env=(false,Bd e X.env) :: AQ es X.env:=by rfl) (S:(Da pos (AQ es X.env)).any (·.1)=false:=by rfl) :
  PE X (.Call (.Name x p) (e :: es) [] pos) (rT sp L E t):=by
 intro U s Y H Q I h;refine EG (Oq I l B ?_ P);refine N2 (h₀:=X.base) I.ok.mod.kin G (thn (O pos U s Y H _ I h) λZ s1 ⟨vs,H1,g,r,q⟩=>⟨g.kIn,?_⟩) R S;exact eL F j hb J N g r q
theorem j7(N:PE X o ta)(c:Cls X.K C)(g:WF X.K C m f)(F:DI X.prog X.w X.K X.mg X.base CX k f fd ps sp)(O:HP k X.A)(hb:Binds X.K fd ps ds)(P:Bf R ds)(S:Ls CX X E)(U:PA X (e :: es) t)
  (Y:AQ (e :: es) X.env=(false,Bd e X.env) :: AQ es X.env:=by rfl) (Z:(Da pos (AQ es X.env)).any (·.1)=false:=by rfl)
  (ht:Bd (.Call (.Attribute o m apos) (e :: es) [] pos) X.env=(do
   let j <-Bd o X.env
   QC apos.atName
   let (f,fts) <-Gz [j] (cp j m pl)
   callWith pos f fts (Da pos (AQ (e :: es) X.env)) (X9 pos (PJ [] X.env))):=by rfl) :
  PE X (.Call (.Attribute o m apos) (e :: es) [] pos) (lY C m sp R E ta t):=by
 intro B s G H Q I h;refine PySem.W.methodCall_KW (pl:=pl) (thn (N B s G H _ I h) λu s1 ⟨x,H1,J,rx,a,dx,fs,ex,ea,l,q⟩=>?_) ht;subst ex;obtain rfl:u=Ai a:=rx;refine Y8 J ea c g l ?_;refine N2 (first:=[.ref a]) (h₀:=X.base) I.ok.mod.kin g.kp (thn (U pos B s1 G H1 _ J q) λus s2 ⟨vs,H2,L,r,q2⟩=>⟨L.kIn,?_⟩) Y Z;exact eL (us:=.ref a :: us) (vs:=.ref a :: vs) F O hb P S L (.cons rfl r) q2
structure Mk(K:AD)(C f:AN):Prop where
 makes:cw K C=true
 init:CU K (.ref C) "__init__" = some (some (.ref f))
 fn:Ui K (.ref f)=true
 kp:FL K (.ref C)=true
theorem eK(M:Mk X.K C f)(F:DI X.prog X.w X.K X.mg X.base CX k f fd ps sp)(O:HP (k+1) X.A)(hb:Binds X.K fd ps ds)(P:Bf G ds)
  (R:Ls CX X E) (I:Inv X J j H s) (r:Bf vs us)
  (h:∀x l,H x=none->H l=none->l≠x->sp (.ref x :: (vs++G)) (upd (upd H l (.own x)) x (.ins C l [])) (λv S=>v=.non/\Q (.ref x) S) (E j)) :
  AY (Ad X.prog X.w) X.A (call (.ref C) us) (EP X J j Q) X.xe s:=by
 have L:=h (s.heap.objs.size+1) s.heap.objs.size (I.hok.fresh (Ib _)) (I.hok.fresh (AO _)) (Ao (C0 _));have B:=Inv.made (C:=C) I;have N:Bf (V.ref (s.heap.objs.size+1) :: (vs++G)) (Ai (s.heap.objs.size+1) :: (us++ds)):=.cons rfl (r.append P)
 have U:(Ai (s.heap.objs.size+1) :: us++ds).length=ps.length:=by
  have e:=N.length;rw[F.len _ _ _ _ L]at e;exact e.symm
 refine X0 (fb (f:=f) I.kIn M.makes M.init (beq_iff_eq.mp M.fn) (TD (F.run _ X.stack _ _ ⟨Ai (s.heap.objs.size+1) :: us,[]⟩ (Ai (s.heap.objs.size+1) :: (us++ds)) _ _ (E j) (O.make C us [])
  (B.env0.make C us []) (hb _ (Ai (s.heap.objs.size+1) :: us) B.kIn U) N L) λr Y g=>?_))
 cases r with
 | error e=>exact R J j _ _ e Y B g
 | ok Z=>
  cases Z with
  | ret u=>
   obtain⟨v,H',I3,rv,ev,q3⟩:=B.after g;subst ev;exact⟨rv,⟨V.ref (s.heap.objs.size+1),H',I3,rfl,q3⟩⟩
  | next=>exact EO g
  | brk=>exact EO g
  | cont=>exact EO g
theorem j8(M:Mk X.K C f)(F:DI X.prog X.w X.K X.mg X.base CX k f fd ps sp)(j:HP (k+1) X.A)(l:Gl X x)(B:X.mg x=some (.ref C))(hb:Binds X.K fd ps ds)(G:Bf J ds)(L:Ls CX X E)
  (N:PA X (e :: es) t) (O:(x==("__debug__" : Str))=false:=by decide) (P:AQ (e :: es) X.env=(false,Bd e X.env) :: AQ es X.env:=by rfl) (R:(Da pos (AQ es X.env)).any (·.1)=false:=by rfl) :
  PE X (.Call (.Name x p) (e :: es) [] pos) (rL C sp J E t):=by
 intro S s U H Q I h;refine EG (Oq I l B ?_ O);refine N2 (h₀:=X.base) I.ok.mod.kin M.kp (thn (N pos S s U H _ I h) λY Z ⟨vs,H1,g,r,q⟩=>⟨g.kIn,?_⟩) P R;exact eK M F j hb G L g r q
end
structure Bi(N P:List Str)(sc:TH):Prop where
 kind:sc.kind=.function
 co:sc.isCoroutine=false
 gen:sc.isGenerator=false
 nd:N.Nodup
 pre:N.take P.length=P
 par:∀x∈P,sc.names.lookup x=some .local∨sc.names.lookup x=some .cell
 nofree:∀y∈sc.names,y.2≠.free
theorem UY{kindOf}{x}:∀{binds:List (Str×AE)} {m:Str->Option AE},(∀v,(x,v)∉binds)->cq kindOf binds m x=m x
 | [],_,_=>rfl
 | (n,v) :: r,m,h=>by
  unfold cq;rw[UY λw hw=>h w (AS _ hw)];split
  ·have:x≠n:=by rintro rfl;exact h v Ah
   simp[this]
  ·rfl
theorem Ua{kindOf}{x}:∀{binds:List (Str×AE)} {m:Str->Option AE},(∀v,(x,v)∉binds)->cr kindOf binds m x=m x
 | [],_,_=>rfl
 | (n,v) :: r,m,h=>by
  unfold cr;rw[Ua λw hw=>h w (AS _ hw)];split
  ·rfl
  ·have:x≠n:=by rintro rfl;exact h v Ah
   simp[this]
theorem UZ{kindOf}{x}{v}:∀{P:List Str} {vs:List AE} {i:Nat} {m:Str->Option AE},P.Nodup->P[i]?=some x->vs[i]?=some v->kindOf x=some .local ->
  cq kindOf (P.zip vs) m x=some v
 | [],_,_,_,_,h,_,_=>by simp at h
 | _ :: _,[],_,_,_,_,h,_=>by simp at h
 | p :: P,w :: vs,0,m,l,g,j,o=>by
  simp at g j;subst g;subst j;show cq kindOf ((p,w) :: P.zip vs) m p=_;unfold cq;rw[UY λv s=>(Bz.mp l).1 (S7 s).1,qX o];simp
 | p :: P,w :: vs,i+1,m,l,g,j,o=>by
  show cq kindOf ((p,w) :: P.zip vs) m x=_;unfold cq;exact UZ (i:=i) (Bz.mp l).2 (by simpa using g) (by simpa using j) o
theorem Ub{kindOf}{x}{v}:∀{P:List Str} {vs:List AE} {i:Nat} {m:Str->Option AE},P.Nodup->P[i]?=some x->vs[i]?=some v->kindOf x≠some .local ->
  cr kindOf (P.zip vs) m x=some v
 | [],_,_,_,_,h,_,_=>by simp at h
 | _ :: _,[],_,_,_,_,h,_=>by simp at h
 | p :: P,w :: vs,0,m,l,g,j,o=>by
  simp at g j;subst g;subst j;show cr kindOf ((p,w) :: P.zip vs) m p=_;unfold cr;rw[Ua λv s=>(Bz.mp l).1 (S7 s).1,qY o];simp
 | p :: P,w :: vs,i+1,m,l,g,j,o=>by
  show cr kindOf ((p,w) :: P.zip vs) m x=_;unfold cr;exact Ub (i:=i) (Bz.mp l).2 (by simpa using g) (by simpa using j) o
noncomputable def start(N:List Str)(vs:List V):St:=vs.map some++BM (N.length - vs.length) none
noncomputable def V4(CX:CXT)(P:BP)(w:Bu)(K:AD)(mg:Str->Option AE)(base:CS)(N:List Str)(g:Str)(scope:TH)(f:AN)(j:AE)(A:Bw)(outer:List Env)(s:AK)(H:Hp)(E:XK):Cx where
 prog:=P
 w:=w
 K:=K
 mg:=mg
 base:=base
 A:=A.deeper (Nz g scope s.heap.objs.size f j)
 N:=N
 s₀:=s
 H₀:=H
 env:=Nz g scope s.heap.objs.size f j
 outer:=outer
 stack:=Nz g scope s.heap.objs.size f j :: outer
 ex:=[]
 calm:=true
 fn:=λ_=>true
 pn:=[]
 xe:=λe m=>AY (Ad P w) (A.deeper (Nz g scope s.heap.objs.size f j)) (leaving (Nz g scope s.heap.objs.size f j) e) (λ_ l=>CX outer H s E e l) (λo l=>CX outer H s E o l) m
theorem XZ{g:TH}{n:Nat}{x:Str}(h:g.names.lookup x=some .cell):∃c,(CK n g.names []).lookup x=some c:=by
 have q:=Uj g.names n [] (.inl h);exact Ke.mp q
theorem cA{CX:CXT}{P:BP}{w:Bu}{K:AD}{L:Str->Option AE}{base:CS}{N ps:List Str}{j:Str}{scope:TH}{f:AN}{G:AE}{A:Bw}{g:List Env}{s s1:AK}{H:Hp}{E:XK}{us:List AE}{vs:List V}
  (S:Bi N ps scope) (U:A.handled=none) (m:ZU P w K L base A g s H) (Z:vs.length=ps.length) (r:Bf vs us)
  (x:InCallC s s.heap.objs.size (cq (Nz j scope s.heap.objs.size f G).kindOf (ps.zip us) λ_=>none) (CK (s.heap.objs.size+1) scope.names []) (cr (Nz j scope s.heap.objs.size f G).kindOf (ps.zip us) λ_=>none) s1) :
  Inv (V4 CX P w K L base N j scope f G A g s H E) [] (start N vs) H s1:=by
 have ub:ps.length<=N.length:=by have:=congrArg RV S.pre;rw[Dy]at this;lia
 obtain⟨I,tk,rfl,Q⟩:=x.done
 have O:∀b:AN,b∉(V4 CX P w K L base N j scope f G A g s H E).ex:=λb z=>zX (show b∈([]:List AN)from z) (by simp)
 refine⟨⟨m.mod,S.kind,rfl,rfl,AO _,λy z c I l=>?_,λy o=>?_,λy c _ h=>?_,λ_=>U,Bw.frames_deeper m.frames,.inr ⟨rfl,rfl⟩,λb z=>zX z (O b),m.bs,m.bsz,λb _ _=>O b,λb z=>zX z (O b),m.funs,m.frf⟩,
  rfl,m.bare,Un.kept Q,⟨_,x.toInCall.ns,λi y v I l h3=>?_⟩,λy c h=>⟨_,x.cell y c h⟩,m.hok.fresh (AO _),λy c h=>?_,λp B=>zX (show p∈([]:List (AN×Obj))from B) (by simp),m.hok.kept Q,?_⟩
 ·exact name_of_addr x.apart (Dk I) (Dk l)
 ·have o:scope.names.lookup y=some .cell∨scope.names.lookup y=some .free:=o
  rcases o with o | o
  ·exact XZ o
  ·exact zX rfl (S.nofree _ (Dk o))
 ·exact MW (x.above y c (Dk h))
 ·have J:i < vs.length:=by
   unfold start at l
   by_cases J:i < vs.length
   ·exact J
   ·rw[BV (by simpa using J)]at l
    rw[Dh]at l
    split at l <;> cases l
  have X:vs[i]?=some v:=by
   unfold start at l;rw[Al (by simpa using J),Ae]at l
   cases e:vs[i]? with
   | none=>rw[e]at l;cases l
   | some a=>rw[e]at l;cases l;rfl
  obtain⟨u,R,Y⟩:=r.get X
  have B:ps[i]?=some y:=by
   rw[<-S.pre,List.getElem?_take_of_lt (by lia)];exact I
  have C:ps.Nodup:=by rw[<-S.pre];exact S.nd.sublist (QG _ _)
  refine⟨u,Y,?_⟩
  rcases S.par y (Ca B)with k | k
  ·exact .inl ⟨k,UZ C B R k⟩
  ·obtain⟨c,e⟩:=XZ (n:=s.heap.objs.size+1) k
   refine .inr ⟨.inl k,c,e,?_⟩;have q:=x.cell y c e;rw[Ub C B R (by show scope.names.lookup y≠_;rw[k];decide)]at q;exact q
 ·exact m.hok.fresh (MW (x.above y c (Dk h)))
 ·unfold start
  show _=N.length;rw[AV,AJ,ND]
  lia
theorem tK{CX}{P}{w}{K}{O}{base}{k}{f}{name j}{params}{body}{scope}{Y kV G Z B ct oc}{an od}
  {vE} {N ps} {sp} (lk:K.lookup f=some ⟨oc,od,.func (Ia name j params body scope Y kV G Z an B ct),vE⟩) (vg:RO K B j=true) (S:Bi N ps scope)
  (len:∀vs H Q E,sp vs H Q E->vs.length=ps.length)
  (vb:∀(A:Bw) (g:List Env) (s:AK) (H:Hp) (vs:List V) (Q:VK) (E:XK),HP k (A.deeper (Nz j scope s.heap.objs.size f B))->sp vs H Q E ->
   ∃t,PSs (V4 CX P w K O base N j scope f B A g s H E) body t/\t { nx:=λ_ m=>Q .non m,rt:=Q } (start N vs) H) :
  DI P w K O base CX (k+1) f (Ia name j params body scope Y kV G Z an B ct) ps sp:=by
 refine⟨len,λA g s H args us vs Q E R L hb r w4=>?_⟩;have hl:=len _ _ _ _ w4
 have KX:K.In s.heap:=L.mod.kin.keeps λb o e=>(L.bs b o e).1
 have U:s.heap.NoLimit:=L.mod.nolimit.keeps λb o e=>(L.bs b o e).1
 have yk:∀y∈ps.zip us,scope.names.lookup y.1=some .local∨(scope.names.lookup y.1=some .cell/\((CK (s.heap.objs.size+1) scope.names []).lookup y.1).isSome=true):=by
  rintro ⟨n,v⟩ hy
  rcases S.par n (S7 hy).1 with q | q
  ·exact .inl q
  ·exact .inr ⟨q,Uj _ _ _ (.inl q)⟩
 refine codeAny_call_function R.depth (KX _ _ lk) rfl S.co S.gen rfl (PySem.W.codeRec_of KX vg) (hb _ _ _ _ ?_)
 refine wpAny_newFunctionEnv_cells S.kind yk λenv he s1 x=>?_
 subst he;refine⟨U.keeps x.toInCall.keep,codeAny_func ?_⟩;obtain⟨t,ht,hq⟩:=vb A g s H vs Q E (R.deeper _) w4;have I:Inv (V4 CX P w K O base N j scope f B A g s H E) [] (start N vs) H s1:=cA S R.hd L hl r x
 refine Eh (ht [] s1 (start N vs) H _ I hq) (λfl s' C=>?_) λe s' C=>C
 have fin:∀{l:St} {m:Hp} {v:V} {u:AE},Inv (V4 CX P w K O base N j scope f B A g s H E) [] l m s'->RelV v u->Q v m->CE g P w H s Q u s':=
  λ{l m v u} J X q=>⟨v,m,J.os,J.bare,J.base,J.hok,X,q⟩
 cases fl with
 | ret u=>
  obtain⟨v,l,m,J,X,q⟩:=C;exact fin J X q
 | next=>
  obtain⟨l,m,J,q⟩:=C;exact fin (v:=V.non) (u:=BI) J rfl q
 | brk=>
  obtain⟨_,_,_,q⟩:=C;exact EO q
 | cont=>
  obtain⟨_,_,_,q⟩:=C;exact EO q
section
variable{X:Cx}{x:Str}{p pos:Pos}{e:Expr}{es:List Expr}{t:TA}{id T:String}{r:List V->Hp->VK->Prop}
noncomputable def tCB(r:List V->Hp->VK->Prop)(t:TA):TE:=λg H Q=>t g H λj l=>r j l Q
theorem Mo(l:Kv X (.builtin id) r)(m:Gl X x)(o:X.mg x=none)(A:G0 x=some (.builtin id))(B:PA X (e :: es) t)(C:x≠"__name__":=by decide) (E:(x==("__debug__" : Str))=false:=by decide)
  (G:AQ (e :: es) X.env=(false,Bd e X.env) :: AQ es X.env:=by rfl) (J:(Da pos (AQ es X.env)).any (·.1)=false:=by rfl):PE X (.Call (.Name x p) (e :: es) [] pos) (tCB r t):=by
 intro g s j H Q I h;refine EG (IN I m o A ?_ C E);exact tZ (thn (B pos g s j H _ I h) λL N ⟨O,P,R,S,U⟩=>l g N j P O L Q R S U) G J
theorem UF(l:Kv X (.type T) r)(m:Gl X x)(o:X.mg x=none)(A:G0 x=some (.type T))(B:PA X (e :: es) t)(C:x≠"__name__":=by decide) (E:(x==("__debug__" : Str))=false:=by decide)
  (G:AQ (e :: es) X.env=(false,Bd e X.env) :: AQ es X.env:=by rfl) (J:(Da pos (AQ es X.env)).any (·.1)=false:=by rfl):PE X (.Call (.Name x p) (e :: es) [] pos) (tCB r t):=by
 intro g s j H Q I h;refine EG (IN I m o A ?_ C E);exact BJ (thn (B pos g s j H _ I h) λL N ⟨O,P,R,S,U⟩=>l g N j P O L Q R S U) G J
end
end L2
namespace HT
open PySem PyProof.Rows
noncomputable def lexLt:ZLi->ZLi->Bool
 | [],[]=>false
 | [],_ :: _=>true
 | _ :: _,[]=>false
 | x :: g,y :: j=>if x=y then lexLt g j else decide (x < y)
theorem Y3(x y:Int)(xs ys:ZLi):lexLt (x :: xs) (y :: ys)=if x=y then lexLt xs ys else decide (x < y):=rfl
theorem Tf:lexLt [] []=false:=rfl
theorem SN(y:Int)(ys:ZLi):lexLt [] (y :: ys)=true:=rfl
theorem SO(x:Int)(xs:ZLi):lexLt (x :: xs) []=false:=rfl
theorem hZ(A:Bw)(s:AK)(a:Int)(t:Tok)(c:Int)(u:Tok):∃e,SeqAt.EqAt A s (.int a t) (.int c u) e/\(e=true↔a=c):=
 ⟨(a==c),SeqAt.EqAt.int_int a t c u,by simp⟩
theorem eN(A:Bw)(s:AK)(a:Int)(t:Tok)(c:Int)(u:Tok)(prog:BP)(w:Bu)(E:AE->AK->Prop)(Q:AE->AK->Prop)(h:Q (.bool (decide (a < c))) s) :
  AY (Ad prog w) A (ir .Lt (.int a t) (.int c u)) Q E s:=
 (tY h:AY (Ad prog w) A (Bt .Lt (.int a t) (.int c u)) Q E s)
section
open PySem.SeqAt
open PySem.AutoSeq1 (wpAny_loadPart')
open PySem.MeetsSeq PySem.MeetsSeq2 PySem.MeetsSeq3
theorem TU(l b:AN)(j L:Array AE)(n n2:Nat)(dd wC:Option AN)(sl wD:Array (Option AE))(ns S:ZLi)(hi:Dt j.toList ns)(hj:Dt L.toList S) :
  Meets (N4.«tuple.__lt__» ⟨[.ref l,.ref b],[]⟩)
   (λ_ R s=>s.heap.get? l=some { cls:=.type "tuple",dict:=dd,data:=.seq j n,slots:=sl }/\s.heap.get? b=some { cls:=.type "tuple",dict:=wC,data:=.seq L n2,slots:=wD } /\
    R (.ok (.ret (.bool (lexLt ns S)))) s):=
 .of_wp λC w A R s h=>by
  obtain⟨U,g,d,tk,os⟩:=s;obtain⟨hl,hb,h⟩:=h;have f2:=AutoSeq1.sub_tuple_tuple
  have z1:j.size=ns.length:=by rw[<-hi.length];simp
  have z2:L.size=S.length:=by rw[<-hj.length];simp
  wp_walk using wpAny_loadPart' hl,wpAny_loadPart' hb,wpAny_forIn_list _ (λE b Z=>b.1=none/\Z=⟨U,g,d,tk,os⟩/\∃(X Y:List AE) (N O:ZLi),E=X.zip Y /\
   Dt X N/\Dt Y O/\N.length+L.size=O.length+j.size/\R (.ok (.ret (.bool (lexLt N O)))) ⟨U,g,d,tk,os⟩) _
  case turn=>
   rintro⟨y,x⟩ E b Z ⟨ux,rfl,X,Y,N,O,o,I,B,m,G⟩
   cases I with
   | nil=>rw[dI]at o;cases o
   | cons a t P=>
    cases B with
    | nil=>rw[c7]at o;cases o
    | cons c u Q=>
     rw[O7]at o
     injection o with hyx J
     injection hyx with hy hx
     subst hy hx;rw[Y3]at G;simp only[Aj]at m;obtain⟨e,he,ym⟩:=hZ A.in1 ⟨U,g,d,tk,os⟩ a t c u;refine AA (he C w _ _ ?_)
     cases e with
     | true=>
      rw[qX (ym.mp rfl)]at G
      wp_walk
      exact⟨rfl,rfl,_,_,_,_,J,P,Q,by lia,G⟩
     | false=>
      rw[qY (λq=>zX (ym.mpr q) AT)]at G;have hri:=eN A.in1 ⟨U,g,d,tk,os⟩ a t c u C w
      wp_walk using hri
      exact⟨_,rfl,by simpa using G⟩
  case fin=>
   rintro⟨b1,b2⟩ Z ⟨ux,rfl,X,Y,N,O,o,I,B,m,G⟩;simp only at ux;subst ux
   have hv:lexLt N O=decide (j.size < L.size):=by
    cases I with
    | nil=>
     cases B with
     | nil=>
      simp only[Dj]at m;rw[Tf];exact(wY (by lia)).symm
     | cons c u hw=>
      simp only[Dj,Aj]at m;rw[SN];exact(wX (by lia)).symm
    | cons a t hv=>
     cases B with
     | nil=>
      simp only[Dj,Aj]at m;rw[SO];exact(wY (by lia)).symm
     | cons c u hw=>
      rw[O7]at o;cases o
   rw[hv]at G
   wp_walk
   exact⟨_,rfl,by simpa[qy]using G⟩
  case h=>
   exact⟨rfl,rfl,j.toList,L.toList,ns,S,rfl,hi,hj,by lia,h⟩
end
section
variable{prog:BP}{w:Bu}{A:Bw}{E:AE->AK->Prop}{s:AK}
theorem Y1(J:dA s.heap l g)(hb:dA s.heap b o)(hi:Dt g.toList ns)(L:Dt o.toList m)
  (N:A.units < Ez) (h:Q (.bool (lexLt ns m)) s):AY (Ad prog w) A (Bt .Lt (.ref l) (.ref b)) Q E s:=by
 obtain⟨⟨cls,O,data,sl⟩,B,C,n,G⟩:=id J;obtain⟨⟨I,P,data2,R⟩,j,hc2,S,hd2⟩:=id hb;simp only at C G hc2 hd2;subst C G hc2 hd2
 exact richCompare_meets_room (op:=.Lt) ⟨_,B,rfl⟩ ⟨_,j,rfl⟩ PySem.F.slot_tuple_lt PySem.F.entry_tuple_lt (PySem.F.args_tuple_lt_2 _ _) (TU l b g o n S O P sl R ns m hi L)
  ⟨B,j,show OV (lexLt ns m)≠AE.notImplemented/\Q (.bool (lexLt ns m)) s from⟨(λx=>nomatch x),h⟩⟩ N
theorem k6(N:dA s.heap t vs.toArray)(hb:dA s.heap b g.toArray)(m:vs≠[])
  (O:g=[]->Q (.ref t) s) (P:g≠[]->Q (.ref s.heap.objs.size) { s with heap:=s.heap.push { cls:=.type "tuple",data:=.seq (vs++g).toArray } })
  (hsz:vs.length+g.length<=sizeLine):AY (Ad prog w) A (DV .Add (.ref t) (.ref b)) Q E s:=by
 obtain⟨⟨cls,o,data,sl⟩,l,B,n,C⟩:=id N;obtain⟨⟨G,I,data2,J⟩,j,hc2,L,hd2⟩:=id hb;simp only at B C hc2 hd2;subst B C hc2 hd2
 have e:vs.toArray++g.toArray=(vs++g).toArray:=by simp
 by_cases hw:g=[]
 ·exact dG ⟨_,l,rfl⟩ ⟨_,j,rfl⟩ Uh ax K5 Ki (KJ _ _)
   (tuple_addW1 t b vs.toArray g.toArray n L o I sl J (by simpa using m) (by simp[hw])) ⟨l,j,O hw⟩
 ·refine dG ⟨_,l,rfl⟩ ⟨_,j,rfl⟩ Uh ax K5 Ki (KJ _ _)
   (tuple_addW2 t b vs.toArray g.toArray n L o I sl J (by simpa using m) (by simpa using hw) (by rw[AZ,AZ];exact hsz)) ⟨l,j,?_⟩
  rw[e];exact P hw
noncomputable def sIx(n d:Nat):Option Int->Nat
 | none=>d
 | some v=>if v < 0 then(v+(n:Int)).toNat else min v.toNat n
theorem eJ(n d:Nat):sIx n d none=d:=rfl
theorem je(n d k:Nat):sIx n d (some (k:Int))=min k n:=by
 show(if (k:Int) < 0 then((k:Int)+(n:Int)).toNat else min (k:Int).toNat n)=min k n;rw[qY (by lia),Am]
theorem nO(n d:Nat)(j:d<=n)(o:Option Int):sIx n d o<=n:=by
 cases o with
 | none=>exact j
 | some v=>
  show(if v < 0 then(v+(n:Int)).toNat else min v.toNat n)<=n
  by_cases g:v < 0
  ·rw[qX g];lia
  ·rw[qY g];exact iy _ _
theorem aj(v:Int)(n d:Nat):(if v < 0 then max (v+(n:Int)) 0 else min v (n:Int))=((sIx n d (some v):Nat):Int):=by
 show(if v < 0 then max (v+(n:Int)) 0 else min v (n:Int))=(((if v < 0 then(v+(n:Int)).toNat else min v.toNat n):Nat):Int)
 by_cases g:v < 0
 ·simp only[qX g];lia
 ·simp only[qY g];lia
theorem ZQ(lo hi:Option Int)(n:Nat):IJ lo hi 1 (n:Int)=(((sIx n 0 lo:Nat):Int),((sIx n n hi:Nat):Int)):=by
 have g:¬((1:Int) < 0):=by lia
 unfold IJ;simp only[g,if_false];refine Prod.ext ?_ ?_
 ·cases lo with
  | none=>rfl
  | some v=>exact aj v n 0
 ·cases hi with
  | none=>rfl
  | some v=>exact aj v n n
theorem Yk(i j:Nat):E8 (i:Int) (j:Int) 1=j - i:=by
 unfold E8
 have g:(1:Int) > 0:=by lia
 simp only[g,if_true,Int.ediv_one]
 split <;> lia
theorem R0(p:Uq v o)(h:Q o s):AY (Ad prog w) A (qz v) Q E s:=by
 cases p with
 | none=>exact slicePart_none h
 | int i t=>exact slicePart_int h
theorem Pd{sl:AN}{g j:AE}{lo hi:Option Int}{n:Nat}{Q:Int×Int×Nat->AK->Prop}(o:s.heap.IsSliceOf sl g j .none)(pl:Uq g lo)(B:Uq j hi)
  (h:Q (((sIx n 0 lo:Nat):Int),1,sIx n n hi - sIx n 0 lo) s):AY (Ad prog w) A (Oc (.ref sl) (pure (n:Int))) Q E s:=by
 obtain⟨os,l,C,m⟩:=id o;unfold Oc q9;refine AA (AA (CJ l m (x:=g) rfl (AA (CJ l m (x:=j) rfl (AA (CJ l m (x:=.none) rfl (AG ?_)))))));refine AA (slicePart_none ?_);show AY _ _ (if ((1:Int)==0)=true then _ else _) _ _ s;rw[qY (by decide)];refine AA (R0 pl (AA (R0 B (AA (AG ?_)))));show AY _ _ (match IJ lo hi 1 (n:Int)with | (lo,hi)=>pure (lo,(1:Int),E8 lo hi 1)) _ _ s;rw[ZQ lo hi n];show AY _ _ (pure (((sIx n 0 lo:Nat):Int),(1:Int),E8 ((sIx n 0 lo:Nat):Int) ((sIx n n hi:Nat):Int) 1)) _ _ s;rw[Yk];exact AG h
theorem en(xs:Array AE)(i k:Nat):((Bl k).filterMap λ(m:Nat)=>xs[((i:Int)+(m:Int) * 1).toNat]?).toArray=((xs.toList.drop i).take k).toArray:=by
 have e:(λ(m:Nat)=>xs[((i:Int)+(m:Int) * 1).toNat]?)=λm=>xs[i+m]?:=by
  funext m
  have:((i:Int)+(m:Int) * 1).toNat=i+m:=by lia
  rw[this]
 rw[e];have:=pick_run xs i k;rw[List.filterMap_map]at this
 have g:((λx=>xs[x]?)∘λx=>i+x)=λm=>xs[i+m]?:=rfl
 rw[g]at this;rw[this]
theorem Ox{t sl}{g}{B C}{lo hi}{Q}(j:dA s.heap t g)(G:s.heap.IsSliceOf sl B C .none)(pl:Uq B lo)(I:Uq C hi)
  (hw:¬(sIx g.size 0 lo=0/\sIx g.size g.size hi=g.size))
  (h:Q (.ref s.heap.objs.size) { s with heap:=s.heap.push { cls:=.type "tuple",data:=.seq ((g.toList.drop (sIx g.size 0 lo)).take (sIx g.size g.size hi - sIx g.size 0 lo)).toArray } })
  (hsz:g.size<=sizeLine):AY (Ad prog w) A (Ny (.ref t) (.ref sl)) Q E s:=by
 have l:sizeOk (.seq ((g.toList.drop (sIx g.size 0 lo)).take (sIx g.size g.size hi - sIx g.size 0 lo)).toArray):=by
  show((g.toList.drop (sIx g.size 0 lo)).take (sIx g.size g.size hi - sIx g.size 0 lo)).toArray.size<=sizeLine;rw[AZ,Dy,ID,Ch];omega
 have O:sIx g.size g.size hi<=g.size:=nO _ _ (AO _) hi;obtain⟨os,J,L,P⟩:=id G;have o:s.TypeIs (.ref sl) "slice":=⟨os,J,L⟩;unfold Ny
 try with_reducible refine By ?_
 first | refine AA (AG ?_) | skip
 refine AA (wpAny_sequenceKey j.typeIs (by decide) ?_)
 refine AA (Ce (name:=E0 "__getitem__") j.typeIs Gr
  (Cj Gr j.typeIs entry_tuple_getitem ?_ (args_tuple_getitem _ _)))
 show AY _ _ (qw (.ref t) >>= _) _ _ s;refine AA (tupleItemsOf_ j ?_);refine AA (dD o ?_);rw[qX (by decide)];refine AA (Pd G pl I ?_)
 have N:¬((((sIx g.size 0 lo:Nat):Int)==0&&(1:Int)==1&&(sIx g.size g.size hi - sIx g.size 0 lo)==g.size)=true):=by
  intro q;rw[B0,B0]at q;have R:((sIx g.size 0 lo:Nat):Int)=0:=eq_of_beq q.1.1;have S:sIx g.size g.size hi - sIx g.size 0 lo=g.size:=eq_of_beq q.2;exact hw ⟨by lia,by omega⟩
 show AY _ _ (if (((sIx g.size 0 lo:Nat):Int)==0&&(1:Int)==1&&(sIx g.size g.size hi - sIx g.size 0 lo)==g.size)=true then _ else _) _ _ s;rw[qY N,en]
 first
  | exact AA (m:=FN _) (CG (AG ⟨_,rfl,AG h⟩) l)
  | exact AA (m:=FN _) (CG (AA (AG (AG ⟨_,rfl,AG h⟩))) l)
  | exact AA (AA (m:=FN _) (CG (AG (AG ⟨_,rfl,AG h⟩)) l))
  | exact AA (AA (m:=FN _) (CG (AG ⟨_,rfl,AG h⟩) l))
end
end HT
namespace L2
open PySem PySem.Spec PyProof.Rows
section
noncomputable abbrev TO:=St->Hp->(Option Int->Hp->Prop)->Prop
noncomputable def PO(X:Cx)(e:Option Expr)(t:TO):Prop:=
 ∀(j:List (AN×Obj)) (s:AK) (g:St) (H:Hp) (Q:Option Int->Hp->Prop),Inv X j g H s->t g H Q ->
  AY (Ad X.prog X.w) X.A (evalPart e X.env) (λu m=>∃o l,Inv X j g l m/\Uq u o/\Q o l) X.xe s
noncomputable def jV:TO:=λ_ H Q=>Q none H
noncomputable def rJ(t:TE):TO:=λg H Q=>t g H λx j=>∃i,x=.int i/\Q (some i) j
theorem intsAre_of:∀{us:List AE},Bf (ns.map V.int) us->Dt us ns:=by
 induction ns with
 | nil=>intro us r;rw[Jb]at r;cases r;exact .nil
 | cons n ns g=>
  intro us r;rw[As]at r
  cases r with
  | cons j l=>
   obtain⟨t,e⟩:=j;subst e;exact .cons n t (g l)
section
variable{κ:Type}[DecidableEq κ]
noncomputable def LB(g:List (κ×V))(k:κ):Option V:=(g.find? λj=>decide (j.1=k)).map (·.2)
noncomputable def MB(j:List (κ×V))(k:κ)(v:V):List (κ×V):=
 if (j.any λg=>decide (g.1=k))=true then j.map (λg=>if g.1=k then(g.1,v)else g)else j++[(k,v)]
theorem Rq{p:κ×V}{r:List (κ×V)}{k:κ}(e:p.1=k):LB (p :: r) k=some p.2:=by simp[LB,CL,e]
theorem Rr{p:κ×V}{r:List (κ×V)}{k:κ}(e:¬p.1=k):LB (p :: r) k=LB r k:=by simp[LB,CL,e]
theorem Wa(k:κ):∀g:List (κ×V),(g.any λj=>decide (j.1=k))=(LB g k).isSome
 | []=>rfl
 | p :: r=>by
  rw[II]
  by_cases e:p.1=k
  ·simp only[Rq e,wX e,qW,Zc]
  ·rw[Rr e,wY e,mS];exact Wa k r
theorem QS(g:List (κ×V))(k:κ)(v:V):(MB g k v).length<=g.length+1:=by
 unfold MB;split
 ·rw[AJ];lia
 ·rw[AV,Aj,Dj];lia
theorem Ni.isSome_eq(r:Ni o u):o.isSome=u.isSome:=by
 cases o with
 | none=>cases u with
  | none=>rfl
  | some _=>exact(show False from r).elim
 | some _=>cases u with
  | none=>exact(show False from r).elim
  | some _=>rfl
theorem KV.val{l:List (κ×V)}{vs:List (κ×AE)}(r:KV l vs)(k:κ):Ni (LB l k) (TB vs k):=by
 unfold KV at r
 induction r with
 | nil=>exact Eu
 | @cons p q A g h t o=>
  obtain⟨m,s⟩:=h
  by_cases e:p.1=k
  ·have j:q.1=k:=m.symm.trans e
   have b:TB (q :: g) k=some q.2:=by simp[TB,CL,j]
   rw[Rq e,b];exact s
  ·have j:¬q.1=k:=λz=>e (m.trans z)
   have b:TB (q :: g) k=TB g k:=by simp[TB,CL,j]
   rw[Rr e,b];exact o
theorem KV.any(r:KV j vs)(k:κ):(j.any λg=>decide (g.1=k))=vs.any λg=>decide (g.1=k):=by
 unfold KV at r
 induction r with
 | nil=>rfl
 | cons h t l=>rw[II,II,l,h.1]
theorem KV.repl(r:KV l vs)(k:κ)(m:RelV y u) :
  KV (l.map λg=>if g.1=k then(g.1,y)else g) (vs.map λg=>if g.1=k then(g.1,u)else g):=by
 unfold KV at r ⊢
 induction r with
 | nil=>exact .nil
 | @cons p q A B h t o=>
  rw[As,As];refine .cons ?_ o;obtain⟨j,s⟩:=h
  by_cases e:p.1=k
  ·rw[qX e,qX (j.symm.trans e)];exact⟨j,m⟩
  ·rw[qY e,qY (λz=>e (j.trans z))];exact⟨j,s⟩
theorem KV.put(r:KV j vs)(k:κ)(g:RelV y u):KV (MB j k y) (stored vs k u):=by
 unfold MB stored;rw[r.any k]
 by_cases e:(vs.any λl=>decide (l.1=k))=true
 ·rw[qX e,qX e];exact r.repl k g
 ·rw[qY e,qY e];exact Xt r ⟨rfl,g⟩
theorem KV.length(r:KV g vs):g.length=vs.length:=E1 r
end
theorem XI(r:RelV (kV k) u):(Em P w).is k u=true:=by
 cases k with
 | inl i=>obtain⟨t,e⟩:=(show ∃t,u=QW i t from r);subst e;exact XA P w i t
 | inr x=>obtain⟨t,e⟩:=(show ∃t,u=QV x t from r);subst e;exact W9 P w x t
theorem UP:∀{g:List Key} {us:List AE},Bf (g.map kV) us->ItemsAre (Em P w) g us
 | [],_,r=>by rw[Jb]at r;cases r;exact .nil
 | k :: g,_,r=>by
  rw[As]at r
  cases r with
  | cons h t=>exact .cons (XI h) (UP t)
noncomputable abbrev KT(H:Hp):List (List Key×V)->List (List Key×AN×AE)->Prop:=IH λp q=>p.1=q.1/\H q.2.1=some (.tup (p.1.map kV))/\RelV p.2 q.2.2
theorem KT.val{H:Hp}{l:List (List Key×V)}{xs:List (List Key×AN×AE)}(r:KT H l xs)(k:List Key):Ni (LB l k) ((YA xs k).map (·.2)):=by
 induction r with
 | nil=>exact Eu
 | @cons p q A g h t o=>
  obtain⟨m,_,s⟩:=h
  by_cases e:p.1=k
  ·have j:q.1=k:=m.symm.trans e
   have b:YA (q :: g) k=some q.2:=by simp[YA,CL,j]
   rw[Rq e,b];exact s
  ·have j:¬q.1=k:=λz=>e (m.trans z)
   have b:YA (q :: g) k=YA g k:=by simp[YA,CL,j]
   rw[Rr e,b];exact o
theorem KT.repl(r:KT H m xs)(k:List Key)(o:RelV y u) :
  KT H (m.map λj=>if j.1=k then(j.1,y)else j) (xs.map (putAt k u)):=by
 induction r with
 | nil=>exact .nil
 | @cons p q B C h t s=>
  rw[As,As];refine .cons ?_ s;obtain⟨g,l,A⟩:=h;unfold putAt
  by_cases e:p.1=k
  ·rw[qX e,qX (g.symm.trans e)];exact⟨g,l,o⟩
  ·rw[qY e,qY (λz=>e (g.trans z))];exact⟨g,l,A⟩
theorem KT.put(r:KT H g xs)(k:List Key)(hb:H b=some (.tup (k.map kV)))(j:RelV y u) :
  KT H (MB g k y) (storedH xs k b u):=by
 have e:(g.any λl=>decide (l.1=k))=(YA xs k).isSome:=by
  rw[Wa,(r.val k).isSome_eq,HK]
 unfold MB storedH;rw[e]
 by_cases q:(YA xs k).isSome=true
 ·rw[qX q,qX q];exact r.repl k j
 ·rw[qY q,qY q];exact Xt r ⟨rfl,hb,j⟩
theorem KT.keeps(r:KT H g xs)(j:∀b ys,H b=some (.tup ys)->l b=some (.tup ys)):KT l g xs:=
 IH.mapP r λ_ _ z=>⟨z.1,j _ _ z.2.1,z.2.2⟩
variable{X:Cx}{e:Expr}{lo hi:Option Expr}{pos p2:Pos}
theorem jw:PO X none jV:=by
 intro g s j H Q I h;rw[evalPart_none];exact AG ⟨none,H,I,.none,h⟩
theorem jv(h:PE X e te):PO X (some e) (rJ te):=by
 intro g s j H Q I hw;rw[evalPart_some]
 refine thn (h g s j H _ I hw) λu B ⟨x,l,m,o,A⟩=>?_
 obtain⟨i,rfl,q⟩:=A;obtain⟨t,rfl⟩:=o;exact⟨some i,l,m,.int i t,q⟩
noncomputable def SlR(X:Cx)(r:V->Option Int->Option Int->Hp->VK->Prop):Prop:=
 ∀(g:List (AN×Obj)) (s:AK) (j:St) (H:Hp) (x:V) (v l m:AE) (lo hi:Option Int) (sl:AN) (Q:VK),Inv X g j H s->RelV x v->s.heap.IsSliceOf sl l m .none->Uq l lo->Uq m hi->r x lo hi H Q ->
  ∃T id,X1 (.type T) "__getitem__" = pure (some (.builtin id))/\s.TypeIs v T/\AY (Ad X.prog X.w) X.A (Ny v (.ref sl)) (EP X g j Q) X.xe s
theorem SlR.or(h:SlR X r)(h':SlR X E):SlR X (λx lo hi H Q=>r x lo hi H Q∨E x lo hi H Q):=by
 intro g s j H x v l m lo hi sl Q I o A B C q
 rcases q with q | q
 ·exact h g s j H x v l m lo hi sl Q I o A B C q
 ·exact h' g s j H x v l m lo hi sl Q I o A B C q
noncomputable def tSl(r:V->Option Int->Option Int->Hp->VK->Prop)(te:TE)(j m:TO):TE:=λg H Q=>te g H λx o=>j g o λl s=>m g s λu A=>r x l u A Q
theorem e8(E:SlR X r)(G:PE X e te)(J:PO X lo L)(N:PO X hi O):PE X (.Subscript e (.Slice lo hi none p2) pos) (tSl r te L O):=by
 intro j s m H Q I h;refine mM (thn (G j s m H _ I h) λv P ⟨x,R,S,U,Y⟩=>?_);refine wpAny_Slice (thn (J j P m R _ S Y) λo Z ⟨l,H2,I2,pl,q2⟩=>thn (N j Z m H2 _ I2 q2) λB g ⟨u,C,I3,pu,q3⟩=>?_);rw[evalPart_none];refine AG ?_
 have I4:Inv X j m C { g with heap:=g.heap.push { cls:=.type "slice",data:=.fields #[o,B,.none] } }:=I3.kept (t':=g.toks) λb ob q=>AI _ q
 obtain⟨T,id,hT,ht,hg⟩:=E j { g with heap:=g.heap.push { cls:=.type "slice",data:=.fields #[o,B,.none] } } m C x v o B l u g.heap.objs.size Q I4 U (qT ..) pl pu q3;show AY (Ad X.prog X.w) X.A (aw e (.Slice lo hi none p2) v (.ref g.heap.objs.size)) (EP X j m Q) X.xe { g with heap:=g.heap.push { cls:=.type "slice",data:=.fields #[o,B,.none] } };exact tail_any (ops:=[.ref g.heap.objs.size,v]) ht hT hg (by with_unfolding_all rfl)
noncomputable def Sn(xs:List V)(lo hi:Option Int):List V:=(xs.drop (HT.sIx xs.length 0 lo)).take (HT.sIx xs.length xs.length hi - HT.sIx xs.length 0 lo)
theorem QU(xs:List V)(lo hi:Option Int):(Sn xs lo hi).length<=xs.length:=by
 unfold Sn;rw[Dy,ID]
 lia
noncomputable def rSlT(K:AD):V->Option Int->Option Int->Hp->VK->Prop:=λx lo hi H Q=>∃a g,x=.ref a/\SqT K H a g /\
 ¬(HT.sIx g.length 0 lo=0/\HT.sIx g.length g.length hi=g.length)/\∀p,H p=none->Q (.ref p) (upd H p (.tup (Sn g lo hi)))
theorem nK:SlR X (rSlT X.K):=by
 intro L s N H x v O P lo hi sl Q I A B C E h;obtain⟨a,j,rfl,G,hw,q⟩:=h;cases A;obtain⟨J,r,l,m⟩:=I.tuple G
 have g:J.toArray.size=j.length:=by rw[AZ];exact r.length.symm
 refine⟨"tuple",_,Gr.lookup,l.typeIs,?_⟩;refine HT.Ox l B C E (by rw[g];exact hw) ?_ (by rw[g];exact m);rw[g];refine⟨.ref s.heap.objs.size,_,I.laid (t':=s.toks) (o:=.tup (Sn j lo hi)) (λb R q=>AI _ q) (AO _) ?_,rfl,q _ (I.hok.fresh (AO _))⟩;exact⟨⟨Au (QU j lo hi) m,⟨_,Aa _ rfl,rfl⟩⟩,_,(r.drop (HT.sIx j.length 0 lo)).take (HT.sIx j.length j.length hi - HT.sIx j.length 0 lo),dO _ _⟩
noncomputable def rk(K:AD):R2:=λx y H Q=>∃a b j g,x=.ref a/\y=.ref b/\SqT K H a j/\SqT K H b g/\j≠[]/\j.length+g.length<=sizeLine /\
 (g=[]->Q (.ref a) H)/\(g≠[]->∀p,H p=none->Q (.ref p) (upd H p (.tup (j++g))))
theorem Bf.nil_iff(r:Bf xs us):us=[]↔xs=[]:=by
 cases r with
 | nil=>simp
 | cons _ _=>simp
theorem kH:OpR X (DV .Add) (rk X.K):=by
 intro O s P H x y v u Q I m A h;obtain⟨a,b,B,C,rfl,rfl,E,hb,G,l,J,L⟩:=h;cases m;cases A;obtain⟨R,j,N,_⟩:=I.tuple E;obtain⟨S,g,p2,_⟩:=I.tuple hb;refine HT.k6 N p2 (λz=>G (j.nil_iff.mp z)) (λz=>⟨.ref a,H,I,rfl,J (g.nil_iff.mp z)⟩) (λz=>?_) (by rw[<-j.length,<-g.length];exact l);refine⟨.ref s.heap.objs.size,_,I.laid (t':=s.toks) (o:=.tup (B++C)) (λb U q=>AI _ q) (AO _) ?_,rfl,L (λw=>z (g.nil_iff.mpr w)) _ (I.hok.fresh (AO _))⟩;exact⟨⟨by rw[AV];exact l,⟨_,Aa _ rfl,rfl⟩⟩,_,j.append g,dO _ _⟩
end
section
noncomputable def ixN(n:Nat)(i:Int):Option Nat:=if 0<=i then(if i < n then some i.toNat else none)else if -(n:Int)<=i then some (i+n).toNat else none
noncomputable def atI{α:Type}(xs:List α)(i:Int):Option α:=(ixN xs.length i).bind λj=>xs[j]?
theorem Vq(h:ixN n i=some j):qi i n=some j/\j < n/\-(n:Int)<=i/\i < n:=by
 unfold ixN at h
 by_cases l:0<=i
 ·rw[qX l]at h
  by_cases g:i < n
  ·rw[qX g]at h
   have e:i.toNat=j:=CC h;exact⟨by rw[ip l g,e],by lia,by lia,g⟩
  ·rw[qY g]at h;cases h
 ·rw[qY l]at h
  by_cases g:-(n:Int)<=i
  ·rw[qX g]at h
   have e:(i+n).toNat=j:=CC h;exact⟨by rw[seqIndex_neg (by lia) g,e],by lia,g,by lia⟩
  ·rw[qY g]at h;cases h
theorem aq{g:Type}{xs:List g}{i:Int}{v:g}(h:atI xs i=some v):∃j,qi i xs.length=some j/\xs[j]?=some v/\j < xs.length/\-(xs.length:Int)<=i/\i < xs.length:=by
 unfold atI at h
 cases e:ixN xs.length i with
 | none=>rw[e]at h;cases h
 | some j=>
  rw[e]at h;obtain⟨l,m,o,s⟩:=Vq e;exact⟨j,l,h,m,o,s⟩
noncomputable def WE(b:Expr):Prop:=∀o i,WI b false o i=operate [o,i] (Ny o i)
noncomputable def IxR(X:Cx)(r:R2):Prop:=
 ∀(value g:Expr) (j:List (AN×Obj)) (s:AK) (l:St) (H:Hp) (x y:V) (v u:AE) (Q:VK),Inv X j l H s->RelV x v->RelV y u->r x y H Q ->
  WI g false v u=operate [v,u] (Ny v u)->AY (Ad X.prog X.w) X.A (aw value g v u) (EP X j l Q) X.xe s
noncomputable def MtR(X:Cx)(id:String)(r:V->List V->Hp->VK->Prop):Prop:=
 ∀(g:List (AN×Obj)) (s:AK) (j:St) (H:Hp) (x:V) (l:List V) (v:AE) (m:List AE) (Q:VK),Inv X g j H s->RelV x v->Bf l m->r x l H Q ->
  AY (Ad X.prog X.w) X.A (call (.builtin id) (v :: m)) (EP X g j Q) X.xe s
section
variable{P:BP}{w:Bu}{H:Hp}{h:CS}{a:AN}
theorem lZ(ok:HOk P w H h)(e:Rd H a u):Cz P w H h a u:=e.ok ok
theorem XT(ok:HOk P w H h)(e:Rd H a (.dK g)):g.length<=sizeLine/\(a==EI)=false/\∃vs,KV g vs/\h.DictOf (Em P w) a vs:=
 show Cz P w H h a (.dK g)from lZ ok e
theorem tM(ok:HOk P w H h)(e:H a=some (.dK g)):g.length<=sizeLine/\(a==EI)=false/\∃vs,KV g vs/\h.DictOf (Em P w) a vs:=XT ok (.inl e)
theorem SS(ok:HOk P w H h)(e:H a=some (.tup (g.map kV))):(Uf (Em P w)).is h g a:=by
 obtain⟨_,j,r,o,l,m,n,s⟩:=(show Cz P w H h a (.tup (g.map kV))from ok a _ e);exact⟨o,j.toArray,n,l,m,s,by simpa using UP r⟩
theorem XS(ok:HOk P w H h)(e:Rd H a (.dT j)):j.length<=sizeLine/\(a==EI)=false /\
  ∃xs,KT H j xs/\h.DictOfH (Uf (Em P w)) a xs:=by
 obtain⟨z,y,xs,r,o,A,B,C,E,G,I,J⟩:=(show Cz P w H h a (.dT j)from lZ ok e);refine⟨z,y,xs,r,o,A,B,C,E,G,I,λx g=>?_,J⟩
 have all:∀{l:List (List Key×V)} {m:List (List Key×AN×AE)},KT H l m->∀x∈m,(Uf (Em P w)).is h x.1 x.2.1:=by
  intro l m q
  induction q with
  | nil=>intro x g;exact nomatch g
  | @cons p q N O s t L=>
   intro x g
   rcases Aq.mp g with e | g
   ·subst e
    exact SS ok (by rw[<-s.1];exact s.2.1)
   ·exact L x g
 exact all r x g
theorem tL(ok:HOk P w H h)(e:H a=some (.dT g)):g.length<=sizeLine/\(a==EI)=false /\
  ∃xs,KT H g xs/\h.DictOfH (Uf (Em P w)) a xs:=XS ok (.inl e)
end
noncomputable def O5(H:Hp)(a:AN)(y:V)(r:Option V):Prop:=
 (∃g k,Rd H a (.dK g)/\y=kV k/\r=LB g k)∨∃g k b,Rd H a (.dT g)/\y=.ref b/\H b=some (.tup (k.map kV))/\r=LB g k
noncomputable def Xl(H:Hp)(a:AN)(y v:V)(j:Hp):Prop:=
 (∃g k,H a=some (.dK g)/\y=kV k/\g.length < sizeLine/\j=upd H a (.dK (MB g k v))) ∨
 ∃g k b,H a=some (.dT g)/\y=.ref b/\H b=some (.tup (k.map kV))/\g.length < sizeLine/\j=upd H a (.dT (MB g k v))
theorem O5.k{H}{a}{g}{k}(e:H a=some (.dK g)):O5 H a (kV k) (LB g k):=.inl ⟨g,k,.inl e,rfl,rfl⟩
theorem O5.t{H}{a b}{g}{k}(e:H a=some (.dT g))(j:H b=some (.tup (k.map kV))):O5 H a (.ref b) (LB g k):=.inr ⟨g,k,b,.inl e,rfl,j,rfl⟩
theorem Xl.k{H}{a}{g}{k}{v}(e:H a=some (.dK g))(j:g.length < sizeLine):Xl H a (kV k) v (upd H a (.dK (MB g k v))):=.inl ⟨g,k,e,rfl,j,rfl⟩
theorem Xl.t{H}{a b}{g}{k}{v}(e:H a=some (.dT g))(j:H b=some (.tup (k.map kV)))(l:g.length < sizeLine) :
  Xl H a (.ref b) v (upd H a (.dT (MB g k v))):=.inr ⟨g,k,b,e,rfl,j,l,rfl⟩
variable{X:Cx}{a b:Expr}{ta tb:TE}{pos:Pos}
theorem IxR.or(h:IxR X r)(h':IxR X B):IxR X (λx y H Q=>r x y H Q∨B x y H Q):=by
 intro value g j s l H x y v u Q I m o q A
 rcases q with q | q
 ·exact h value g j s l H x y v u Q I m o q A
 ·exact h' value g j s l H x y v u Q I m o q A
theorem sD(g:IxR X r)(j:PE X a ta)(hb:PE X b tb)(l:WE b):PE X (.Subscript a b pos) (tOp r ta tb):=by
 intro m s o H Q I h;exact mM (p5 j hb I h λv u A x y B C E G q=>g a b m A o B x y v u Q C E G q (l _ _))
noncomputable def rIxL(K:AD):R2:=λx y H Q=>∃p g i v,x=.ref p/\y=.int i/\SqL K H p g/\atI g i=some v/\Q v H
noncomputable def rIxT(K:AD):R2:=λx y H Q=>∃p g i v,x=.ref p/\y=.int i/\SqT K H p g/\atI g i=some v/\Q v H
theorem kX:IxR X (rIxL X.K):=by
 intro value l A s B H x y v u Q I J L h C;obtain⟨p,xs,i,z,rfl,rfl,N,O,q⟩:=h;cases J;obtain⟨t,rfl⟩:=L;obtain⟨P,r,m,hz⟩:=I.list N;obtain⟨j,g,R,h3,S,U⟩:=aq O;obtain⟨w,E,Y⟩:=r.get R;have Z:=r.length;have hn:=Pw;have fin:EP X A B Q w s:=⟨z,H,I,Y,q⟩
 by_cases G:0<=i
 ·have o:i.toNat=j:=by
   rw[ip G U]at g;exact CC g
  exact item_listR m.isList G (by lia) (by rw[o];simpa using E) fin C
 ·have o:(i+(P.toArray.size:Int)).toNat=j:=by
   rw[seqIndex_neg (by lia) S]at g;rw[AZ,<-Z];exact CC g
  exact dE (x:=w) m.isList.typeIs qL.lookup
   (wpAny_getItem_list_neg (Q:=λr s'=>r=w/\EP X A B Q r s') m.isList (by lia) (by rw[AZ] <;> lia) (by lia) (by rw[o];simpa using E) ⟨rfl,fin⟩) C
theorem ou:IxR X (rIxT X.K):=by
 intro value g l s m H x y v u Q I A B h C;obtain⟨p,S,i,z,rfl,rfl,E,G,q⟩:=h;cases A;obtain⟨t,rfl⟩:=B;obtain⟨U,r,o,Y⟩:=I.tuple E;obtain⟨j,J,L,Z,h4,h5⟩:=aq G;obtain⟨w,N,O⟩:=r.get L;have P:=r.length;have hn:=Pw;have fin:EP X l m Q w s:=⟨z,H,I,O,q⟩
 exact dE (x:=w) o.typeIs slot_tuple_getitem.lookup
  (getItem_tuple (j:=j) (Q:=λr R=>r=w/\EP X l m Q r R) o (by lia) (by lia) (by rw[AZ,<-P];exact J) (by simpa using N) ⟨rfl,fin⟩) C
theorem Yw(g:List AE)(n j:Nat)(u:AE):CI (·.setIfInBounds j u) { cls:=.type "list",data:=.seq g.toArray n }={ cls:=.type "list",data:=.seq (g.set j u).toArray n }:=by
 simp[CI]
theorem Inv.lst(I:Inv X j l H s)(h:H p=some (.lst xs)) :
  ∃(g:List AE) (n:Nat),Bf xs g/\s.heap.get? p=some { cls:=.type "list",data:=.seq g.toArray n }/\xs.length<=sizeLine:=by
 obtain⟨z,g,n,r,e⟩:=I.hok p _ h;exact⟨g,n,r,e,z⟩
theorem Inv.lstUpd{j:List (AN×Obj)}{l:St}{H:Hp}{s:AK}{p:AN}{xs ys:List V}{m its':List AE}{n g:Nat}{f:Obj->Obj}(I:Inv X j l H s)(h:H p=some (.lst xs))
  (ho:s.heap.get? p=some { cls:=.type "list",data:=.seq m.toArray n }) (o:f { cls:=.type "list",data:=.seq m.toArray n }={ cls:=.type "list",data:=.seq its'.toArray g }) (r:Bf ys its') (A:ys.length<=sizeLine) (t:Nat) :
  Inv X j l (upd H p (.lst ys)) { s with heap:=s.heap.update p f,toks:=t }:=by
 have e:(s.heap.update p f).get? p=some { cls:=.type "list",data:=.seq its'.toArray g }:=by
  rw[BY f ho (by rw[o] <;> rfl),o]
 refine I.write (x:=p) (e:=p) (by rw[h];trivial) (.inl rfl) (λb u hb q=>(At _ _ (BW hb)).trans q) ⟨_,e⟩ ?_;exact⟨A,its',g,r,e⟩
noncomputable def rh:V->V->V->Hp->(Hp->Prop)->Prop:=λo i v H Q=>∃p g k j,o=.ref p/\i=.int k/\H p=some (.lst g)/\ixN g.length k=some j/\Q (upd H p (.lst (g.set j v)))
theorem Wo:qC X rh:=by
 intro N s O H o i v ov iv u Q I P R S h;obtain⟨p,U,k,j,rfl,rfl,B,Y,q⟩:=h;cases P;obtain⟨t,rfl⟩:=R;obtain⟨C,n,r,l,Z⟩:=I.lst B;obtain⟨g,h2,E,G⟩:=Vq Y;have m:=r.length;have hn:=Pw
 have J:Inv X N O (upd H p (.lst (U.set j v))) { s with heap:=s.heap.update p (CI (·.setIfInBounds j u)) }:=
  I.lstUpd B l (Yw C n j u) (r.set S j) (by rw[Cw];exact Z) s.toks
 by_cases L:0<=k
 ·have A:k.toNat=j:=by
   rw[ip L G]at g;exact CC g
  exact PySem.W.ki_setAt l L (by lia) (by rw[AZ,<-m];exact G) (by rw[A];exact⟨_,J,q⟩)
 ·have A:(k+(C.toArray.size:Int)).toNat=j:=by
   rw[seqIndex_neg (by lia) E]at g;rw[AZ,<-m];exact CC g
  exact PySem.W.ki_setBack l (by lia) (by rw[AZ,<-m];exact E) (by lia) (by rw[A];exact⟨_,J,q⟩)
theorem VD(lo hi:Option Int)(n:Nat):(Jd lo hi none n).1=((HT.sIx n 0 lo:Nat):Int)/\(Jd lo hi none n).2.1=((HT.sIx n n hi:Nat):Int)/\(Jd lo hi none n).2.2=1:=by
 refine⟨?_,?_,rfl⟩
 ·cases lo with
  | none=>simp[Jd,HT.sIx]
  | some i=>
   simp only[Jd,HT.sIx,cy,show(1:Int) > 0 by decide,if_true]
   by_cases h:i < 0
   ·simp only[h,if_true] <;> lia
   ·simp only[h,if_false] <;> lia
 ·cases hi with
  | none=>simp[Jd,HT.sIx]
  | some i=>
   simp only[Jd,HT.sIx,cy,show(1:Int) > 0 by decide,if_true]
   by_cases h:i < 0
   ·simp only[h,if_true] <;> lia
   ·simp only[h,if_false] <;> lia
theorem TV(g:List AE)(lo hi:Option Int):slicePick g.toArray lo hi none=((g.drop (HT.sIx g.length 0 lo)).take (HT.sIx g.length g.length hi - HT.sIx g.length 0 lo)).toArray:=by
 obtain⟨j,l,m⟩:=VD lo hi g.toArray.size;unfold slicePick;rw[j,l,m]
 simp only[sliceRange_one,pick_run,AZ] <;> rfl
noncomputable def rf(K:AD):V->Option Int->Option Int->Hp->VK->Prop:=λx lo j H Q=>∃a g,x=.ref a/\SqL K H a g/\∀p,H p=none->Q (.ref p) (upd H p (.lst (Sn g lo j)))
theorem jZ:SlR X (rf X.K):=by
 intro L s N H x v O P lo l sl Q I A B C E h;obtain⟨a,g,rfl,G,q⟩:=h;cases A;obtain⟨R,r,m,J⟩:=I.list G;have j:=r.length;refine⟨"list",_,qL.lookup,m.isList.typeIs,?_⟩;refine wpAny_getItem_list_slice m.isList B C E .none (by simp) ?_ (by rw[AZ] <;> lia);rw[TV,<-j];refine⟨.ref s.heap.objs.size,_,I.laid (t':=s.toks) (o:=.lst (Sn g lo l)) (λb S q=>AI _ q) (AO _) ?_,rfl,q _ (I.hok.fresh (AO _))⟩;exact⟨Au (QU g lo l) J,_,0,(r.drop (HT.sIx g.length 0 lo)).take (HT.sIx g.length g.length l - HT.sIx g.length 0 lo),Aa _ rfl⟩
theorem WA:Kv X (.builtin "len") (λxs H Q=>∃p ys,xs=[.ref p]/\(SqL X.K H p ys∨SqT X.K H p ys)/\Q (.int ys.length) H):=by
 intro C s E H xs G Q I r h;obtain⟨p,ys,rfl,j,q⟩:=h;obtain⟨u,rfl,o⟩:=vals1 r;cases o;have J:=Pw
 rcases j with j | j
 ·obtain⟨A,l,m,B⟩:=I.list j
  have g:=l.length;exact Calls.call_len_list m.isList (by simp only[AZ] <;> lia) ⟨.int ys.length,H,I.tok _,⟨s.toks+1,by rw[AZ,g]⟩,q⟩
 ·obtain⟨A,l,m,B⟩:=I.tuple j
  have g:=l.length;exact len_tuple m (by simp only[AZ] <;> lia) ⟨.int ys.length,H,I.tok _,⟨s.toks+1,by rw[AZ,g]⟩,q⟩
theorem Tj:Kv X (.type "tuple") (λxs H Q=>∃p ys,xs=[.ref p]/\((SqL X.K H p ys/\∀l,H l=none->Q (.ref l) (upd H l (.tup ys)))∨(SqT X.K H p ys/\Q (.ref p) H))):=by
 intro C s E H xs P Q I r h;obtain⟨p,ys,rfl,h⟩:=h;obtain⟨u,rfl,N⟩:=vals1 r;cases N
 rcases h with⟨j,q⟩ | ⟨j,q⟩
 ·obtain⟨m,A,B,G⟩:=I.list j
  have J:=A.length;refine call_tuple_list B.isList (λg kp=>?_) (by simp only[AZ] <;> lia);have L:Inv X C E H { s with heap:=g }:=I.kept (t':=s.toks) kp
  have O:Inv X C E (upd H g.objs.size (.tup ys)) { s with heap:=g.push { cls:=.type "tuple",data:=.seq m.toArray } }:=
   L.laid (t':=s.toks) (λb o e=>AI _ e) (AO _) (show Cz X.prog X.w _ _ _ (.tup ys)from⟨⟨G,⟨_,Aa _ rfl,rfl⟩⟩,m,A,dO _ _⟩)
  exact⟨.ref g.objs.size,_,O,rfl,q _ (L.hok.fresh (AO _))⟩
 ·obtain⟨m,A,B,G⟩:=I.tuple j
  exact call_tuple_same B ⟨.ref p,H,I,rfl,q⟩
noncomputable def tyV(K:AD)(T:String)(x:V)(H:Hp):Prop:=match x with
 | .str _=>T = "str"
 | .int _=>T = "int"
 | .ref p=>(T = "list"/\∃j,SqL K H p j)∨(T = "tuple"/\∃o,K.lookup p=some o/\o.cls=.type "tuple"/\o.dict=none) ∨
   (T = "dict"/\((∃g,H p=some (.dK g))∨∃g,H p=some (.dT g)))∨(T = "set"/\∃S n,H p=some (.set S n))
 | _=>False
theorem dn(I:Inv X G J H s)(r:RelV x v)(ty:tyV X.K T x H) :
  s.TypeIs v T/\∀a,v=.ref a->∃m,s.heap.get? a=some m/\m.dict=none:=by
 cases x with
 | str z=>
  obtain⟨t,rfl⟩:=r;cases(show T = "str" from ty);exact⟨typeIs_str s z t,λ_ e=>nomatch e⟩
 | int i=>
  obtain⟨t,rfl⟩:=r;cases(show T = "int" from ty);exact⟨typeIs_int s i t,λ_ e=>nomatch e⟩
 | ref p=>
  cases r
  rcases ty with⟨rfl,L,B⟩ | ⟨rfl,o,g,C,j⟩ | ⟨rfl,g⟩ | ⟨rfl,S,n,g⟩
  ·obtain⟨N,_,A,_⟩:=I.list B
   refine⟨A.isList.typeIs,λa e=>?_⟩;cases e;obtain⟨o,n,e,c,j,_⟩:=A;exact⟨o,e,j⟩
  ·refine⟨⟨o,I.kIn p o g,C⟩,λa e=>?_⟩
   cases e;exact⟨o,I.kIn _ o g,j⟩
  ·have z:∃o,s.heap.get? p=some o/\o.ExactDict:=by
    rcases g with⟨E,g⟩ | ⟨E,g⟩
    ·obtain⟨_,_,_,_,o,_,_,e,ex,_⟩:=I.hok p _ g
     exact⟨o,e,ex⟩
    ·obtain⟨_,_,_,_,o,_,_,e,ex,_⟩:=I.hok p _ g
     exact⟨o,e,ex⟩
   obtain⟨o,e,ex⟩:=z;refine⟨⟨o,e,ex.1⟩,λa l=>?_⟩;cases l;exact⟨o,e,ex.2.1⟩
  ·obtain⟨o,_,_,_,e,ex,_⟩:=I.hok p _ g
   refine⟨⟨o,e,ex.1⟩,λa l=>?_⟩;cases l;exact⟨o,e,ex.2.1⟩
 | _=>exact EO ty
noncomputable def tBM0(K:AD)(T:String)(r:V->List V->Hp->VK->Prop)(to:TE):TE:=λj H Q=>to j H λx g=>tyV K T x g/\r x [] g Q
noncomputable def tBM(K:AD)(T:String)(r:V->List V->Hp->VK->Prop)(to:TE)(t:TA):TE:=λg H Q=>to g H λx j=>tyV K T x j/\t g j λl m=>r x l m Q
variable{o e:Expr}{es:List Expr}{to:TE}{t:TA}{name:Str}{apos u7:Pos}{T id:String}{r:V->List V->Hp->VK->Prop}
theorem fD(B:PlainAttrs T)(g:Slot T name id)(C:typeOf (.builtin id)=pure (.type "method_descriptor")) (E:MtR X id r) (ho:PE X o to)
  (G:Ei o name X.env (Bd o X.env)=Bd o X.env:=by rfl) (J:(apos.endLine==u7.line)=true:=by rfl):PE X (.Call (.Attribute o name apos) [] [] u7) (tBM0 X.K T r to):=by
 intro j s l H Q I h;refine wpAny_Call_method0_late G J (thn (ho j s l H _ I h) λv L ⟨x,N,m,A,ty,O⟩=>?_);obtain⟨P,R⟩:=dn m A ty;exact⟨T,id,B,g,C,P,R,WU rfl (PySem.evalArgs_none (E j L l N x [] v [] Q m A .nil O))⟩
theorem lf(C:PlainAttrs T)(g:Slot T name id)(E:typeOf (.builtin id)=pure (.type "method_descriptor")) (G:MtR X id r) (ho:PE X o to) (J:PA X (e :: es) t)
  (L:Ei o name X.env (Bd o X.env)=Bd o X.env:=by rfl)
  (N:((Da u7 (AQ (e :: es) X.env)).all (λx=>!x.1)&&(X9 u7 (PJ [] X.env)).all (λx=>x.1.isSome)
    &&decide ((e :: es).length+([]:List Xu).length+(if ([]:List Xu).isEmpty then 0 else 1) < 30))=true:=by rfl)
  (O:(apos.endLine==u7.line)=true:=by rfl) (P:AQ (e :: es) X.env=(false,Bd e X.env) :: AQ es X.env:=by rfl) (R:(Da u7 (AQ es X.env)).any (·.1)=false:=by rfl) :
  PE X (.Call (.Attribute o name apos) (e :: es) [] u7) (tBM X.K T r to t):=by
 intro j s l H Q I h;refine wpAny_Call_method_late L N O rfl (thn (ho j s l H _ I h) λv S ⟨x,U,m,A,ty,Y⟩=>?_);obtain⟨Z,h2⟩:=dn m A ty;refine⟨T,id,C,g,E,Z,h2,?_⟩;have B:=J u7 j S l U _ m Y;rw[P]at B ⊢;refine WU (by show(false||(Da u7 (AQ es X.env)).any (·.1))=false;rw[R] <;> rfl) (YJ ?_)
 exact thn B λus s2 ⟨vs,H2,I2,r2,q2⟩=>G j s2 l H2 x vs v us Q I2 A r2 q2
end
section
noncomputable def MtM(X:Cx)(id:String)(r:V->List V->Hp->VK->Prop):Prop:=
 ∀(g:List (AN×Obj)) (s:AK) (j:St) (H:Hp) (x:V) (l:List V) (v:AE) (m:List AE) (Q:VK),Inv X g j H s->RelV x v->Bf l m->r x l H Q ->
  AY (Ad X.prog X.w) X.A (call (.builtin id) (v :: m)) (EP X g j Q) X.xe s
theorem Bf.one:∀{x:V} {us:List AE},Bf [x] us->∃u,us=[u]/\RelV x u
 | _,_,.cons r .nil=>⟨_,rfl,r⟩
theorem Bf.zero:∀{us:List AE},Bf [] us->us=[]
 | _,.nil=>rfl
theorem Bf.eraseIdx:∀{xs:List V} {us:List AE} (i:Nat),Bf xs us->Bf (xs.eraseIdx i) (us.eraseIdx i)
 | _,_,_,.nil=>.nil
 | _,_,0,.cons _ t=>t
 | _,_,i+1,.cons r t=>.cons r (Bf.eraseIdx i t)
theorem Bf.reverse(h:Bf xs us):Bf xs.reverse us.reverse:=by
 induction h with
 | nil=>exact .nil
 | cons r t g=>rw[Kj,Kj];exact Bf.append g (.cons r .nil)
theorem UM{g:Type}:∀(l:List g) (i:Nat),(l.eraseIdx i).length<=l.length
 | [],_=>AO _
 | _ :: _,0=>Ib _
 | _ :: r,i+1=>Nat.succ_le_succ (UM r i)
section
variable{X:Cx}{ζ:List (AN×Obj)}{σ:St}{H:Hp}{s:AK}{a:AN}{y v:V}{u r:AE}{o:Option V}{A:Bw}{E:AE->AK->Prop}
theorem Inv.big(I:Inv X ζ σ H s):EI < s.heap.objs.size:=by
 have h:Av < s.heap.objs.size:=(I.mod.glob.keeps I.bk).lt;exact qp (by decide) h
theorem cS(G:A.units+1 < Ez)(I:Inv X ζ σ H s)(g:O5 H a y (some v))(C:RelV y u)(h:∀w' s',Inv X ζ σ H s'->RelV v w'->Q w' s') :
  AY (Ad X.prog X.w) A (Ny (.ref a) u) Q E s:=by
 rcases g with⟨J,k,e,j,l⟩ | ⟨J,k,b,e,j,L,l⟩
 ·subst j
  obtain⟨z,N,O,rel,m⟩:=XT I.hok e;obtain⟨w',hw,B⟩:=Ni.some_of (v:=v) (o:=TB O k) (by rw[l];exact rel.val k);exact wpAny_getItem_of (XI C) m.mapOf hw (h w' _ (I.tok _) B)
 ·subst j
  cases(show u=Ai b from C);obtain⟨z,N,P,rel,m⟩:=XS I.hok e;obtain⟨w',hw,B⟩:=Ni.some_of (v:=v) (o:=(YA P k).map (·.2)) (by rw[l];exact rel.val k);obtain⟨p,R,S⟩:=Dl.mp hw;refine wpAny_getItem_heap (Kz G) (SS I.hok L) m R ?_;rw[S];exact h w' _ (I.tok _) B
theorem d_in(G:A.units+1 < Ez)(I:Inv X ζ σ H s)(g:O5 H a y o)(C:RelV y u)(h:∀s',Inv X ζ σ H s'->Q (.bool o.isSome) s') :
  AY (Ad X.prog X.w) A (Bt .In u (.ref a)) Q E s:=by
 rcases g with⟨J,k,e,j,l⟩ | ⟨J,k,b,e,j,L,l⟩
 ·subst j
  obtain⟨z,m,N,rel,B⟩:=XT I.hok e;refine wpAny_in_of (XI C) m B.mapOf ?_;rw[<-(rel.val k).isSome_eq,<-l];exact h _ (I.tok _)
 ·subst j
  cases(show u=Ai b from C);obtain⟨z,m,O,rel,B⟩:=XS I.hok e;refine wpAny_in_heap (Kz G) (SS I.hok L) m B ?_;have q:=(rel.val k).isSome_eq;rw[HK]at q;rw[<-q,<-l];exact h _ (I.tok _)
theorem kx(G:A.units+1 < Ez)(I:Inv X ζ σ H s)(g:O5 H a y o)(C:RelV y u)(h:∀s',Inv X ζ σ H s'->Q (.bool (!o.isSome)) s') :
  AY (Ad X.prog X.w) A (Bt .NotIn u (.ref a)) Q E s:=by
 rcases g with⟨J,k,e,j,l⟩ | ⟨J,k,b,e,j,L,l⟩
 ·subst j
  obtain⟨z,m,N,rel,B⟩:=XT I.hok e;refine wpAny_notIn_of (XI C) m B.mapOf ?_;rw[<-(rel.val k).isSome_eq,<-l];exact h _ (I.tok _)
 ·subst j
  cases(show u=Ai b from C);obtain⟨z,m,O,rel,B⟩:=XS I.hok e;refine wpAny_notIn_heap (Kz G) (SS I.hok L) m B ?_;have q:=(rel.val k).isSome_eq;rw[HK]at q;rw[<-q,<-l];exact h _ (I.tok _)
theorem ag(I:Inv X ζ σ H s)(j:Mut (H a))(l:Du a s.heap h')(m:∃q,h'.get? a=some q)(new:Cz X.prog X.w (upd H a g) h' a g) :
  Inv X ζ σ (upd H a g) { s with heap:=h',toks:=t' }:=
 I.write (x:=a) (e:=a) j (.inl rfl) (λb q hb z=>(l.2 b hb).trans z) m new
theorem pp(z:g.length<=sizeLine)(j:(a==EI)=false)(rel:KV g vs)(dd:h'.DictOf (Em P w) a vs) :
  Cz P w l h' a (.dK g):=⟨z,j,vs,rel,dd⟩
theorem cR(hu:A.units+1 < Ez)(I:Inv X ζ σ H s)(g:Xl H a y v H')(R:RelV y u)(S:RelV v r)(h:∀s',Inv X ζ σ H' s'->Q () s') :
  AY (Ad X.prog X.w) A (Xo (.ref a) u r) Q E s:=by
 rcases g with⟨j,k,e,C,l,G⟩ | ⟨j,k,b,e,C,U,l,G⟩
 ·subst C G
  obtain⟨z,J,vs,rel,L⟩:=tM I.hok e
  have N:vs.length<=sizeLine:=by rw[<-rel.length];exact z
  have O:(MB j k v).length<=sizeLine:=by have:=QS j k v;lia
  refine wpAny_setItem_pairs (hsz:=N) (XI R) L λY m P=>h _ ?_
  have he:∃q,Y.get? a=some q:=let ⟨q,_,_,B,_⟩:=m;⟨q,B⟩
  exact ag I (by rw[e];exact Eu) P he (pp O J (rel.put k S) m)
 ·subst C G
  cases(show u=Ai b from R);obtain⟨z,J,xs,rel,L⟩:=tL I.hok e
  have N:xs.length<=sizeLine:=by rw[<-E1 rel];exact z
  have O:(MB j k v).length<=sizeLine:=by have:=QS j k v;lia
  refine wpAny_setItem_heap (hsz:=N) (Kz hu) (SS I.hok U) L λY m P=>h _ ?_
  obtain⟨q,es,ep,B,h2,h3,h4,_,h5⟩:=m;refine ag I (by rw[e];exact Eu) P ⟨q,B⟩ ⟨O,J,_,(rel.put k U S).keeps λc ys Z=>?_,q,es,ep,B,h2,h3,h4,h5⟩;rw[BA (sW Z e (λz=>nomatch z))];exact Z
variable{X:Cx}{ζ:List (AN×Obj)}{σ:St}{H:Hp}{s:AK}{l:AN}{xs ys:List V}
theorem Inv.lset{g its':List AE}{n:Nat}{f:Array AE->Array AE}{t':Nat}(I:Inv X ζ σ H s)(j:H l=some (.lst xs))
  (e:s.heap.get? l=some { cls:=.type "list",data:=.seq g.toArray n }) (m:f g.toArray=its'.toArray) (B:Bf ys its') (C:ys.length<=sizeLine) :
  Inv X ζ σ (upd H l (.lst ys)) { s with heap:=s.heap.update l (CI f),toks:=t' }:=by
 have q:=PySem.IsL.update e f;rw[m]at q;refine I.write (x:=l) (e:=l) (by rw[j];exact trivial) (.inl rfl) (λJ u hb G=>(At s.heap (CI f) (BW hb)).trans G) ⟨_,q⟩ ?_;exact⟨C,its',_,B,q⟩
theorem Inv.lnew(I:Inv X ζ σ H s)(j:Bf ys g)(m:ys.length<=sizeLine) :
  Inv X ζ σ (upd H s.heap.objs.size (.lst ys)) { s with heap:=s.heap.push { cls:=.type "list",data:=.seq g.toArray },toks:=t' }:=
 I.laid (λ_ _ q=>AI _ q) (AO _) ⟨m,g,0,j,Aa _ rfl⟩
theorem Inv.fresh(I:Inv X ζ σ H s):H s.heap.objs.size=none:=I.hok.fresh (AO _)
theorem Inv.lstM(I:Inv X ζ σ H s)(j:H l=some (.lst xs)):xs.length<=sizeLine/\∃(g:List AE) (n:Nat),Bf xs g/\xs.length=g.length/\s.heap.get? l=some { cls:=.type "list",data:=.seq g.toArray n }:=by
 obtain⟨z,g,n,r,e⟩:=I.hok l _ j;exact⟨z,g,n,r,r.length,e⟩
end
noncomputable def qD(i:Expr):Prop:=∀g j,WI i false g j=operate [g,j] (Ny g j)
theorem jY{prog}{w}{A}{E}{s}{env}{value g}{pos}{T id}{Q}
  (I:X1 (.type T) "__getitem__" = pure (some (.builtin id))) (J:qD g)
  (h:AY (Ad prog w) A (Bd value env) (λo l=>AY (Ad prog w) A (Bd g env) (λi s₂=>s₂.TypeIs o T/\AY (Ad prog w) A (Ny o i) Q E s₂) E l) E s) :
  AY (Ad prog w) A (Bd (.Subscript value g pos) env) Q E s:=by
 refine mM (Eh h (λo l B=>Eh B (λi s₂ j=>?_) λ_ _ x=>x) λ_ _ x=>x);obtain⟨G,j⟩:=j;unfold aw;refine AA ?_;rw[getitemInPython_of_ne G.not_modules];refine AA (WO G I ?_)
 have fin:AY (Ad prog w) A (WI g false o i) (λr m=>AY (Ad prog w) A (letTemporaryGo value o r >>= λ_=>pure r) Q E m) E s₂:=by
  rw[J o i];exact wpAny_operating (Eh j (λr m C=>AA (wpAny_letTemporaryGo (AG C))) λ_ _ x=>x)
 first
  | exact AG (AA fin)
  | exact AA (AG (AA fin))
  | exact AA fin
theorem XU(I:Inv X m A H s)(g:O5 H a y o):s.TypeIs (.ref a) "dict":=by
 rcases g with⟨l,k,e,_,_⟩ | ⟨l,k,b,e,_,_,_⟩
 ·obtain⟨_,_,B,_,j⟩:=XT I.hok e
  exact j.typeIs
 ·obtain⟨_,_,C,_,j⟩:=XS I.hok e
  exact j.typeIs
noncomputable def rR(l ty:TE):TE:=λg H Q=>l g H λx m=>ty g m λy j=>∃a v,x=.ref a/\O5 j a y (some v)/\Q v j
noncomputable def rP(ty l:TE):TE:=λg H Q=>ty g H λy m=>l g m λx j=>∃a o,x=.ref a/\O5 j a y o/\Q (.bl o.isSome) j
noncomputable def Zv(ty l:TE):TE:=λg H Q=>ty g H λy m=>l g m λx j=>∃a o,x=.ref a/\O5 j a y o/\Q (.bl (!o.isSome)) j
noncomputable def rZ(l ty m:TE):TS:=λD g H=>m g H λv o=>l g o λx s=>ty g s λy A=>∃a j,x=.ref a/\Xl A a y v j/\D.nx g j
variable{X:Cx}
noncomputable def jl:V->List V->Hp->VK->Prop:=λx j H Q=>∃l g y,x=.ref l/\j=[y]/\H l=some (.lst g)/\g.length < sizeLine/\Q .non (upd H l (.lst (g++[y])))
theorem UI:MtM X "list.append" jl:=by
 intro B s C H x E v G Q I m o h;obtain⟨l,J,y,rfl,rfl,g,L,q⟩:=h;cases m;obtain⟨u,rfl,A⟩:=o.one;obtain⟨z,j,n,r,N,e⟩:=I.lstM g;refine mJ F.slot_list_append ⟨_,e,rfl⟩ F.entry_list_append (F.args_list_append_2 _ _) (PySem.list_append l j.toArray n u (by rw[AZ];lia)) ⟨e,?_⟩;refine⟨.non,_,I.lset (its':=j++[u]) g e (by simp) (r.append (.cons A .nil)) ?_,rfl,q⟩;rw[AV,Ac]
 lia
noncomputable def nQ:V->List V->Hp->VK->Prop:=λx j H Q=>∃l g i k y,x=.ref l/\j=[.int i]/\H l=some (.lst g)/\-(2 ^ 63)<=i/\i < 2 ^ 63/\qi i g.length=some k/\g[k]?=some y/\Q y (upd H l (.lst (g.eraseIdx k)))
theorem fW:MtM X "list.pop" nQ:=by
 intro O s P H x R v S Q I m o h;obtain⟨l,A,i,k,y,rfl,rfl,j,B,C,E,G,q⟩:=h;cases m;obtain⟨u,rfl,J⟩:=o.one;obtain⟨t,rfl⟩:=J;obtain⟨z,g,n,r,L,e⟩:=I.lstM j;obtain⟨w,hw,N⟩:=r.get G
 refine mJ F.slot_list_pop ⟨_,e,rfl⟩ F.entry_list_pop (F.args_list_pop_2 _ _)
  (MeetsSeq.list_pop_at l g.toArray n i t k w (fitsIndex_both B C) (by rw[AZ,<-L];exact E) (by rw[<-Xx];exact hw) (by rw[AZ];lia)) ⟨e,?_⟩
 refine⟨y,_,I.lset (its':=g.eraseIdx k) j e ?_ (r.eraseIdx k) ?_,N,q⟩
 ·show g.toArray.eraseIdxIfInBounds k=(g.eraseIdx k).toArray
  rw[List.eraseIdxIfInBounds_toArray]
 ·have:=UM A k
  lia
noncomputable def eS:V->List V->Hp->VK->Prop:=λx j H Q=>∃l g,x=.ref l/\j=[]/\H l=some (.lst g)/\Q .non (upd H l (.lst g.reverse))
theorem Yr:MtM X "list.reverse" eS:=by
 intro B s C H x E v G Q I o A h;obtain⟨l,J,rfl,rfl,j,q⟩:=h;cases o;have g:=A.zero;subst g;obtain⟨z,m,n,r,L,e⟩:=I.lstM j;refine mJ F.slot_list_reverse ⟨_,e,rfl⟩ F.entry_list_reverse (F.args_list_reverse_1 _) (AutoSeq1.list_reverse_list_0 l m.toArray n (by rw[AZ];lia)) ⟨e,?_⟩;refine⟨.non,_,I.lset (its':=m.reverse) j e (by simp) r.reverse ?_,rfl,q⟩;rw[OS];omega
noncomputable def rCat:R2:=λx y H Q=>∃l b g j,x=.ref l/\y=.ref b/\H l=some (.lst g)/\H b=some (.lst j)/\g.length+j.length<=sizeLine/\∀p,H p=none->Q (.ref p) (upd H p (.lst (g++j)))
theorem oP:OpR X (DV .Add) rCat:=by
 intro J s L H x y v u Q I m o h;obtain⟨l,b,N,O,rfl,rfl,A,B,R,q⟩:=h;cases m;cases o;obtain⟨z,g,n,r,S,e⟩:=I.lstM A;obtain⟨U,j,Y,C,Z,E⟩:=I.lstM B;refine PySem.P.add_list e E ?_ (by rw[AZ,AZ];lia)
 have G:g.toArray++j.toArray=(g++j).toArray:=by simp
 rw[G];exact⟨.ref _,_,I.lnew (t':=s.toks) (r.append C) (by rw[AV];omega),rfl,q _ I.fresh⟩
section
variable{X:Cx}{o i value:Expr}{pos pos':Pos}{td ty tv:TE}
theorem j9(B:X.A.units+1 < Ez)(ho:PE X o td)(hi:PE X i ty)(C:qD i):PE X (.Subscript o i pos) (rR td ty):=by
 intro j s l H Q I h;refine jY PySem.F.slot_dict_getitem.lookup C (thn (ho j s l H _ I h) λu E ⟨x,G,J,L,N⟩=>thn (hi j E l G _ J N) λY Z ⟨y,O,m,P,a,v,ex,g,R⟩=>?_);subst ex;obtain rfl:u=Ai a:=L;exact⟨XU m g,cS B m g P λw' s3 S U=>⟨v,O,S,U,R⟩⟩
theorem oG(m:X.A.units+1 < Ez)(hi:PE X i ty)(ho:PE X o td):PC X .In i o (rP ty td):=by
 intro j s l H Q I h
 refine thn (hi j s l H _ I h) λU B ⟨y,C,E,G,J⟩=>thn (ho j B l C _ E J) λu Y ⟨x,L,N,O,a,P,ex,g,R⟩=>?_
 subst ex;obtain rfl:u=Ai a:=O
 exact d_in m N g G λZ S=>⟨.bl P.isSome,L,S,rfl,R⟩
theorem br(m:X.A.units+1 < Ez)(hi:PE X i ty)(ho:PE X o td):PC X .NotIn i o (Zv ty td):=by
 intro j s l H Q I h
 refine thn (hi j s l H _ I h) λU B ⟨y,C,E,G,J⟩=>thn (ho j B l C _ E J) λu Y ⟨x,L,N,O,a,P,ex,g,R⟩=>?_
 subst ex;obtain rfl:u=Ai a:=O
 exact kx m N g G λZ S=>⟨.bl (!P.isSome),L,S,rfl,R⟩
theorem jr(m:X.A.units+1 < Ez)(ho:PE X o td)(hi:PE X i ty)(B:PE X value tv)(C:Gy value (some (.Subscript o i pos')) pos.line X.env=pure false) :
  PS X (.Assign [.Subscript o i pos'] value pos) (rZ td ty tv):=by
 intro l s j H D I h;refine wpAny_Assign_Subscript (thn (B l s j H _ I h) λr E ⟨v,G,J,L,N⟩=>thn (ho l E j G _ J N) λu O ⟨x,P,Q,R,S⟩=>thn (hi l O j P _ Q S) λiv s3 ⟨y,H3,U,Y,a,Z,ex,g,q3⟩=>?_) C;subst ex;obtain rfl:u=Ai a:=R
 exact cR m U g Y L λs4 I4=>⟨j,Z,I4,q3⟩
end
theorem iC(h:CS)(hb:EI < h.objs.size):Cz P w H (h.push { cls:=.type "dict",data:=.dict #[] }) h.objs.size (.dK []):=
 ⟨Dx _,beq_eq_false_iff_ne.mpr (BW (Ao hb)),[],.nil,CS.DictOf.new h⟩
theorem iA(h:CS)(hb:EI < h.objs.size):Cz P w H (h.push { cls:=.type "dict",data:=.dict #[] }) h.objs.size (.dT []):=
 ⟨Dx _,beq_eq_false_iff_ne.mpr (BW (Ao hb)),[],.nil,_,#[],0,Aa _ rfl,⟨rfl,rfl,rfl⟩,rfl,rfl,HS⟩
noncomputable def nG:TE:=λ_ H Q=>∀p,H p=none->Q (.ref p) (upd H p (.dK []))
noncomputable def nF:TE:=λ_ H Q=>∀p,H p=none->Q (.ref p) (upd H p (.dT []))
variable{s:AK}
section
variable{X:Cx}{pos:Pos}
theorem fC:PE X (.Dict [] [] pos) nG:=λg s j H Q I h=>
 qg ⟨.ref s.heap.objs.size,_,I.laid (a:=s.heap.objs.size) (o:=.dK []) (t':=s.toks) (λ_ _ q=>AI _ q) (AO _) (iC s.heap I.big),rfl,h _ (I.hok.fresh (AO _))⟩
theorem fB:PE X (.Dict [] [] pos) nF:=λg s j H Q I h=>
 qg ⟨.ref s.heap.objs.size,_,I.laid (a:=s.heap.objs.size) (o:=.dT []) (t':=s.toks) (λ_ _ q=>AI _ q) (AO _) (iA s.heap I.big),rfl,h _ (I.hok.fresh (AO _))⟩
end
end
end L2
namespace Att
open PySem PySem.W PySem.Calls PyProof.Rows
theorem Qw:∀(ns:ZLi) (vs:List AE),WellAll P h vs (ns.map tW)->Dt vs ns:=by
 intro ns
 induction ns with
 | nil=>
  intro vs w;rw[Jb]at w;cases w;exact .nil
 | cons n ns g=>
  intro vs w;rw[As]at w
  cases w with
  | cons a b=>
   cases a;exact .cons _ _ (g _ b)
theorem bY{l:OpenLaw}{n:Nat}(B:l.most=some n){P:Params}{h:CS}{args:List WData}{g:List AE}
  (s:l.row.toRowW.claim.pre args=true) (C:WellAll P h g args) :
  ∃a vs ns,g=[Ai a]/\args=[WData.list (ns.map tW)]/\h.get? a=some { cls:=.type "list",data:=.seq vs.toArray }/\Dt vs ns/\ns.length<=n:=by
 have E:WShape.hasAll [] args [.list .int]=true:=(pre_splitW s).1;have A:l.pre.holds [] { args:=args }=true:=(pre_splitW s).2;obtain⟨d,r,rfl,G,I⟩:=hasAllW_cons E;obtain rfl:=hasAllW_nil I;obtain⟨S,rfl,J⟩:=hasW_list G;obtain⟨ns,rfl⟩:=items_int J
 have j:ns.length<=n:=by
  unfold OpenLaw.pre at A
  have m:(WTm.not (.lt (.lit (.int (n:Int))) (.len (.arg 0)))).holds [] { args:=[.list (ns.map .int)] }=true:=by
   have m:=(holds_andW A).1;rw[B]at m;exact m
  have o:=condW_of m (w_not (w_lt w_lit (w_len_list (w_arg rfl))));rw[AJ]at o
  refine RT λq=>?_
  have L:(n:Int) < ((ns.length:Nat):Int):=by omega
  first
   | (rw[wX L]at o;exact zX o (by decide))
   | (simp at o;omega)
 cases C with
 | cons N O=>
  cases O
  cases N with
  | list Q R=>exact⟨_,_,ns,rfl,rfl,Q,Qw ns _ R,j⟩
theorem bn(l:OpenLaw)(args:List WData):l.row.toRowW.claim.post args (.bool true) args=true:=
 postW_of (r:=l.row.toRowW) (X:=(true==true))
  (show qO [] (.bool true) .bool=true by first | rfl | decide | simp[qO,WShape.arms,WShape.armsAll])
  (show(WTm.eq .res (.lit (.bool true))).value [] { args:=args,res:=some (.bool true),after:=args }=some (.bool (true==true))from w_eq_bool (w_res rfl) w_lit) rfl
theorem Xe{l:OpenLaw}{n:Nat}{q:BP}{j:List Str}{N:(Str->Option AE)->CS->Prop}{O:Bu->CS->Prop}{d:DefRec}
  (U:l.most=some n) (X:d.params.defaults=[])
  (call:∀(w:Bu) (m g:AK) (E J:Str->Option AE) (B:AN) (o:Obj) (L I s:AE) (a:AN) (vs:List AE) (ns:ZLi),
   Ground q j [] N w m E J g.heap->O w g.heap ->
   g.heap.get? B=some o->o.data=.func (docDef d.name d.params d.body d.scope L I s)->g.heap.CodeRec I d.name->E d.name=some (.ref B) ->
   g.heap.get? a=some { cls:=.type "list",data:=.seq vs.toArray }->Dt vs ns->ns.length<=n->g.gens = #[] ->
   JZ (Ad l.prog w) TF (.call (.ref B) ⟨[.ref a],[]⟩) (λr s'=>r=.ok (.ret (.bool true))/\OldK g.heap s'.heap/\s'.os=g.os/\Jc s'.gens) g) :
  WalkO q j N O l.row.toRowW d [] (λf vs=>a7 f vs):=by
 intro w m g E J G Y B o L I s Z kV ho hd vg P wV hg Q R as we S hrd Y' wW;obtain rfl:Z=.none:=Dflts.none P X;obtain rfl:kV=.none:=Dflts.noKw P;obtain⟨a,vs,ns,rfl,rfl,wZ,A,C⟩:=bY U we Y';refine enter_call (TD (call w m g E J B o L I s a vs ns G Y ho (fd_plain hd) vg wV wZ A C hg) λr s' hq=>?_);obtain⟨rfl,h2,h3,h4⟩:=hq;exact⟨.inl ⟨.bool true,.bool true,[],rfl,λ_=>rfl,.bool true,bn l _,λ_=>⟨qr,λ_ hm=>(nomatch hm)⟩⟩,h2,h3,h4⟩
end Att
namespace L2
open PySem PySem.Spec PyProof.Rows
theorem Tz:∀{vs:List AE} {ns:ZLi},Dt vs ns->Bf (ns.map V.int) vs
 | _,_,.nil=>.nil
 | _,_,.cons n t h=>.cons ⟨t,rfl⟩ (Tz h)
noncomputable def lJ(H:Hp):Prop:=∀b,H b=none∨∃o g,H b=some (.frz o (.lst g))
theorem gH{P}{w}{K}{j J}{CX}{k}{L a}{fd}{x}{sp}{s₁}{vs}{ns}
  (Q:K.In s₁.heap) (R:s₁.heap.Ns Av j) (hb:s₁.heap.Ns X8 J) (zx:∀x:Str,x≠"__name__"->J x=G0 x) (Β:s₁.heap.NoLimit) (hg:s₁.gens = #[])
  (G:s₁.heap.get? a=some { cls:=.type "list",data:=.seq vs.toArray }) (hi:Dt vs ns) (S:ns.length<=sizeLine) (hr:HP k TF)
  (F:∀base:CS,K.In base->base.Ns Av j->DI P w K j base CX k L fd [x] sp) (yo:∀(s:AK) (u:AE),Xw s fd ⟨[u],[]⟩ [(x,u)])
  (w4:∀H:Hp,lJ H->SqL K H a (ns.map V.int)->sp [.ref a] H (λv _=>v=.bl true) λ_ _ _=>False)
  (Γ:∀H e s',CX [] H s₁ (λ_ _ _=>False) e s'->False) :
  JZ (Ad P w) TF (.call (.ref L) ⟨[.ref a],[]⟩) (λr s'=>r=.ok (.ret (.bool true))/\OldK s₁.heap s'.heap/\s'.os=s₁.os/\Jc s'.gens) s₁:=by
 have U:=Tz hi;have Δ:=hi.length
 have g:∀H:Hp,lJ H->SqL K H a (ns.map V.int)->HOk P w H s₁.heap->(∀b,H b≠none->b=a)->(H a≠none->K.lookup a=none) ->
   JZ (Ad P w) TF (.call (.ref L) ⟨[.ref a],[]⟩) (λr s'=>r=.ok (.ret (.bool true))/\OldK s₁.heap s'.heap/\s'.os=s₁.os/\Jc s'.gens) s₁:=by
  intro H X hS l Y hK
  have Z:∀{b:AN} {o:Obj},s₁.heap.get? b=some o->H b=none->(Vu s₁.heap H).get? b=some o:=λe n=>ge e n
  have yj:∀{b:AN} {o:Obj} {A:Array dC} {ep:Nat},s₁.heap.get? b=some o->o.data=.dict A ep->H b=none:=λ{b o A ep} e d=>by
   cases q:H b with
   | none=>rfl
   | some u=>
    have N:b=a:=Y b (by rw[q];simp);subst N;rw[G]at e;cases e;have d':lW vs.toArray _=Data.dict A ep:=d;cases d'
  have I:∀{b:AN} {m:Str->Option AE},s₁.heap.Ns b m->(Vu s₁.heap H).Ns b m:=λ{b m} ⟨o,A,ep,e,d,r⟩=>⟨o,A,ep,Z e (yj e d),d,r⟩
  have B:K.In (Vu s₁.heap H):=λb o e=>Z (Q b o e) (by
   cases q:H b with
   | none=>rfl
   | some u=>
    have N:b=a:=Y b (by rw[q];simp);subst N
    rw[hK (by rw[q];simp)]at e;cases e)
  have hM:Mod K j (Vu s₁.heap H):=⟨B,I R,⟨J,I hb,zx⟩,let ⟨mc,h1,h2⟩:=Β;⟨mc,I h1,h2⟩⟩;have e0:ZU P w K j (Vu s₁.heap H) TF [] s₁ H:=⟨rfl,hM,λb o e=>kL e,YF (cC _ _),trivial,λb hb=>zX (show b∈([]:List AN)from hb) (by simp),l,.of_eq hg⟩
  refine TD ((F _ B (I R)).run TF [] s₁ H ⟨[.ref a],[]⟩ [.ref a] [.ref a] _ _ hr e0 (yo s₁ (.ref a)) (.cons rfl .nil) (w4 H X hS)) λr s' h=>?_
  cases r with
  | error e=>exact(Γ H e s' h).elim
  | ok fl=>
   cases fl with
   | next=>exact EO h
   | brk=>exact EO h
   | cont=>exact EO h
   | ret u=>
    obtain⟨v,H',os,C,un,Ε,r',q⟩:=h;have q':v=.bl true:=q;subst q';obtain rfl:u=OV true:=r';refine⟨rfl,OldK.of_keep λb o e=>?_,os,C⟩
    cases q:H b with
    | none=>exact un.keep b o e q (by intro z;exact zX (show b∈([]:List AN)from z) (by simp)) (by simp)
    | some u=>
     rcases X b with z | ⟨ob,xs,z⟩
     ·rw[q]at z;cases z
     ·have z2:=un.frzs b ob _ z
      obtain⟨e1,_⟩:=l b _ z;obtain⟨e2,_⟩:=Ε b _ z2;rw[e]at e1;cases e1;exact e2
 cases O:K.lookup a with
 | some o=>
  have e:=Q a o O;rw[G]at e;cases e
  refine g (λ_=>none) (λ_=>.inl rfl) (.inr ⟨_,vs.toArray,_,O,rfl,rfl,rfl,by rw[AZ,Δ];exact S,by simpa using U⟩) (λb u z=>by have E:(none:Option HO)=some u:=z;cases E) (λb z=>zX rfl z) λz=>zX rfl z
 | none=>
  refine g (λb=>if b=a then some (.frz { cls:=.type "list",data:=.seq vs.toArray } (.lst (ns.map V.int)))else none) (λb=>?_) (.inl (.inr ⟨{ cls:=.type "list",data:=.seq vs.toArray },qX rfl⟩)) (λb u z=>?_) (λb z=>?_) λ_=>O
  ·by_cases hb:b=a
   ·exact .inr ⟨_,_,qX hb⟩
   ·exact .inl (qY hb)
  ·by_cases hb:b=a
   ·have E:=(qX hb).symm.trans z
    cases E;subst hb;exact⟨G,by rw[AJ];exact S,vs,_,U,G⟩
   ·have E:=(qY hb).symm.trans z
    cases E
  ·by_cases hb:b=a
   ·exact hb
   ·exact zX (qY hb) z
theorem i8{l:PySem.W.OpenLaw}{n k:Nat}{q:BP}{m:List Str}{N:(Str->Option AE)->CS->Prop}{I:Bu->CS->Prop}{d:DefRec}{K:Params->AD}{CX:Bu->CXT}{sp:Bu->Sp}{x:Str}
  (O:l.most=some n) (P:n<=sizeLine) (Q:d.params.defaults=[]) (R:HP k TF)
  (S:∀(w:Bu) (h:CS),I w h->(K w.params).In h)
  (F:∀(w:Bu) (B:Str->Option AE) (E:AN) (h:CS),(K w.params).In h->h.Ns Av B->B d.name=some (.ref E) ->
   ∃fd:Je,(∀(s:AK) (u:AE),Xw s fd ⟨[u],[]⟩ [(x,u)]) /\
    ∀base:CS,(K w.params).In base->base.Ns Av B->DI l.prog w (K w.params) B base (CX w) k E fd [x] (sp w))
  (U:∀(w:Bu) (H:Hp) (a:AN) (ns:ZLi),ns.length<=n->lJ H->SqL (K w.params) H a (ns.map V.int)->sp w [.ref a] H (λv _=>v=.bl true) λ_ _ _=>False)
  (X:∀(w:Bu) (H:Hp) (s:AK) (e:AE) (s':AK),CX w [] H s (λ_ _ _=>False) e s'->False) :
  PySem.W.WalkO q m N I l.row.toRowW d [] (λf vs=>a7 f vs):=by
 refine Att.Xe O Q λw J C B mb E o pm cd Z a vs ns G Y ho hd vg wV wZ A j hg=>?_
 have L:=S w _ Y;obtain⟨fd,hb,hF⟩:=F w B E _ L G.T.g wV
 exact gH L G.T.g G.T.b G.T.builtins G.T.nolimit hg wZ A (Au j P) R hF hb (λH hO hS=>U w H a ns j hO hS) λH e s'=>X w H C e s'
noncomputable def La(s:Dg)(j:Nat):Dg:=match s with
 | .ClassDef _ _ _ body _ _ _ _ _ _ _=>body.getD j (.Pass ⟨0,0,0,0⟩)
 | _=>.Pass ⟨0,0,0,0⟩
noncomputable def Lj(s:Dg):Arguments:=match s with
 | .FunctionDef _ a _ _ _ _ _ _ _ _=>a
 | _=>{ posonlyargs:=[],args:=[],vararg:=none,kwonlyargs:=[],kw_defaults:=[],kwarg:=none,defaults:=[] }
noncomputable def Ij(s:Dg):List Dg:=match s with
 | .FunctionDef _ _ b _ _ _ _ _ _ _=>b
 | _=>[]
noncomputable def Ay(s:Dg):TH:=match s with
 | .FunctionDef _ _ _ _ _ _ g _ _ _=>g
 | _=>{ kind:=.function,names:=[],isGenerator:=false,isCoroutine:=false }
structure Fun(K:AD)(x qual:Str)(st:Dg)(f:AN)(fd:Je):Prop where
 ex:∃(oc:AE) (od:Option AN) (kV doc pm:AE) (an:Option AN) (ua ct:AE) (vE:Array (Option AE)),
  fd=Ia x qual (Lj st) (Ij st) (Ay st) .none kV doc pm an ua ct/\K.lookup f=some ⟨oc,od,.func fd,vE⟩/\RO K ua qual=true
 kp:FL K (.ref f)=true
section
variable{K:AD}
theorem Fun.binds{x g}{st}{f}{fd}{ps}(F:Fun K x g st f fd)
  (h:∀(kV j l:AE) (m:Option AN) (o ct:AE) (us:List AE),us.length=ps.length->iu (Ia x g (Lj st) (Ij st) (Ay st) .none kV j l m o ct) ⟨us,[]⟩=pure (ps.zip us)):Binds K fd ps []:=by
 obtain⟨s,A,kV,j,l,m,o,ct,B,rfl,C,E⟩:=F.ex;exact .all (h kV j l m o ct)
theorem gw{x g}{st}{f}{A}{B o}{C}{kV j s m ct}(l:K.lookup f=some ⟨A,B,.func (Ia x g (Lj st) (Ij st) (Ay st) .none kV j s o m ct),C⟩)
  (c:RO K m g=true) (k:FL K (.ref f)=true):Fun K x g st f (Ia x g (Lj st) (Ij st) (Ay st) .none kV j s o m ct):=⟨⟨A,B,kV,j,s,o,m,ct,C,rfl,l,c⟩,k⟩
end
section
variable{X:Cx}
theorem pv(i:Nat)(g:X.N[i]?=some x:=by rfl)(j:Vis X.env.scope x:=by first | exact Sy rfl | exact QE (Sy rfl) | exact QE (QE rfl))(l:(x==("__debug__" : Str))=false:=by decide)
  (m:(x==("__classdict__" : Str))=false:=by decide):PE X (.Name x pos) (nC i):=nz g j l m
end
inductive D where
 | non | bl (b:Bool) | int (i:Int) | str (x:Str) | tup (ds:List D) | fro (ds:List D) | ref (n:Nat) | exc (C:AN)
noncomputable def To(K:AD)(H:Hp)(a:AN)(vs:List V):Prop:=
 (∃o,H a=some (.frz o (.lst vs))) ∨
  ∃(o:Obj) (g:Array AE) (n:Nat),K.lookup a=some o/\o.cls=.type "list"/\o.dict=none/\o.data=.seq g n/\g.size<=sizeLine/\Bf vs g.toList
theorem To.sq{K}{H}{a}{vs}(h:To K H a vs):SqL K H a vs:=by
 rcases h with h | h
 ·exact .inl (.inr h)
 ·exact .inr h
noncomputable def Tp(o:Obj)(C:AN):Prop:=o.cls=.ref C/\o.dict=none/\∃g,o.data=.fields g
mutual
inductive Bs(K:AD)(ρ:List AN)(H:Hp):D->V->Prop where
 | non:Bs K ρ H .non .non
 | bl (b:Bool):Bs K ρ H (.bl b) (.bl b)
 | int (i:Int):Bs K ρ H (.int i) (.int i)
 | str (x:Str):Bs K ρ H (.str x) (.str x)
 | tup {ds:List D} {a:AN} {vs:List V}:H a=some (.tup vs)->Ak K ρ H ds vs->Bs K ρ H (.tup ds) (.ref a)
 | fro {ds:List D} {a:AN} {vs:List V}:To K H a vs->Ak K ρ H ds vs->Bs K ρ H (.fro ds) (.ref a)
 | ref {n:Nat} {a:AN}:ρ[n]?=some a->Bs K ρ H (.ref n) (.ref a)
 | exc {C a:AN} {o:Obj} {u:HO}:H a=some (.frz o u)->Tp o C->Bs K ρ H (.exc C) (.ref a)
inductive Ak(K:AD)(ρ:List AN)(H:Hp):List D->List V->Prop where
 | nil:Ak K ρ H [] []
 | cons {d:D} {v:V} {ds:List D} {vs:List V}:Bs K ρ H d v->Ak K ρ H ds vs->Ak K ρ H (d :: ds) (v :: vs)
end
structure Le(K:AD)(ρ:List AN)(H:Hp)(ρ':List AN)(H':Hp):Prop where
 pre:∀(n:Nat) a,ρ[n]?=some a->ρ'[n]?=some a
 tup:∀a xs,H a=some (.tup xs)->H' a=some (.tup xs)
 frz:∀a o u,H a=some (.frz o u)->H' a=some (.frz o u)
 oth:∀a o,H a=some o->(∀n:Nat,ρ[n]?≠some a)->H' a=some o/\∀n:Nat,ρ'[n]?≠some a
theorem To.mono{K}{H g}{a}{xs}(l:∀a o u,H a=some (.frz o u)->g a=some (.frz o u))(h:To K H a xs):To K g a xs:=by
 rcases h with⟨o,h⟩ | h
 ·exact .inl ⟨o,l _ _ _ h⟩
 ·exact .inr h
section
variable{K:AD}{ρ ρ' ρ'':List AN}{H H' vP:Hp}
theorem Le.fro(l:Le K ρ H ρ' H'):∀a xs,To K H a xs->To K H' a xs:=λ_ _ h=>h.mono l.frz
theorem Le.refl:Le K ρ H ρ H:=⟨λ_ _ h=>h,λ_ _ h=>h,λ_ _ _ h=>h,λ_ _ h n=>⟨h,n⟩⟩
theorem Le.trans(a:Le K ρ H ρ' H')(b:Le K ρ' H' ρ'' vP):Le K ρ H ρ'' vP:=
 ⟨λn x h=>b.pre n x (a.pre n x h),λx g h=>b.tup x g (a.tup x g h),λx o u h=>b.frz x o u (a.frz x o u h),λx o h n=>b.oth x o (a.oth x o h n).1 (a.oth x o h n).2⟩
mutual
theorem Bs.mono(l:Le K ρ H ρ' H'):∀{d:D} {v:V},Bs K ρ H d v->Bs K ρ' H' d v
 | _,_,.non=>.non
 | _,_,.bl b=>.bl b
 | _,_,.int i=>.int i
 | _,_,.str x=>.str x
 | _,_,.tup h r=>.tup (l.tup _ _ h) (Ak.mono l r)
 | _,_,.fro h r=>.fro (l.fro _ _ h) (Ak.mono l r)
 | _,_,.ref h=>.ref (l.pre _ _ h)
 | _,_,.exc h e=>.exc (l.frz _ _ _ h) e
theorem Ak.mono(l:Le K ρ H ρ' H'):∀{ds:List D} {vs:List V},Ak K ρ H ds vs->Ak K ρ' H' ds vs
 | _,_,.nil=>.nil
 | _,_,.cons r t=>.cons (Bs.mono l r) (Ak.mono l t)
end
mutual
theorem Bs.more(l:∀(n:Nat) a,ρ[n]?=some a->ρ'[n]?=some a):∀{d:D} {v:V},Bs K ρ H d v->Bs K ρ' H d v
 | _,_,.non=>.non
 | _,_,.bl b=>.bl b
 | _,_,.int i=>.int i
 | _,_,.str x=>.str x
 | _,_,.tup h r=>.tup h (Ak.more l r)
 | _,_,.fro h r=>.fro h (Ak.more l r)
 | _,_,.ref h=>.ref (l _ _ h)
 | _,_,.exc h e=>.exc h e
theorem Ak.more(l:∀(n:Nat) a,ρ[n]?=some a->ρ'[n]?=some a):∀{ds:List D} {vs:List V},Ak K ρ H ds vs->Ak K ρ' H ds vs
 | _,_,.nil=>.nil
 | _,_,.cons r t=>.cons (Bs.more l r) (Ak.more l t)
end
mutual
theorem Bs.keep(j:∀a xs,H a=some (.tup xs)->H' a=some (.tup xs))(g:∀a o u,H a=some (.frz o u)->H' a=some (.frz o u)):∀{d:D} {v:V},Bs K ρ H d v->Bs K ρ H' d v
 | _,_,.non=>.non
 | _,_,.bl b=>.bl b
 | _,_,.int i=>.int i
 | _,_,.str x=>.str x
 | _,_,.tup h r=>.tup (j _ _ h) (Ak.keep j g r)
 | _,_,.fro h r=>.fro (h.mono g) (Ak.keep j g r)
 | _,_,.ref h=>.ref h
 | _,_,.exc h e=>.exc (g _ _ _ h) e
theorem Ak.keep(g:∀a xs,H a=some (.tup xs)->H' a=some (.tup xs))(j:∀a o u,H a=some (.frz o u)->H' a=some (.frz o u)):∀{ds:List D} {vs:List V},Ak K ρ H ds vs->Ak K ρ H' ds vs
 | _,_,.nil=>.nil
 | _,_,.cons r t=>.cons (Bs.keep g j r) (Ak.keep g j t)
end
theorem Ak.length:∀{ds:List D} {vs:List V},Ak K ρ H ds vs->ds.length=vs.length
 | _,_,.nil=>rfl
 | _,_,.cons _ t=>by rw[Aj,Aj,Ak.length t]
theorem Ak.get:∀{ds:List D} {vs:List V} {i:Nat} {d:D},Ak K ρ H ds vs->ds[i]?=some d->∃v,vs[i]?=some v/\Bs K ρ H d v
 | _,_,_,_,.nil,e=>by simp at e
 | _,_,0,_,.cons r _,e=>by simp at e;subst e;exact⟨_,rfl,r⟩
 | _,_,i+1,d,.cons _ t,e=>by
  obtain⟨v,g,j⟩:=Ak.get (i:=i) (d:=d) t (by simpa using e);exact⟨v,by simpa using g,j⟩
theorem Ak.get':∀{ds:List D} {vs:List V} {i:Nat} {v:V},Ak K ρ H ds vs->vs[i]?=some v->∃d,ds[i]?=some d/\Bs K ρ H d v
 | _,_,_,_,.nil,e=>by simp at e
 | _,_,0,_,.cons r _,e=>by simp at e;subst e;exact⟨_,rfl,r⟩
 | _,_,i+1,d,.cons _ t,e=>by
  obtain⟨v,g,j⟩:=Ak.get' (i:=i) (v:=d) t (by simpa using e);exact⟨v,by simpa using g,j⟩
theorem Ak.append:∀{ds es:List D} {vs us:List V},Ak K ρ H ds vs->Ak K ρ H es us->Ak K ρ H (ds++es) (vs++us)
 | _,_,_,_,.nil,s=>s
 | _,_,_,_,.cons r t,s=>.cons r (Ak.append t s)
theorem Ak.take:∀{ds:List D} {vs:List V} (n:Nat),Ak K ρ H ds vs->Ak K ρ H (ds.take n) (vs.take n)
 | _,_,0,_=>.nil
 | _,_,_+1,.nil=>.nil
 | _,_,n+1,.cons r t=>.cons r (Ak.take n t)
theorem Ak.drop:∀{ds:List D} {vs:List V} (n:Nat),Ak K ρ H ds vs->Ak K ρ H (ds.drop n) (vs.drop n)
 | _,_,0,r=>r
 | _,_,_+1,.nil=>.nil
 | _,_,n+1,.cons _ t=>Ak.drop n t
theorem Ak.set(r:Bs K ρ H d v):∀{ds:List D} {vs:List V} (i:Nat),Ak K ρ H ds vs->Ak K ρ H (ds.set i d) (vs.set i v)
 | _,_,_,.nil=>.nil
 | _,_,0,.cons _ t=>.cons r t
 | _,_,i+1,.cons q t=>.cons q (Ak.set r i t)
theorem Ak.reverse(h:Ak K ρ H ds vs):Ak K ρ H ds.reverse vs.reverse:=by
 induction ds generalizing vs with
 | nil=>cases h;exact .nil
 | cons d ds g=>
  cases h with
  | cons r t=>rw[Kj,Kj];exact(g t).append (.cons r .nil)
theorem Ak.of_ints:∀(ns:ZLi),Ak K ρ H (ns.map D.int) (ns.map V.int)
 | []=>.nil
 | n :: ns=>.cons (.int n) (Ak.of_ints ns)
theorem Ak.ints:∀{ns:ZLi} {vs:List V},Ak K ρ H (ns.map D.int) vs->vs=ns.map V.int
 | [],_,.nil=>rfl
 | n :: ns,_,.cons r t=>by
  cases r;rw[Ak.ints (ns:=ns) t];rfl
end
inductive Ob where
 | lst (ds:List D)
 | dK (f':List (Key×D))
 | dT (f':List (List Key×D))
 | ins (C:AN) (fs:List (Str×D))
 | fK (f':List (Key×D))
 | fT (f':List (List Key×D))
 | mem (L:Key->Int)
noncomputable abbrev Sto:=List Ob
noncomputable def Vj:List Key:=(Bl 1000).map λ(i:Nat)=>IS (i:Int)
noncomputable abbrev KVR{g:Type}(K:AD)(ρ:List AN)(H:Hp):List (g×D)->List (g×V)->Prop:=IH λ(p:g×D) (q:g×V)=>p.1=q.1/\Bs K ρ H p.2 q.2
noncomputable def EF(K:AD)(ρ:List AN)(H:Hp)(a:AN):Ob->Prop
 | .lst s=>∃m,H a=some (.lst m)/\Ak K ρ H s m
 | .dK j=>∃g,H a=some (.dK g)/\KVR K ρ H j g
 | .dT j=>∃g,H a=some (.dT g)/\KVR K ρ H j g
 | .ins C fs=>∃A o,H a=some (.ins C A o)/\KVR K ρ H fs o
 | .fK j=>∃l g,H a=some (.frz l (.dK g))/\KVR K ρ H j g
 | .fT j=>∃l g,H a=some (.frz l (.dT g))/\KVR K ρ H j g
 | .mem L=>∃g,H a=some (.dK g)/\(g.map (·.1)).Nodup/\∀x∈g,x.1∈Vj/\x.2=V.int (L x.1)
structure CA(K:AD)(ρ:List AN)(S:Sto)(H:Hp):Prop where
 len:ρ.length=S.length
 nd:∀(i j:Nat) a,ρ[i]?=some a->ρ[j]?=some a->i=j
 ob:∀(n:Nat) o a,S[n]?=some o->ρ[n]?=some a->EF K ρ H a o
section
variable{K:AD}{ρ ρ':List AN}{H H':Hp}{S:Sto}{a p:AN}{o:Ob}{n:Nat}{ho:HO}
theorem KVR.mono{g:Type}(l:Le K ρ H ρ' H'){x:List (g×D)}{y:List (g×V)}(h:KVR K ρ H x y):KVR K ρ' H' x y:=IH.mapP h λ_ _ z=>⟨z.1,z.2.mono l⟩
theorem KVR.keys{g:Type}:∀{x:List (g×D)} {y:List (g×V)},KVR K ρ H x y->x.map (·.1)=y.map (·.1)
 | _,_,.nil=>rfl
 | _,_,.cons r t=>by rw[As,As,r.1,KVR.keys t]
theorem EF.has(h:EF K ρ H a o):H a≠none:=by
 cases o with
 | lst g=>obtain⟨_,e,_⟩:=h;rw[e];exact λz=>nomatch z
 | dK g=>obtain⟨_,e,_⟩:=h;rw[e];exact λz=>nomatch z
 | dT g=>obtain⟨_,e,_⟩:=h;rw[e];exact λz=>nomatch z
 | ins C fs=>obtain⟨_,_,e,_⟩:=h;rw[e];exact λz=>nomatch z
 | fK g=>obtain⟨_,_,e,_⟩:=h;rw[e];exact λz=>nomatch z
 | fT g=>obtain⟨_,_,e,_⟩:=h;rw[e];exact λz=>nomatch z
 | mem L=>obtain⟨_,e,_⟩:=h;rw[e];exact λz=>nomatch z
theorem EF.mono(l:Le K ρ H ρ' H')(e:H' a=H a)(h:EF K ρ H a o):EF K ρ' H' a o:=by
 cases o with
 | lst A=>obtain⟨g,j,m⟩:=h;exact⟨g,e.trans j,m.mono l⟩
 | dK A=>obtain⟨g,j,m⟩:=h;exact⟨g,e.trans j,m.mono l⟩
 | dT A=>obtain⟨g,j,m⟩:=h;exact⟨g,e.trans j,m.mono l⟩
 | ins C fs=>obtain⟨s,g,j,m⟩:=h;exact⟨s,g,e.trans j,m.mono l⟩
 | fK A=>obtain⟨s,g,j,m⟩:=h;exact⟨s,g,e.trans j,m.mono l⟩
 | fT A=>obtain⟨s,g,j,m⟩:=h;exact⟨s,g,e.trans j,m.mono l⟩
 | mem L=>obtain⟨g,j,m⟩:=h;exact⟨g,e.trans j,m⟩
theorem EF.keep(m:∀a xs,H a=some (.tup xs)->H' a=some (.tup xs))(s:∀a o u,H a=some (.frz o u)->H' a=some (.frz o u))(e:H' a=H a)(h:EF K ρ H a o):EF K ρ H' a o:=by
 cases o with
 | lst B=>obtain⟨g,j,l⟩:=h;exact⟨g,e.trans j,l.keep m s⟩
 | dK B=>obtain⟨g,j,l⟩:=h;exact⟨g,e.trans j,IH.mapP l λ_ _ z=>⟨z.1,z.2.keep m s⟩⟩
 | dT B=>obtain⟨g,j,l⟩:=h;exact⟨g,e.trans j,IH.mapP l λ_ _ z=>⟨z.1,z.2.keep m s⟩⟩
 | ins C fs=>obtain⟨A,g,j,l⟩:=h;exact⟨A,g,e.trans j,IH.mapP l λ_ _ z=>⟨z.1,z.2.keep m s⟩⟩
 | fK B=>obtain⟨A,g,j,l⟩:=h;exact⟨A,g,e.trans j,IH.mapP l λ_ _ z=>⟨z.1,z.2.keep m s⟩⟩
 | fT B=>obtain⟨A,g,j,l⟩:=h;exact⟨A,g,e.trans j,IH.mapP l λ_ _ z=>⟨z.1,z.2.keep m s⟩⟩
 | mem L=>obtain⟨g,j,l⟩:=h;exact⟨g,e.trans j,l⟩
theorem EF.mono'(l:∀(n:Nat) a,ρ[n]?=some a->ρ'[n]?=some a)(h:EF K ρ H a o):EF K ρ' H a o:=by
 cases o with
 | lst A=>obtain⟨g,j,m⟩:=h;exact⟨g,j,m.more l⟩
 | dK A=>obtain⟨g,j,m⟩:=h;exact⟨g,j,IH.mapP m λ_ _ z=>⟨z.1,z.2.more l⟩⟩
 | dT A=>obtain⟨g,j,m⟩:=h;exact⟨g,j,IH.mapP m λ_ _ z=>⟨z.1,z.2.more l⟩⟩
 | ins C fs=>obtain⟨s,g,j,m⟩:=h;exact⟨s,g,j,IH.mapP m λ_ _ z=>⟨z.1,z.2.more l⟩⟩
 | fK A=>obtain⟨s,g,j,m⟩:=h;exact⟨s,g,j,IH.mapP m λ_ _ z=>⟨z.1,z.2.more l⟩⟩
 | fT A=>obtain⟨s,g,j,m⟩:=h;exact⟨s,g,j,IH.mapP m λ_ _ z=>⟨z.1,z.2.more l⟩⟩
 | mem L=>exact h
theorem HC(j:H p=none∨Mut (H p)):(∀a xs,H a=some (.tup xs)->upd H p ho a=some (.tup xs))/\∀a o u,H a=some (.frz o u)->upd H p ho a=some (.frz o u):=by
 have g:∀a u,H a=some u->¬Mut (some u)->a≠p:=λa u e l z=>by
  subst z
  rcases j with h | h
  ·rw[e]at h;cases h
  ·rw[e]at h;exact l h
 refine⟨λa xs e=>?_,λa o u e=>?_⟩
 ·rw[BA (g a _ e λz=>z)];exact e
 ·rw[BA (g a _ e λz=>z)];exact e
theorem Le.fresh(g:H p=none):Le K ρ H ρ (upd H p ho):=
 ⟨λ_ _ h=>h,(HC (.inl g)).1,(HC (.inl g)).2,λa o e n=>⟨by rw[BA (BU e g)];exact e,n⟩⟩
theorem Le.write(j:ρ[n]?=some p)(g:Mut (H p)):Le K ρ H ρ (upd H p ho):=
 ⟨λ_ _ h=>h,(HC (.inr g)).1,(HC (.inr g)).2,λa o e h=>⟨by rw[BA λz=>h n (by rw[z];exact j)];exact e,h⟩⟩
theorem JP{g:Type}{l:List g}{x:g}{m:Nat}{a:g}(e:(l++[x])[m]?=some a):(l[m]?=some a/\m < l.length)∨(m=l.length/\a=x):=by
 by_cases j:m < l.length
 ·rw[Al j]at e;exact .inl ⟨e,j⟩
 ·rw[BV (by lia)]at e
  have:m - l.length=0:=by
   have:=(AF.mp e).1;simp at this;omega
  rw[this]at e;exact .inr ⟨by lia,by simpa using e.symm⟩
theorem Le.alloc(g:H p=none):Le K ρ H (ρ++[p]) (upd H p ho):=by
 refine⟨λn a h=>by rw[Al (AF.mp h).1];exact h,(HC (.inl g)).1,(HC (.inl g)).2,λa o e h=>⟨by rw[BA (BU e g)];exact e,λn q=>?_⟩⟩
 rcases JP q with⟨q,_⟩ | ⟨_,q⟩
 ·exact h n q
 ·exact BU e g q
theorem CA.at(h:CA K ρ S H)(e:S[n]?=some o):∃a,ρ[n]?=some a/\EF K ρ H a o:=by
 have g:n < ρ.length:=by rw[h.len];exact(AF.mp e).1
 exact⟨ρ[n],by simp[g],h.ob n o _ e (by simp[g])⟩
theorem CA.there(h:CA K ρ S H){m:Nat}(e:ρ[m]?=some a):∃o,S[m]?=some o/\EF K ρ H a o:=by
 have g:m < S.length:=by rw[<-h.len];exact(AF.mp e).1
 exact⟨S[m],by simp[g],h.ob m _ a (by simp[g]) e⟩
theorem CA.notIn(h:CA K ρ S H)(g:H p=none){m:Nat}(e:ρ[m]?=some p):False:=by
 obtain⟨o,_,r⟩:=h.there e;exact r.has g
theorem CA.alloc(h:CA K ρ S H)(s:H p=none)(E:EF K (ρ++[p]) (upd H p ho) p o):CA K (ρ++[p]) (S++[o]) (upd H p ho)/\Le K ρ H (ρ++[p]) (upd H p ho)/\(ρ++[p])[S.length]?=some p:=by
 have le:Le K ρ H (ρ++[p]) (upd H p ho):=Le.alloc s
 have at':∀(m:Nat) a,(ρ++[p])[m]?=some a->(ρ[m]?=some a/\m < ρ.length)∨(m=ρ.length/\a=p):=λm a e=>JP e
 refine⟨⟨by simp[h.len],λi j a G I=>?_,λm J a l L=>?_⟩,le,by rw[<-h.len];simp⟩
 ·rcases at' i a G with⟨A,_⟩ | ⟨A,N⟩ <;> rcases at' j a I with⟨B,_⟩ | ⟨B,C⟩
  ·exact h.nd i j a A B
  ·rw[C]at A;exact(h.notIn s A).elim
  ·rw[N]at B;exact(h.notIn s B).elim
  ·lia
 ·rcases at' m a L with⟨g,O⟩ | ⟨rfl,rfl⟩
  ·rw[Al (by rw[<-h.len];exact O)]at l
   refine(h.ob m J a l g).mono le (BA λz=>?_);rw[z]at g;exact h.notIn s g
  ·rw[h.len]at l
   simp at l;subst l;exact E
theorem CA.write(h:CA K ρ S H)(j:ρ[n]?=some a)(l:EF K ρ (upd H a ho) a o)(le:Le K ρ H ρ (upd H a ho)):CA K ρ (S.set n o) (upd H a ho)/\Le K ρ H ρ (upd H a ho):=by
 refine⟨⟨by simp[h.len],h.nd,λm s b g hb=>?_⟩,le⟩
 by_cases e:m=n
 ·subst e
  rw[j]at hb;cases hb;rw[A0 (by rw[<-h.len];exact(AF.mp j).1)]at g;cases g;exact l
 ·rw[Af (BW e)]at g
  refine(h.ob m s b g hb).mono le (BA λz=>?_);subst z;exact e (h.nd m n b hb j)
theorem Le.back{m:Sto}(l:Le K ρ H ρ' H')(s:CA K ρ S H)(s':CA K ρ' m H')(j:H' p=none):H p=none:=by
 cases q:H p with
 | none=>rfl
 | some o=>
  by_cases g:∃n:Nat,ρ[n]?=some p
  ·obtain⟨n,g⟩:=g
   exact(s'.notIn j (l.pre n p g)).elim
  ·have:=(l.oth p o q λn h=>g ⟨n,h⟩).1
   rw[j]at this;cases this
theorem CA.adopt(h:CA K ρ S H)(C:∀m:Nat,ρ[m]?≠some p)(E:EF K (ρ++[p]) H p o):CA K (ρ++[p]) (S++[o]) H/\(ρ++[p])[S.length]?=some p:=by
 have le:∀a ob,EF K ρ H a ob->EF K (ρ++[p]) H a ob:=λa ob r=>by
  have G:∀(n:Nat) a,ρ[n]?=some a->(ρ++[p])[n]?=some a:=λn a h=>by rw[Al (AF.mp h).1];exact h
  exact r.mono' G
 refine⟨⟨by simp[h.len],λi j a I J=>?_,λm ob a g A=>?_⟩,by rw[<-h.len];simp⟩
 ·rcases JP I with⟨l,_⟩ | ⟨l,L⟩ <;> rcases JP J with⟨s,_⟩ | ⟨s,B⟩
  ·exact h.nd i j a l s
  ·rw[B]at l;exact(C i l).elim
  ·rw[L]at s;exact(C j s).elim
  ·lia
 ·rcases JP A with⟨A,N⟩ | ⟨rfl,rfl⟩
  ·rw[Al (by rw[<-h.len];exact N)]at g
   exact le a ob (h.ob m ob a g A)
  ·rw[h.len]at g
   simp at g;subst g;exact E
end
inductive Res(α:Type) where
 | ok (a:α) (S:Sto) | err (c:AN) (S:Sto) | bad
noncomputable def Res.bind{g β:Type}(r:Res g)(f:g->Sto->Res β):Res β:=match r with
 | .ok a S=>f a S
 | .err c S=>.err c S
 | .bad=>.bad
noncomputable abbrev Lo:=List (Option D)
noncomputable abbrev ME:=Lo->Sto->Res D
noncomputable abbrev MT:=Lo->Sto->Res Bool
noncomputable abbrev ML:=Lo->Sto->Res (List D)
inductive Fl where
 | nx (e:Lo) | rt (d:D) | bk (e:Lo) | ct (e:Lo) | ex (c:AN) (e:Lo)
noncomputable abbrev MS:=Lo->Sto->Res Fl
noncomputable abbrev MG:=D->Lo->Sto->Res Lo
noncomputable abbrev OM:=Sto->Option (List D)
noncomputable abbrev MI:=Lo->Sto->Res OM
structure FF(K:AD)(ρ:List AN)(H:Hp)(e:Lo)(σ:St):Prop where
 len:e.length=σ.length
 at':∀(i:Nat) d,e[i]?=some (some d)->∃v,σ[i]?=some (some v)/\Bs K ρ H d v
section
variable{K:AD}{ρ ρ':List AN}{H H':Hp}{e:Lo}{σ:St}
theorem FF.mono(l:Le K ρ H ρ' H')(h:FF K ρ H e σ):FF K ρ' H' e σ:=⟨h.len,λi d q=>by
 obtain⟨v,g,j⟩:=h.at' i d q
 exact⟨v,g,j.mono l⟩⟩
theorem FF.set(h:FF K ρ H e σ)(r:Bs K ρ H d v)(i:Nat):FF K ρ H (e.set i (some d)) (σ.set i (some v)):=by
 refine⟨by simp[h.len],λj m q=>?_⟩
 by_cases g:i=j
 ·subst g
  have l:i < e.length:=by
   have:=(AF.mp q).1;simpa using this
  rw[A0 l]at q;cases q;exact⟨v,by rw[A0 (by rw[<-h.len];exact l)],r⟩
 ·rw[Af g]at q ⊢
  exact h.at' j m q
end
noncomputable abbrev EW:=AN->St->Hp->Prop
noncomputable abbrev EH:=AN->Hp->Prop
noncomputable abbrev noE:EW:=λ_ _ _=>False
noncomputable abbrev noH:EH:=λ_ _=>False
noncomputable def B1{l:Type}(K:AD)(E:EH)(ρ:List AN)(H:Hp)(r:Res l)(k:l->Sto->Prop):Prop:=match r with
 | .ok a S=>k a S
 | .err c S=>∀g j,Le K ρ H g j->CA K g S j->E c j
 | .bad=>False
section
variable{K:AD}{E:EH}{ρ ρ1:List AN}{H H1:Hp}
theorem B1.seq(h:B1 K E ρ H (r.bind F) k)(f:∀a S,B1 K E ρ H (F a S) k->k' a S):B1 K E ρ H r k':=by
 cases r with
 | ok a S=>exact f a S h
 | err c S=>exact h
 | bad=>exact h
theorem B1.later(h:B1 K E ρ H r k)(l:Le K ρ H ρ1 H1):B1 K E ρ1 H1 r k:=by
 cases r with
 | ok a S=>exact h
 | err c S=>exact λg j m=>h g j (l.trans m)
 | bad=>exact h
theorem B1.imp(h:B1 K E ρ H r k)(f:∀a S,k a S->k' a S):B1 K E ρ H r k':=by
 cases r with
 | ok a S=>exact f a S h
 | err c S=>exact h
 | bad=>exact h
theorem B1.go(h:B1 K E ρ H r k)(l:Le K ρ H ρ1 H1)(f:∀a S,k a S->k' a S):B1 K E ρ1 H1 r k':=(h.later l).imp f
end
noncomputable def okR{g:Type}:Res g->Res g
 | .ok a S=>.ok a S
 | _=>.bad
theorem B1.okR{g:Type}{K:AD}{E:EH}{ρ:List AN}{H:Hp}{r:Res g}{k:g->Sto->Prop}(h:B1 K E ρ H (L2.okR r) k):∃a S,r=.ok a S/\k a S:=by
 cases r with
 | ok a S=>exact⟨a,S,rfl,h⟩
 | err c S=>exact h.elim
 | bad=>exact h.elim
section
variable(K:AD)(E:EW)
noncomputable def gE(m:ME):TE:=λo H Q=>∃j e S,FF K j H e o/\CA K j S H/\B1 K (λc=>E c o) j H (m e S) λd s=>∀g l x,Le K j H g l->CA K g s l->Bs K g l d x->Q x l
noncomputable def gT(m:MT):TT:=λo H Q=>∃j e S,FF K j H e o/\CA K j S H/\B1 K (λc=>E c o) j H (m e S) λb s=>∀g l,Le K j H g l->CA K g s l->Q b l
noncomputable def gA(m:ML):TA:=λo H Q=>∃j e S,FF K j H e o/\CA K j S H/\B1 K (λc=>E c o) j H (m e S) λA B=>∀g l s,Le K j H g l->CA K g B l->Ak K g l A s->Q s l
noncomputable def gL(m:ML):TE:=λo H Q=>∃l e S,FF K l H e o/\CA K l S H/\B1 K (λc=>E c o) l H (m e S) λA B=>∀g j p s,Le K l H g j->CA K g B j->Ak K g j A s->j p=some (.lst s)->(∀n:Nat,g[n]?≠some p)->H p=none->Q (.ref p) j
noncomputable def gQ(m:ML):TE:=λs H Q=>∃l e S,FF K l H e s/\CA K l S H/\B1 K (λc=>E c s) l H (m e S) λA B=>∀g j p o,Le K l H g j->CA K g B j->Ak K g j A o->(SqL K j p o∨SqT K j p o)->Q (.ref p) j
noncomputable def Sd(K:AD)(E:EW)(ρ:List AN)(H:Hp)(o:Sto)(D:ZV):Fl->Prop
 | .ex c m=>∀g j l,Le K ρ H g j->CA K g o j->FF K g j m l->E c l j
 | .nx m=>∀g j l,Le K ρ H g j->CA K g o j->FF K g j m l->D.nx l j
 | .bk m=>∀g j l,Le K ρ H g j->CA K g o j->FF K g j m l->D.bk l j
 | .ct m=>∀g j l,Le K ρ H g j->CA K g o j->FF K g j m l->D.ct l j
 | .rt d=>∀g j x,Le K ρ H g j->CA K g o j->Bs K g j d x->D.rt x j
noncomputable def gS(m:MS):TS:=λD j H=>∃g e S,FF K g H e j/\CA K g S H/\B1 K noH g H (m e S) λl o=>Sd K E g H o D l
noncomputable def gG(m:MG):TG:=λv s H Q=>∃j e S d,Bs K j H d v/\FF K j H e s/\CA K j S H/\B1 K noH j H (m d e S) λA B=>∀g o l,Le K j H g o->CA K g B o->FF K g o A l->Q l o
noncomputable def OL(l:List AN)(s:Hp)(J:It)(v:OM):Prop:=∀m H S o (i:Nat),Le K l s m H->CA K m S H->v S=some o ->
 (o[i]?=none->J.stop i H)/\∀d,o[i]?=some d->J.go i H/\∀x j,J.yld i H x j->∃g,Le K m H g j/\CA K g S j/\Bs K g j d x
noncomputable def gI(m:MI):TI:=λo H R=>∃j e S,FF K j H e o/\CA K j S H/\B1 K (λc=>E c o) j H (m e S) λv s=>∀g l J,Le K j H g l->CA K g s l->OL K g l J v->R J l
end
noncomputable abbrev GE(X:Cx)(E:EW)(e:Expr)(m:ME):Prop:=PE X e (gE X.K E m)
noncomputable abbrev GT(X:Cx)(E:EW)(e:Expr)(m:MT):Prop:=PT X e (gT X.K E m)
noncomputable abbrev GA(X:Cx)(E:EW)(es:List Expr)(m:ML):Prop:=PA X es (gA X.K E m)
noncomputable abbrev GL(X:Cx)(E:EW)(e:Expr)(m:ML):Prop:=PE X e (gL X.K E m)
noncomputable abbrev GQ(X:Cx)(E:EW)(e:Expr)(m:ML):Prop:=PE X e (gQ X.K E m)
noncomputable abbrev GS(X:Cx)(E:EW)(s:Dg)(m:MS):Prop:=PS X s (gS X.K E m)
noncomputable abbrev GSs(X:Cx)(E:EW)(s:List Dg)(m:MS):Prop:=PSs X s (gS X.K E m)
noncomputable abbrev GG(X:Cx)(t:Expr)(m:MG):Prop:=PG X t (gG X.K m)
noncomputable abbrev GI(X:Cx)(E:EW)(tg t:Expr)(m:MI):Prop:=PI X tg t (gI X.K E m)
theorem PE.imp(h:PE X e t)(i:∀g H Q,t' g H Q->t g H Q):PE X e t':=λj s g H Q I q=>h j s g H Q I (i g H Q q)
theorem PT.imp(h:PT X e t)(i:∀g H Q,t' g H Q->t g H Q):PT X e t':=λj s g H Q I q=>h j s g H Q I (i g H Q q)
theorem PW.imp(h:PW X e t)(i:∀g H Q,t' g H Q->t g H Q):PW X e t':=λj l s g H Q I q=>h j l s g H Q I (i g H Q q)
theorem PA.imp(h:PA X e t)(i:∀g H Q,t' g H Q->t g H Q):PA X e t':=λj l s g H Q I q=>h j l s g H Q I (i g H Q q)
theorem PS.imp(h:PS X e t)(i:∀D g H,t' D g H->t D g H):PS X e t':=λj s g H D I q=>h j s g H D I (i D g H q)
theorem PSs.imp(h:PSs X e t)(i:∀D g H,t' D g H->t D g H):PSs X e t':=λj s g H D I q=>h j s g H D I (i D g H q)
theorem PG.imp(h:PG X e t)(i:∀v g H Q,t' v g H Q->t v g H Q):PG X e t':=λj s g H v u Q I r q=>h j s g H v u Q I r (i v g H Q q)
theorem PI.imp(h:PI X tg e t)(i:∀g H R,t' g H R->t g H R):PI X tg e t':=λj s g H R I q=>h j s g H R I (i g H R q)
theorem OpR.imp(h:OpR X f r)(i:∀x y H Q,r' x y H Q->r x y H Q):OpR X f r':=λg s j H x y v u Q I l m q=>h g s j H x y v u Q I l m (i x y H Q q)
theorem IxR.imp(h:IxR X r)(i:∀x y H Q,r' x y H Q->r x y H Q):IxR X r':=λg sl j s l H x y v u Q I m o q=>h g sl j s l H x y v u Q I m o (i x y H Q q)
noncomputable def AH(i:Nat):ME:=λe S=>match e[i]? with
 | some (some d)=>.ok d S
 | _=>.bad
noncomputable def mC(d:D):ME:=λ_ S=>.ok d S
section
variable{X:Cx}{E:EW}{e a b:Expr}{pos:Pos}{ma mb:ME}
theorem AC(h:PE X e (nC i)):GE X E e (AH i):=h.imp<|by
 rintro C H Q ⟨j,l,S,m,o,g⟩
 unfold AH at g;split at g
 ·rename_i G s
  obtain⟨v,A,B⟩:=m.at' i _ s;exact⟨v,A,g j H v .refl o B⟩
 ·exact g.elim
theorem gt(h:PE X e (tC v))(g:∀ρ H,Bs X.K ρ H d v):GE X E e (mC d):=h.imp<|by
 rintro o H Q ⟨ρ,l,S,s,j,m⟩
 exact m ρ H v .refl j (g _ _)
theorem ge_int{i j pos}:GE X E (.Constant (.int i) j pos) (mC (.int i)):=gt oC λ_ _=>.int i
theorem gu{b j pos}:GE X E (.Constant (.bool b) j pos) (mC (.bl b)):=gt sE λ_ _=>.bl b
theorem Vz{j pos}:GE X E (.Constant .none j pos) (mC .non):=gt oA λ_ _=>.non
theorem P0{x j pos}:GE X E (.Constant (.str x) j pos) (mC (.str x)):=gt n8 λ_ _=>.str x
theorem SY(g:Gl X x)(j:X.mg x=some (.int i tk))(l:(x==("__debug__" : Str))=false:=by decide):GE X E (.Name x pos) (mC (.int i)):=
 gt (Jw (v:=.int i) g j ⟨tk,rfl⟩ l) λ_ _=>.int i
noncomputable def m2(f:D->D->Sto->Res D)(ma mb:ME):ME:=λe S=>(ma e S).bind λx g=>(mb e g).bind λy j=>okR (f x y j)
noncomputable def rD(K:AD)(f:D->D->Sto->Res D):R2:=λu v H Q=>∃j S x y d m,CA K j S H/\Bs K j H x u/\Bs K j H y v/\f x y S=.ok d m /\
 ∀g l z,Le K j H g l->CA K g m l->Bs K g l d z->Q z l
theorem N5{K:AD}{f:D->D->Sto->Res D}{A:St}{H:Hp}{Q:VK}(h:gE K E (m2 f ma mb) A H Q):tOp (rD K f) (gE K E ma) (gE K E mb) A H Q:=by
 obtain⟨G,l,S,B,I,g⟩:=h;refine⟨G,l,S,B,I,g.seq λx J g j H1 u m L N=>⟨j,l,J,B.mono m,L,(g.later m).seq λy O g o H2 v C P R=>?_⟩⟩;obtain⟨d,U,e,k⟩:=g.okR;exact⟨o,O,x,y,d,U,P,N.mono C,R,e,λs Y z Z s' r'=>k s Y z (m.trans (C.trans Z)) s' r'⟩
theorem Aw(ho:OpR X (DV op) (rD X.K f))(g:GE X E a ma)(hb:GE X E b mb):GE X E (.BinOp a op b pos) (m2 f ma mb):=(sC ho g hb).imp λ_ _ _ h=>N5 h
theorem pR(ho:OpR X (Bt op) (rD X.K f))(g:GE X E a ma)(hb:GE X E b mb)(j:Df op b=false):GE X E (.Compare a [op] [b] pos) (m2 f ma mb):=(kB ho g hb j).imp λ_ _ _ h=>N5 h
theorem tI(ho:IxR X (rD X.K f))(g:GE X E a ma)(hb:GE X E b mb)(j:WE b:=by intro _ _;rfl):GE X E (.Subscript a b pos) (m2 f ma mb):=(sD ho g hb j).imp λ_ _ _ h=>N5 h
noncomputable def mB(m:ME):MT:=λe S=>(m e S).bind λd g=>match d with
 | .bl b=>.ok b g
 | _=>.bad
noncomputable def aD(d:D)(S:Sto):Option Bool:=match d with
 | .non=>some false
 | .bl b=>some b
 | .int i=>some (i != 0)
 | .tup g=>some (!g.isEmpty)
 | .fro g=>some (!g.isEmpty)
 | .ref n=>match S[n]? with
  | some (.lst g)=>some (!g.isEmpty)
  | some (.dK j)=>some (!j.isEmpty)
  | _=>none
 | _=>none
noncomputable def Vk(m:ME):MT:=λe S=>(m e S).bind λd g=>match aD d g with
 | some b=>.ok b g
 | none=>.bad
theorem Ak.empty{K}{ρ}{H}{ds}{vs}(h:Ak K ρ H ds vs):ds.isEmpty=vs.isEmpty:=by cases h <;> rfl
theorem KVR.empty{g:Type}{K:AD}{ρ:List AN}{H:Hp}{x:List (g×D)}{y:List (g×V)}(h:KVR K ρ H x y):x.isEmpty=y.isEmpty:=by cases h <;> rfl
theorem jT{K:AD}{ρ:List AN}{H:Hp}{S:Sto}{d:D}{x:V}{b:Bool}(s:CA K ρ S H)(r:Bs K ρ H d x)(h:aD d S=some b):p8 K x H b:=by
 cases r with
 | non=>cases h;rfl
 | bl c=>cases h;rfl
 | int i=>cases h;rfl
 | str x=>cases h
 | tup g j=>cases h;rw[j.empty];exact .inr (.inl ⟨_,.inl (.inl g),rfl⟩)
 | fro g j=>cases h;rw[j.empty];exact .inl ⟨_,g.sq,rfl⟩
 | exc _ _=>cases h
 | @ref n a A=>
  obtain⟨o,B,m⟩:=s.there A;unfold aD at h;simp only[B]at h
  cases o with
  | lst J=>cases h;obtain⟨G,e,l⟩:=m;rw[l.empty];exact .inl ⟨_,.inl (.inl e),rfl⟩
  | dK I=>cases h;obtain⟨G,e,l⟩:=m;rw[KVR.empty l];exact .inr (.inr ⟨_,e,rfl⟩)
  | dT I=>cases h
  | ins C fs=>cases h
  | fK _=>cases h
  | fT _=>cases h
  | mem _=>cases h
theorem gj(h:GE X E e ma)(o:∀g,X5 e X.env g=(do let v <-g;QC e.pos;Gz [v] (mH v)):=by intro _;rfl):GT X E e (mB ma):=(nU h o).imp<|by
 rintro L H Q ⟨s,l,S,A,B,j⟩
 refine⟨s,l,S,A,B,j.seq λd N j m C x G I J=>?_⟩
 cases d <;> first | exact j.elim | skip
 cases J;exact⟨_,rfl,j m C G I⟩
theorem Ow(h:GE X E e ma)(s:∀g,X5 e X.env g=(do let v <-g;QC e.pos;Gz [v] (mH v)):=by intro _;rfl):GT X E e (Vk ma):=(eW h s).imp<|by
 rintro N H Q ⟨A,l,S,B,C,j⟩
 refine⟨A,l,S,B,C,j.seq λd G j m I x J o L=>?_⟩
 cases hb:aD d G with
 | none=>rw[hb]at j;exact j.elim
 | some c=>
  rw[hb]at j;exact⟨c,jT o L hb,j m I J o⟩
theorem Fa{op}{f}(ho:OpR X (Bt op) (rD X.K f))(m:GE X E a ma)(hb:GE X E b mb)(g:Df op b=false):GT X E (.Compare a [op] [b] pos) (mB (m2 f ma mb)):=(jn ho m hb g).imp<|by
 rintro L H Q ⟨o,l,S,s,A,g⟩
 refine N5 (Q:=λx B=>∃k,x=.bl k/\Q k B) ⟨o,l,S,s,A,g.seq λd N g j C x G I J=>?_⟩
 cases d <;> first | exact g.elim | skip
 cases J;exact⟨_,rfl,g j C G I⟩
noncomputable def Qu(m:MT):MT:=λe S=>(m e S).bind λb g=>.ok (!b) g
noncomputable def mOr(ma mb:MT):MT:=λe S=>(ma e S).bind λb g=>if b=true then .ok true g else mb e g
variable{ta tb:MT}{rest:List Expr}
theorem Vv(h:GT X E a ta):GT X E (.UnaryOp .Not a pos) (Qu ta):=(nV h).imp<|by
 rintro G H Q ⟨m,l,S,o,s,g⟩
 exact⟨m,l,S,o,s,g.seq λd I g j A B C=>g j A B C⟩
theorem nD{K}{s}{H}{Q}(h:gT K E (mOr ta tb) s H Q):tOr (gT K E ta) (gT K E tb) s H Q:=by
 obtain⟨C,l,S,A,G,g⟩:=h;refine⟨C,l,S,A,G,g.seq λc I g j J m B=>?_⟩
 cases c with
 | false=>rw[qY AT]at g ⊢;exact⟨j,l,I,A.mono m,B,g.go m λ_ _ k o L N O=>k o L (m.trans N) O⟩
 | true=>rw[qX rfl]at g ⊢;exact g j J m B
noncomputable abbrev GW(X:Cx)(E:EW)(e:Expr)(m:MT):Prop:=PW X e (gT X.K E m)
theorem gi(g:GT X E a ta):GW X E (.BoolOp .Or [a] pos) ta:=nR g
theorem ls(g:GT X E a ta)(hb:GW X E (.BoolOp .Or (b :: rest) pos) tb):GW X E (.BoolOp .Or (a :: b :: rest) pos) (mOr ta tb):=(rp g hb).imp λ_ _ _ h=>nD h
theorem tH(h:GW X E e t):GT X E e t:=PW.pt h
noncomputable def fq(ma mb:ME):ME:=λe S=>(ma e S).bind λd g=>match d with
 | .bl true=>mb e g
 | .bl false=>.ok (.bl false) g
 | _=>.bad
theorem pO{op}(h:GE X E a ma):GE X E (.BoolOp op [a] pos) ma:=n9 h
theorem pS(B:GE X E a ma)(hb:GE X E (.BoolOp .And (b :: rest) pos) mb):GE X E (.BoolOp .And (a :: b :: rest) pos) (fq ma mb):=(oF B hb).imp<|by
 rintro U H Q ⟨C,l,S,s,G,g⟩
 refine⟨C,l,S,s,G,g.seq λc I g j J x m A L=>?_⟩
 cases c with
 | bl c=>
  cases L;refine⟨c,rfl,?_⟩
  cases c with
  | true=>rw[qX rfl];exact⟨j,l,I,s.mono m,A,g.go m λ_ _ k o N z O P R=>k o N z (m.trans O) P R⟩
  | false=>rw[qY AT];exact g j J _ m A (.bl false)
 | _=>exact g.elim
noncomputable def Vl(t:MT)(ma mb:ME):ME:=λe S=>(t e S).bind λb g=>if b=true then ma e g else mb e g
theorem Oz(L:GT X E c ta)(N:GE X E a ma)(hb:GE X E b mb):GE X E (.IfExp c a b pos) (Vl ta ma mb):=(fA L N hb).imp<|by
 rintro R H Q ⟨O,l,S,s,P,j⟩
 refine⟨O,l,S,s,P,j.seq λc I j o U m J=>?_⟩
 cases c with
 | true=>rw[qX rfl]at j ⊢;exact⟨o,l,I,s.mono m,J,j.go m λ_ _ k g A z B C G=>k g A z (m.trans B) C G⟩
 | false=>rw[qY AT]at j ⊢;exact⟨o,l,I,s.mono m,J,j.go m λ_ _ k g A z B C G=>k g A z (m.trans B) C G⟩
noncomputable def m3(f g:D->D->Sto->Res D)(ma mb l:ME):ME:=λe S=>(ma e S).bind λx m=>(mb e m).bind λy o=>(okR (f x y o)).bind λz j=>match z with
 | .bl true=>(l e j).bind λw s=>okR (g y w s)
 | .bl false=>.ok (.bl false) j
 | _=>.bad
noncomputable def BE:ML:=λ_ S=>.ok [] S
noncomputable def AR(m:ME)(r:ML):ML:=λe S=>(m e S).bind λd g=>(r e g).bind λj l=>.ok (d :: j) l
variable{es:List Expr}{ml:ML}
theorem An:GA X E [] BE:=IM.imp<|by
 rintro o H Q ⟨g,l,S,s,j,m⟩
 exact m g H [] .refl j .nil
theorem AM(C:GE X E e ma)(G:GA X E es ml)(j:AQ (e :: es) X.env=(false,Bd e X.env) :: AQ es X.env:=by rfl):GA X E (e :: es) (AR ma ml):=(FB C G j).imp<|by
 rintro Y H Q ⟨I,l,S,A,j,g⟩
 exact⟨I,l,S,A,j,g.seq λd J g m Z x o L N=>⟨m,l,J,A.mono o,L,(g.later o).seq λuS S2 g s O P B R U=>g s O (x :: P) (o.trans B) R (.cons (N.mono B) U)⟩⟩
noncomputable def Nc(m:ML):ME:=λe S=>(m e S).bind λg j=>if g.length<=sizeLine then .ok (.tup g) j else .bad
theorem Fq{K}{ρ}{H}{S}{p}{ho}(g:CA K ρ S H)(j:H p=none):CA K ρ S (upd H p ho)/\Le K ρ H ρ (upd H p ho):=by
 have le:Le K ρ H ρ (upd H p ho):=Le.fresh j;refine⟨⟨g.len,g.nd,λn o a m l=>(g.ob n o a m l).mono le (BA λz=>?_)⟩,le⟩;subst z;exact g.notIn j l
theorem OE{s}(h:GA X E es ml):GE X E (.Tuple es s pos) (Nc ml):=(e7 h).imp<|by
 rintro P H Q ⟨A,l,S,B,C,g⟩
 refine⟨A,l,S,B,C,g.seq λR U g j Y G I J m=>?_⟩;split at g
 ·rename_i L
  refine⟨by rw[<-m.length];exact L,λp N=>?_⟩;obtain⟨O,o⟩:=Fq (ho:=.tup G) J N;exact g j _ _ (I.trans o) O (.tup Bc (m.mono o))
 ·exact g.elim
noncomputable def En(m:ML):ML:=λe S=>(m e S).bind λg j=>if g.length<=sizeLine then .ok g j else .bad
theorem HD(h:GA X E es ml):GL X E (.List es pos) (En ml):=(oB h).imp<|by
 rintro O H Q ⟨I,l,S,J,s,g⟩
 refine⟨I,l,S,J,s,g.seq λP R g j U A B m C=>?_⟩;split at g
 ·rename_i L
  refine⟨by rw[<-C.length];exact L,λp o=>?_⟩;obtain⟨N,G⟩:=Fq (ho:=.lst A) m o;exact g j _ p A (B.trans G) N (C.mono G) Bc (λn q=>m.notIn o q) (B.back s m o)
 ·exact g.elim
noncomputable def Ga(m:ML):ME:=λe S=>(m e S).bind λj g=>.ok (.ref g.length) (g++[.lst j])
theorem D5(h:GL X E e ml):GE X E e (Ga ml):=PE.imp h<|by
 rintro Y H Q ⟨B,l,S,C,G,m⟩
 refine⟨B,l,S,C,G,m.seq λI Z m g H1 p J j L N O P R=>?_⟩
 have A:∀(n:Nat) a,g[n]?=some a->(g++[p])[n]?=some a:=λn a h=>by rw[Al (AF.mp h).1];exact h
 obtain⟨U,s⟩:=L.adopt (o:=.lst I) P ⟨J,O,N.more A⟩;refine m _ _ _ ⟨λn a h=>A n a (j.pre n a h),j.tup,j.frz,λa o e h=>⟨(j.oth a o e h).1,λn q=>?_⟩⟩ U (.ref s)
 rcases JP q with⟨q,_⟩ | ⟨_,q⟩
 ·exact(j.oth a o e h).2 n q
 ·exact BU e R q
noncomputable def IA(d:D)(S:Sto):Option (List D):=match d with
 | .tup g=>some g
 | .fro g=>some g
 | .ref n=>match S[n]? with
  | some (.lst g)=>some g
  | _=>none
 | _=>none
noncomputable def XC(m:ME):ML:=λe S=>(m e S).bind λd g=>match IA d g with
 | some j=>.ok j g
 | none=>.bad
theorem RA{K}{ρ}{H}{S}{d}{x}{ds}(l:CA K ρ S H)(r:Bs K ρ H d x)(h:IA d S=some ds):∃p xs,x=.ref p/\Ak K ρ H ds xs/\(SqL K H p xs∨SqT K H p xs):=by
 cases r with
 | tup g j=>cases h;exact⟨_,_,rfl,j,.inr (.inl (.inl g))⟩
 | fro g j=>cases h;exact⟨_,_,rfl,j,.inl g.sq⟩
 | @ref n a m=>
  obtain⟨o,s,A⟩:=l.there m;unfold IA at h;simp only[s]at h
  cases o with
  | lst es=>cases h;obtain⟨C,e,B⟩:=A;exact⟨_,_,rfl,B,.inl (.inl (.inl e))⟩
  | _=>cases h
 | _=>cases h
theorem lu(h:GE X E e ma):GQ X E e (XC ma):=PE.imp h<|by
 rintro O H Q ⟨s,l,S,A,B,g⟩
 refine⟨s,l,S,A,B,g.seq λx C g j G v I o J=>?_⟩
 cases m:IA x C with
 | none=>rw[m]at g;exact g.elim
 | some P=>
  rw[m]at g;obtain⟨p,L,rfl,N,sq⟩:=RA o J m;exact g j G p L I o N sq
end
noncomputable def Res.lift{g:Type}(r:Res g)(e:Lo)(f:g->Sto->Res Fl):Res Fl:=match r with
 | .ok a S=>f a S
 | .err c S=>.ok (.ex c e) S
 | .bad=>.bad
theorem B1.lift{m:Type}{K:AD}{E:EW}{ρ g:List AN}{H j:Hp}{o:St}{e:Lo}{D:ZV}{r:Res m}{F:m->Sto->Res Fl}{k':m->Sto->Prop}(h:B1 K noH g j (r.lift e F) λs A=>Sd K E ρ H A D s)(G:FF K g j e o)(l:Le K ρ H g j)
  (f:∀a S,(B1 K noH g j (F a S) λs A=>Sd K E ρ H A D s)->k' a S):B1 K (λc=>E c o) g j r k':=by
 cases r with
 | ok a S=>exact f a S h
 | err c S=>exact λB I C J=>h B I o (l.trans C) J (G.mono C)
 | bad=>exact h
noncomputable def sNx:MS:=λe S=>.ok (.nx e) S
noncomputable def VV:MS:=λ_ _=>.bad
noncomputable def BO(a b:MS):MS:=λe S=>(a e S).bind λf g=>match f with
 | .nx j=>b j g
 | f=>.ok f g
noncomputable def Eb(m:ME):MS:=λe S=>(m e S).lift e λ_ g=>.ok (.nx e) g
noncomputable def EQ(m:ME):MS:=λe S=>(m e S).lift e λd g=>.ok (.rt d) g
noncomputable def sIf(t:MT)(a b:MS):MS:=λe S=>(t e S).lift e λc g=>if c=true then a e g else b e g
noncomputable def Wt(m:ME)(g:MG):MS:=λe S=>(m e S).lift e λd j=>(g d e j).bind λl o=>.ok (.nx l) o
noncomputable def tgN(i:Nat):MG:=λd e S=>.ok (e.set i (some d)) S
noncomputable def Ci(i:Nat)(m:ME):MS:=Wt m (tgN i)
section
variable{X:Cx}{E:EW}{st:Dg}{rest:List Dg}{e:Expr}{pos:Pos}{a b:MS}{t:MT}
theorem Sd.later{K}{ρ s}{H A}{S}{D}{f}(l:Le K ρ H s A)(h:Sd K E ρ H S D f):Sd K E s A S D f:=by
 cases f with
 | nx e=>exact λg m j o=>h g m j (l.trans o)
 | bk e=>exact λg m j o=>h g m j (l.trans o)
 | ct e=>exact λg m j o=>h g m j (l.trans o)
 | ex c e=>exact λg m j o=>h g m j (l.trans o)
 | rt d=>exact λg m x o=>h g m x (l.trans o)
theorem DF:GSs X E [] sNx:=jp.imp<|by
 rintro D g H ⟨j,l,S,m,o,s⟩
 exact s j H g .refl o m
theorem AX(s:GS X E st a)(A:GSs X E rest b):GSs X E (st :: rest) (BO a b):=(eZ s A).imp<|by
 rintro D P H ⟨B,l,S,C,G,j⟩
 refine⟨B,l,S,C,G,j.seq λg I j=>?_⟩
 cases g with
 | nx J=>exact λm Q L o N O=>⟨m,J,I,O,N,j.go o λ_ _ k=>k.later o⟩
 | rt d=>exact j
 | bk d=>exact j
 | ct d=>exact j
 | ex c d=>exact j
theorem Ag(g:GS X E st a):GSs X E [st] a:=jo g
noncomputable def sBk:MS:=λe S=>.ok (.bk e) S
theorem gm:GS X E (.Break pos) sBk:=eh.imp<|by
 rintro D g H ⟨j,l,S,m,o,s⟩
 exact s j H g .refl o m
theorem Ms:GS X E st VV:=(ee (X:=X) (st:=st)).imp λD j H ⟨m,l,S,o,s,g⟩=>g.elim
theorem FC(B:GE X E e m)(g:Gy e none pos.line X.env=pure false:=by rfl):GS X E (.Expr e pos) (Eb m):=(jq B g).imp<|by
 rintro D C H ⟨G,l,S,j,g,o⟩
 exact⟨G,l,S,j,g,o.lift j .refl λd L o s I x A J N=>o s I C A J (j.mono A)⟩
theorem Cd(s:GE X E e m):GS X E (.Return (some e) pos) (EQ m):=(nX s).imp<|by
 rintro D L H ⟨A,l,S,o,B,g⟩
 exact⟨A,l,S,o,B,g.lift o .refl λd N g j C x G I J=>g j C x G I J⟩
theorem Fb{c}{s A}(G:GT X E c t)(I:GSs X E s a)(hb:GSs X E A b):GS X E (.If c s A pos) (sIf t a b):=(rq G I hb).imp<|by
 rintro D N H ⟨J,l,S,o,L,g⟩
 refine⟨J,l,S,o,L,g.lift o .refl λc B g m O j C=>?_⟩
 cases c with
 | true=>rw[qX rfl]at g ⊢;exact⟨m,l,B,o.mono j,C,g.go j λ_ _ k=>k.later j⟩
 | false=>rw[qY AT]at g ⊢;exact⟨m,l,B,o.mono j,C,g.go j λ_ _ k=>k.later j⟩
theorem ka(h:PG X tg (aS i)):GG X tg (tgN i):=h.imp<|by
 rintro v A H Q ⟨g,l,S,d,j,m,o,s⟩
 exact s g H _ .refl o (m.set j i)
theorem pG{tg:Expr}{g:MG}(I:GE X E e m)(J:GG X tg g)(o:swapsWithSole [tg] e pos.line X.env=pure false:=by rfl)(hw:swappedStores [tg] e X.env=pure none:=by rfl)
  (L:(FJ [tg] X.env).map (·.2)=[N0 tg X.env]:=by rfl):GS X E (.Assign [tg] e pos) (Wt m g):=(nb I J o hw L).imp<|by
 rintro D σ H ⟨N,l,S,s,o,j⟩
 exact⟨N,l,S,s,o,j.lift s .refl λd O j A H1 x B P Q=>⟨A,l,O,d,Q,s.mono B,P,(j.later B).seq λe1 S2 j C R G U Y Z=>j C R G (B.trans U) Y Z⟩⟩
theorem pE{i}{x}{g}(C:X.N.Nodup)(hi:X.N[i]?=some x)(G:Loc X.env.scope x)(I:GE X E e m)(j:Gy e (some (.Name x g)) pos.line X.env=pure false:=by rfl)
  (J:X.fn x=true∨X.env.scope.names.lookup x=some .local:=by first | exact .inl rfl | exact .inr rfl | assumption):GS X E (.Assign [.Name x g] e pos) (Ci i m):=(nW C hi G I j J).imp<|by
 rintro D R H ⟨L,l,S,o,j,s⟩
 exact⟨L,l,S,o,j,s.lift o .refl λd U s A O x B P Q=>s A O _ B P ((o.mono B).set Q i)⟩
noncomputable def MF(v:OM)(g:MG)(b:MS):Nat->Nat->Lo->Sto->Res Fl
 | k,i,e,S=>match v S with
  | none=>.bad
  | some m=>match m[i]? with
   | none=>.ok (.nx e) S
   | some d=>match k with
    | 0=>.bad
    | k+1=>(g d e S).bind λo s=>(b o s).bind λf l=>match f with
     | .nx j=>MF v g b k (i+1) j l
     | .ct j=>MF v g b k (i+1) j l
     | .bk j=>.ok (.nx j) l
     | .rt d=>.ok (.rt d) l
     | .ex c j=>.ok (.ex c j) l
noncomputable def D1(v:OM)(S:Sto):Nat:=match v S with
 | none=>0
 | some g=>g.length
noncomputable def Fy(m:MI)(g:MG)(b:MS):MS:=λe S=>(m e S).lift e λv j=>MF v g b (D1 v j) 0 e j
theorem De{tg iter}{body}{mi}{g}(hp:QD (Ad X.prog X.w) X.A X.env X.xe)(hc:X.calm=true)(hi:GI X E tg iter mi)(hg:GG X tg g)(hb:GSs X E body b)
  (hs:∀x,GF iter X.env x=pure x:=by intro _;rfl):GS X E (.For tg iter body [] pos) (Fy mi g b):=(nY hp hc hi hg hb hs).imp<|by
 rintro D σ H ⟨ρ,l,S,hl,hs,hm⟩
 refine⟨ρ,l,S,hl,hs,hm.lift hl .refl λv S1 hm L H1 J Z s1 vo=>?_⟩;refine⟨λi n N O=>∃j P C,Le X.K L H1 j O/\FF X.K j O P N/\CA X.K j C O/\B1 X.K noH j O (MF v g b n i P C) λfl S'=>Sd X.K E ρ H S' D fl,⟨D1 v S1,L,l,S1,.refl,hl.mono Z,s1,hm.later Z⟩,?_⟩;rintro i n N O ⟨j,P,C,Q,r2,s2,m⟩;unfold MF at m
 cases hv:v C with
 | none=>rw[hv]at m;exact m.elim
 | some ds=>
  rw[hv]at m;dsimp only at m;obtain⟨v1,v2⟩:=vo j O C ds i Q s2 hv
  cases hd:ds[i]? with
  | none=>
   rw[hd]at m;exact .inl ⟨v1 hd,m j O N (Z.trans Q) s2 r2⟩
  | some d=>
   rw[hd]at m;dsimp only at m;obtain⟨go,yl⟩:=v2 d hd
   cases n with
   | zero=>exact m.elim
   | succ n=>
    dsimp only at m;refine .inr ⟨go,λσ' R=>∃j P C,Le X.K L H1 j R/\FF X.K j R P σ'/\CA X.K j C R/\B1 X.K noH j R (MF v g b n (i+1) P C) λfl S'=>Sd X.K E ρ H S' D fl,λσ' R q=>⟨n,C0 n,q⟩,λx R y=>?_⟩;obtain⟨ρ3,U,s3,rd⟩:=yl x R y;refine⟨ρ3,P,C,d,rd,r2.mono U,s3,(m.later U).seq λe3 S3 m ρ4 H4 σ4 l4 s4 r4=>?_⟩;refine⟨ρ4,e3,S3,r4,s4,(m.later l4).seq λf4 S4 m=>?_⟩
    cases f4 with
    | nx e5=>exact λo Y s B G I=>⟨o,e5,S4,Q.trans (U.trans (l4.trans B)),I,G,m.later B⟩
    | ct e5=>exact λo Y s B G I=>⟨o,e5,S4,Q.trans (U.trans (l4.trans B)),I,G,m.later B⟩
    | bk e5=>exact λo Y s B G I=>m o Y s (Z.trans (Q.trans (U.trans (l4.trans B)))) G I
    | ex c e5=>exact λo Y s B G I=>m o Y s (Z.trans (Q.trans (U.trans (l4.trans B)))) G I
    | rt d5=>exact λo Y x5 B G I=>m o Y x5 (Z.trans (Q.trans (U.trans (l4.trans B)))) G I
noncomputable def JG(c:MT)(b:MS):Nat->MS
 | 0=>λ_ _=>.bad
 | n+1=>λe S=>(c e S).lift e λt l=>if t=true then(b e l).bind λf j=>match f with
   | .nx g=>JG c b n g j
   | .ct g=>JG c b n g j
   | .bk g=>.ok (.nx g) j
   | .rt d=>.ok (.rt d) j
   | .ex c g=>.ok (.ex c g) j
  else .ok (.nx e) l
theorem gl{c}{body}(N:Nat)(hp:QD (Ad X.prog X.w) X.A X.env X.xe)(hc:GT X E c t)(hb:GSs X E body b):GS X E (.While c body [] pos) (JG t b N):=(ed hp hc hb).imp<|by
 rintro D σ H ⟨Q,l,S,hl,hs,hm⟩
 refine⟨λn J R=>∃g I L,Le X.K Q H g R/\FF X.K g R I J/\CA X.K g L R/\B1 X.K noH g R (JG t b n I L) λfl S'=>Sd X.K E Q H S' D fl,⟨N,Q,l,S,.refl,hl,hs,hm⟩,?_⟩;rintro n J R ⟨g,I,L,O,r2,s2,m⟩
 cases n with
 | zero=>exact m.elim
 | succ n=>
  refine⟨g,I,L,r2,s2,m.lift r2 O λtc S3 m U H3 B s3=>?_⟩
  cases tc with
  | false=>rw[qY AT]at m ⊢;exact m U H3 J (O.trans B) s3 (r2.mono B)
  | true=>
   rw[qX rfl]at m ⊢;refine⟨λY Z=>∃g I L,Le X.K Q H g Z/\FF X.K g Z I Y/\CA X.K g L Z/\B1 X.K noH g Z (JG t b n I L) λfl S'=>Sd X.K E Q H S' D fl,λY Z q=>⟨n,C0 n,q⟩,?_⟩;refine⟨U,I,S3,r2.mono B,s3,(m.later B).seq λf4 S4 m=>?_⟩
   cases f4 with
   | nx e5=>exact λj P o s C G=>⟨j,e5,S4,O.trans (B.trans s),G,C,m.later s⟩
   | ct e5=>exact λj P o s C G=>⟨j,e5,S4,O.trans (B.trans s),G,C,m.later s⟩
   | bk e5=>exact λj P o s C G=>m j P o (O.trans (B.trans s)) C G
   | ex c e5=>exact λj P o s C G=>m j P o (O.trans (B.trans s)) C G
   | rt d5=>exact λj P x5 s C G=>m j P x5 (O.trans (B.trans s)) C G
end
section
variable{X:Cx}{E:EW}{tg e:Expr}{m:ME}{K:AD}
noncomputable def GV(d:D):OM:=λS=>match d with
 | .ref n=>match S[n]? with
  | some (.lst g)=>some g
  | _=>none
 | .fro g=>some g
 | _=>none
noncomputable def L6(ds:List D):OM:=λ_=>some ds
noncomputable def tD(m:ME):MI:=λe S=>(m e S).bind λd g=>match GV d g with
 | some _=>.ok (GV d) g
 | none=>.bad
noncomputable def lr(m:ME):MI:=λe S=>(m e S).bind λd g=>match d with
 | .tup j=>.ok (L6 j) g
 | _=>.bad
theorem Iy(s:CA K ρ S H)(r:Bs K ρ H d (.ref a))(g:GV d S=some ds):∃xs,SqL K H a xs/\Ak K ρ H ds xs:=by
 cases r with
 | tup j l=>cases g
 | exc _ _=>cases g
 | fro j l=>cases g;exact⟨_,j.sq,l⟩
 | @ref n _ A=>
  obtain⟨o,B,C⟩:=s.there A;unfold GV at g;simp only[B]at g
  cases o with
  | lst J=>
   cases g;obtain⟨G,e,I⟩:=C;exact⟨G,.inl (.inl e),I⟩
  | _=>cases g
theorem Rf(r:Bs K ρ H d (.ref a)):OL K ρ H (Itl K a) (GV d):=by
 intro g L S N i l s B;obtain⟨j,sq,o⟩:=Iy s (r.mono l) B;refine⟨λC=>⟨j,sq,by rw[<-o.length];exact DK.mp C⟩,λd G=>?_⟩;obtain⟨x,A,I⟩:=o.get G;refine⟨⟨j,x,sq,A⟩,λy O ⟨e,J⟩=>?_⟩;subst e;have:=J j sq;rw[A]at this;cases this;exact⟨g,.refl,s,I⟩
theorem pL(h:GE X E e m):GI X E tg e (tD m):=(jy h).imp<|by
 rintro O H R ⟨B,l,S,C,G,g⟩
 refine⟨B,l,S,C,G,g.seq λd I g o J x L A s=>?_⟩
 cases j:GV d I with
 | none=>rw[j]at g;exact g.elim
 | some P=>
  rw[j]at g
  have:∃a,x=.ref a:=by
   cases s <;> first | exact⟨_,rfl⟩ | (cases j;done)
  obtain⟨a,rfl⟩:=this;obtain⟨N,sq,_⟩:=Iy A s j;exact⟨a,rfl,⟨N,sq⟩,g o J _ L A (Rf s)⟩
theorem Rc(A:H a=some (.tup xs))(B:Ak K ρ H ds xs):OL K ρ H (Itt K a) (L6 ds):=by
 intro g C S O i l s G;cases G;have j:=B.mono l;have sq:SqT K C a xs:=.inl (.inl (l.tup _ _ A));refine⟨λI=>⟨xs,sq,by rw[<-j.length];exact DK.mp I⟩,λd J=>?_⟩;obtain⟨x,o,L⟩:=j.get J;refine⟨⟨xs,x,sq,o⟩,λy P ⟨e,N⟩=>?_⟩;subst e;have:=N xs sq;rw[o]at this;cases this;exact⟨g,.refl,s,L⟩
theorem pJ(h:GE X E e m):GI X E tg e (lr m):=(nj h).imp<|by
 rintro N H R ⟨s,l,S,A,B,g⟩
 refine⟨s,l,S,A,B,g.seq λd O g j C x G I J=>?_⟩
 cases d <;> first | exact g.elim | skip
 cases J with
 | tup o L=>exact⟨_,rfl,⟨_,.inl (.inl o)⟩,g j C _ G I (Rc o L)⟩
noncomputable def HY(lo:Int)(n:Nat):List D:=(Bl n).map λi:Nat=>D.int (lo+i)
theorem UE(lo:Int)(n i:Nat):(HY lo n)[i]?=if i < n then some (.int (lo+i))else none:=by
 unfold HY;rw[Ae]
 by_cases h:i < n
 ·rw[Dm h,qX h];rfl
 ·rw[qY h,DK.mpr (by simpa using h)];rfl
theorem Re(lo:Int)(n:Nat):OL K ρ H (Itr lo n) (L6 (HY lo n)):=by
 intro g C S G i l s A;cases A;rw[UE];refine⟨λo=>?_,λd j=>?_⟩
 ·split at o
  ·cases o
  ·rename_i h;exact RT h
 ·split at j
  ·rename_i h
   cases j;refine⟨h,λy I ⟨e,B⟩=>?_⟩;subst e;subst B;exact⟨g,.refl,s,.int _⟩
  ·cases j
noncomputable def iR1(ml:ML):MI:=λe S=>(ml e S).bind λg l=>match g with
 | [.int j]=>if -(2 ^ 62)<=j/\j < 2 ^ 62 then .ok (L6 (HY 0 j.toNat)) l else .bad
 | _=>.bad
noncomputable def iR2(ml:ML):MI:=λe S=>(ml e S).bind λg l=>match g with
 | [.int i,.int j]=>if -(2 ^ 62)<=i/\i < 2 ^ 62/\-(2 ^ 62)<=j/\j < 2 ^ 62 then .ok (L6 (HY i (j - i).toNat)) l else .bad
 | _=>.bad
theorem D8(B:Gl X "range") (g:X.mg "range" = none) (C:GA X E [a] ml) (o:AQ [a] X.env=[(false,Bd a X.env)]:=by rfl):GI X E tg (.Call (.Name "range" p) [a] [] pos) (iR1 ml):=(bp B g C o).imp<|by
 rintro P H R ⟨G,l,S,I,o,g⟩
 refine⟨G,l,S,I,o,g.seq λQ U g s J Y L N O=>?_⟩;split at g
 ·rename_i j
  split at g
  ·rename_i A
   cases O with
   | cons r t=>
    cases t;cases r;exact⟨j,rfl,A.1,A.2,g s J _ L N (Re 0 j.toNat)⟩
  ·exact g.elim
 ·exact g.elim
theorem cG(A:Gl X "range") (g:X.mg "range" = none) (B:GA X E [a,b] ml) (o:AQ [a,b] X.env=[(false,Bd a X.env),(false,Bd b X.env)]:=by rfl) (C:AQ [b] X.env=[(false,Bd b X.env)]:=by rfl) :
  GI X E tg (.Call (.Name "range" p) [a,b] [] pos) (iR2 ml):=(bo A g B o C).imp<|by
 rintro U H R ⟨G,l,S,I,o,g⟩
 refine⟨G,l,S,I,o,g.seq λY Z g s J xs L N O=>?_⟩;split at g
 ·rename_i i j
  split at g
  ·rename_i P
   cases O with
   | cons r t=>
    cases t with
    | cons Q t=>
     cases t;cases r;cases Q;exact⟨i,j,rfl,P,g s J _ L N (Re i _)⟩
  ·exact g.elim
 ·exact g.elim
end
noncomputable def Km:List D->Lo->Sto->Res Lo
 | [],e,S=>.ok e S
 | _,_,_=>.bad
noncomputable def Dd(g:MG)(r:List D->Lo->Sto->Res Lo):List D->Lo->Sto->Res Lo
 | d :: j,e,S=>(g d e S).bind λl m=>r j l m
 | [],_,_=>.bad
noncomputable def Jp(n:Nat)(r:List D->Lo->Sto->Res Lo):MG:=λd e S=>match d with
 | .tup g=>if g.length=n then r g e S else .bad
 | _=>.bad
section
variable{X:Cx}
noncomputable def gGs(K:AD)(r:List D->Lo->Sto->Res Lo):TGs:=λs A H Q=>∃j e S o,Ak K j H o s/\FF K j H e A/\CA K j S H/\B1 K noH j H (r o e S) λB C=>∀g m l,Le K j H g m->CA K g C m->FF K g m B l->Q l m
noncomputable abbrev GGs(X:Cx)(ts:List Expr)(r:List D->Lo->Sto->Res Lo):Prop:=PGs X ts (gGs X.K r)
theorem PGs.imp(h:PGs X ts t)(i:∀vs g H Q,t' vs g H Q->t vs g H Q):PGs X ts t':=λj s g H vs l Q I r q=>h j s g H vs l Q I r (i vs g H Q q)
theorem NR:GGs X [] Km:=j4.imp<|by
 rintro C m H Q ⟨o,l,S,g,s,A,B,j⟩
 cases g with
 | nil=>cases s;exact⟨rfl,j o H m .refl B A⟩
 | cons d g=>exact j.elim
theorem Er(E:GG X e g)(G:GGs X es r)
  (m:(FJ (e :: es) X.env).map (·.2)=N0 e X.env :: (FJ es X.env).map (·.2):=by rfl):GGs X (e :: es) (Dd g r):=(ez E G m).imp<|by
 rintro vs σ H Q ⟨I,l,S,o,J,L,m,j⟩
 cases o with
 | nil=>exact j.elim
 | cons d o=>
  cases J with
  | cons N O=>
   exact⟨_,_,rfl,I,l,S,d,N,L,m,j.seq λP R j s H1 U A Y Z=>⟨s,P,R,o,O.mono A,Z,Y,j.go A λ_ _ k B H2 C l2 s2 r2=>k B H2 C (A.trans l2) s2 r2⟩⟩
theorem Pz(o:X.calm=true)(h:GGs X es r)
  (s:(FJ es X.env).length=n:=by rfl) (A:(FJ es X.env).findIdx? (·.1)=none:=by rfl):GG X (.Tuple es k pos) (Jp n r):=(nv o h s A).imp<|by
 rintro v L H Q ⟨B,l,S,d,C,E,G,g⟩
 cases d <;> first | exact g.elim | skip
 rename_i I
 cases C with
 | tup J m=>
  unfold Jp at g;dsimp only at g;split at g
  ·rename_i j
   exact⟨_,_,rfl,.inl (.inl J),by rw[<-m.length];exact j,B,l,S,I,m,E,G,g⟩
  ·exact g.elim
end
noncomputable def spM(K:AD)(n:Nat)(f:List D->Sto->Res D):Sp:=λo H Q E=>∃l m S,m.length=n/\Ak K l H m o/\CA K l S H/\B1 K (λc j=>E (.ref c) none j) l H (f m S) λd s=>
 ∀g j x,Le K l H g j->CA K g s j->Bs K g j d x->Q x j
theorem spM.len{K}{n}{f}{vs}{H}{Q}{E}(h:spM K n f vs H Q E):vs.length=n:=by
 obtain⟨l,m,S,g,j,_⟩:=h;rw[<-j.length];exact g
noncomputable def B2(n:Nat)(f:List D->Sto->Res D)(m:ML):ME:=λe S=>(m e S).bind λg j=>if g.length=n then f g j else .bad
noncomputable def No(C:AN)(n:Nat)(f:List D->Sto->Res D)(m:ML):ME:=λe S=>(m e S).bind λj g=>if j.length+1=n then(f (.ref g.length :: j) (g++[.ins C []])).bind (λd l=>match d with
  | .non=>.ok (.ref g.length) l
  | _=>.bad)else .bad
noncomputable def Uv(E:EW)(g:St):XK:=λv o H=>o=none/\∃c,v=.ref c/\E c g H
section
variable{X:Cx}{E:EW}{k n:Nat}{x:Str}{e:Expr}{es:List Expr}
theorem B1.xk{o:Type}{K:AD}{A:St}{ρ g:List AN}{H B:Hp}{r:Res o}{k k':o->Sto->Prop}(h:B1 K (λc=>E c A) ρ H r k)(l:Le K ρ H g B)(f:∀a S,k a S->k' a S):B1 K (λc j=>Uv E A (.ref c) none j) g B r k':=by
 cases r with
 | ok a S=>exact f a S h
 | err c S=>exact λm j C s=>⟨rfl,c,rfl,h m j (l.trans C) s⟩
 | bad=>exact h
theorem Bo(F:DI X.prog X.w X.K X.mg X.base CX k f fd ps (spM X.K n g))(C:Ls CX X (Uv E))(G:HP k X.A)(I:Gl X x)(j:X.mg x=some (.ref f))(J:FL X.K (.ref f)=true)(hb:Binds X.K fd ps [])
  (L:GA X E (e :: es) ml) (N:(x==("__debug__" : Str))=false:=by decide) (O:AQ (e :: es) X.env=(false,Bd e X.env) :: AQ es X.env:=by rfl) (P:(Da pos (AQ es X.env)).any (·.1)=false:=by rfl) :
  GE X E (.Call (.Name x p) (e :: es) [] pos) (B2 n g ml):=(kC (E:=Uv E) F G I j J hb .nil C L N O P).imp<|by
 rintro σ H Q ⟨R,l,S,U,Y,j⟩
 refine⟨R,l,S,U,Y,j.seq λZ S1 j o H1 xs B s1 r1=>?_⟩;split at j
 ·rename_i m
  rw[Ba];exact⟨o,Z,S1,m,r1,s1,j.xk B λ_ _ k s H' z l' s' r'=>k s H' z (B.trans l') s' r'⟩
 ·exact j.elim
theorem aP(M:Mk X.K C f)(F:DI X.prog X.w X.K X.mg X.base CX k f fd ps (spM X.K n g))(Z:Ls CX X (Uv E))(hr:HP (k+1) X.A)(hg:Gl X x)(j:X.mg x=some (.ref C))(hb:Binds X.K fd ps [])
  (B:GA X E (e :: es) ml) (uP:(x==("__debug__" : Str))=false:=by decide) (he:AQ (e :: es) X.env=(false,Bd e X.env) :: AQ es X.env:=by rfl) (ub:(Da pos (AQ es X.env)).any (·.1)=false:=by rfl) :
  GE X E (.Call (.Name x p) (e :: es) [] pos) (No C n g ml):=(j8 (E:=Uv E) M F hr hg j hb .nil Z B uP he ub).imp<|by
 rintro σ H Q ⟨ρ,l,S,hl,hs,j⟩
 refine⟨ρ,l,S,hl,hs,j.seq λds R j G H1 xs U s1 r1 a I B J uT=>?_⟩;split at j
 ·rename_i m
  rw[Ba];obtain⟨s2,L⟩:=Fq (ho:=.own a) s1 J
  have N:upd H1 I (.own a) a=none:=by rw[BA (BW uT)];exact B
  obtain⟨s3,O,s⟩:=s2.alloc (p:=a) (ho:=.ins C I []) (o:=.ins C []) N ⟨I,[],Bc,.nil⟩;refine⟨G++[a],.ref R.length :: ds,R++[.ins C []],by simpa using m,.cons (.ref s) (r1.mono (L.trans O)),s3,B1.xk (j.seq λz S2 j=>j) (U.trans (L.trans O)) λz S2 j P H' y Y s' r'=>?_⟩
  cases z <;> first | exact j.elim | skip
  cases r';exact⟨rfl,j P H' _ (U.trans (L.trans (O.trans Y))) s' (.ref (Y.pre _ _ s))⟩
 ·exact j.elim
end
theorem KVR.lookup{K}{ρ}{H}(f:Str):∀{x:List (Str×D)} {y:List (Str×V)} {d:D},KVR K ρ H x y->x.lookup f=some d->∃v,y.lookup f=some v/\Bs K ρ H d v
 | _,_,_,.nil,h=>by simp at h
 | (g,a) :: x,(o,b) :: y,d,.cons r t,h=>by
  obtain⟨j,l⟩:=r;dsimp only at j l;subst j;rw[BQ]at h ⊢
  cases m:(f==g)with
  | true=>rw[m]at h;cases h;exact⟨b,rfl,l⟩
  | false=>rw[m]at h;exact KVR.lookup f t h
noncomputable def Jh(f:Str)(v:D):List (Str×D)->List (Str×D)
 | []=>[(f,v)]
 | (g,x) :: r=>if g=f then(g,v) :: r else(g,x) :: Jh f v r
theorem KVR.putF{K}{ρ}{H}(f:Str){d}{v}(l:Bs K ρ H d v):∀{x:List (Str×D)} {y:List (Str×V)},KVR K ρ H x y->KVR K ρ H (Jh f d x) (putF f v y)
 | _,_,.nil=>.cons ⟨rfl,l⟩ .nil
 | (g,a) :: x,(s,b) :: y,.cons r t=>by
  obtain⟨m,o⟩:=r;dsimp only at m o;subst m;unfold Jh L2.putF
  by_cases j:g=f
  ·rw[qX j,qX j];exact .cons ⟨rfl,l⟩ t
  ·rw[qY j,qY j];exact .cons ⟨rfl,o⟩ (KVR.putF f l t)
theorem KVR.length{g:Type}{K:AD}{ρ:List AN}{H:Hp}{x:List (g×D)}{y:List (g×V)}(h:KVR K ρ H x y):x.length=y.length:=E1 h
noncomputable def DZ(C:AN)(f:Str)(m:ME):ME:=λe S=>(m e S).bind λd g=>match d with
 | .ref n=>match g[n]? with
  | some (.ins j fs)=>if j=C then(match fs.lookup f with | some v=>.ok v g | none=>.bad)else .bad
  | _=>.bad
 | _=>.bad
noncomputable def JH(C:AN)(f:Str)(mo mv:ME):MS:=λe S=>(mv e S).lift e λv j=>(mo e j).lift e λd g=>match d with
 | .ref n=>match g[n]? with
  | some (.ins l fs)=>if l=C/\fs.length < 1000 then .ok (.nx e) (g.set n (.ins C (Jh f v fs)))else .bad
  | _=>.bad
 | _=>.bad
section
variable{X:Cx}{E:EW}{o e value:Expr}{m mv:ME}
theorem Ct(G:Cls X.K C)(I:E7 X.K C f)(J:GE X E e m)(hb:Ei e f X.env (Bd e X.env)=Bd e X.env:=by rfl):GE X E (.Attribute e f pos) (DZ C f m):=(oE J hb).imp<|by
 rintro σ H Q ⟨L,l,S,N,O,g⟩
 refine⟨L,l,S,N,O,g.seq λx P g s R v U B Y=>?_⟩
 cases x <;> first | exact g.elim | skip
 rename_i n;dsimp only at g
 cases j:P[n]? with
 | none=>rw[j]at g;exact g.elim
 | some Z=>
  rw[j]at g
  cases Z <;> first | exact g.elim | skip
  rename_i C' fs;dsimp only at g;split at g
  ·rename_i hC
   rw[hC]at j
   cases Y with
   | ref uX=>
    obtain⟨dx,w6,e1,e2⟩:=B.ob n _ _ j uX
    cases A:fs.lookup f with
    | none=>rw[A]at g;exact g.elim
    | some w=>
     rw[A]at g;obtain⟨v,h3,h4⟩:=KVR.lookup f e2 A;exact⟨_,_,dx,w6,v,rfl,e1,G,I,h3,g s R v U B h4⟩
  ·exact g.elim
theorem KS(hc:Cls X.K C)(hn:E7 X.K C f)(ha:GE X E o m)(hv:GE X E value mv)(J:Gy value (some (.Attribute o f A)) pos.line X.env=pure false:=by rfl):GS X E (.Assign [.Attribute o f A] value pos) (JH C f m mv):=(nZ ha hv J).imp<|by
 rintro D σ H ⟨ρ,l,S,B,J,g⟩
 refine⟨ρ,l,S,B,J,g.lift B .refl λv S1 g L H1 y s s1 r1=>⟨L,l,S1,B.mono s,s1,(g.later s).lift (B.mono s) s λx S2 g j R u N U r2=>?_⟩⟩
 cases x <;> first | exact g.elim | skip
 rename_i n;dsimp only at g
 cases ho:S2[n]? with
 | none=>rw[ho]at g;exact g.elim
 | some ob=>
  rw[ho]at g
  cases ob <;> first | exact g.elim | skip
  rename_i C' fs;dsimp only at g;split at g
  ·rename_i O
   obtain⟨O,G⟩:=O;rw[O]at ho
   cases r2 with
   | ref P=>
    obtain⟨I,Q,Y,Z⟩:=U.ob n _ _ ho P;have le:Le X.K j R j (upd R _ (.ins C I (putF f y Q))):=Le.write P (by rw[Y];trivial);obtain⟨s3,l3⟩:=U.write (ho:=.ins C I (putF f y Q)) (o:=.ins C (Jh f v fs)) P ⟨I,_,Bc,(KVR.putF f (r1.mono N) Z).mono le⟩ le;refine⟨_,C,I,Q,rfl,Y,hc,hn,by rw[<-KVR.length Z];exact G,?_⟩;exact g j _ σ (s.trans (N.trans l3)) s3 (B.mono (s.trans (N.trans l3)))
  ·exact g.elim
end
theorem Cz.get(x:Cz P w H h a o):∃u,h.get? a=some u:=by
 cases o with
 | lst g=>obtain⟨_,_,_,_,e⟩:=x;exact⟨_,e⟩
 | tup g=>obtain⟨_,_,_,o,e,_⟩:=x;exact⟨_,e⟩
 | dK j=>obtain⟨_,_,_,_,o,_,_,e,_⟩:=x;exact⟨_,e⟩
 | dT j=>obtain⟨_,_,_,_,o,_,_,e,_⟩:=x;exact⟨_,e⟩
 | set S n=>obtain⟨o,_,_,_,e,_⟩:=x;exact⟨_,e⟩
 | ins C l fs=>obtain⟨_,_,_,e,_⟩:=x;exact⟨_,e⟩
 | own y=>exact x
 | xd fs=>obtain⟨_,⟨_,_,_,e,_⟩,_⟩:=x;exact⟨_,e⟩
 | rng lo m=>obtain⟨_,_,_,e⟩:=x;exact⟨_,e⟩
 | frz s u=>obtain⟨e,_⟩:=x;exact⟨_,e⟩
 | tbl A=>exact⟨_,(show h.get? a=some _ from x)⟩
 | met f y=>exact⟨_,(show h.get? a=some _ from x)⟩
 | ext B=>obtain⟨_,e,_⟩:=x;exact e
noncomputable def Tq(Nw:AN->Prop)(F:Option AE->Prop)(g C:AN)(H:Hp)(h:CS):Prop:=
 H g=none/\Nw g/\∃(j:Obj) (l:Array AE) (A:AE),h.get? g=some j/\j.cls=.ref C/\(j.dict=none/\j.data=.fields l)/\l[0]?=some A /\
  ((F none/\l[1]?=some .none)∨∃(T:AN) (m:Obj) (o:Array AE) (s:AE),F (some s)/\l[1]?=some (.ref T)/\T≠g/\H T=none/\Nw T/\h.get? T=some m/\m.data=.fields o/\o[3]?=some s)
theorem Tq.imp(x:Tq Nw F g C H h)(f:∀o,F o->G o):Tq Nw G g C H h:=by
 obtain⟨j,l,m,s,A,B,E,I,J,L⟩:=x;refine⟨j,l,m,s,A,B,E,I,J,?_⟩
 rcases L with⟨a,b⟩ | ⟨T,N,O,P,a,b⟩
 ·exact .inl ⟨f _ a,b⟩
 ·exact .inr ⟨T,N,O,P,f _ a,b⟩
structure Ku(X:Cx):Prop where
 st:X.stack=X.env :: X.outer
 fr:X.env.frame=some X.env.locals
 ex:X.ex=[]
noncomputable def Nw(X:Cx)(b:AN):Prop:=X.s₀.heap.get? b=none/\∀p∈X.pn,p.1≠b
section
variable{X:Cx}{σ:St}{H:Hp}{s:AK}{h':CS}{ea C:AN}{F:Option AE->Prop}
theorem Inv.old(I:Inv X l σ H s)(O:Ku X)(e:s.heap.get? b=none):H b=none/\Nw X b:=by
 refine⟨?_,?_,λp j z=>?_⟩
 ·cases q:H b with
  | none=>rfl
  | some u=>
   obtain⟨o,g⟩:=(I.hok b u q).get;rw[e]at g;cases g
 ·cases q:X.s₀.heap.get? b with
  | none=>rfl
  | some o=>
   obtain⟨m,g⟩:=I.base.there b o q (by rw[O.ex];simp);rw[e]at g;cases g
 ·have:=(I.pin p (Br _ j)).1
  rw[z,e]at this;cases this
theorem Inv.recs(I:Inv X [] σ H s)(O:Ku X)(j:∀b∈ch,H b=none/\Nw X b/\∃o vs,s.heap.get? b=some o/\o.data=.fields vs)
  (st:(Lv s.heap (frs X.stack++ch)).StaysIn h') (up:s.heap.UpToSlots h'):Inv X [] σ H { s with heap:=h' }:=by
 have B:∀b o,b∉frs X.stack->b∉ch->s.heap.get? b=some o->h'.get? b=some o:=λb o P Q e=>
  st b o (Xs _ e λz=>(Bg.mp z).elim P Q)
 have E:∀b∈ch,b≠X.env.locals:=λb hb z=>by
  obtain⟨_,_,o,vs,e,d⟩:=j b hb;obtain⟨m,⟨G,Z,ep,g,A,_⟩,_⟩:=I.loc;rw[z,g]at e;cases e;rw[A]at d;cases d
 have J:∀b∈ch,∀x c,X.env.cells.lookup x=some c->c≠b:=λb hb x c q z=>by
  obtain⟨_,_,o,vs,e,d⟩:=j b hb;obtain⟨v,G,g,A⟩:=I.cell x c q;rw[z,e]at g;cases g;rw[d]at A;cases A
 refine I.stepN (g':=s.gens) (t':=s.toks) (d':=s.drawn) (ch:=ch) (λb hb=>⟨.inr (j b hb).2.1.1,E b hb,J b hb,λp R=>(j b hb).2.1.2 p (by rwa [Ba]at R)⟩)
  (λb o S l L e _=>B b o (λz=>(Aq.mp (I.stkSub b z)).elim S l) L e) (λb o _ U _ e _=>?_) (λ_ _ _ _ n=>n) (λb o L e=>?_) (λ_ _ q=>q) (λ_ _ _ q=>q) (λb ps q=>⟨#[],by rw[q];simp⟩) (λm Y=>up.ns Y) (λa o e=>?_) I.bare
 ·obtain⟨G,g,l⟩:=(I.funs.mem U).2
  rw[e]at g;cases g;exact up b o e l
 ·by_cases hb:b∈frs X.stack
  ·obtain⟨G,g,l⟩:=(I.stack.mem hb).2
   rw[e]at g;cases g;obtain⟨sl,q⟩:=up b o e l;exact⟨_,q⟩
  ·exact⟨o,B b o hb L e⟩
 ·have N:∀b u,H b=some u->∀v,s.heap.get? b=some v->h'.get? b=some v:=λb u q v r=>
   B b v (λz=>by rw[I.stkFree b z]at q;cases q) (λz=>by rw[(j b z).1]at q;cases q) r
  refine(I.hok a o e).stay (λb u hb q=>?_) (λ_ q=>q) λ_ _ q=>q
  rcases hb with z | z
  ·subst z;exact N _ _ e u q
  ·exact N _ _ z u q
noncomputable abbrev gf(X:Cx)(h:CS)(ch:List AN):CS:=Lv h (frs X.stack++ch)
theorem UR(hb:b∈ch):(gf X h ch).get? b=none:=MV _ (BN _ hb)
theorem M1(f:Array AE->Array AE)(o:Obj):(DW f o).dict=o.dict:=by
 obtain⟨c,d,g,sl⟩:=o
 cases g <;> rfl
theorem XR
  (I:A.frames=some (env :: g)) (O:s.heap.FunFrames base (env :: g)) (hf:env.frame=some L) (P:s.heap.get? e=some oe) (J:oe.data=.fields vs) (hsz:1 < vs.size)
  (k:∀l T R ts,T≠e->s.heap.get? T=none->(∀b o,b≠e->b∉frs (env :: g)->s.heap.get? b=some o->l.get? b=some o)->(∀b o,b≠e->s.heap.get? b=some o->∃sl,l.get? b=some { o with slots:=sl }) ->
   l.get? e=some (DW (·.setIfInBounds 1 (.ref T)) oe)->l.get? T=some R->R.data=.fields ts->ts[3]?=some (EV L)->Q () { s with heap:=l }) :
  AY M A (do let a <-frameOf env;let pl <-entryPlaceOf L hadNext;let b <-Uu head a .none (EV L) .none pl;X3 (.ref e) 1 b) Q E s:=by
 have Ζ:e∉frs (env :: g):=λz=>by
  obtain⟨_,o,S,N⟩:=O.mem z;rw[P]at S;cases S;exact N vs J
 refine AA (wpAny_frameOf_fun I O hf λj G=>AA (wpAny_entryPlaceOf λpl U=>?_));unfold Uu newFields;refine AA (CG ?_ (U.sizeOk5 _ _ _ _ _));have Y:j.get? e=some oe:=(G.2.1 e Ζ).trans P;have Z:=AI (h:=j) { cls:=.type "traceback",dict:=none,data:=.fields ([head,.ref L,.none,EV L,.none]++(if pl.isEmpty then BM 6 BI else pl)).toArray } Y;refine Gk Z J hsz ?_;have m:j.objs.size≠e:=DX (AL Y);have dd:=Cc J (·.setIfInBounds 1 (Ai j.objs.size))
 have old:∀b o,b≠e->j.get? b=some o->((j.push { cls:=.type "traceback",dict:=none,data:=.fields ([head,.ref L,.none,EV L,.none]++(if pl.isEmpty then BM 6 BI else pl)).toArray }).update e (DW (·.setIfInBounds 1 (Ai j.objs.size)))).get? b=some o:=λb o B q=>by
  rw[At _ _ (BW B)];exact AI _ q
 refine k _ j.objs.size { cls:=.type "traceback",dict:=none,data:=.fields ([head,.ref L,.none,EV L,.none]++(if pl.isEmpty then BM 6 BI else pl)).toArray } _ m (Ze (YF G.1.symm)) (λb o B N q=>old b o B ((G.2.1 b N).trans q)) (λb o B q=>?_) (BY _ Z (FM dd)) ?_ rfl ?_
 ·obtain⟨sl,z⟩:=G.2.2 b o q
  exact⟨sl,old b _ B z⟩
 ·rw[At _ _ (BW m)]
  exact Aa j rfl
 ·rcases U with rfl | ⟨_,_,_,_,_,_,_,rfl⟩ <;> simp
theorem Wl(keep:∀b o,b∉frs X.stack->b∉ch->h.get? b=some o->h'.get? b=some o):(gf X h ch).StaysIn h':=λb o q=>by
 have hb:b∉frs X.stack++ch:=λz=>by
  have:=MV (h:=h) (frs X.stack++ch) z;rw[show(gf X h ch).get? b=(Lv h (frs X.stack++ch)).get? b from rfl,this]at q;cases q
 exact keep b o (λz=>hb (Br _ z)) (λz=>hb (BN _ z)) (N1 _ q)
theorem Vf(I:Inv X [] σ H s)(O:Ku X)(hA:A.frames=some X.stack)(x:Tq (Nw X) F ea C H s.heap)
  (hF:∀o,F o->o=none∨o=some .none∨o=some (EV X.env.locals))
  (k:∀h',Inv X [] σ H { s with heap:=h' }->Tq (Nw X) (· = some (EV X.env.locals)) ea C H h'->Q () { s with heap:=h' }):AY M A (ck (.ref ea) X.env) Q E s:=by
 obtain⟨L,N,S,vs,a0,l,U,⟨g0,g⟩,Y,g5⟩:=x
 have P:A.frames=some (X.env :: X.outer):=by rw[hA,O.st]
 have uO:frs (X.env :: X.outer)=frs X.stack:=by rw[O.st]
 have fr:s.heap.FunFrames X.base (X.env :: X.outer):=by rw[<-O.st];exact I.stack
 rcases g5 with⟨_,B⟩ | ⟨T,G,J,fl,hf,B,ne,m1,m2,gT,dT,Z⟩
 ·have j:=(Fn.mp B).1
  unfold ck;simp only[O.fr];refine AA (CJ l g B ?_);rw[qY (by decide)]
  refine XR P fr O.fr l g j λh2 T G J nT fT kp up q1 q2 q3 q4=>?_
  rw[uO]at kp;have R:=I.old O fT
  have hc:∀b∈[ea],H b=none/\Nw X b/\∃o vs,s.heap.get? b=some o/\o.data=.fields vs:=λb hb=>by
   cases Ab.mp hb;exact⟨L,N,S,vs,l,g⟩
  refine k h2 (I.recs O hc (Wl λb o z1 z2 q=>kp b o (λz=>z2 (Ab.mpr z)) z1 q) λb o q m=>up b o (λz=>?_) q) ?_
  ·rw[z,l]at q
   cases q;exact m vs g
  ·exact⟨L,N,_,_,a0,q1,by rw[Kw];exact U,⟨by rw[M1];exact g0,Cc g _⟩,by rw[QK (by decide)];exact Y,.inr ⟨T,G,J,_,rfl,by simp[j],nT,R.1,R.2,q2,q3,q4⟩⟩
 ·rcases hF _ hf with e | e | e
  ·cases e
  ·cases e
   have j:=(Fn.mp B).1;unfold ck;simp only[O.fr];refine AA (CJ l g B ?_);rw[qX (show(Ai T != BI)=true from by simp)];refine AA (CJ gT dT Z ?_);rw[qY (show ¬((BI==EV X.env.locals)=true)from by simp[EV])];refine AA (Gk gT dT (Fn.mp Z).1 ?_)
   have oth:∀b,b≠T->(s.heap.update T (DW (·.setIfInBounds 3 BI))).get? b=s.heap.get? b:=λb hb=>At _ _ (BW hb)
   have wg:∀b o,s.heap.get? b=some o->(∀vs,o.data≠.fields vs)->b≠T:=λb o hb m q=>by
    rw[q,gT]at hb;cases hb;exact m J dT
   have fr2:(s.heap.update T (DW (·.setIfInBounds 3 BI))).FunFrames X.base (X.env :: X.outer):=fr.of_keeps λb o hb m=>⟨o,(oth b (wg b o hb m)).trans hb,rfl⟩
   have gU:(s.heap.update T (DW (·.setIfInBounds 3 BI))).get? T=some (DW (·.setIfInBounds 3 BI) G):=BY _ gT (FM (Cc dT _))
   have hc:∀b∈[ea,T],H b=none/\Nw X b/\∃o vs,s.heap.get? b=some o/\o.data=.fields vs:=λb hb=>by
    rcases Aq.mp hb with rfl | hb
    ·exact⟨L,N,S,vs,l,g⟩
    ·cases Ab.mp hb
     exact⟨m1,m2,G,J,gT,dT⟩
   refine XR (s:={ s with heap:=s.heap.update T (DW (·.setIfInBounds 3 BI)) }) P fr2 O.fr ((oth ea (BW ne)).trans l) g j λh2 T2 oT2 ts2 nT fT kp up q1 q2 q3 q4=>?_
   rw[uO]at kp
   have fT':s.heap.get? T2=none:=by
    have z:T2≠T:=λz=>by rw[z]at fT;exact zX (fT.symm.trans gU) (by simp)
    rw[<-oth T2 z];exact fT
   have R:=I.old O fT';refine k h2 (I.recs O hc (Wl λb o z1 z2 q=>kp b o (λz=>z2 (by rw[z];exact Ah)) z1 ((oth b λz=>z2 (by rw[z];exact AS _ (Ab.mpr rfl))).trans q)) λb o q m=>up b o (λz=>?_) ((oth b (wg b o q m)).trans q)) ?_
   ·rw[z,l]at q
    cases q;exact m vs g
   ·exact⟨L,N,_,_,a0,q1,by rw[Kw];exact U,⟨by rw[M1];exact g0,Cc g _⟩,by rw[QK (by decide)];exact Y,.inr ⟨T2,oT2,ts2,_,rfl,by simp[j],nT,R.1,R.2,q2,q3,q4⟩⟩
  ·cases e
   have hTn:(gf X s.heap [ea,T]).get? T=none:=UR (AS _ (Ab.mpr rfl));refine wpAny_noteFrame_againW (base:=gf X s.heap [ea,T]) (cls:=.ref C) (a0:=a0) O.fr ⟨S,vs,T,G,J,l,⟨U,Y⟩,g,B,hTn,ne,gT,dT,Z⟩ ?_;exact k s.heap I ⟨L,N,S,vs,a0,l,U,⟨g0,g⟩,Y,.inr ⟨T,G,J,_,rfl,B,ne,m1,m2,gT,dT,Z⟩⟩
theorem NT(f:Option AN)(I:Inv X [] σ H s)(O:Ku X)(x:Tq (Nw X) F ea C H s.heap)(S:¬F none)
  (k:∀h',Inv X [] σ H { s with heap:=h' }->Tq (Nw X) (· = some (f.elim BI λa=>EV a)) ea C H h'->Q () { s with heap:=h' }):AY M A (setFlight (.ref ea) f) Q E s:=by
 obtain⟨G,J,L,vs,U,j,Y,⟨Z,l⟩,g4,g5⟩:=x
 rcases g5 with⟨z,_⟩ | ⟨T,oT,m,fl,hf,N,P,R,m2,gT,dT,h3⟩
 ·exact(S z).elim
 ·have hc:∀b∈[ea,T],H b=none/\Nw X b/\∃o vs,s.heap.get? b=some o/\o.data=.fields vs:=λb hb=>by
   rcases Aq.mp hb with rfl | hb
   ·exact⟨G,J,L,vs,j,l⟩
   ·cases Ab.mp hb
    exact⟨R,m2,oT,m,gT,dT⟩
  have g:3 < m.size:=(Fn.mp h3).1;unfold setFlight;refine AA (CJ j l N ?_);rw[qX (show(Ai T != BI)=true from by simp)];refine Gk gT dT g ?_
  have oth:∀b,b≠T->(s.heap.update T (DW (·.setIfInBounds 3 (f.elim BI λa=>EV a)))).get? b=s.heap.get? b:=λb hb=>At _ _ (BW hb)
  have wg:∀b o,s.heap.get? b=some o->(∀vs,o.data≠.fields vs)->b≠T:=λb o hb B q=>by
   rw[q,gT]at hb;cases hb;exact B m dT
  refine k _ (I.recs O hc (λb o q=>?_) λb o q B=>⟨o.slots,(oth b (wg b o q B)).trans q⟩) ?_
  ·have hb:b≠T:=λz=>by rw[z,UR (AS _ (Ab.mpr rfl))]at q;cases q
   exact(oth b hb).trans (N1 _ q)
  ·refine⟨G,J,L,vs,U,(oth ea (BW P)).trans j,Y,⟨Z,l⟩,g4,.inr ⟨T,_,_,_,rfl,N,P,R,m2,BY _ gT (FM (Cc dT _)),Cc dT _,?_⟩⟩
   simp[g]
end
noncomputable def trF(X:Cx)(o:Option AE):Prop:=o=none∨o=some .none∨o=some (EV X.env.locals)
noncomputable def XE(X:Cx)(E:EW)(e:AE)(s':AK):Prop:=∃j C l g,e=.ref j/\Inv X [] l g s'/\Tq (Nw X) (trF X) j C g s'.heap/\E C l g
noncomputable def CXG(P:BP)(w:Bu):CXT:=λg H s E e j=>∃m C l,e=.ref m/\j.os=s.os/\Jc j.gens/\Un (frs g) [] H l s.heap j.heap/\HOk P w l j.heap/\Tq (λb=>s.heap.get? b=none) (· = some .none) m C l j.heap/\E (.ref C) none l
theorem XE.own(O:Ku X):QD (Ad X.prog X.w) X.A X.env (XE X E):=by
 rintro e l ⟨G,C,J,H,rfl,I,x,w⟩
 refine Vf I O I.ok.frames x (λo z=>z) λm L B=>?_
 have g:=B;obtain⟨U,Y,Z,vs,a0,N,g2,P,g4,Q⟩:=g
 rcases Q with⟨z,_⟩ | ⟨T,oT,ts,fl,hf,j,_⟩
 ·cases z
 ·show AY _ _ _ _ _ _
  refine AA (CJ (s:={ l with heap:=m }) N P.2 j ?_);rw[qY (by simp)];rw[O.fr]
  refine NT (s:={ l with heap:=m }) (some X.env.locals) L O B (by simp) λh2 R S=>?_
  exact⟨G,C,J,H,rfl,R,S.imp λo z=>.inr (.inr z),w⟩
theorem XE.leave(O:Ku X)(h:XE X E e s')
  (k:∀g C j l m,e=.ref g->Inv X [] j l m->Tq (Nw X) (· = some .none) g C l m.heap->E C j l->Q () m):AY (Ad X.prog X.w) X.A (leaving X.env e) Q P s':=by
 obtain⟨g,C,j,H,rfl,I,x,w⟩:=h;unfold leaving;refine AA (Vf I O I.ok.frames x (λo z=>z) λB G J=>?_)
 refine NT (s:={ s' with heap:=B }) none G O J (by simp) λR L N=>?_
 exact k g C j H _ rfl L N w
noncomputable abbrev Cx.p(X:Cx)(pn:List (AN×Obj)):Cx:={ X with pn:=pn }
noncomputable abbrev Cx.w'(X:Cx)(pn:List (AN×Obj))(E:EW):Cx:={ X with pn:=pn,xe:=XE (X.p pn) E }
theorem Inv.with(I:Inv X m o H s)(z:AE->AK->Prop):Inv { X with xe:=z } m o H s:=by
 obtain⟨ok,a,b,c,d,e,f,g,i,j,l⟩:=I;obtain⟨A,B,C,E,G,J,L,N,O,P,Q,R,S,U,Y,Z,xm,xn⟩:=ok;exact⟨⟨A,B,C,E,G,J,L,N,O,P,Q,R,S,U,Y,Z,xm,xn⟩,a,b,c,d,e,f,g,i,j,l⟩
theorem Inv.without(I:Inv { X with xe:=z } g j H s):Inv X g j H s:=by
 have:=I.with X.xe
 exact this
theorem Inv.pinIn(I:Inv X m o H s):Inv (X.p (X.pn++m)) [] o H s:=by
 obtain⟨ok,a,b,c,d,e,f,g,i,j,l⟩:=I;obtain⟨A,B,C,E,G,J,L,N,O,P,Q,R,S,U,Y,Z,xm,xn⟩:=ok;exact⟨⟨A,B,C,E,G,J,L,N,O,P,Q,R,S,U,Y,Z,xm,xn⟩,a,b,c,d,e,f,g,λq hq=>i q (by rwa [Ba]at hq),j,l⟩
theorem Inv.pinOut(I:Inv (X.p (X.pn++m)) [] o H s):Inv X m o H s:=by
 obtain⟨ok,a,b,c,d,e,f,g,i,j,l⟩:=I;obtain⟨A,B,C,E,G,J,L,N,O,P,Q,R,S,U,Y,Z,xm,xn⟩:=ok;exact⟨⟨A,B,C,E,G,J,L,N,O,P,Q,R,S,U,Y,Z,xm,xn⟩,a,b,c,d,e,f,g,λq hq=>i q (by show q∈(X.pn++m)++[];rwa [Ba]),j,l⟩
structure Good(X:Cx)(E:EW):Prop where
 pass:Ls (CXG X.prog X.w) X (Uv E)
 own:QD (Ad X.prog X.w) X.A X.env X.xe
 made:∀(ζ:List (AN×Obj)) (σ:St) (H:Hp) (s:AK) (h':CS) (ea C:AN) (args:List AE),Inv X ζ σ H s->E C σ H->CS.MadeExcOf s.heap h' ea (.ref C) args->X.xe (.ref ea) { s with heap:=h' }
theorem Ku.p(O:Ku X)(pn:List (AN×Obj)):Ku (X.p pn):=⟨O.st,O.fr,O.ex⟩
theorem Az(O:Ku X):Good (X.w' pn E) E:=by
 have A:=O.p pn;refine⟨λm g H s e s' I h=>?_,XE.own A,λm g H s S B C R I w G=>?_⟩
 ·obtain⟨B,C,J,rfl,os,o,un,L,x,_,c,U,w⟩:=h
  cases U;have l:Inv (X.p pn) m g H s:=Inv.without (X:=X.p pn) I;have N:Inv (X.p pn) m g J s':=l.call' os un L o (λb z=>zX z (by simp))
  have Y:Inv (X.p pn) [] g J s':=N.pins_of λp P=>zX P (by simp)
  obtain⟨Z,n2,oe,vs,a0,Q,g2,g3,g4,g5⟩:=x;refine⟨B,C,g,J,rfl,Y,⟨Z,(l.old A n2).2,oe,vs,a0,Q,g2,g3,g4,?_⟩,w⟩
  rcases g5 with⟨z,_⟩ | ⟨T,oT,ts,fl,hf,h1,ne,m1,m2,r⟩
  ·cases z
  ·exact .inr ⟨T,oT,ts,fl,.inr (.inl hf),h1,ne,m1,(l.old A m2).2,r⟩
 ·have l:Inv (X.p pn) m g H s:=Inv.without (X:=X.p pn) I
  have N:Inv (X.p pn) m g H { s with heap:=S,toks:=s.toks }:=l.kept G.keeps;obtain⟨t,Q,_,_⟩:=G.there;have j:=l.old A G.new;exact⟨B,C,g,H,rfl,N.pins_of λp P=>zX P (by simp),⟨j.1,j.2,_,_,_,Q,rfl,⟨rfl,rfl⟩,rfl,.inl ⟨.inl rfl,rfl⟩⟩,w⟩
theorem good_none(j:X.xe=λ_ _=>False):Good X noE:=by
 refine⟨λm o H s e A I h=>?_,by rw[j];exact QD.never,λ_ _ _ _ _ _ _ _ _ w _=>w.elim⟩;obtain⟨B,C,E,rfl,os,g,un,l,x,_,c,G,w⟩:=h;exact w.elim
abbrev Xb:List AE:=[.type "ValueError",.type "Exception",.type "BaseException",.type "object"]
structure XCl(K:AD)(C:AN):Prop where
 ex:ie K C Xb "ValueError.__new__" = true
theorem XCl.obj{K}{C}(c:XCl K C):∃bm N nm q bs hdct sn sub ab col dd k0 k1 k2 k3 k5,K.lookup C=some (excClassObj nm q C N bs bm hdct sn sub ab col dd k0 k1 k2 k3 k5 "ValueError.__new__") /\
  RN K N=true/\PySem.W.nsIn K N "__init__" = some none/\PySem.W.tailIn K Xb bm=true:=by
 have q:=c.ex;unfold ie at q;split at q
 ·rename_i l m o s
  split at q
  ·rename_i Cx A I J L O nx P g j
   simp only[B0,beq_iff_eq,dQ]at q;obtain⟨⟨⟨⟨⟨Q,R⟩,B⟩,S⟩,E⟩,G⟩:=q;subst Q;subst R;obtain⟨U,X,f3,Y,Z,f6,f7,f8,f9,Η,f11⟩:=m;dsimp only at g B E G;subst g;subst B;obtain⟨lx⟩:=o;dsimp only at j;subst j;exact⟨A,Y,U,Z,X,f6,f7,f8,f9,Η,l,I,J,L,O,P,s,E,G,S⟩
  ·cases q
 ·cases q
theorem kM{K}{N}{h g}{m}(e:RN K N=true)(X:K.In h)(l:K.In g)(n:h.Ns N m):g.Ns N m:=by
 obtain⟨o,s,A,B,r⟩:=n;unfold RN at e;split at e
 ·rename_i j
  have z:=X _ _ j;rw[B]at z;cases z;exact⟨_,s,A,l _ _ j,r⟩
 ·cases e
noncomputable def R5(C:AN)(ml:ML):MS:=λe S=>(ml e S).lift e λg j=>if g.length<=sizeLine then .ok (.ex C e) j else .bad
section
variable{E:EW}{x:Str}{e:Expr}{C:AN}
theorem XN(G:Good X E)(hc:X.calm=true)(c:XCl X.K C)(hg:Gl X x)(j:X.mg x=some (.ref C))(ha:GA X E (e :: es) ml)(uP:(x==("__debug__" : Str))=false:=by decide)
  (U:AQ (e :: es) X.env=(false,Bd e X.env) :: AQ es X.env:=by rfl) (ub:(Da L (AQ es X.env)).any (·.1)=false:=by rfl) :
  GS X E (.Raise (some (.Call (.Name x np) (e :: es) [] L)) none pos) (R5 C ml):=by
 intro Y s B H D I ⟨ρ,l,S,O,hs,xp⟩;have hh:X.A.handled=none:=I.ok.hd hc;obtain⟨bm,N,nm,q,bs,hdct,sn,sub,ab,col,dd,k0,k1,k2,k3,k5,hC,g,yr,m⟩:=c.obj;have hN:s.heap.Ns N (s.heap.nsMap N):=.of_isNs (PySem.W.isNs_of_in I.kIn g)
 refine wpAny_Raise_call_subT (C:=C) (nm:=nm) (q:=q) (N:=N) (bs:=bs) (bm:=bm) (hdct:=hdct) (sn:=sn) (sub:=sub) (ab:=ab) (col:=col) (dd:=dd) (k0:=k0) (k1:=k1) (k2:=k2) (k3:=k3) (k5:=k5) (bmB:=Xb) PySem.F.excBase_ValueError
  ((YC I.kIn m).hasType (by decide +kernel)) hh (by rw[U];show(false||(Da L (AQ es X.env)).any (·.1))=false;rw[ub];rfl) (PySem.W.nsMap_none_of_in I.kIn g yr)
  (Oq I hg j ⟨rfl,?_⟩ uP)
 have o:=ha L Y s B H (λZ P=>Z.length<=sizeLine/\E C B P) I ⟨ρ,l,S,O,hs,B1.lift xp O .refl λds S1 j Q P xs l1 s1 r1=>by
  split at j
  ·rename_i R
   exact⟨by rw[<-r1.length];exact R,j Q P B l1 s1 (O.mono l1)⟩
  ·exact j.elim⟩
 rw[U]at o ⊢;refine YJ (thn o λus s2 ⟨Z,H2,J,rv,R,w⟩=>?_);exact⟨rfl,by rw[<-rv.length];exact R,J.kIn _ _ hC,kM g I.kIn J.kIn hN,YC J.kIn m,λh' ea hx=>G.made Y B H2 s2 h' ea C us J w hx⟩
end
noncomputable abbrev Cx.suite(X:Cx)(g:AN):Cx:={ X with A:=X.A.mark (some (.ref g)),calm:=false,xe:=λ_ _=>False }
theorem Inv.suite(I:Inv X m o H s)(A:AN):Inv (X.suite A) m o H s:=by
 obtain⟨ok,a,b,c,d,e,f,g,i,j,l⟩:=I;obtain⟨B,C,E,G,J,L,N,O,o9,P,Q,R,S,U,Y,Z,xm,xn⟩:=ok;exact⟨⟨B,C,E,G,J,L,N,O,λz=>zX (show false=true from z) AT,P,Q,R,S,U,Y,Z,xm,xn⟩,a,b,c,d,e,f,g,i,j,l⟩
theorem Inv.unsuite(ok:X.Ok)(I:Inv (X.suite A) m o H s):Inv X m o H s:=by
 obtain⟨_,a,b,c,d,e,f,g,i,j,l⟩:=I;exact⟨ok,a,b,c,d,e,f,g,i,j,l⟩
theorem Inv.track(I:Inv X [] J H s)(g:H ea=none)(C:Nw X ea)(j:s.heap.get? ea=some o)(E:o.data=.fields vs) :
  Inv X [] J (upd H ea (.frz o (.ext λh=>∃u,h.get? ea=some u))) s:=by
 have L:X.env.locals≠ea:=λz=>by
  obtain⟨m,⟨N,Z,ep,l,A,_⟩,_⟩:=I.loc;rw[z,j]at l;cases l;rw[E]at A;cases A
 have O:∀x c,X.env.cells.lookup x=some c->c≠ea:=λx c q z=>by
  obtain⟨v,N,l,A⟩:=I.cell x c q;rw[z,j]at l;cases l;rw[E]at A;cases A
 refine⟨I.ok,I.os,I.bare,⟨I.base.keep,I.base.slot,λb u q n P=>?_,I.base.there,λb B q=>?_,λb u B q=>?_,λb Q q=>?_⟩,I.loc,I.cell,?_,λx c q=>?_,λp G=>?_,λb u q=>?_,I.len⟩
 ·rw[BA λz=>by rw[z,C.1]at q;cases q]
  exact I.base.free b u q n P
 ·have:=I.base.tups b B q
  rw[BA (BU this g)];exact this
 ·have:=I.base.frzs b u B q
  rw[BA (BU this g)];exact this
 ·obtain⟨more,this⟩:=I.base.tbls b Q q
  exact⟨more,by rw[BA (BU this g)];exact this⟩
 ·rw[BA L];exact I.free
 ·rw[BA (O x c q)];exact I.freeC x c q
 ·obtain⟨R,S,U⟩:=I.pin p G
  exact⟨R,by rw[BA (C.2 p (by rwa [Ba]at G))];exact S,U⟩
 ·by_cases hb:b=ea
  ·subst hb
   rw[Bc]at q;cases q;exact⟨j,⟨o,j⟩,⟨o,j⟩,λh1 h2 ⟨u,Y⟩ k=>⟨u,k u Y⟩⟩
  ·rw[BA hb]at q
   exact(I.hok b u q).stay (λ_ _ _ z=>z) (λc z=>by rw[BA (BU z g)];exact z) λc B z=>by rw[BA (BU z g)];exact z
theorem NO(I:Inv X [] P H s)(Z:X.N.Nodup)(hi:X.N[i]?=some n)(hn:X.env.scope.names.lookup n=some .local)
  (k:∀s',Inv X [] (P.set i none) H s'->Q () s'):AY M A (do bindName X.env n .none;unbindBehindTheSuite X.env n pos) Q E s:=by
 obtain⟨m,R,hl⟩:=id I.loc
 have G:(X.env.scope.kind==.class||(X.env.scope.kind==.module&&X.env.locals != X.env.globals))=false:=by rw[I.ok.kind];rfl
 have J:∀b o,X.s₀.heap.get? b=some o->b≠X.env.locals:=λb o e=>Ao (AW (AL e) I.ok.above)
 obtain⟨oL,_,_,hoL,_⟩:=id R
 refine wpAny_nameGoes_keeps hn R G λh' v uX l=>k _ ?_
 have g:∀y c w',X.env.cells.lookup y=some c->s.heap.IsCell c w'->h'.IsCell c w':=λy c w' q z=>z.sameBut l (I.cne y c q)
 refine⟨I.ok,I.os,I.bare,⟨λb o e z hb B=>(l.2 b (J b o e)).trans (I.base.keep b o e z hb B),λb o e z hb B=>?_,I.base.free,λb o e B=>?_,I.base.tups,I.base.frzs,I.base.tbls⟩,⟨_,uX,λj y S U C e3=>?_⟩,λy c q=>?_,I.free,I.freeC,λp G=>?_,λb u q=>?_,by simpa using I.len⟩
 ·obtain⟨sl,q⟩:=I.base.slot b o e z hb B
  exact⟨sl,(l.2 b (J b o e)).trans q⟩
 ·obtain⟨o',q⟩:=I.base.there b o e B
  exact⟨o',(l.2 b (J b o e)).trans q⟩
 ·by_cases L:i=j
  ·subst L
   rw[WT ]at C
   cases hq:P[i]? <;> rw[hq]at C <;> cases C
  ·rw[Af L]at C
   obtain⟨u',r',q⟩:=hl j y S U C e3;refine⟨u',r',?_⟩
   rcases q with⟨O,e⟩ | ⟨O,c,e,z⟩
   ·refine .inl ⟨O,?_⟩
    have:y≠n:=λz=>L (SJ Z (z▸hi) U)
    show(if y=n then v else m y)=_;rw[qY this];exact e
   ·exact .inr ⟨O,c,e,g y c _ e z⟩
 ·obtain⟨w',z⟩:=I.cell y c q
  exact⟨w',g y c w' q z⟩
 ·obtain⟨z1,z2,Y,z4⟩:=I.pin p G
  exact⟨(l.2 p.1 Y).trans z1,z2,Y,z4⟩
 ·refine(I.hok b u q).stay (λc S hc z=>(l.2 c ?_).trans z) (λ_ z=>z) λ_ _ z=>z
  intro e
  rcases hc with z | z
  ·rw[z]at e;rw[e,I.free]at q;cases q
  ·rw[e,I.free]at z;cases z
structure ZW(K:AD)(C G:AN):Prop where
 ty:Iu K (.ref G)=some (.type "type")
 cl:(EK K G).isSome=true
 ba:Nj K (.ref G) (.type "BaseException")=some true
 su:Nj K (.ref C) (.ref G)=some true
theorem Yv{K}{C G g}{j}{M}{A}{E}{Q}{s}(c:ZW K C G)(X:K.In s.heap)(l:s.heap.get? g=some j)(m:j.cls=.ref C)(q:Q true s) :
  AY M A (excMatches (.ref g) (.ref G)) Q E s:=by
 have o:Hl M s.heap (isInstance (.ref G) (.type "tuple")) false:=PySem.W.looks_instIn X (by unfold PySem.W.instIn;rw[c.ty];show Nj K (.type "type") (.type "tuple")=some false;kernel_rfl);have L2:Hl M s.heap (isSubtype (.ref G) (.type "BaseException")) true:=Xq X c.ba;have B:Hl M s.heap (isSubtype (.ref C) (.ref G)) true:=Xq X c.su
 have L4:Hl M s.heap (isType (.ref G)) true:=by
  have z:=c.cl;unfold EK at z;split at z
  ·rename_i I
   intro L N O P k q;unfold isType loadHead;exact AA (Xz (k _ _ (X _ _ I)) (AG q))
  ·cases z
 have J:Hl M s.heap (typeOf (.ref g)) (.ref C):=m▸(ql l).andThen .now;unfold excMatches isExcClass;refine AA (o.at ?_);rw[qY AT];refine AA (AG ?_);dsimp only;refine AA ?_;rw[G2];refine AA (AA (AA (L4.at ?_)));rw[qX rfl];refine L2.at ?_;simp only[mR,CH,if_false];refine AG ?_;dsimp only;rw[HV];refine AG (AA (J.at (AA ?_)));rw[G2];refine AA (AA (B.at ?_));rw[qX rfl];exact AG (AG (AG q))
noncomputable def bZ(m:List AN)(i:Nat)(b h:MS):MS:=λe S=>(b e S).bind λf l=>match f with
 | .ex c o=>if c∈m then(h (o.set i (some (.exc c))) l).bind λs j=>match s with
   | .nx g=>.ok (.nx (g.set i none)) j
   | .bk g=>.ok (.bk (g.set i none)) j
   | .ct g=>.ok (.ct (g.set i none)) j
   | .rt d=>.ok (.rt d) j
   | .ex _ _=>.bad
  else .bad
 | f=>.ok f l
theorem FF.forget{K}{ρ}{H}{e}{g}(i:Nat)(h:FF K ρ H e g):FF K ρ H (e.set i none) (g.set i none):=by
 refine⟨by simp[h.len],λj d q=>?_⟩
 by_cases l:i=j
 ·subst l
  rw[WT]at q
  cases m:e[i]? <;> rw[m]at q <;> cases q
 ·rw[Af l]at q ⊢
  exact h.at' j d q
section
variable{E:EW}{g n:Str}{mb mh:MS}
theorem pD(O:Ku X)(hN:X.N.Nodup)(hi:X.N[i]?=some n)(U:X.env.scope.names.lookup n=some .local)(hg:Gl X g)(A:X.mg g=some (.ref G))(uC:∀c∈cs,ZW X.K c G)
  (hb:∀yt E',GSs (X.w' yt E') E' body mb) (hh:∀yt B,GSs ((X.p yt).suite B) noE (b₀ :: suite) mh) (uP:(g==("__debug__" : Str))=false:=by decide) :
  GS (X.w' pn E) E (.Try body [.ExceptHandler (some (.Name g gp)) (some n) (b₀ :: suite) hpos] [] [] pos) (bZ cs i mb mh):=by
 intro L s σ H D I ⟨ρ,l,S,hl,hs,xp⟩;have I0:Inv (X.p pn) L σ H s:=Inv.without (X:=X.p pn) I;have I1:Inv (X.p (pn++L)) [] σ H s:=I0.pinIn;have O1:=O.p (pn++L)
 let DS:ZV:={ nx:=λm R=>D.nx (m.set i none) R,rt:=D.rt,bk:=λm R=>D.bk (m.set i none) R,ct:=λm R=>D.ct (m.set i none) R }
 let ET:EW:=λC j Q=>C∈cs/\∀B o u,Q B=none->Tp o C->gS X.K noE mh DS (j.set i (some (.ref B))) (upd Q B (.frz o u))
 have run:=hb (pn++L) ET [] s σ H D (I1.with _) ⟨ρ,l,S,hl,hs,xp.seq λf S1 A=>by
  cases f with
  | nx e'=>exact A
  | rt d=>exact A
  | bk d=>exact A
  | ct d=>exact A
  | ex c e1=>
   intro Y Q j l' s' r';dsimp only at A;split at A
   ·rename_i hc
    refine⟨hc,λB o u U ho=>?_⟩;have le:Le X.K Y Q Y (upd Q B (.frz o u)):=Le.fresh U;have s2:=(Fq (ho:=.frz o u) s' U).1;refine⟨Y,e1.set i (some (.exc c)),S1,(r'.mono le).set (.exc Bc ho) i,s2,((B1.later A (l'.trans le)).seq λf2 S2 A=>?_)⟩
    cases f2 with
    | nx e2=>exact λP R m Z q2 r2=>A P R _ (l'.trans (le.trans Z)) q2 (r2.forget i)
    | bk e2=>exact λP R m Z q2 r2=>A P R _ (l'.trans (le.trans Z)) q2 (r2.forget i)
    | ct e2=>exact λP R m Z q2 r2=>A P R _ (l'.trans (le.trans Z)) q2 (r2.forget i)
    | rt d=>exact λP R x2 Z q2 r2=>A P R x2 (l'.trans (le.trans Z)) q2 r2
    | ex c' e2=>exact A.elim
   ·exact A.elim⟩
 refine wpAny_Try_except (Eh run (λf s1 q=>?_) λe s1 q=>?_)
 ·-- the body went through
  cases f with
  | next=>
   obtain⟨j,Q,J,z⟩:=q;exact KG ⟨j,Q,(Inv.pinOut (X:=X.p pn) J.without).with _,z⟩
  | brk=>
   obtain⟨j,Q,J,z⟩:=q;exact⟨j,Q,(Inv.pinOut (X:=X.p pn) J.without).with _,z⟩
  | cont=>
   obtain⟨j,Q,J,z⟩:=q;exact⟨j,Q,(Inv.pinOut (X:=X.p pn) J.without).with _,z⟩
  | ret u=>
   obtain⟨v,j,Q,J,r,z⟩:=q;exact⟨v,j,Q,(Inv.pinOut (X:=X.p pn) J.without).with _,r,z⟩
 ·-- an exception is caught
  obtain⟨B,C,j,Q,rfl,J,x,hC,w⟩:=q
  refine Vf (X:=X.p (pn++L)) J O1 J.ok.frames x (λo z=>z) λh1 J1 x1=>?_
  refine NT (X:=X.p (pn++L)) (s:={ s1 with heap:=h1 }) none J1 O1 x1 (by simp) λh2 J2 x2=>?_
  refine wpAny_handleBy_cons (codeAny_handlers_test ?_) (by intro z;cases z);have J2s:=J2.suite B;refine Oq (X:=(X.p (pn++L)).suite B) J2s hg A ?_ uP;have x2':=x2;obtain⟨n1,n2,oe,vs,a0,g1,g2,⟨g0,g3⟩,_⟩:=x2';refine Yv (uC C hC) J2.kIn g1 g2 ?_;refine codeAny_handlers_suite_as ?_
  refine NT (X:=X.p (pn++L)) (s:={ s1 with heap:=h2 }) none J2 O1 x2 (by simp) λh3 J3 x3=>?_
  obtain⟨n1,n2,oe,vs,a0,g1,g2,⟨g0,g3⟩,_⟩:=x3;have J4:=J3.track n1 n2 g1 g3;refine Of (X:=(X.p (pn++L)).suite B) (v:=.ref B) (J4.suite B) hN hi (.inl U) rfl (λs5 J5=>?_) (.inr U)
  refine Eh (hh (pn++L) B [] s5 _ _ DS J5 (w B oe _ n1 ⟨g2,g0,vs,g3⟩)) (λf s6 q=>?_) λ_ _ z=>z.elim
  have ok:(X.p (pn++L)).Ok:=J.ok
  cases f with
  | next=>
   obtain⟨σ6,H6,J6,z⟩:=q
   exact NO (X:=X.p (pn++L)) (J6.unsuite ok) hN hi U λs7 J7=>⟨_,H6,(Inv.pinOut (X:=X.p pn) J7).with _,z⟩
  | brk=>
   obtain⟨σ6,H6,J6,z⟩:=q
   exact NO (X:=X.p (pn++L)) (J6.unsuite ok) hN hi U λs7 J7=>⟨_,H6,(Inv.pinOut (X:=X.p pn) J7).with _,z⟩
  | cont=>
   obtain⟨σ6,H6,J6,z⟩:=q
   exact NO (X:=X.p (pn++L)) (J6.unsuite ok) hN hi U λs7 J7=>⟨_,H6,(Inv.pinOut (X:=X.p pn) J7).with _,z⟩
  | ret u=>
   obtain⟨v,σ6,H6,J6,r,z⟩:=q
   exact NO (X:=X.p (pn++L)) (J6.unsuite ok) hN hi U λs7 J7=>⟨v,_,H6,(Inv.pinOut (X:=X.p pn) J7).with _,r,z⟩
end
noncomputable def FS(n:Nat)(ds:List D):Lo:=ds.map some++BM (n - ds.length) none
theorem Ya{K}{ρ}{H}{N}{ds}{vs}(r:Ak K ρ H ds vs):FF K ρ H (FS N.length ds) (start N vs):=by
 refine⟨by simp[FS,start,r.length],λi d q=>?_⟩;unfold FS at q;unfold start
 by_cases g:i < ds.length
 ·rw[Al (by simpa using g),Ae]at q
  rw[Al (by rw[AJ,<-r.length];exact g),Ae]
  cases e:ds[i]? with
  | none=>rw[e]at q;cases q
  | some m=>
   rw[e]at q;cases q;obtain⟨v,j,l⟩:=r.get e;exact⟨v,by rw[j];rfl,l⟩
 ·rw[BV (by simpa using g),Dh]at q
  split at q <;> cases q
noncomputable def ER(n:Nat)(j:MS)(ds:List D)(S:Sto):Res D:=(okR (j (FS n ds) S)).bind λf g=>match f with
 | .rt d=>.ok d g
 | .nx _=>.ok .non g
 | .ex c _=>.err c g
 | _=>.bad
section
variable{P:BP}{w:Bu}{K:AD}{mg:Str->Option AE}{base:CS}
theorem pW{x m}{st}{f}{fd}{N ps}{k n}(F:Fun K x m st f fd)(Sc:Bi N ps (Ay st))(hn:ps.length=n){Z}
  (vb:∀(R:AE) (A:Bw) (j:List Env) (s:AK) (H:Hp) (E:XK),HP k (A.deeper (Nz m (Ay st) s.heap.objs.size f R))->∀pn E',GSs ((V4 (CXG P w) P w K mg base N m (Ay st) f R A j s H E).w' pn E') E' (Ij st) Z) :
  DI P w K mg base (CXG P w) (k+1) f fd ps (spM K n (ER N.length Z)):=by
 obtain⟨oc,od,kV,doc,pm,an,R,ct,vE,rfl,lk,vg⟩:=F.ex
 refine tK lk vg Sc (λvs H Q E h=>by rw[hn];exact h.len) λA j s H vs Q E U h=>?_
 obtain⟨ρ,ds,S,h1,h2,h3,o⟩:=h;have O:Ku (V4 (CXG P w) P w K mg base N m (Ay st) f R A j s H E):=⟨rfl,rfl,rfl⟩;have hb:=vb R A j s H E U [] (λc _ B=>E (.ref c) none B);refine⟨gS K (λc _ B=>E (.ref c) none B) Z,λζ X σ B D I q=>Eh (hb ζ X σ B D (I.with _) q) (λY s1 z=>?_) λe s1 z=>?_,ρ,_,S,Ya h2,h3,?_⟩
 ·cases Y with
  | next=>obtain⟨g,G,J,z⟩:=z;exact⟨g,G,J.without,z⟩
  | brk=>obtain⟨g,G,J,z⟩:=z;exact⟨g,G,J.without,z⟩
  | cont=>obtain⟨g,G,J,z⟩:=z;exact⟨g,G,J.without,z⟩
  | ret u=>obtain⟨v,g,G,J,r,z⟩:=z;exact⟨v,g,G,J.without,r,z⟩
 ·refine XE.leave O z λea C g G s2 e1 J x w=>⟨ea,C,G,e1,J.os,J.bare,J.base,J.hok,?_,w⟩
  obtain⟨n1,n2,oe,xq,a0,g1,g2,g3,g4,g5⟩:=x;refine⟨n1,n2.1,oe,xq,a0,g1,g2,g3,g4,?_⟩
  rcases g5 with z | ⟨T,oT,ts,Y,hf,h1,ne,m1,m2,r⟩
  ·exact .inl z
  ·exact .inr ⟨T,oT,ts,Y,hf,h1,ne,m1,m2.1,r⟩
 ·unfold ER at o
  cases U:Z (FS N.length ds) S with
  | bad=>rw[U]at o;exact o.elim
  | err c S'=>rw[U]at o;exact o.elim
  | ok Y S'=>
   rw[U]at o
   cases Y with
   | nx e'=>exact λL B g l X r=>o L B .non l X .non
   | rt d=>exact o
   | bk e'=>exact o.elim
   | ct e'=>exact o.elim
   | ex c e'=>exact λL B g l X r=>o L B l X
end
section
variable{X:Cx}
noncomputable def intOp(C:Int->Int->Prop)[∀i j,Decidable (C i j)](g:Int->Int->D):D->D->Sto->Res D
 | .int i,.int j,S=>if C i j then .ok (g i j) S else .bad
 | _,_,_=>.bad
theorem gX[∀i j,Decidable (C i j)](h:intOp C g a b S=.ok d l):∃i j,a=.int i/\b=.int j/\C i j/\d=g i j/\l=S:=by
 unfold intOp at h;split at h
 ·split at h
  ·rename_i i j _ m
   cases h;exact⟨_,_,rfl,rfl,m,rfl,rfl⟩
  ·cases h
 ·cases h
theorem SH[∀i j,Decidable (C i j)](l:∀ρ H i j,Bs X.K ρ H (g i j) (v i j))(h:OpR X f (rI C v)):OpR X f (rD X.K (intOp C g)):=h.imp<|by
 rintro x y H Q ⟨ρ,S,a,b,d,E,m,o,s,A,k⟩
 obtain⟨i,j,rfl,rfl,B,rfl,rfl⟩:=gX A;cases o;cases s;exact⟨i,j,rfl,rfl,B,k ρ H _ .refl m (l _ _ _ _)⟩
theorem NN(l:∀ρ H i j,Bs X.K ρ H (g i j) (v i j))(h:OpR X f (rI0 v)):OpR X f (rD X.K (intOp (λ_ _=>True) g)):=
 SH (C:=λ_ _=>True) l (h.imp λx y H Q ⟨i,j,m,o,_,q⟩=>⟨i,j,m,o,q⟩)
noncomputable instance(i j:Int):Decidable (iY i j):=inferInstanceAs (Decidable (_/\_))
noncomputable instance(i j:Int):Decidable (iX i j):=inferInstanceAs (Decidable (_/\_/\_))
noncomputable instance(i j:Int):Decidable (Xm i j):=inferInstanceAs (Decidable (_∨_))
noncomputable abbrev Wj:=intOp (λ_ _=>True) λi j=>.int (i - j)
noncomputable abbrev Pt:=intOp Xm λi j=>.int (i * j)
noncomputable abbrev IY:=intOp iY λi j=>.int (i / j)
noncomputable abbrev Kr:=intOp (λ_ j=>0 < j) λi j=>.int (i % j)
noncomputable abbrev ltD:=intOp (λ_ _=>True) λi j=>.bl (decide (i < j))
noncomputable abbrev leD:=intOp (λ_ _=>True) λi j=>.bl (decide (i<=j))
noncomputable abbrev gtD:=intOp (λ_ _=>True) λi j=>.bl (decide (j < i))
noncomputable abbrev geD:=intOp (λ_ _=>True) λi j=>.bl (decide (j<=i))
theorem Pn:OpR X (DV .Sub) (rD X.K Wj):=NN (λ_ _ _ _=>.int _) oI
theorem LX:OpR X (DV .Mult) (rD X.K Pt):=SH (λ_ _ _ _=>.int _) oK
theorem Gj:OpR X (DV .FloorDiv) (rD X.K IY):=SH (λ_ _ _ _=>.int _) kG
theorem F9:OpR X (DV .Mod) (rD X.K Kr):=SH (λ_ _ _ _=>.int _) oM
theorem fJ:OpR X (Bt .Lt) (rD X.K ltD):=NN (λ_ _ _ _=>.bl _) sH
theorem W6:OpR X (Bt .LtE) (rD X.K leD):=NN (λ_ _ _ _=>.bl _) sJ
theorem lg:OpR X (Bt .Gt) (rD X.K gtD):=NN (λ_ _ _ _=>.bl _) sK
theorem sS:OpR X (Bt .GtE) (rD X.K geD):=NN (λ_ _ _ _=>.bl _) sL
noncomputable def Ge:D->D->Sto->Res D
 | .int i,.int j,S=>.ok (.int (i+j)) S
 | .tup g,.tup m,S=>if g.length+m.length<=sizeLine then .ok (.tup (g++m)) S else .bad
 | .ref l,.ref b,S=>match S[l]?,S[b]? with
  | some (.lst g),some (.lst m)=>if g.length+m.length<=sizeLine then .ok (.ref S.length) (S++[.lst (g++m)])else .bad
  | _,_=>.bad
 | _,_,_=>.bad
noncomputable def rl(K:AD):R2:=λx y H Q=>∃a b g j,x=.ref a/\y=.ref b/\H a=some (.tup g)/\H b=some (.tup j)/\g.length+j.length<=sizeLine /\
 (g=[]->Q (.ref b) H)/\(j=[]->Q (.ref a) H)/\(∀p,H p=none->Q (.ref p) (upd H p (.tup (g++j))))
theorem kI:OpR X (DV .Add) (rl X.K):=by
 intro G s J H x y v u Q I L N h;obtain⟨a,b,xs,l,rfl,rfl,m,hb,O,P,R,S⟩:=h;cases L;cases N;obtain⟨o,U,Y,_⟩:=I.tuple (a:=a) (xs:=xs) (.inl (.inl m));obtain⟨Z,r2,p2,_⟩:=I.tuple (a:=b) (xs:=l) (.inl (.inl hb))
 by_cases j:xs=[]
 ·obtain⟨⟨cls,dd,data,sl⟩,A,B,n,C⟩:=id Y
  obtain⟨⟨E,wC,data2,wD⟩,g,hc2,n2,hd2⟩:=id p2;simp only at B C hc2 hd2;subst B C hc2 hd2;have hi:o=[]:=U.nil_iff.mpr j
  exact dG ⟨_,A,rfl⟩ ⟨_,g,rfl⟩ Uh ax K5 Ki (KJ _ _)
   (tuple_addW0 a b o.toArray Z.toArray n n2 dd wC sl wD (by simp[hi])) ⟨A,g,⟨.ref b,H,I,rfl,P j⟩⟩
 ·exact kH G s J H (.ref a) (.ref b) _ _ Q I rfl rfl ⟨a,b,xs,l,rfl,rfl,.inl (.inl m),.inl (.inl hb),j,O,R,λ_ p hp=>S p hp⟩
theorem Ak.nil_of{K}{ρ}{H}{xs}{vs}(r:Ak K ρ H xs vs)(e:vs=[]):xs=[]:=by
 subst e;cases r;rfl
theorem Dv:OpR X (DV .Add) (rD X.K Ge):=(oR.or (kI.or oP)).imp<|by
 rintro x y H Q ⟨l,S,a,b,d,S',j,ra,I,g,k⟩
 cases ra with
 | int i=>
  cases I <;> first | (cases g;done) | skip
  cases g;exact .inl ⟨_,_,rfl,rfl,k l H _ .refl j (.int _)⟩
 | @tup O a1 A B s=>
  cases I with
  | @tup P b1 ws R C=>
   unfold Ge at g;dsimp only at g;split at g
   ·rename_i J
    cases g;refine .inr (.inl ⟨_,_,_,_,rfl,rfl,B,R,by rw[<-s.length,<-C.length];exact J,λe=>?_,λe=>?_,λp E=>?_⟩)
    ·rw[s.nil_of e,S8]at k
     exact k l H _ .refl j (.tup R C)
    ·rw[C.nil_of e,Ba]at k
     exact k l H _ .refl j (.tup B s)
    ·obtain⟨L,G⟩:=Fq (ho:=.tup (A++ws)) j E
     exact k l _ _ G L (.tup Bc ((s.append C).mono G))
   ·cases g
  | _=>cases g
 | @ref n a1 hn=>
  cases I with
  | @ref m b1 uX=>
   unfold Ge at g;dsimp only at g;split at g
   ·rename_i O P B s
    split at g
    ·rename_i J
     cases g;obtain⟨A,e1,U⟩:=j.ob _ _ _ B hn;obtain⟨Y,e2,Z⟩:=j.ob _ _ _ s uX;refine .inr (.inr ⟨_,_,_,_,rfl,rfl,e1,e2,by rw[<-U.length,<-Z.length];exact J,λp E=>?_⟩);have le:Le X.K l H (l++[p]) (upd H p (.lst (A++Y))):=Le.alloc E;obtain⟨L,G,N⟩:=j.alloc (ho:=.lst (A++Y)) (o:=.lst (O++P)) E ⟨_,Bc,(U.append Z).mono le⟩;exact k _ _ _ G L (.ref N)
    ·cases g
   ·cases g
  | _=>cases g
 | _=>cases g
noncomputable def ixD:D->D->Sto->Res D:=λa b S=>match IA a S,b with
 | some g,.int i=>match atI g i with
  | some d=>.ok d S
  | none=>.bad
 | _,_=>.bad
theorem lD{K}{ρ}{H}{ds}{vs}{i}{d}(r:Ak K ρ H ds vs)(h:atI ds i=some d):∃v,atI vs i=some v/\Bs K ρ H d v:=by
 unfold atI at h ⊢;rw[<-r.length]
 cases g:ixN ds.length i with
 | none=>rw[g]at h;cases h
 | some j=>
  rw[g]at h;exact r.get h
theorem sP:IxR X (rD X.K ixD):=(kX.or ou).imp<|by
 rintro x y H Q ⟨l,S,a,b,d,I,j,A,B,g,k⟩
 unfold ixD at g;split at g
 ·rename_i J i C
  split at g
  ·rename_i L E
   cases g;cases B;obtain⟨p,m,rfl,G,sq⟩:=RA j A C;obtain⟨v,o,s⟩:=lD G E
   rcases sq with sq | sq
   ·exact .inl ⟨p,m,_,v,rfl,rfl,sq,o,k l H v .refl j s⟩
   ·exact .inr ⟨p,m,_,v,rfl,rfl,sq,o,k l H v .refl j s⟩
  ·cases g
 ·cases g
noncomputable def sj(neg:Bool)(x y:D)(S:Sto):Res D:=match y with
 | .non=>match x with
  | .non=>.ok (.bl (!neg)) S
  | _=>.ok (.bl neg) S
 | _=>.bad
theorem oV:OpR X (Bt .Is) (rD X.K (sj false)):=oO.imp<|by
 rintro x y H Q ⟨j,S,a,b,d,s,l,m,o,g,k⟩
 cases o <;> first | (cases g;done) | skip
 refine⟨rfl,?_⟩
 cases m <;> (cases g;exact k j H _ .refl l (.bl _))
end
noncomputable def mQ(f:List D->Sto->Res D)(m:ML):ME:=λe S=>(m e S).bind λg j=>okR (f g j)
section
variable{X:Cx}{E:EW}{e:Expr}{es:List Expr}{x:Str}{p pos:Pos}{ml:ML}{id:String}{r:List V->Hp->VK->Prop}{f:List D->Sto->Res D}
noncomputable def qB(K:AD)(r:List V->Hp->VK->Prop)(f:List D->Sto->Res D):Prop:=∀l H S o q m d s (Q:VK),CA K l S H->Ak K l H o m->(SqL K H q m∨SqT K H q m)->f o S=.ok d s ->
 (∀g j z,Le K l H g j->CA K g s j->Bs K g j d z->Q z j)->r [.ref q] H Q
noncomputable def qF(K:AD)(r:List V->Hp->VK->Prop)(f:List D->Sto->Res D):Prop:=∀l H S m o d s (Q:VK),CA K l S H->Ak K l H m o->f m S=.ok d s ->
 (∀g j z,Le K l H g j->CA K g s j->Bs K g j d z->Q z j)->r o H Q
theorem aO(s:Kv X (.builtin id) r)(A:qB X.K r f)(B:Gl X x)(g:X.mg x=none)(C:G0 x=some (.builtin id))(h:GQ X E e ml)(G:x≠"__name__":=by decide) (I:(x==("__debug__" : Str))=false:=by decide)
  (o:AQ [e] X.env=(false,Bd e X.env) :: AQ [] X.env:=by rfl):GE X E (.Call (.Name x p) [e] [] pos) (mQ f ml):=(Mo s B g C (FB h IM o) G I o rfl).imp<|by
 rintro σ H Q ⟨J,l,S,L,N,g⟩
 refine⟨J,l,S,L,N,g.seq λO P g j R q U Y Z r1 sq=>?_⟩;obtain⟨d,S',e,k⟩:=g.okR
 exact A j R P O q U d S' Q Z r1 sq e λm H' z l' s' r'=>k m H' z (Y.trans l') s' r'
theorem aR(o:Kv X (.builtin id) r)(s:qF X.K r f)(A:Gl X x)(g:X.mg x=none)(B:G0 x=some (.builtin id))(h:GA X E (e :: es) ml)(C:x≠"__name__":=by decide) (G:(x==("__debug__" : Str))=false:=by decide)
  (I:AQ (e :: es) X.env=(false,Bd e X.env) :: AQ es X.env:=by rfl) (J:(Da pos (AQ es X.env)).any (·.1)=false:=by rfl):GE X E (.Call (.Name x p) (e :: es) [] pos) (mQ f ml):=(Mo o A g B h C G I J).imp<|by
 rintro σ H Q ⟨L,l,S,N,O,g⟩
 refine⟨L,l,S,N,O,g.seq λP R g j U Y Z s1 r1=>?_⟩;obtain⟨d,S',e,k⟩:=g.okR
 exact s j U R P Y d S' Q s1 r1 e λm H' z l' s' r'=>k m H' z (Z.trans l') s' r'
noncomputable def sd(ds:List D)(S:Sto):Res D:=.ok (.int ds.length) S
theorem nL:qB X.K (λxs H Q=>∃p ys,xs=[.ref p]/\(SqL X.K H p ys∨SqT X.K H p ys)/\Q (.int ys.length) H) sd:=λg H S o q xs d s Q j l sq m k=>by
 cases m;exact⟨q,xs,rfl,sq,k g H _ .refl j (by rw[l.length];exact .int _)⟩
noncomputable def Oo:List D->Sto->Res D
 | [.int i,.int j],S=>.ok (.int (if j < i then j else i)) S
 | _,_=>.bad
noncomputable def UK:List D->Sto->Res D
 | [.int i,.int j],S=>.ok (.int (if j > i then j else i)) S
 | _,_=>.bad
theorem lF:qF X.K (λxs H Q=>∃i j,xs=[.int i,.int j]/\Q (.int (if j < i then j else i)) H) Oo:=λl H S s xs d A Q m o g k=>by
 unfold Oo at g;split at g
 ·cases g
  cases o with
  | cons a t=>
   cases t with
   | cons b t=>
    cases t;cases a;cases b;exact⟨_,_,rfl,k l H _ .refl m (.int _)⟩
 ·cases g
theorem lG:qF X.K (λxs H Q=>∃i j,xs=[.int i,.int j]/\Q (.int (if j > i then j else i)) H) UK:=λl H S s xs d A Q m o g k=>by
 unfold UK at g;split at g
 ·cases g
  cases o with
  | cons a t=>
   cases t with
   | cons b t=>
    cases t;cases a;cases b;exact⟨_,_,rfl,k l H _ .refl m (.int _)⟩
 ·cases g
end
noncomputable def EL(X:Cx)(scope:TH)(N':List Str)(l:List (Str×AN))(C:AN)(g:AK)(j:Hp)(ex:List AN)(pn:List (AN×Obj)):Cx where
 prog:=X.prog
 w:=X.w
 K:=X.K
 mg:=X.mg
 base:=X.base
 A:=X.A
 N:=N'
 s₀:=g
 H₀:=j
 env:=compEnvC scope l C X.env
 outer:=X.stack
 stack:=X.stack
 ex:=ex
 fn:=λx=>scope.names.lookup x==some .cell
 calm:=X.calm
 pn:=pn
 xe:=λ_ _=>False
theorem V6:∀(names:List (Str×PM)) (g:List (Str×AN)),(∀y∈names,y.2=.free->∃c,env.cells.lookup y.1=some c)->(∀n c,g.lookup n=some c->env.cells.lookup n=some c) ->
  ∃l,(forIn names g (λ(x:Str×PM) (J:List (Str×AN))=>match x with | (name,kind)=>if (kind==GK)=true then do let a <-cellOf env name;pure (Hx ((name,a) :: J))else pure (Hx J)):Sem (List (Str×AN)))=pure l /\
   (∀n c,l.lookup n=some c->env.cells.lookup n=some c)/\(∀n c,g.lookup n=some c->∃N,l.lookup n=some N)/\∀y∈names,y.2=.free->∃c,l.lookup y.1=some c
 | [],g,_,s=>⟨g,rfl,s,λn c h=>⟨c,h⟩,λ_ h=>nomatch h⟩
 | (n,k) :: r,g,h,s=>by
  rw[G2]
  by_cases E:k=.free
  ·subst E
   obtain⟨c,L⟩:=h (n,.free) Ah rfl
   obtain⟨l,e,G,A,I⟩:=V6 r ((n,c) :: g) (λy j=>h y (AS _ j)) (λm d o=>by
    rw[BQ]at o
    cases B:(m==n)with
    | true=>rw[B]at o;cases o;rw[eq_of_beq B];exact L
    | false=>rw[B]at o;exact s m d o)
   have O:cellOf env n=pure c:=by unfold cellOf;rw[L]
   refine⟨l,?_,G,λm d o=>A m (if m==n then c else d) ?_,λy j C=>?_⟩
   ·simp only[beq_self_eq_true,if_true,O,pure_bind]
    exact e
   ·rw[BQ]
    cases B:(m==n)with
    | true=>rfl
    | false=>exact o
   ·rcases Aq.mp j with rfl | j
    ·exact A n c (by rw[BQ,beq_self_eq_true])
    ·exact I y j C
  ·have hb:(k==GK)=false:=by simpa using E
   obtain⟨l,e,G,A,I⟩:=V6 r g (λy j=>h y (AS _ j)) s;refine⟨l,?_,G,A,λy j C=>?_⟩
   ·simp only[hb,CH,if_false,pure_bind]
    exact e
   ·rcases Aq.mp j with rfl | j
    ·exact(E C).elim
    ·exact I y j C
theorem ai(h:∀y∈scope.names,y.2=.free->∃c,env.cells.lookup y.1=some c):∃g,closureFor scope env=pure g /\
  (∀n c,g.lookup n=some c->env.cells.lookup n=some c)/\∀y∈scope.names,y.2=.free->∃c,g.lookup y.1=some c:=by
 obtain⟨g,e,j,_,l⟩:=V6 scope.names [] h (λn c z=>by simp at z);refine⟨g,?_,j,l⟩;unfold closureFor;exact(congrArg (λz=>z >>= λm=>pure m) e).trans (by rw[pure_bind])
noncomputable def cg(X:Cx)(g:List Expr)(t:TT):Prop:=
 ∀(l:List (AN×Obj)) (s:AK) (j:St) (H:Hp) (Q:Bool->Hp->Prop),Inv X l j H s->t j H Q ->
  AY (Ad X.prog X.w) X.A (forIn g true λc r=>if r=true then do let ok <-X5 c X.env (Bd c X.env);pure (Hx ok)else pure (Hx r)) (TP X l j Q) X.xe s
theorem ej:cg X [] (λ_ H Q=>Q true H):=λg s j H Q I h=>wpAny_tests_nil ⟨H,I,h⟩
structure ON(X:Cx)(scope:TH)(own N':List Str):Prop where
 kind:scope.kind=.function
 names:∀y∈scope.names,y.2=.local->scope.names.lookup y.1=some .local
 free:∀y∈scope.names,y.2=.free->X.env.kindOf y.1=some .cell∨X.env.kindOf y.1=some .free
 len:N'.length=own.length+X.N.length
 up:∀i x,N'[own.length+i]?=some x->Vis (Kf scope X.env) x->(X.N[i]?=some x/\Vis X.env.scope x/\((Kf scope X.env).names.lookup x=some .cell∨(Kf scope X.env).names.lookup x=some .free)/\X.env.kindOf x≠some .local)/\(x,C2)∉scope.names/\(x,GK)∈scope.names
 vis:∀x,((Kf scope X.env).names.lookup x=some .cell∨(Kf scope X.env).names.lookup x=some .free)->(x,GK)∈scope.names∨(x,C2)∈scope.names
theorem Fu:∀(names:List (Str×PM)) (n:Nat) (j:List (Str×AN)) (x:Str) (c:AN),(CK n names j).lookup x=some c ->
  ((x,C2)∈names/\n<=c)∨j.lookup x=some c
 | [],_,_,_,_,h=>.inr h
 | (y,k) :: r,n,j,x,c,h=>by
  unfold CK at h;split at h
  ·rename_i l
   have l:k=.cell:=by simpa using l
   subst l
   rcases Fu r (n+1) _ x c h with⟨g,m⟩ | g
   ·exact .inl ⟨AS _ g,Qb m⟩
   ·rw[BQ]at g
    cases hb:x==y with
    | true=>rw[hb]at g;cases g;rw[beq_iff_eq.mp hb];exact .inl ⟨Ah,AO _⟩
    | false=>rw[hb]at g;exact .inr g
  ·rcases Fu r n j x c h with⟨g,m⟩ | g
   ·exact .inl ⟨AS _ g,m⟩
   ·exact .inr g
theorem DT:∀(names:List (Str×PM)) (n:Nat) (g:List (Str×AN)) (x:Str),(∃c,g.lookup x=some c)->∃c,(CK n names g).lookup x=some c
 | [],_,_,_,h=>h
 | (y,k) :: r,n,g,x,h=>by
  unfold CK;split
  ·refine DT r (n+1) _ x ?_
   rw[BQ]
   cases hb:x==y with
   | true=>exact⟨_,rfl⟩
   | false=>exact h
  ·exact DT r n g x h
theorem ED:∀(names:List (Str×PM)) (n:Nat) (g:List (Str×AN)) (x:Str),(x,C2)∈names->∃c,(CK n names g).lookup x=some c/\n<=c
 | (y,k) :: r,n,g,x,h=>by
  unfold CK
  by_cases l:(x,C2)∈r
  ·split
   ·obtain⟨c,j,o⟩:=ED r (n+1) ((y,n) :: g) x l
    exact⟨c,j,Qb o⟩
   ·exact ED r n g x l
  ·rcases Aq.mp h with e | e
   ·cases e
    rw[qX (show(C2==C2)=true from rfl)];obtain⟨c,m⟩:=DT r (n+1) ((y,n) :: g) y ⟨n,by rw[BQ,beq_self_eq_true]⟩
    rcases Fu r (n+1) _ y c m with⟨j,_⟩ | j
    ·exact(l j).elim
    ·rw[BQ,beq_self_eq_true]at j
     cases j;exact⟨n,m,AO _⟩
   ·exact(l e).elim
theorem Ng(m:(x,C2)∉names)(h:g.lookup x=some c):(CK n names g).lookup x=some c:=by
 obtain⟨o,l⟩:=DT names n g x ⟨c,h⟩
 rcases Fu names n g x o l with⟨j,_⟩ | j
 ·exact(m j).elim
 ·rw[h]at j;cases j;exact l
theorem KZ:∀(names:List (Str×PM)) (n:Nat) (g:List (Str×AN)),(∀x c,g.lookup x=some c->c < n)->(∀x y c,g.lookup x=some c->g.lookup y=some c->x=y) ->
  ∀x y c,(CK n names g).lookup x=some c->(CK n names g).lookup y=some c->x=y
 | [],_,_,_,h=>h
 | (z,k) :: r,n,g,l,h=>by
  unfold CK;split
  ·have j:∀x c,((z,n) :: g).lookup x=some c->(x=z/\c=n)∨g.lookup x=some c:=λx c q=>by
    rw[BQ]at q
    cases hb:x==z with
    | true=>rw[hb]at q;cases q;exact .inl ⟨beq_iff_eq.mp hb,rfl⟩
    | false=>rw[hb]at q;exact .inr q
   refine KZ r (n+1) _ (λx c q=>?_) λx y c s A=>?_
   ·rcases j x c q with⟨_,rfl⟩ | e
    ·exact C0 _
    ·exact Kx (l x c e)
   ·rcases j x c s with⟨e,B⟩ | e <;> rcases j y c A with⟨m,o⟩ | m
    ·rw[e,m]
    ·subst B;exact zX (l _ _ m) (Cf _)
    ·subst o;exact zX (l _ _ e) (Cf _)
    ·exact h x y c e m
  ·exact KZ r n g l h
theorem KY:∀(names:List (Str×PM)) (h:CS) (g:List (Str×AN)) (x:Str) (c:AN),(CK h.objs.size names g).lookup x=some c->g.lookup x=some c∨((Ey h names).IsCell c none/\h.objs.size<=c)
 | [],_,_,_,_,q=>.inl q
 | (y,k) :: r,h,g,x,c,q=>by
  unfold CK at q;unfold Ey;split at q
  ·rename_i j
   rw[qX j];have:=KY r (h.push { cls:=.type "cell",data:=.cell none }) ((y,h.objs.size) :: g) x c (by rw[Cb];exact q)
   rcases this with e | ⟨e,l⟩
   ·rw[BQ]at e
    cases hb:x==y with
    | true=>
     rw[hb]at e;cases e;exact .inr ⟨⟨_,WQ _ _ _ _ (Aa _ rfl),rfl⟩,AO _⟩
    | false=>rw[hb]at e;exact .inl e
   ·exact .inr ⟨e,by rw[Cb]at l;exact Qb l⟩
  ·rename_i j
   rw[qY j];exact KY r h g x c q
theorem YK
  (h:Q (newEnv scope s.heap.objs.size globals (CK (s.heap.push { cls:=.type "dict",data:=.dict #[] }).objs.size scope.names B) j none .none (some g) X8) { s with heap:=Ey (s.heap.push { cls:=.type "dict",data:=.dict #[] }) scope.names }) :
  AY M A (X4 scope globals B [] j none .none (some g)) Q E s:=by
 simp only[X4,Zc,if_true];refine AA (wpAny_alloc ?_);refine AA (wpAny_layCells _ (λo l cells=>by cases m:l==C2 <;> simp[m]) _ _ _ _ ?_);rw[HV];exact AA (AG (AG h))
section
theorem ZJ(N:ON X scope own N')(I:Inv X ζ Q O B)(E:∀b∈fp,MK X ζ O b)(xr:∀b∈fp,b < B.heap.objs.size)
  (g:∀n c,A.lookup n=some c->X.env.cells.lookup n=some c) (c2:∀y∈scope.names,y.2=.free->∃c,A.lookup y.1=some c)
  (R:B.heap.objs.size<=n) (S:∀x c,(CK n scope.names A).lookup x=some c->A.lookup x=some c∨(s.heap.IsCell c none/\n<=c)) (zz:∀c,n<=c->H c=none)
  (U:B.heap.objs.size<=C) (hn:s.heap.Ns C m) (wR:s.os=B.os) (hg:Jc s.gens)
  (u:Un (frs X.stack) fp O H B.heap s.heap) (Y:HOk X.prog X.w H s.heap) (wF:H C=none) :
  Inv (EL X scope N' (CK n scope.names A) C B O fp (X.pn++ζ)) [] (BM own.length none++Q) H s:=by
 have l:∀x c v,A.lookup x=some c->B.heap.IsCell c v->s.heap.IsCell c v:=by
  rintro x c v e ⟨o,Z,hd⟩
  obtain⟨sl,q⟩:=u.any Z (I.freeC x c (g x c e)) λz=>(E c z).2.2.2.2.1 x c (g x c e) rfl
  exact⟨_,q,hd⟩
 have clt:∀x c,A.lookup x=some c->c < n:=λx c e=>by
  obtain⟨v,z⟩:=I.cell x c (g x c e);exact AW z.lt R
 have ok':(EL X scope N' (CK n scope.names A) C B O fp (X.pn++ζ)).Ok:=by
  refine⟨I.ok.mod,N.kind,I.ok.glob,I.ok.blt,U,KZ _ _ _ clt λx y c h1 h2=>I.ok.inj x y c (g x c h1) (g y c h2),λx hx=>?_,λx c z q=>?_,I.ok.hd,I.ok.frames,.inl rfl,λb hb=>?_,I.bs,Au I.ok.bsz I.sz,λb o e hb=>?_,λb hb ux=>?_,I.stack,I.stkFree⟩
  ·rcases N.vis x hx with h | h
   ·exact DT _ _ _ _ (c2 _ h rfl)
   ·obtain⟨c,hc,_⟩:=ED scope.names n A x h
    exact⟨c,hc⟩
  ·have z:(scope.names.lookup x==some .cell)=true:=z
   obtain⟨c',G,hl⟩:=ED scope.names n A x (Dk (beq_iff_eq.mp z));have q:(CK n scope.names A).lookup x=some c:=q;rw[G]at q;cases q;exact Au R hl
  ·refine⟨Ao (AW (xr b hb) U),λx c e=>?_⟩
   rcases S x c e with e | ⟨_,e⟩
   ·exact(E b hb).2.2.2.2.1 x c (g x c e)
   ·exact DX (AW (xr b hb) (Au R e))
  ·obtain⟨_,_,_,z,_⟩:=E b hb
   rcases z with z | z
   ·exact I.ok.noex b o e z
   ·exact zX (AW (AL (I.ok.bs b o e).1) z) (Cf _)
  ·obtain⟨_,z1,z2,_⟩:=E b hb
   rcases Aq.mp (I.stkSub b ux)with e | e
   ·exact z1 e
   ·exact z2 e
 refine⟨ok',wR,hg,u,⟨m,hn,λi x v e1 P e3=>?_⟩,λx c e=>?_,wF,λx c e=>?_,λp hp=>?_,Y,?_⟩
 ·have hi:own.length<=i:=by
   apply RT
   intro uE;rw[Al (by simpa using uE),Dh,qX uE]at P;cases P
  obtain⟨j,rfl⟩:∃j,i=own.length+j:=⟨i - own.length,by lia⟩
  rw[BV (by simp)]at P
  have e2':Q[j]?=some (some v):=by simpa using P
  obtain⟨⟨n1,n2,n3,n4⟩,n5,n6⟩:=N.up j x e1 e3;obtain⟨m0,yu,hl⟩:=I.loc;obtain⟨w',r,lk⟩:=hl j x v n1 e2' n2;refine⟨w',r,.inr ⟨n3,?_⟩⟩
  rcases lk with⟨k,_⟩ | ⟨_,c,hc,uy⟩
  ·exact(n4 k).elim
  ·obtain⟨c',G⟩:=c2 _ n6 rfl
   have e:=g x c' G;rw[hc]at e;cases e;exact⟨c,Ng n5 G,l x c _ G uy⟩
 ·rcases S x c e with e | ⟨e,_⟩
  ·obtain⟨v,z⟩:=I.cell x c (g x c e)
   exact⟨v,l x c v e z⟩
  ·exact⟨none,e⟩
 ·rcases S x c e with e | ⟨_,e⟩
  ·obtain⟨v,o,Z,hd⟩:=I.cell x c (g x c e)
   exact u.free c o Z (I.freeC x c (g x c e)) λz=>(E c z).2.2.2.2.1 x c (g x c e) rfl
  ·exact zz c e
 ·have Ι:p∈X.pn++ζ:=by
   have hp:p∈(X.pn++ζ)++[]:=hp;rwa [Ba]at hp
  obtain⟨e,n,ne,nf,d⟩:=I.pin p Ι
  have J:p.1∉frs X.stack:=λz=>(Aq.mp (I.stkSub _ z)).elim ne nf
  have L:p.1∉fp:=λz=>(E _ z).2.2.2.2.2 p Ι rfl
  exact⟨u.keep p.1 p.2 e n J L,u.free p.1 p.2 e n L,Ao (AW (AL e) U),J,d⟩
 ·show(BM own.length none++Q).length=N'.length
  rw[AV,ND,I.len,N.len]
noncomputable def dy(k:Nat)(L:TI)(g:TG)(tc:TT)(te:TE):TE:=λB H Q=>L B H λJ C=>∀p,C p=none->∃W:Nat->Nat->St->Hp->List V->Prop,(∃m,W 0 m (BM k none++B) (upd C p (.lst [])) []) /\
 ∀i m s o l,W i m s o l->o p=some (.lst l)/\((J.stop i o/\Q (.ref p) o)∨(J.go i o/\l.length < sizeLine/\∀x E,J.yld i o x E->g x s E λj N=>tc j N λb G=>
  if b=true then te j G λy I=>I p=some (.lst l)/\∃A,A < m/\W (i+1) A j (upd I p (.lst (l++[y]))) (l++[y])else ∃A,A < m/\W (i+1) A j G l))
theorem cT{X':Cx}{L ϖ iter:Expr}{N:List Expr}{pos:Pos}{J:It}{it p:AN}{tn:Nat->CS->Prop}{g:TG}{tc:TT}{te:TE}{R:Result->AK->Prop}{Q:Hp->Prop}
  (hc:X'.calm=true) (hx:X'.xe=λ_ _=>False) (T:Tl X'.prog X'.w X'.K ϖ J fp it tn) (hg:PG X' ϖ g) (vR:cg X' N tc) (he:PE X' L te)
  (W:Nat->Nat->St->Hp->List V->Prop) (turn:∀i m j l xs,W i m j l xs->l p=some (.lst xs)/\((J.stop i l/\Q l)∨(J.go i l/\xs.length < sizeLine/\∀x vP,J.yld i l x vP->g x j vP λG H2=>tc G H2 λb H3=>
   if b=true then te G H3 λy H4=>H4 p=some (.lst xs)/\∃C,C < m/\W (i+1) C G (upd H4 p (.lst (xs++[y]))) (xs++[y])else ∃C,C < m/\W (i+1) C G H3 xs)))
  (fin:∀j l s',Inv X' [] j l s'->Q l->R (.ok .next) s')
  {m0:Nat} {O:St} {H0:Hp} {s0:AK} (I0:Inv X' [] O H0 s0) (st0:tn 0 s0.heap) (f0:∀b∈fp,MK X' [] H0 b) (w0:W 0 m0 O H0 []) :
  JZ (Ad X'.prog X'.w) X'.A (.compLoop (.ListComp L [⟨ϖ,iter,N,0⟩] scope pos) 0 (.ref it) (.ref p) X'.env) R s0:=by
 have vh:∀{l:Hp},(∀b∈fp,l b=none)->∀b∈fp,MK X' [] l b:=λhn b hb=>⟨hn b hb,(f0 b hb).2⟩
 refine codeAny_loop rfl (λn s'=>∃i j l xs,Inv X' [] j l s'/\tn i s'.heap/\(∀b∈fp,l b=none)/\W i n j l xs) (λn s1 hI=>?_) m0 ⟨0,O,H0,[],I0,st0,λb hb=>(f0 b hb).1,w0⟩;obtain⟨i,B,H1,xs,I1,uq,fr1,w1⟩:=hI;show AY _ X'.A ((compTurn (.ListComp L [⟨ϖ,iter,N,0⟩] scope pos) 0 (.ref it) (.ref p) X'.env).onRaise (λx=>do ck x X'.env;theTreesLotGoes x)) _ _ s1;refine wpAny_noted ?_;rw[compTurn_list]
 have up:∀{α:Type} {t:Sem α} {P:α->AK->Prop} {E:AE->AK->Prop} {s:AK},AY (Ad X'.prog X'.w) X'.A t P X'.xe s->AY (Ad X'.prog X'.w) X'.A t P E s:=λh=>Eh h (λ_ _ z=>z) λ_ _ z=>by rw[hx]at z;exact z.elim
 obtain⟨hp,yw⟩:=turn i n B H1 xs w1;refine AA (au (AA ?_))
 rcases yw with⟨stop,q⟩ | ⟨go,hz,step⟩
 ·refine up (thn (T.done X' rfl rfl rfl hc i [] s1 B H1 X'.xe I1 (vh fr1) uq stop) λr s4 ⟨hr,I4⟩=>?_)
  subst hr;exact AG (fin B H1 s4 I4 q)
 ·refine up (thn (T.item X' rfl rfl rfl hc i [] s1 B H1 X'.xe I1 (vh fr1) uq go) λr s4 ⟨u,hr,h4⟩=>?_)
  subst hr;refine AA (up (thn h4 λ_ s5 ⟨x,H5,I5,r5,y5,S,fr5⟩=>?_));have M':=I5.pinned (vh fr5) (T.obj _ _ S);refine AA (up (thn (hg _ s5 B H5 x u _ M' r5 (step x H5 y5)) λ_ s6 ⟨U,H6,I6,q6⟩=>?_))
  have again:∀{Y:AK} {I:St} {Z:Hp} {ys:List V},Inv X' ([]++SB fp s5.heap) I Z Y->(∃C,C < n/\W (i+1) C I Z ys)->∃m,m < n/\∃i j l xs,Inv X' [] j l Y/\tn i Y.heap/\(∀b∈fp,l b=none)/\W i m j l xs:=λ{Y I Z ys} I7 ⟨C,hm,w7⟩=>by
   refine⟨C,hm,i+1,I,Z,ys,I7.unpinned,T.keep _ _ _ S λb hb o e=>(I7.pin (b,o) (BN _ (BN _ (LY hb e)))).1,λb hb=>?_,w7⟩;obtain⟨o,e,d⟩:=T.obj _ _ S b hb;exact(I7.pin (b,o) (BN _ (BN _ (LY hb e)))).2.1
  refine AA (up (thn (vR _ s6 U H6 _ I6 q6) λok Y ⟨Z,I7,q7⟩=>?_))
  cases ok with
  | false=>
   rw[qY AT]at q7;exact AG ⟨rfl,again I7 q7⟩
  | true=>
   rw[qX rfl]at q7;refine AA (AA (up (thn (he _ Y U Z _ I7 q7) λyv s8 ⟨y,H8,I8,r8,hp8,q8⟩=>?_)));refine AA (up (thn (UI (X:=X') _ s8 U H8 (.ref p) [y] (.ref p) [yv] (λv H9=>v=.non/\H9=upd H8 p (.lst (xs++[y]))) I8 rfl (.cons r8 .nil) ⟨p,xs,y,rfl,rfl,hp8,hz,rfl,rfl⟩) λv9 s9 ⟨v,H9,I9,r9,e9,e10⟩=>?_));subst e10;exact AG (AG ⟨rfl,again I9 q8⟩)
end
section
theorem UV(L:Inv X B N s j)(J:Inv (EL X scope N' cl C j s fp (X.pn++B)) [] O l s')(P:j.heap.objs.size<=C)(Q:∀b∈fp,MK X B s b)
  (A:Du C s'.heap h'):Inv X B N l { s' with heap:=h' }:=by
 have E:∀b o,j.heap.get? b=some o->b≠C:=λb o e=>Ao (AW (AL e) P)
 have g:Un (frs X.stack) fp s l j.heap s'.heap:=J.base
 have u:Un (frs X.stack) fp s l j.heap h':=by
  refine⟨λb o e n hb m=>(A.2 b (E b o e)).trans (g.keep b o e n hb m),λb o e n hb m=>?_,g.free,λb o e m=>?_,g.tups,g.frzs,g.tbls⟩
  ·obtain⟨sl,q⟩:=g.slot b o e n hb m
   exact⟨sl,(A.2 b (E b o e)).trans q⟩
  ·obtain⟨R,q⟩:=g.there b o e m
   exact⟨R,(A.2 b (E b o e)).trans q⟩
 have I:l C=none:=J.free
 have G:HOk X.prog X.w l h':=λa o e=>(J.hok a o e).stay (λb u hb q=>(A.2 b λz=>by
  subst z
  rcases hb with z | z
  ·subst z;rw[I]at e;cases e
  ·rw[I]at z;cases z).trans q) (λ_ q=>q) λ_ _ q=>q
 exact L.call' (s':={ s' with heap:=h' }) (ch:=fp) J.os u G J.bare λb hb=>by
  obtain⟨_,S,z2,U,Y,Z⟩:=Q b hb;exact⟨U,S,Y,Z⟩
theorem Sq{σ:St}{E:AE->AK->Prop}{Qf:AN->Hp->Prop}{RR:AE->AN->Result->AK->Prop}{it:AN}{J:It}{tn:Nat->CS->Prop}(hc:X.calm=true)(Sc:ON X scope own N')
  (hg:∀I C l B ex pn,PG (EL X scope N' I C l B ex pn) ϖ g) (vR:∀I C l B ex pn,cg (EL X scope N' I C l B ex pn) Z tc) (he:∀I C l B ex pn,PE (EL X scope N' I C l B ex pn) elt te)
  (c1:∀n c,I.lookup n=some c->X.env.cells.lookup n=some c) (c2:∀y∈scope.names,y.2=.free->∃c,I.lookup y.1=some c)
  (Y:Inv X ζ σ L s2) (T:Tl X.prog X.w X.K ϖ J fp it tn) (u0:tn 0 s2.heap) (f2:∀b∈fp,MK X ζ L b)
  (q2:∀p,L p=none->∃W:Nat->Nat->St->Hp->List V->Prop,(∃m,W 0 m (BM own.length none++σ) (upd L p (.lst [])) []) /\
   ∀i m N O xs,W i m N O xs->O p=some (.lst xs)/\((J.stop i O/\Qf p O)∨(J.go i O/\xs.length < sizeLine/\∀x vP,J.yld i O x vP->g x N vP λP L=>tc P L λb G=>
    if b=true then te P G λy j=>j p=some (.lst xs)/\∃m',m' < m/\W (i+1) m' P (upd j p (.lst (xs++[y]))) (xs++[y])else ∃m',m' < m/\W (i+1) m' P G xs)))
  (hRR:∀D C I N O s',s2.heap.objs.size<=C->Inv (EL X scope N' I C s2 L fp (X.pn++ζ)) [] N O s'->Qf D O->RR (.ref D) C (.ok .next) s') :
  AY (Ad X.prog X.w) X.A (newList []) (λacc s₃=>AY (Ad X.prog X.w) X.A (X4 scope X.env.globals I [] X.env.qual none .none (some X.env)) (λyx s₄=>
   JZ (Ad X.prog X.w) X.A (.compStart (.ListComp elt [⟨ϖ,iter,Z,0⟩] scope pos) 0 (.ref it) acc { yx with scope:=Kf scope X.env }) (RR acc yx.locals) s₄) E s₃) E s2:=by
 have xr:∀b∈fp,b < s2.heap.objs.size:=λb hb=>by
  obtain⟨o,e,_⟩:=T.obj _ _ u0 b hb;exact AL e
 refine CG (YK ?_);dsimp only;generalize S:s2.heap.push { cls:=.type "list",dict:=none,data:=.seq ([]:List AE).toArray }=G;generalize U:G.push { cls:=.type "dict",data:=.dict #[] }=j
 have hC:G.objs.size=s2.heap.objs.size+1:=by rw[<-S,Cb]
 have hC4:j.objs.size=G.objs.size+1:=by rw[<-U,Cb]
 have hDC:s2.heap.objs.size≠G.objs.size:=by rw[hC];exact Ao (C0 _)
 have wj:s2.heap.objs.size<=G.objs.size:=by rw[hC];exact Ib _
 have yy:s2.heap.objs.size<=j.objs.size:=by rw[hC4];exact Nat.le_succ_of_le wj
 have yz:∀b o,G.get? b=some o->(Ey j scope.names).get? b=some o:=λb o e=>WQ _ _ _ _ (U▸AI _ e)
 have old:∀b o,s2.heap.get? b=some o->(Ey j scope.names).get? b=some o:=λb o e=>yz b o (S▸AI _ e)
 have vS:(Ey j scope.names).get? s2.heap.objs.size=some { cls:=.type "list",dict:=none,data:=.seq ([]:List AE).toArray }:=yz _ _ (S▸Aa _ rfl)
 have Κ:(Ey j scope.names).Ns G.objs.size λ_=>none:=by
  have:=(CS.Ns.new G (.type "dict")).keeps (WQ scope.names (G.push { cls:=.type "dict",data:=.dict #[] }));rw[U]at this;exact this
 have hD:L s2.heap.objs.size=none:=Y.hok.fresh (AO _);have u:Un (frs X.stack) fp L (upd L s2.heap.objs.size (.lst [])) s2.heap (Ey j scope.names):=Un.laid old (AO _) hD;have hok:HOk X.prog X.w (upd L s2.heap.objs.size (.lst [])) (Ey j scope.names):=Y.hok.laid old (AO _) ⟨Dx _,[],0,.nil,vS⟩
 have zz:∀c,s2.heap.objs.size < c->upd L s2.heap.objs.size (.lst []) c=none:=λc h=>by rw[BA (DX h)];exact Y.hok.fresh (MW h)
 have wF:upd L s2.heap.objs.size (.lst []) G.objs.size=none:=zz _ (by rw[hC];exact C0 _)
 have vq:∀x c,(CK j.objs.size scope.names I).lookup x=some c->I.lookup x=some c∨((Ey j scope.names).IsCell c none/\j.objs.size<=c):=λx c e=>KY scope.names j I x c e
 obtain⟨W,⟨m0,w0⟩,turn⟩:=q2 s2.heap.objs.size hD
 have R:∀s₃:AK,s₃={ s2 with heap:=Ey j scope.names } ->
   JZ (Ad X.prog X.w) X.A (.compLoop (.ListComp elt [⟨ϖ,iter,Z,0⟩] scope pos) 0 (.ref it) (.ref s2.heap.objs.size) (compEnvC scope (CK j.objs.size scope.names I) G.objs.size X.env))
    (RR (.ref s2.heap.objs.size) G.objs.size) s₃:=by
  rintro s₃ rfl
  have J0:Inv (EL X scope N' (CK j.objs.size scope.names I) G.objs.size s2 L fp (X.pn++ζ)) [] (BM own.length none++σ) (upd L s2.heap.objs.size (.lst [])) { s2 with heap:=Ey j scope.names }:=
   ZJ (s:={ s2 with heap:=Ey j scope.names }) Sc Y f2 xr c1 c2 yy vq (λc h=>zz c (by lia)) wj Κ rfl Y.bare u hok wF
  refine cT (X':=EL X scope N' (CK j.objs.size scope.names I) G.objs.size s2 L fp (X.pn++ζ)) (fp:=fp) (Q:=Qf s2.heap.objs.size) hc rfl T (hg _ _ _ _ _ _) (vR _ _ _ _ _ _) (he _ _ _ _ _ _) W turn (λN O s' J q=>hRR _ _ _ N O s' wj J q) J0 (T.keep _ _ _ u0 λb _ o e=>old b o e) (λb hb=>?_) w0;obtain⟨z0,z1,z2,z3,z4,z5⟩:=f2 b hb;refine⟨by rw[BA (Ao (xr b hb))];exact z0,Ao (AW (xr b hb) wj),λz=>?_,.inl hb,λx c e=>?_,λp hp=>?_⟩
  ·exact(Aq.mp (Y.stkSub _ z)).elim z1 z2
  ·rcases vq x c e with e | ⟨_,e⟩
   ·exact z4 x c (c1 x c e)
   ·exact DX (AW (xr b hb) (Au yy e))
  ·have hp:p∈(X.pn++ζ)++[]:=hp
   rw[Ba]at hp;exact z5 p hp
 exact codeAny_compStart_list (R _ rfl) (T.self X.A 0 _ _ _ (T.keep _ _ _ u0 λb _ o e=>old b o e) (R _ rfl))
theorem kA(Y:X.calm=true)(B:ON X scope own N')(hi:PI X O iter Z)
  (hg:∀o C j l ex pn,PG (EL X scope N' o C j l ex pn) O g) (vR:∀o C j l ex pn,cg (EL X scope N' o C j l ex pn) E tc) (he:∀o C j l ex pn,PE (EL X scope N' o C j l ex pn) G te)
  (hs:∀x,GF iter X.env x=pure x:=by intro _;rfl):PE X (.ListComp G [⟨O,iter,E,0⟩] scope pos) (dy own.length Z g tc te):=by
 intro P s R H Q I h;rw[eval_ListComp];obtain⟨o,vT,c1,c2⟩:=ai (scope:=scope) (env:=X.env) (λy hy hf=>I.ok.has y.1 (B.free y hy hf));refine av (use:=none) rfl hs vT B.kind B.names (thn (hi P s R H _ I h) λv s1 h1=>thn h1 λzr s2 h2=>?_);obtain⟨it,fp,tn,J,H2,rfl,S,T,u0,U,q2⟩:=h2
 refine Sq (Qf:=λp L=>Q (.ref p) L) (RR:=λN C=>compPost (Ad X.prog X.w) X.A X.xe none (EP X P R Q) N C) Y B hg vR he c1 c2 S T u0 U q2 λD C cl' σ' L s' hC J q=>?_
 obtain⟨m,hn,_⟩:=J.loc;exact⟨m,hn,λh' sb=>⟨.ref D,L,UV S J hC U sb,rfl,q⟩⟩
theorem jt{i:Nat}{y:Str}{G wk:Pos}(hc:X.calm=true)(Λ:Gy (.ListComp B [⟨S,iter,E,0⟩] scope pos) (some (.Name y G)) wk.line X.env=pure true)
  (hN:X.N.Nodup) (Z:X.N[i]?=some y) (xt:Loc X.env.scope y) (U:ON X scope own N') (hi:PI X S iter wi)
  (hg:∀L C j l ex pn,PG (EL X scope N' L C j l ex pn) S g) (vR:∀L C j l ex pn,cg (EL X scope N' L C j l ex pn) E tc) (he:∀L C j l ex pn,PE (EL X scope N' L C j l ex pn) B te)
  (hs:∀x,GF iter X.env x=pure x:=by intro _;rfl) (hf:X.fn y=true∨X.env.scope.names.lookup y=some .local:=by first | exact .inl rfl | exact .inr rfl | assumption) :
  PS X (.Assign [.Name y G] (.ListComp B [⟨S,iter,E,0⟩] scope pos) wk) (nI (dy own.length wi g tc te) (aS i)):=by
 intro Y s σ H D I h;rw[exec_Assign_Name_used _ _ _ _ Λ];refine AA (au (AA ?_));show AY _ X.A (do let _ <-comprehension (.ListComp B [⟨S,iter,E,0⟩] scope pos) scope X.env _ (newList []) false (Bd iter X.env) (some (N0 (.Name y G) X.env))) _ _ s;obtain⟨L,vT,c1,c2⟩:=ai (scope:=scope) (env:=X.env) (λy Z hf=>I.ok.has y.1 (U.free y Z hf))
 refine AA (Eh (av (use:=some (N0 (.Name y G) X.env)) (Q:=λ_ s'=>SP X Y D .next s') rfl hs vT U.kind U.names
  (thn (hi Y s σ H _ I h) λv s1 h1=>thn h1 λzr s2 h2=>?_)) (λ_ s' hq=>AG (AG hq)) λ_ _ e=>e)
 obtain⟨it,fp,tn,J,H2,rfl,O,T,u0,f2,q2⟩:=h2
 refine Sq (Qf:=λp P=>D.nx (σ.set i (some (.ref p))) P) (RR:=λacc C=>compPost (Ad X.prog X.w) X.A X.xe (some (N0 (.Name y G) X.env)) (λ_ s'=>SP X Y D .next s') acc C) hc U hg vR he c1 c2 O T u0 f2 q2 λA C cl' σ' P s' R J q=>?_
 obtain⟨m,hn,_⟩:=J.loc;have I3:Inv X Y σ P s':=UV O J R f2 (Us ..);have wF:P C=none:=J.free
 have uy:∀x c,X.env.cells.lookup x=some c->c≠C:=λx c e z=>by
  obtain⟨v,q⟩:=O.cell x c e;exact zX (AW q.lt (by rw[z];exact R)) (Cf _)
 have wG:C≠X.env.locals:=DX (AW O.lt R);show AY _ X.A (N0 (.Name y G) X.env (.ref A)) _ _ s';refine qI (T9 (v:=.ref A) I3 hN Z xt rfl (λs4 I4 ⟨a,sb,ha⟩=>?_) hf)
 have haC:C≠a:=by
  rcases ha with e | e
  ·rw[e];exact wG
  ·exact BW (uy _ _ e)
 refine⟨m,hn.sameBut sb haC,λh' sb'=>⟨_,P,?_,q⟩⟩
 refine I4.turned (t':=s4.toks) (it:=C) (λb o hb e=>(sb'.2 b hb).trans e) wF wG (.inr (Au O.sz R)) uy λp hp z=>?_
 exact zX (AW (AL (O.pin p hp).1) (by rw[z];exact R)) (Cf _)
end
noncomputable def Gw(v:OM)(g:MG)(c:MT)(m:ME):Nat->Nat->Lo->Sto->List D->Res (List D)
 | k,i,e,S,j=>match v S with
  | none=>.bad
  | some s=>match s[i]? with
   | none=>.ok j S
   | some d=>match k with
    | 0=>.bad
    | k+1=>if j.length < sizeLine then(okR (g d e S)).bind λl A=>(okR (c l A)).bind λb o=>if b=true then(okR (m l o)).bind λy B=>Gw v g c m k (i+1) l B (j++[y])else Gw v g c m k (i+1) l o j else .bad
noncomputable def HZ(n:Nat)(mi:MI)(g:MG)(c:MT)(m:ME):ML:=λe S=>(mi e S).bind λv j=>Gw v g c m (D1 v j) 0 (BM n none++e) j []
noncomputable def IZ:MT:=λ_ S=>.ok true S
section
noncomputable abbrev qE(X:Cx)(E:EW)(g:List Expr)(c:MT):Prop:=cg X g (gT X.K E c)
theorem Gb:qE X E [] IZ:=by
 rintro g s j H Q I ⟨m,l,S,B,o,A⟩
 exact ej g s j H Q I (A m H .refl o)
theorem FF.grow{K}{ρ}{H}{e}{j}(n:Nat)(h:FF K ρ H e j):FF K ρ H (BM n none++e) (BM n none++j):=by
 refine⟨by simp[h.len],λi d q=>?_⟩
 by_cases g:i < n
 ·rw[Al (by simpa using g),Dh,qX g]at q
  cases q
 ·rw[BV (by simpa using g)]at q ⊢
  simp only[ND]at q ⊢;exact h.at' _ d q
theorem B1.ok_of{g:Type}{K:AD}{E:EH}{ρ:List AN}{H:Hp}{r:Res g}{k:g->Sto->Prop}{a:g}{S:Sto}(e:r=.ok a S)(h:k a S):B1 K E ρ H r k:=by
 subst e;exact h
theorem SF{g j:Type}{r:Res g}{F:g->Sto->Res j}{b:j}{S:Sto}(h:(okR r).bind F=.ok b S):∃a S1,r=.ok a S1/\F a S1=.ok b S:=by
 cases r with
 | ok a S1=>exact⟨a,S1,rfl,h⟩
 | err c S1=>cases h
 | bad=>cases h
theorem XY:∀(k i:Nat) (e:Lo) (S:Sto) (j:List D),Gw v g c m k i e S j≠.err er S':=by
 intro k
 induction k with
 | zero=>
  intro i e S j h;unfold Gw at h;split at h
  ·cases h
  ·split at h <;> cases h
 | succ k A=>
  intro i e S j h;unfold Gw at h;split at h
  ·cases h
  ·split at h
   ·cases h
   ·dsimp only at h
    split at h
    ·cases l:g _ e S with
     | ok B C=>
      rw[l]at h;dsimp only[okR,Res.bind]at h
      cases o:c B C with
      | ok b E=>
       rw[o]at h;dsimp only[okR,Res.bind]at h
       cases b with
       | true=>
        rw[qX rfl]at h
        cases s:m B E with
        | ok y G=>rw[s]at h;exact A _ _ _ _ h
        | err _ _=>rw[s]at h;cases h
        | bad=>rw[s]at h;cases h
       | false=>
        rw[qY AT]at h;exact A _ _ _ _ h
      | err _ _=>rw[o]at h;cases h
      | bad=>rw[o]at h;cases h
     | err _ _=>rw[l]at h;cases h
     | bad=>rw[l]at h;cases h
    ·cases h
theorem Wi{K:AD}{n:Nat}{σ:St}{H:Hp}{Q:VK}(h:gL K E (HZ n mi g c m) σ H Q):dy n (gI K E mi) (gG K g) (gT K noE c) (gE K noE m) σ H Q:=by
 obtain⟨ρ,l,S,hl,hs,P⟩:=h;refine⟨ρ,l,S,hl,hs,P.seq λv Y P ρ1 H1 J l1 s1 vo p hp=>?_⟩
 obtain⟨Z,X,P,k⟩:∃Z X,Gw v g c m (D1 v Y) 0 (BM n none++l) Y []=.ok Z X/\∀N H' p I,Le K ρ H N H'->CA K N X H'->Ak K N H' Z I->H' p=some (.lst I)->(∀n:Nat,N[n]?≠some p)->H p=none->Q (.ref p) H':=by
  cases hc:Gw v g c m (D1 v Y) 0 (BM n none++l) Y []with
  | ok Z X=>rw[hc]at P;exact⟨Z,X,rfl,P⟩
  | err c X=>exact(XY _ _ _ _ _ hc).elim
  | bad=>rw[hc]at P;exact P.elim
 obtain⟨s1',yA⟩:=Fq (ho:=.lst []) s1 hp;have yq:H p=none:=l1.back hs s1 hp
 refine⟨λi j σ2 R I=>∃B e2 S2 G,Le K ρ1 H1 B R/\FF K B R e2 σ2/\CA K B S2 R/\Ak K B R G I/\R p=some (.lst I)/\(∀q:Nat,B[q]?≠some p)/\Gw v g c m j i e2 S2 G=.ok Z X,
  ⟨D1 v Y,ρ1,_,Y,[],yA,(hl.mono (l1.trans yA)).grow n,s1',.nil,Bc,λq e=>s1.notIn hp e,P⟩,?_⟩
 rintro i j σ2 R I ⟨B,e2,S2,G,l2,r2,s2,ra,w5,uY,A⟩;refine⟨w5,?_⟩;unfold Gw at A
 cases hv:v S2 with
 | none=>rw[hv]at A;cases A
 | some vs=>
  rw[hv]at A;dsimp only at A;obtain⟨v1,v2⟩:=vo B R S2 vs i l2 s2 hv
  cases hd:vs[i]? with
  | none=>
   rw[hd]at A;cases A;exact .inl ⟨v1 hd,k B R p I (l1.trans l2) s2 ra w5 uY yq⟩
  | some d=>
   rw[hd]at A;dsimp only at A;obtain⟨go,yl⟩:=v2 d hd
   cases j with
   | zero=>cases A
   | succ j=>
    dsimp only at A;split at A
    ·rename_i hz
     obtain⟨e3,S3,h3,A⟩:=SF A;obtain⟨b,S4,h4,A⟩:=SF A;refine .inr ⟨go,by rw[<-ra.length];exact hz,λx H' y=>?_⟩;obtain⟨ρ3,l3,s3,rd⟩:=yl x H' y;obtain⟨Μ,Ν⟩:=l3.oth p _ w5 uY;refine⟨ρ3,e2,S2,d,rd,r2.mono l3,s3,B1.ok_of h3 λρ4 H4 σ4 l4 s4 r4=>?_⟩;obtain⟨hp4,hn4⟩:=l4.oth p _ Μ Ν;refine⟨ρ4,e3,S3,r4,s4,B1.ok_of h4 λρ5 H5 U s5=>?_⟩;obtain⟨hp5,hn5⟩:=U.oth p _ hp4 hn4
     cases b with
     | false=>
      rw[qY AT]at A ⊢;exact⟨j,C0 j,ρ5,e3,S4,G,l2.trans (l3.trans (l4.trans U)),r4.mono U,s5,ra.mono (l3.trans (l4.trans U)),hp5,hn5,A⟩
     | true=>
      rw[qX rfl]at A ⊢;obtain⟨yv,S5,h5,A⟩:=SF A;refine⟨ρ5,e3,S4,r4.mono U,s5,B1.ok_of h5 λs C y6 l6 s6 r6=>?_⟩;obtain⟨zA,hn6⟩:=l6.oth p _ hp5 hn5
      have l7:∀O,Le K s C s (upd C p (.lst O))->True:=λ_ _=>trivial
      have up7:∀O:List V,CA K s S5 (upd C p (.lst O))/\(∀a o,EF K s C a o->a≠p->EF K s (upd C p (.lst O)) a o)/\∀e' w',Bs K s C e' w'->Bs K s (upd C p (.lst O)) e' w':=λO=>by
       have L:=HC (H:=C) (p:=p) (ho:=.lst O) (.inr (by rw[zA];trivial))
       have mono:∀e' w',Bs K s C e' w'->Bs K s (upd C p (.lst O)) e' w':=λe' w' r=>r.keep L.1 L.2
       have mob:∀a o,EF K s C a o->a≠p->EF K s (upd C p (.lst O)) a o:=λa o r ne=>r.keep L.1 L.2 (BA ne)
       exact⟨⟨s6.len,s6.nd,λn o a q1 q2=>mob a o (s6.ob n o a q1 q2) λz=>hn6 n (by rw[<-z];exact q2)⟩,mob,mono⟩
      obtain⟨u1,u2,u3⟩:=up7 (I++[y6]);refine⟨zA,j,C0 j,s,e3,S5,G++[yv],?_,?_,u1,?_,Bc,hn6,A⟩
      ·have lx:=l2.trans (l3.trans (l4.trans (U.trans l6)))
       have L:=HC (H:=C) (p:=p) (ho:=.lst (I++[y6])) (.inr (by rw[zA];trivial))
       exact⟨lx.pre,λa zs q=>L.1 a zs (lx.tup a zs q),λa o u q=>L.2 a o u (lx.frz a o u q),λa o q z=>by
        have nap:a≠p:=BU q hp;obtain⟨z1,z2⟩:=lx.oth a o q z
        exact⟨by rw[BA nap];exact z1,z2⟩⟩
      ·have rr:=r4.mono (U.trans l6)
       exact⟨rr.len,λq d' hq=>by
        obtain⟨w',z1,z2⟩:=rr.at' q d' hq
        exact⟨w',z1,u3 _ _ z2⟩⟩
      ·have ra6:=ra.mono (l3.trans (l4.trans (U.trans l6)))
       have L:=HC (H:=C) (p:=p) (ho:=.lst (I++[y6])) (.inr (by rw[zA];trivial));exact(ra6.keep L.1 L.2).append (.cons (u3 _ _ r6) .nil)
    ·cases A
theorem Lb(G:X.calm=true)(I:ON X scope own N')(hi:GI X E B iter mi)
  (J:∀o C j l ex pn,GG (EL X scope N' o C j l ex pn) B g) (L:∀o C j l ex pn,qE (EL X scope N' o C j l ex pn) noE s c) (N:∀o C j l ex pn,GE (EL X scope N' o C j l ex pn) noE A m)
  (O:∀x,GF iter X.env x=pure x:=by intro _;rfl):GL X E (.ListComp A [⟨B,iter,s,0⟩] scope pos) (HZ own.length mi g c m):=
 (kA (g:=gG X.K g) (tc:=gT X.K noE c) (te:=gE X.K noE m) G I hi J L N O).imp λ_ _ _ h=>Wi h
theorem Vx(hc:X.calm=true)(Λ:Gy (.ListComp B [⟨P,iter,G,0⟩] scope pos) (some (.Name y py)) wk.line X.env=pure true)
  (hN:X.N.Nodup) (hy:X.N[i]?=some y) (xt:Loc X.env.scope y) (Sc:ON X scope own N') (hi:GI X E P iter mi)
  (hg:∀I C j s ex pn,GG (EL X scope N' I C j s ex pn) P g) (vR:∀I C j s ex pn,qE (EL X scope N' I C j s ex pn) noE G c) (he:∀I C j s ex pn,GE (EL X scope N' I C j s ex pn) noE B m)
  (R:∀x,GF iter X.env x=pure x:=by intro _;rfl) (hf:X.fn y=true∨X.env.scope.names.lookup y=some .local:=by first | exact .inl rfl | exact .inr rfl | assumption) :
  GS X E (.Assign [.Name y py] (.ListComp B [⟨P,iter,G,0⟩] scope pos) wk) (Ci i (Ga (HZ own.length mi g c m))):=by
 refine(jt (g:=gG X.K g) (tc:=gT X.K noE c) (te:=gE X.K noE m) hc Λ hN hy xt Sc hi hg vR he R hf).imp λD σ H ⟨L,l,S,U,R,Y⟩=>?_
 refine Wi (E:=E) (Q:=λx H'=>D.nx (σ.set i (some x)) H') ⟨L,l,S,U,R,B1.seq (F:=λZ S1=>Res.ok (L2.D.ref S1.length) (S1++[Ob.lst Z])) (k:=λd O=>B1 X.K noH L H ((tgN i d l O).bind λe1 O=>.ok (.nx e1) O) λfl S'=>Sd X.K E L H S' D fl) (B1.lift Y U .refl λd O h=>h) λZ S1 Y A H1 p xs J s1 r1 hp hn yq=>?_⟩
 have l0:∀(n:Nat) a,A[n]?=some a->(A++[p])[n]?=some a:=λn a h=>by rw[Al (AF.mp h).1];exact h
 obtain⟨s2,at2⟩:=s1.adopt (o:=.lst Z) hn ⟨xs,hp,r1.more l0⟩
 have l2:Le X.K L H (A++[p]) H1:=⟨λn a h=>l0 n a (J.pre n a h),J.tup,J.frz,λa o e h=>⟨(J.oth a o e h).1,λn q=>by
  rcases JP q with⟨q,_⟩ | ⟨_,q⟩
  ·exact(J.oth a o e h).2 n q
  ·exact BU e yq q⟩⟩
 exact Y _ _ _ l2 s2 ((U.mono l2).set (.ref at2) i)
end
end L2
namespace L2
open PySem PySem.Spec PyProof.Rows PySem.SeqAt
noncomputable def M0:D->D->Option Bool
 | .non,.non=>some true
 | .bl a,.bl b=>some (a==b)
 | .int a,.int b=>some (a==b)
 | .str a,.str b=>some (a==b)
 | .non,.int _=>some false
 | .non,.str _=>some false
 | .non,.bl _=>some false
 | .non,.tup _=>some false
 | .int _,.non=>some false
 | .str _,.non=>some false
 | .bl _,.non=>some false
 | .tup _,.non=>some false
 | .int _,.tup _=>some false
 | .tup _,.int _=>some false
 | _,_=>none
noncomputable def eqL(f:D->D->Option Bool):List D->List D->Option Bool
 | [],[]=>some true
 | [],_ :: _=>some false
 | _ :: _,[]=>some false
 | x :: g,y :: j=>match f x y,eqL f g j with
  | some a,some b=>some (a&&b)
  | _,_=>none
noncomputable def eqP:Nat->D->D->Option Bool
 | 0,x,y=>M0 x y
 | n+1,x,y=>match x,y with
  | .tup g,.tup j=>eqL (eqP n) g j
  | x,y=>M0 x y
theorem Mz(h:eqL f (x :: xs) (y :: ys)=some b):∃a c,f x y=some a/\eqL f xs ys=some c/\b=(a&&c):=by
 unfold eqL at h;split at h
 ·rename_i a c g j
  cases h;exact⟨a,c,g,j,rfl⟩
 ·cases h
theorem ae:∀{xs ys:List D} {b:Bool},eqL f xs ys=some b->(∀(j:Nat) x y,xs[j]?=some x->ys[j]?=some y->∃c,f x y=some c) /\
  b=((Bl (min xs.length ys.length)).all (λj=>match xs[j]?,ys[j]? with | some x,some y=>(f x y).getD false | _,_=>false)&&xs.length==ys.length)
 | [],[],b,h=>by cases h;exact⟨λj x y h=>by simp at h,by simp⟩
 | [],y :: ys,b,h=>by cases h;exact⟨λj x y h=>by simp at h,by simp⟩
 | x :: xs,[],b,h=>by cases h;exact⟨λj x y _ h=>by simp at h,by simp⟩
 | x :: xs,y :: ys,b,h=>by
  obtain⟨a,c,m,o,rfl⟩:=Mz h;obtain⟨s,A⟩:=ae o;refine⟨λj B C g l=>?_,?_⟩
  ·cases j with
   | zero=>simp at g l;subst g;subst l;exact⟨a,m⟩
   | succ j=>exact s j B C (by simpa using g) (by simpa using l)
  ·rw[A,Aj,Aj,show min (xs.length+1) (ys.length+1)=min xs.length ys.length+1 by lia,HR,List.all_cons,qS]
   simp only[List.getElem?_cons_zero,m,QF,YI,List.getElem?_cons_succ];rw[Bool.and_assoc]
   congr 1
   congr 1
   rw[Bool.eq_iff_iff];simp
section
variable{K:AD}{ρ:List AN}{H:Hp}
theorem aX(n k:Nat)(y:D):eqP n (.ref k) y=none:=by cases n <;> cases y <;> rfl
theorem aY(n:Nat)(ds:List D)(y:D):eqP n (.fro ds) y=none:=by cases n <;> cases y <;> rfl
theorem aZ(n:Nat)(c:AN)(y:D):eqP n (.exc c) y=none:=by cases n <;> cases y <;> rfl
theorem Oh(o:Bs K ρ H x v)(g:Bs K ρ H j v):x=j∨(∃ds l vs,x=.tup ds/\j=.tup l/\Ak K ρ H ds vs/\Ak K ρ H l vs)∨(∀n y,eqP n x y=none)∨∀n y,eqP n j y=none:=by
 cases o with
 | non=>cases g;exact .inl rfl
 | bl b=>cases g;exact .inl rfl
 | int b=>cases g;exact .inl rfl
 | str b=>cases g;exact .inl rfl
 | fro _ _=>exact .inr (.inr (.inl λn y=>aY n _ y))
 | ref _=>exact .inr (.inr (.inl λn y=>aX n _ y))
 | exc _ _=>exact .inr (.inr (.inl λn y=>aZ n _ y))
 | tup s A=>
  cases g with
  | fro _ _=>exact .inr (.inr (.inr λn y=>aY n _ y))
  | ref _=>exact .inr (.inr (.inr λn y=>aX n _ y))
  | exc _ _=>exact .inr (.inr (.inr λn y=>aZ n _ y))
  | tup m B=>
   rw[s]at m;cases m;exact .inr (.inl ⟨_,_,_,rfl,rfl,A,B⟩)
theorem ku:∀(n:Nat) {x B y:D} {v:V} {b b':Bool},Bs K ρ H x v->Bs K ρ H B v->eqP n x y=some b->eqP n B y=some b'->b=b':=by
 intro n
 induction n with
 | zero=>
  intro x B y v b b' I J h j
  rcases Oh I J with rfl | ⟨C,L,m,rfl,rfl,_,_⟩ | q | q
  ·rw[h]at j;cases j;rfl
  ·have:eqP 0 (.tup C) y=eqP 0 (.tup L) y:=by cases y <;> rfl
   rw[<-this,h]at j;cases j;rfl
  ·rw[q]at h;cases h
  ·rw[q]at j;cases j
 | succ n O=>
  intro x B y v b b' I J h j
  have lists:∀{E:List D} {m:List V} {G l:List D} {b b':Bool},Ak K ρ H E m->Ak K ρ H G m->eqL (eqP n) E l=some b->eqL (eqP n) G l=some b'->b=b':=by
   intro E
   induction E with
   | nil=>
    intro m G l b b' o s g A;cases o;cases s;rw[g]at A;cases A;rfl
   | cons d C N=>
    intro m G l b b' o s g A
    cases o with
    | cons P Q=>
     cases s with
     | cons R S=>
      cases l with
      | nil=>cases g;cases A;rfl
      | cons y l=>
       obtain⟨p,q,U,X,rfl⟩:=Mz g;obtain⟨p',q',Y,Z,rfl⟩:=Mz A;rw[O P R U Y,N Q S X Z]
  rcases Oh I J with rfl | ⟨C,L,m,rfl,rfl,o,s⟩ | q | q
  ·rw[h]at j;cases j;rfl
  ·by_cases c:∃l,y=.tup l
   ·obtain⟨l,rfl⟩:=c
    exact lists o s h j
   ·have:eqP (n+1) (.tup C) y=eqP (n+1) (.tup L) y:=by
     cases y <;> first | rfl | exact(c ⟨_,rfl⟩).elim
    rw[<-this,h]at j;cases j;rfl
  ·rw[q]at h;cases h
  ·rw[q]at j;cases j
theorem Eg(h:M0 x x=some b):b=true:=by
 cases x <;> first | (cases h;done) | (cases h;simp)
theorem Si:∀(n:Nat) {x:D} {b:Bool},eqP n x x=some b->b=true
 | 0,_,_,h=>Eg h
 | n+1,x,b,h=>by
  have lists:∀{j:List D} {b:Bool},eqL (eqP n) j j=some b->b=true:=by
   intro j
   induction j with
   | nil=>intro b g;cases g;rfl
   | cons d s l=>
    intro b g;obtain⟨p,q,m,o,rfl⟩:=Mz g;rw[Si n m,l o];rfl
  cases x with
  | tup j=>exact lists h
  | non=>exact Eg (x:=.non) h
  | bl c=>exact Eg (x:=.bl c) h
  | int c=>exact Eg (x:=.int c) h
  | str c=>exact Eg (x:=.str c) h
  | ref c=>exact Eg (x:=.ref c) h
  | fro c=>exact Eg (x:=.fro c) h
  | exc c=>exact Eg (x:=.exc c) h
theorem NU(g:(∃f,y=.fro f)∨(∃r,y=.ref r)∨∃c,y=.exc c)(n:Nat):eqP n x y=none:=by
 rcases g with⟨f,rfl⟩ | ⟨r,rfl⟩ | ⟨c,rfl⟩ <;> (cases n <;> cases x <;> rfl)
theorem hV(n:Nat)(C:Bs K ρ H x v)(o:Bs K ρ H y v)(h:eqP n x y=some b):b=true:=by
 induction n generalizing x y v b with
 | zero=>
  rcases Oh C o with rfl | ⟨E,G,j,rfl,rfl,_,_⟩ | q | q
  ·exact Si 0 h
  ·cases h
  ·rw[q]at h;cases h
  ·cases o with
   | fro _ _=>rw[NU (.inl ⟨_,rfl⟩)]at h;cases h
   | ref _=>rw[NU (.inr (.inl ⟨_,rfl⟩))]at h;cases h
   | exc _ _=>rw[NU (.inr (.inr ⟨_,rfl⟩))]at h;cases h
   | non=>cases(q 0 .non)
   | bl b=>cases(q 0 (.bl b))
   | int b=>cases(q 0 (.int b))
   | str b=>cases(q 0 (.str b))
   | tup _ _=>cases(q 0 .non)
 | succ n I=>
  have lists:∀{s A:List D} {j:List V} {b:Bool},Ak K ρ H s j->Ak K ρ H A j->eqL (eqP n) s A=some b->b=true:=by
   intro s
   induction s with
   | nil=>intro A j b l m g;cases l;cases m;cases g;rfl
   | cons d E B=>
    intro A j b l m g
    cases l with
    | cons J L=>
     cases m with
     | cons N O=>
      obtain⟨p,q,P,Q,rfl⟩:=Mz g;rw[I J N P,B L O Q];rfl
  rcases Oh C o with rfl | ⟨E,G,j,rfl,rfl,l,m⟩ | q | q
  ·exact Si (n+1) h
  ·exact lists l m h
  ·rw[q]at h;cases h
  ·cases o with
   | fro _ _=>rw[NU (.inl ⟨_,rfl⟩)]at h;cases h
   | ref _=>rw[NU (.inr (.inl ⟨_,rfl⟩))]at h;cases h
   | exc _ _=>rw[NU (.inr (.inr ⟨_,rfl⟩))]at h;cases h
   | non=>cases(q 0 .non)
   | bl b=>cases(q 0 (.bl b))
   | int b=>cases(q 0 (.int b))
   | str b=>cases(q 0 (.str b))
   | tup _ _=>cases(q 0 .non)
end
section
variable{X:Cx}{ζ:List (AN×Obj)}{σ:St}{H:Hp}{s:AK}{ρ:List AN}
theorem Gu(A:Bw):A.in1.units=A.units+1:=rfl
theorem Bf.at_(r:Bf vs g)(h:j < g.toArray.size):∃v,vs[j]?=some v/\RelV v g.toArray[j]:=by
 have m:j < g.length:=by simpa using h
 have l:j < vs.length:=by rw[r.length];exact m
 obtain⟨u,o,A⟩:=r.get (i:=j) (x:=vs[j]) (by simp[l]);refine⟨vs[j],by simp[l],?_⟩
 have:g.toArray[j]=u:=by
  have:=AF.mp o;obtain⟨_,e⟩:=this;simpa using e
 rw[this];exact A
theorem VM(O:∀(x y:D) (b:Bool) (l m:V) (u v:AE),eqP n x y=some b->Bs X.K ρ H x l->Bs X.K ρ H y m->RelV l u->RelV m v->EqAt A s u v b)
  (h:eqL (eqP n) xs ys=some b) (o:Ak X.K ρ H xs vs) (B:Ak X.K ρ H ys P) (C:Bf vs us) (E:Bf P g) :
  ∃e:Nat->Bool,(∀j (G:j < us.toArray.size) (I:j < g.toArray.size),EqAt A s us.toArray[j] g.toArray[j] (e j))/\b=((Bl (min us.toArray.size g.toArray.size)).all e&&us.toArray.size==g.toArray.size):=by
 obtain⟨Q,R⟩:=ae h;refine⟨λj=>match xs[j]?,ys[j]? with | some x,some y=>(eqP n x y).getD false | _,_=>false,λj G I=>?_,?_⟩
 ·obtain⟨v,S,U⟩:=Bf.at_ C G
  obtain⟨w,Y,Z⟩:=Bf.at_ E I;obtain⟨x,J,rx⟩:=o.get' S;obtain⟨y,L,ry⟩:=B.get' Y;obtain⟨c,N⟩:=Q j x y J L;have:=O x y c v w _ _ N rx ry U Z;simp only[J,L,N,QF];exact this
 ·rw[R,o.length,B.length,C.length,E.length]
  simp
theorem P2(I:Inv X ζ σ H s)(j:A.units < Ez)(h:M0 x y=some b)(G:Bs X.K ρ H x J)(l:Bs X.K ρ H y L)(m:RelV J u)(g:RelV L v) :
  EqAt A s u v b/\RcAt A s u v b/\RcNeAt A s u v (!b):=by
 cases G with
 | non=>
  cases m
  cases l with
  | non=>cases g;cases h;exact⟨EqAt.same _,RcAt.none_none,RcNeAt.none_none⟩
  | bl c=>cases g;cases h;exact⟨EqAt.none_bool _,RcAt.none_bool _,RcNeAt.none_bool _⟩
  | int i=>obtain⟨t,rfl⟩:=g;cases h;exact⟨EqAt.none_int _ _,RcAt.none_int _ _,RcNeAt.none_int _ _⟩
  | str z=>obtain⟨t,rfl⟩:=g;cases h;exact⟨EqAt.none_str _ _,RcAt.none_str _ _,RcNeAt.none_str _ _⟩
  | tup o B=>
   cases g;cases h;obtain⟨C,_,p,_⟩:=I.tuple (.inl (.inl o));exact⟨EqAt.none_tuple p j,RcAt.none_tuple p j,RcNeAt.none_tuple p j⟩
  | _=>cases h
 | bl a=>
  cases m
  cases l with
  | non=>cases g;cases h;exact⟨EqAt.bool_none _,RcAt.bool_none _,RcNeAt.bool_none _⟩
  | bl c=>cases g;cases h;exact⟨EqAt.bool_bool _ _,RcAt.bool_bool _ _,RcNeAt.bool_bool _ _⟩
  | _=>cases h
 | int a=>
  obtain⟨t,rfl⟩:=m
  cases l with
  | non=>cases g;cases h;exact⟨EqAt.int_none _ _,RcAt.int_none _ _,RcNeAt.int_none _ _⟩
  | int i=>obtain⟨E,rfl⟩:=g;cases h;exact⟨EqAt.int_int _ _ _ _,RcAt.int_int _ _ _ _,RcNeAt.int_int _ _ _ _⟩
  | tup o B=>
   cases g;cases h;obtain⟨C,_,p,_⟩:=I.tuple (.inl (.inl o));exact⟨EqAt.int_tuple _ _ p j,RcAt.int_tuple _ _ p j,RcNeAt.int_tuple _ _ p j⟩
  | _=>cases h
 | str a=>
  obtain⟨t,rfl⟩:=m
  cases l with
  | non=>cases g;cases h;exact⟨EqAt.str_none _ _,RcAt.str_none _ _,RcNeAt.str_none _ _⟩
  | str i=>obtain⟨E,rfl⟩:=g;cases h;exact⟨EqAt.str_str _ _ _ _,RcAt.str_str _ _ _ _,RcNeAt.str_str _ _ _ _⟩
  | _=>cases h
 | tup o B=>
  cases m;obtain⟨C,_,p,_⟩:=I.tuple (.inl (.inl o))
  cases l with
  | non=>cases g;cases h;exact⟨EqAt.tuple_none p j,RcAt.tuple_none p j,RcNeAt.tuple_none p j⟩
  | int i=>obtain⟨E,rfl⟩:=g;cases h;exact⟨EqAt.tuple_int _ _ p j,RcAt.tuple_int _ _ p j,RcNeAt.tuple_int _ _ p j⟩
  | _=>cases h
 | _=>cases h
theorem ZG(I:Inv X ζ σ H s):∀(n:Nat) (A:Bw) (x y:D) (b:Bool) (g j:V) (u v:AE),A.units+n < Ez->eqP n x y=some b->Bs X.K ρ H x g->Bs X.K ρ H y j->RelV g u->RelV j v->EqAt A s u v b:=by
 intro n
 induction n with
 | zero=>exact λA x y b g j u v Q h l m o B=>(P2 I (by omega) h l m o B).1
 | succ n R=>
  intro A x y b g j u v Q h l m o B
  by_cases C:∃E G,x=.tup E/\y=.tup G
  ·obtain⟨E,G,rfl,rfl⟩:=C
   cases l with
   | @tup _ a vs J L=>
    cases m with
    | @tup _ c ws N O=>
     cases o;cases B
     by_cases P:a=c
     ·subst P
      rw[hV (n+1) (.tup J L) (.tup N O) h];exact EqAt.same _
     ·obtain⟨i',S,p,_⟩:=I.tuple (.inl (.inl J))
      obtain⟨uz,U,Y,_⟩:=I.tuple (.inl (.inl N));obtain⟨e,Z,rfl⟩:=VM (A:=A.in1) (λx y b g j u v g1 g2 g3 g4 g5=>R A.in1 x y b g j u v (by rw[Gu];lia) g1 g2 g3 g4 g5) h L O S U;exact EqAt.of_refs P (qk p Y (by lia) Z)
  ·have hf:M0 x y=some b:=by
    cases x <;> cases y <;> first | exact h | exact(C ⟨_,_,rfl,rfl⟩).elim
   exact(P2 I (by lia) hf l m o B).1
noncomputable def Nf(d:D)(S:Sto):Option (List D):=match d with
 | .fro g=>some g
 | .ref n=>match S[n]? with
  | some (.lst g)=>some g
  | _=>none
 | _=>none
noncomputable def eqB(x y:D)(S:Sto):Option Bool:=match Nf x S,Nf y S with
 | some g,some j=>if g.length=j.length then eqL (eqP 8) g j else some false
 | none,none=>eqP 8 x y
 | some _,none=>match y with
  | .tup _=>some false
  | .non=>some false
  | _=>none
 | none,some _=>match x with
  | .tup _=>some false
  | .non=>some false
  | _=>none
noncomputable def eqD(neg:Bool)(x y:D)(S:Sto):Res D:=match eqB x y S with
 | some b=>.ok (.bl (if neg then !b else b)) S
 | none=>.bad
theorem Ih{K}{S}{d}{x}{ds}(g:CA K ρ S H)(r:Bs K ρ H d x)(h:Nf d S=some ds):∃p xs,x=.ref p/\Ak K ρ H ds xs/\SqL K H p xs:=by
 cases r with
 | fro j l=>cases h;exact⟨_,_,rfl,l,j.sq⟩
 | @ref n a m=>
  obtain⟨o,A,B⟩:=g.there m;unfold Nf at h;simp only[A]at h
  cases o with
  | lst E=>cases h;obtain⟨G,e,C⟩:=B;exact⟨_,_,rfl,C,.inl (.inl e)⟩
  | _=>cases h
 | _=>cases h
theorem hX{S}{x y}{b}{E G}{u v}(I:Inv X ζ σ H s)(hu:X.A.units+64 < Ez)(Y:CA X.K ρ S H)(J:Bs X.K ρ H x E)(L:Bs X.K ρ H y G)(N:RelV E u)(O:RelV G v)(h:eqB x y S=some b) :
  RcAt X.A s u v b/\RcNeAt X.A s u v (!b):=by
 unfold eqB at h;split at h
 ·rename_i P ys Z h2
  obtain⟨p,vs,rfl,Q,sq⟩:=Ih Y J Z;obtain⟨p',xq,rfl,yC,Ο⟩:=Ih Y L h2;cases N;cases O;obtain⟨m,B,g,_⟩:=I.list sq;obtain⟨C,yD,zC,_⟩:=I.list Ο;split at h
  ·rename_i l
   obtain⟨e,R,rfl⟩:=VM (A:=X.A.in1) (λx y b E G u v g1 g2 g3 g4 g5=>ZG I 8 X.A.in1 x y b E G u v (by rw[Gu];lia) g1 g2 g3 g4 g5) h Q yC B yD
   have j:m.toArray.size=C.toArray.size:=by
    simp only[AZ];rw[<-B.length,<-yD.length,<-Q.length,<-yC.length];exact l
   have e1:((Bl (min m.toArray.size C.toArray.size)).all e&&m.toArray.size==C.toArray.size)=(Bl m.toArray.size).all e:=by
    rw[<-j,Nat.min_self,beq_self_eq_true,Bool.and_true]
   rw[e1];exact⟨RcAt.lists g.isList zC.isList j (by lia) R,RcNeAt.lists g.isList zC.isList j (by lia) R⟩
  ·rename_i l
   cases h
   have j:(m.toArray.size != C.toArray.size)=true:=by
    simp only[AZ];rw[<-B.length,<-yD.length,<-Q.length,<-yC.length];simpa using l
   exact⟨RcAt.lists_lengths g.isList zC.isList j (by lia),RcNeAt.lists_lengths g.isList zC.isList j (by lia)⟩
 ·by_cases ht:∃P ys,x=.tup P/\y=.tup ys
  ·obtain⟨P,ys,rfl,rfl⟩:=ht
   cases J with
   | tup a1 a2=>
    cases L with
    | tup U b2=>
     cases N;cases O;obtain⟨m,B,p,_⟩:=I.tuple (.inl (.inl a1));obtain⟨C,uD,o,_⟩:=I.tuple (.inl (.inl U));obtain⟨e,R,rfl⟩:=VM (n:=7) (A:=X.A.in1) (λx y b E G u v g1 g2 g3 g4 g5=>ZG I 7 X.A.in1 x y b E G u v (by rw[Gu];lia) g1 g2 g3 g4 g5) h a2 b2 B uD;exact⟨qk p o (by lia) R,RcNeAt.tuples p o (by lia) R⟩
  ·have hf:M0 x y=some b:=by
    cases x <;> cases y <;> first | exact h | exact(ht ⟨_,_,rfl,rfl⟩).elim
   exact(P2 I (by lia) hf J L N O).2
 ·rename_i P Z h2
  obtain⟨p,vs,rfl,Q,sq⟩:=Ih Y J Z;cases N;obtain⟨m,B,g,_⟩:=I.list sq;split at h
  ·cases h
   cases L with
   | tup U b2=>
    cases O;obtain⟨C,uD,o,_⟩:=I.tuple (.inl (.inl U));exact⟨RcAt.list_tuple g.isList o (by lia),RcNeAt.list_tuple g.isList o (by lia)⟩
  ·cases h
   cases L;cases O;exact⟨RcAt.list_none g.isList (by lia),RcNeAt.list_none g.isList (by lia)⟩
  ·cases h
 ·rename_i P Z h2
  obtain⟨p,vs,rfl,Q,sq⟩:=Ih Y L h2;cases O;obtain⟨m,B,g,_⟩:=I.list sq;split at h
  ·cases h
   cases J with
   | tup U b2=>
    cases N;obtain⟨C,uD,o,_⟩:=I.tuple (.inl (.inl U));exact⟨RcAt.tuple_list o g.isList (by lia),RcNeAt.tuple_list o g.isList (by lia)⟩
  ·cases h
   cases J;cases N;exact⟨RcAt.none_list g.isList (by lia),RcNeAt.none_list g.isList (by lia)⟩
  ·cases h
theorem Om(l:X.A.units+64 < Ez):OpR X (Bt .Eq) (rD X.K (eqD false)):=by
 intro ζ s σ H x y v u Q I m o h;obtain⟨ρ,S,a,b,d,G,j,B,C,g,k⟩:=h;unfold eqD at g;split at g
 ·rename_i c E
  cases g;exact(hX I l j B C m o E).1 _ _ _ _ ⟨.bl c,H,I,rfl,k ρ H _ .refl j (.bl _)⟩
 ·cases g
theorem sO(l:X.A.units+64 < Ez):OpR X (Bt .NotEq) (rD X.K (eqD true)):=by
 intro ζ s σ H x y v u Q I m o h;obtain⟨ρ,S,a,b,d,G,j,B,C,g,k⟩:=h;unfold eqD at g;split at g
 ·rename_i c E
  cases g;exact(hX I l j B C m o E).2 _ _ _ _ ⟨.bl (!c),H,I,rfl,k ρ H _ .refl j (.bl _)⟩
 ·cases g
noncomputable def Nu(x:D):List D->Option Bool
 | []=>some false
 | d :: g=>match eqP 8 d x,Nu x g with
  | some a,some b=>some (a||b)
  | _,_=>none
noncomputable def inD(neg:Bool)(x y:D)(S:Sto):Res D:=match IA y S with
 | some g=>match Nu x g with
  | some b=>.ok (.bl (if neg then !b else b)) S
  | none=>.bad
 | none=>.bad
theorem ZN(h:Nu x (d :: ds)=some b):∃a c,eqP 8 d x=some a/\Nu x ds=some c/\b=(a||c):=by
 unfold Nu at h;split at h
 ·rename_i a c g j
  cases h;exact⟨a,c,g,j,rfl⟩
 ·cases h
open Classical in
theorem O3(I:Inv X ζ σ H s)(O:A.units+8 < Ez)(P:Bs X.K ρ H x Q)(R:RelV Q v):∀{ds:List D} {vs:List V} {us:List AE} {b:Bool},Ak X.K ρ H ds vs->Bf vs us->Nu x ds=some b ->
  ∃e:AE->Bool,(∀y∈us,EqAt A s y v (e y))/\b=us.any e:=by
 intro ds vs us b r q h
 let e:AE->Bool:=λy=>decide (∃d w,d∈ds/\Bs X.K ρ H d w/\RelV w y/\eqP 8 d x=some true)
 have all:∀{g:List D} {m:List V} {j:List AE} {o:Bool},(∀d∈g,d∈ds)->Ak X.K ρ H g m->Bf m j->Nu x g=some o->(∀y∈j,EqAt A s y v (e y))/\o=j.any e:=by
  intro g
  induction g with
  | nil=>intro m j o _ r q h;cases r;cases q;cases h;exact⟨(λ_ z=>nomatch z),rfl⟩
  | cons d g S=>
   intro m j o J r q h
   cases r with
   | cons C U=>
    cases q with
    | @cons w y _ _ E Y=>
     obtain⟨a,c,G,Z,rfl⟩:=ZN h;obtain⟨i1,i2⟩:=S (λz l=>J z (AS _ l)) U Y Z
     have L:e y=a:=by
      by_cases B:∃d w,d∈ds/\Bs X.K ρ H d w/\RelV w y/\eqP 8 d x=some true
      ·obtain⟨d',w',_,N,g2,g3⟩:=id B
       rw[RelV.inj g2 E]at N;have:=ku 8 N C g3 G;rw[<-this];exact wX B
      ·have:a=false:=by
        cases a with
        | false=>rfl
        | true=>exact(B ⟨d,_,J d Ah,C,E,G⟩).elim
       rw[this];exact wY B
     refine⟨λz l=>?_,by rw[II,L,<-i2]⟩
     rcases Aq.mp l with rfl | l
     ·rw[L]
      exact ZG I 8 A d x a _ _ _ _ O G C P E R
     ·exact i1 z l
 obtain⟨e1,e2⟩:=all (λ_ h=>h) r q h;exact⟨e,e1,e2⟩
theorem sQ(R:X.A.units+64 < Ez):OpR X (Bt .In) (rD X.K (inD false)):=by
 intro ζ s σ H x y v u Q I E N h;obtain⟨ρ,S,a,b,d,U,j,G,O,g,k⟩:=h;unfold inD at g;split at g
 ·rename_i Y P
  split at g
  ·rename_i c J
   cases g;obtain⟨p,Z,rfl,L,sq⟩:=RA j O P;cases N
   rcases sq with sq | sq
   ·obtain⟨l,m,o,_⟩:=I.list sq
    obtain⟨e,B,rfl⟩:=O3 I (A:=X.A.in1) (by rw[Gu];lia) G E L m J;exact in_listAt e o.isList (λz C=>B z (by simpa using C)) ⟨.bl (l.toArray.any e),H,I,rfl,by rw[Ly];exact k ρ H _ .refl j (.bl _)⟩
   ·obtain⟨l,m,o,_⟩:=I.tuple sq
    obtain⟨e,B,rfl⟩:=O3 I (A:=X.A.in1) (by rw[Gu];lia) G E L m J;exact in_tupleAt e o (λz C=>B z (by simpa using C)) ⟨.bl (l.toArray.any e),H,I,rfl,by rw[Ly];exact k ρ H _ .refl j (.bl _)⟩
  ·cases g
 ·cases g
theorem fI(R:X.A.units+64 < Ez):OpR X (Bt .NotIn) (rD X.K (inD true)):=by
 intro ζ s σ H x y v u Q I E N h;obtain⟨ρ,S,a,b,d,U,j,G,O,g,k⟩:=h;unfold inD at g;split at g
 ·rename_i Y P
  split at g
  ·rename_i c J
   cases g;obtain⟨p,Z,rfl,L,sq⟩:=RA j O P;cases N
   rcases sq with sq | sq
   ·obtain⟨l,m,o,_⟩:=I.list sq
    obtain⟨e,B,rfl⟩:=O3 I (A:=X.A.in1) (by rw[Gu];lia) G E L m J;exact notIn_listAt e o.isList (λz C=>B z (by simpa using C)) ⟨.bl (!l.toArray.any e),H,I,rfl,by rw[Ly];exact k ρ H _ .refl j (.bl _)⟩
   ·obtain⟨l,m,o,_⟩:=I.tuple sq
    obtain⟨e,B,rfl⟩:=O3 I (A:=X.A.in1) (by rw[Gu];lia) G E L m J;exact notIn_tupleAt e o (λz C=>B z (by simpa using C)) ⟨.bl (!l.toArray.any e),H,I,rfl,by rw[Ly];exact k ρ H _ .refl j (.bl _)⟩
  ·cases g
 ·cases g
end
open PySem PySem.Spec PyProof.Rows
noncomputable def MD(mo ma:ME):ME:=λe S=>(mo e S).bind λd g=>match d with
 | .ref n=>match g[n]? with
  | some (.lst _)=>(ma e g).bind λy j=>match j[n]? with
   | some (.lst l)=>if l.length < sizeLine then .ok .non (j.set n (.lst (l++[y])))else .bad
   | _=>.bad
  | _=>.bad
 | _=>.bad
section
variable{X:Cx}{E:EW}{o e:Expr}{mo ma:ME}
theorem Z3{K}{ρ}{S}{H}{n}{x}{xs}(s:CA K ρ S H)(r:Bs K ρ H (.ref n) x)(h:S[n]?=some (.lst xs)):∃a vs,x=.ref a/\ρ[n]?=some a/\H a=some (.lst vs)/\Ak K ρ H xs vs:=by
 cases r with
 | ref g=>
  obtain⟨vs,e,j⟩:=s.ob n _ _ h g;exact⟨_,vs,rfl,g,e,j⟩
theorem Ef(ho:GE X E o mo)(Y:GE X E e ma)(Z:Ei o "append" X.env (Bd o X.env)=Bd o X.env:=by rfl)
  (vO:((Da s (AQ [e] X.env)).all (λx=>!x.1)&&(X9 s (PJ [] X.env)).all (λx=>x.1.isSome)
    &&decide ([e].length+([]:List Xu).length+(if ([]:List Xu).isEmpty then 0 else 1) < 30))=true:=by rfl)
  (ui:(m.endLine==s.line)=true:=by rfl) (A:AQ [e] X.env=(false,Bd e X.env) :: AQ [] X.env:=by rfl) (uJ:(Da s (AQ [] X.env)).any (·.1)=false:=by rfl) :
  GE X E (.Call (.Attribute o "append" m) [e] [] s) (MD mo ma):=(lf Kh PySem.F.slot_list_append PySem.F.type_list_append UI ho (FB Y IM A) Z vO ui A uJ).imp<|by
 rintro σ H Q ⟨ρ,l,S,J,A,g⟩
 refine⟨ρ,l,S,J,A,g.seq λx S1 g B H1 v C L r1=>?_⟩
 cases x <;> first | exact g.elim | skip
 rename_i n;dsimp only at g;split at g
 ·rename_i xs0 h0
  obtain⟨a,vs,rfl,hn,e0,_⟩:=Z3 L r1 h0;refine⟨.inl ⟨rfl,vs,.inl (.inl e0)⟩,B,l,S1,J.mono C,L,(g.later C).seq λy S2 g j N u O P r2=>?_⟩;split at g
  ·rename_i xs h3
   split at g
   ·rename_i hz
    have G:=O.pre n a hn;obtain⟨I,R,U⟩:=P.ob n _ _ h3 G;have le:Le X.K j N j (upd N a (.lst (I++[u]))):=Le.write G (by rw[R];trivial);obtain⟨s3,l3⟩:=P.write (ho:=.lst (I++[u])) (o:=.lst (xs++[y])) G ⟨_,Bc,(U.append (.cons r2 .nil)).mono le⟩ le;exact⟨a,I,u,rfl,rfl,R,by rw[<-U.length];exact hz,g j _ _ (C.trans (O.trans l3)) s3 .non⟩
   ·exact g.elim
  ·exact g.elim
 ·exact g.elim
end
noncomputable def Dc{g β:Type}[DecidableEq g](j:List (g×β))(k:g):Option β:=(j.find? λl=>decide (l.1=k)).map (·.2)
noncomputable def Go{j l:Type}[DecidableEq j](m:List (j×l))(k:j)(v:l):List (j×l):=
 if (m.any λg=>decide (g.1=k))=true then m.map (λg=>if g.1=k then(g.1,v)else g)else m++[(k,v)]
section
variable{κ:Type}[DecidableEq κ]{K:AD}{ρ:List AN}{H:Hp}
theorem KVR.val(k:κ):∀{x:List (κ×D)} {y:List (κ×V)},KVR K ρ H x y->(Dc x k=none->LB y k=none)/\∀d,Dc x k=some d->∃v,LB y k=some v/\Bs K ρ H d v
 | _,_,.nil=>⟨λ_=>rfl,λd h=>by cases h⟩
 | (g,a) :: x,(m,b) :: y,.cons r t=>by
  obtain⟨j,l⟩:=r;dsimp only at j l;subst j;unfold Dc LB;rw[CL,CL]
  by_cases e:g=k
  ·simp only[e,decide_true]
   exact⟨(λh=>nomatch h),(λd h=>by cases h;exact⟨b,rfl,l⟩)⟩
  ·simp only[e,decide_false]
   exact KVR.val k t
theorem KVR.any(k:κ):∀{x:List (κ×D)} {y:List (κ×V)},KVR K ρ H x y->(x.any λj=>decide (j.1=k))=y.any λj=>decide (j.1=k)
 | _,_,.nil=>rfl
 | (g,a) :: x,(l,b) :: y,.cons r t=>by
  rw[II,II,KVR.any k t,show g=l from r.1]
theorem KVR.repl(k:κ)(l:Bs K ρ H d v):∀{x:List (κ×D)} {y:List (κ×V)},KVR K ρ H x y->KVR K ρ H (x.map λj=>if j.1=k then(j.1,d)else j) (y.map λj=>if j.1=k then(j.1,v)else j)
 | _,_,.nil=>.nil
 | (g,a) :: x,(s,b) :: y,.cons r t=>by
  obtain⟨m,o⟩:=r;dsimp only at m o;subst m;rw[As,As];refine .cons ?_ (KVR.repl k l t)
  by_cases e:g=k
  ·rw[qX e,qX e];exact⟨rfl,l⟩
  ·rw[qY e,qY e];exact⟨rfl,o⟩
theorem KVR.put(k:κ)(g:Bs K ρ H d v)(h:KVR K ρ H x y):KVR K ρ H (Go x k d) (MB y k v):=by
 unfold Go MB;rw[KVR.any k h];split
 ·exact KVR.repl k g h
 ·exact Xt h ⟨rfl,g⟩
end
noncomputable def gP:D->Option Key
 | .int i=>some (.inl i)
 | .str x=>some (.inr x)
 | _=>none
noncomputable def Np:List D->Option (List Key)
 | []=>some []
 | d :: g=>match gP d,Np g with
  | some k,some j=>some (k :: j)
  | _,_=>none
theorem RG{K}{ρ}{H}{d}{v}{k}(r:Bs K ρ H d v)(h:gP d=some k):v=kV k:=by
 cases r <;> first | (cases h;done) | (cases h;rfl)
theorem Os{K}{ρ}{H}:∀{ds:List D} {vs:List V} {g:List Key},Ak K ρ H ds vs->Np ds=some g->vs=g.map kV
 | _,_,_,.nil,h=>by cases h;rfl
 | _,_,_,.cons r t,h=>by
  unfold Np at h;split at h
  ·rename_i k g j l
   cases h;rw[RG r j,Os t l];rfl
  ·cases h
noncomputable def Qx(x y:D)(S:Sto):Option (Option D):=match x with
 | .ref n=>match S[n]? with
  | some (.dK g)=>match gP y with
   | some k=>some (Dc g k)
   | none=>none
  | some (.dT g)=>match y with
   | .tup j=>match Np j with
    | some l=>some (Dc g l)
    | none=>none
   | _=>none
  | some (.fK g)=>match gP y with
   | some k=>some (Dc g k)
   | none=>none
  | some (.fT g)=>match y with
   | .tup j=>match Np j with
    | some l=>some (Dc g l)
    | none=>none
   | _=>none
  | _=>none
 | _=>none
theorem V3{K}{ρ}{S}{H}{x y}{N O}{o}(s:CA K ρ S H)(P:Bs K ρ H x N)(E:Bs K ρ H y O)(h:Qx x y S=some o) :
  ∃a o',N=.ref a/\O5 H a O o'/\(o=none->o'=none)/\∀d,o=some d->∃v,o'=some v/\Bs K ρ H d v:=by
 unfold Qx at h;split at h
 ·rename_i n
  cases P with
  | @ref _ a G=>
   split at h
   ·rename_i I g
    split at h
    ·rename_i k j
     cases h;obtain⟨l,e,r⟩:=s.ob n _ _ g G;rw[RG E j];obtain⟨m,A⟩:=KVR.val k r;exact⟨a,LB l k,rfl,O5.k e,m,A⟩
    ·cases h
   ·rename_i I g
    split at h
    ·rename_i Q
     split at h
     ·rename_i B j
      cases h;obtain⟨l,e,r⟩:=s.ob n _ _ g G
      cases E with
      | tup C J=>
       obtain⟨m,A⟩:=KVR.val B r;rw[Os J j]at C;exact⟨a,LB l B,rfl,O5.t e C,m,A⟩
     ·cases h
    ·cases h
   ·rename_i I g
    split at h
    ·rename_i k j
     cases h;obtain⟨L,l,e,r⟩:=s.ob n _ _ g G;rw[RG E j];obtain⟨m,A⟩:=KVR.val k r;exact⟨a,LB l k,rfl,(.inl ⟨_,_,.inr ⟨L,e⟩,rfl,rfl⟩),m,A⟩
    ·cases h
   ·rename_i I g
    split at h
    ·rename_i Q
     split at h
     ·rename_i B j
      cases h;obtain⟨L,l,e,r⟩:=s.ob n _ _ g G
      cases E with
      | tup C J=>
       obtain⟨m,A⟩:=KVR.val B r;rw[Os J j]at C;exact⟨a,LB l B,rfl,(.inr ⟨_,_,_,.inr ⟨L,e⟩,rfl,C,rfl⟩),m,A⟩
     ·cases h
    ·cases h
   ·cases h
 ·cases h
noncomputable def Sm(x y:D)(S:Sto):Res D:=match Qx x y S with
 | some (some d)=>.ok d S
 | _=>.bad
noncomputable def OG(neg:Bool)(y x:D)(S:Sto):Res D:=match Qx x y S with
 | some o=>.ok (.bl (if neg then !o.isSome else o.isSome)) S
 | none=>.bad
section
variable{X:Cx}{E:EW}{mo mi mv:ME}
theorem kh(N:X.A.units+1 < Ez)(ho:GE X E o mo)(hi:GE X E i mi)(m:qD i:=by intro _ _;rfl):GE X E (.Subscript o i pos) (m2 Sm mo mi):=(j9 N ho hi m).imp λO H Q h=>by
 refine(N5 h:tOp (rD X.K Sm) (gE X.K E mo) (gE X.K E mi) O H Q) |> λt=>?_
 obtain⟨P,l,S,R,m,k⟩:=t;refine⟨P,l,S,R,m,k.imp λx S1 k s U u Y Z r1=>?_⟩;obtain⟨B,l2,S2,uo,uu,C⟩:=k s U u Y Z r1;refine⟨B,l2,S2,uo,uu,C.imp λy S3 C G J v l3 s3 r3=>?_⟩;obtain⟨I,S4,x4,y4,d,S5,L,r4,r5,j,k4⟩:=C G J v l3 s3 r3;unfold Sm at j;split at j
 ·rename_i d' hd
  cases j;obtain⟨a,o',rfl,g,_,g2⟩:=V3 L r4 r5 hd;obtain⟨w',rfl,uD⟩:=g2 _ rfl;exact⟨a,w',rfl,g,k4 I J w' .refl L uD⟩
 ·cases j
theorem jX{m}{H}{Q}(h:gE X.K E (m2 (OG false) mi mo) m H Q):rP (gE X.K E mi) (gE X.K E mo) m H Q:=by
 obtain⟨N,l,S,O,P,k⟩:=(N5 h:tOp (rD X.K (OG false)) (gE X.K E mi) (gE X.K E mo) m H Q);refine⟨N,l,S,O,P,k.imp λx S1 k o R u U Y Z=>?_⟩;obtain⟨s,l2,S2,uo,uu,A⟩:=k o R u U Y Z;refine⟨s,l2,S2,uo,uu,A.imp λy S3 A B G v l3 s3 r3=>?_⟩;obtain⟨C,S4,x4,y4,d,S5,I,r4,r5,j,k4⟩:=A B G v l3 s3 r3;unfold OG at j;split at j
 ·rename_i J hd
  cases j;obtain⟨a,L,rfl,g,g1,g2⟩:=V3 I r5 r4 hd;refine⟨a,L,rfl,g,?_⟩
  have:L.isSome=J.isSome:=by
   cases J with
   | none=>rw[g1 rfl];rfl
   | some d=>obtain⟨w',rfl,_⟩:=g2 d rfl;rfl
  rw[this];exact k4 C G _ .refl I (.bl _)
 ·cases j
theorem YZ{m}{H}{Q}(h:gE X.K E (m2 (OG true) mi mo) m H Q):Zv (gE X.K E mi) (gE X.K E mo) m H Q:=by
 obtain⟨N,l,S,O,P,k⟩:=(N5 h:tOp (rD X.K (OG true)) (gE X.K E mi) (gE X.K E mo) m H Q);refine⟨N,l,S,O,P,k.imp λx S1 k o R u U Y Z=>?_⟩;obtain⟨s,l2,S2,uo,uu,A⟩:=k o R u U Y Z;refine⟨s,l2,S2,uo,uu,A.imp λy S3 A B G v l3 s3 r3=>?_⟩;obtain⟨C,S4,x4,y4,d,S5,I,r4,r5,j,k4⟩:=A B G v l3 s3 r3;unfold OG at j;split at j
 ·rename_i J hd
  cases j;obtain⟨a,L,rfl,g,g1,g2⟩:=V3 I r5 r4 hd;refine⟨a,L,rfl,g,?_⟩
  have:L.isSome=J.isSome:=by
   cases J with
   | none=>rw[g1 rfl];rfl
   | some d=>obtain⟨w',rfl,_⟩:=g2 d rfl;rfl
  rw[this];exact k4 C G _ .refl I (.bl _)
 ·cases j
theorem fo{K}{m}{o}{H}{Q}(h:gT K E (mB m) o H Q):gE K E m o H λx H1=>∃c,x=.bl c/\Q c H1:=by
 obtain⟨s,l,S,A,B,g⟩:=h;refine⟨s,l,S,A,B,g.seq λd J g j H1 x C G I=>?_⟩
 cases d <;> first | exact g.elim | skip
 cases I;exact⟨_,rfl,g j H1 C G⟩
theorem pC(g:X.A.units+1 < Ez)(hi:GE X E i mi)(ho:GE X E o mo)(j:Df .In o=false:=by rfl):GT X E (.Compare i [.In] [o] pos) (mB (m2 (OG false) mi mo)):=(eX (oG g hi ho) j).imp λ_ _ _ h=>jX (fo h)
theorem cE(g:X.A.units+1 < Ez)(hi:GE X E i mi)(ho:GE X E o mo)(j:Df .NotIn o=false:=by rfl):GT X E (.Compare i [.NotIn] [o] pos) (mB (m2 (OG true) mi mo)):=(eX (br g hi ho) j).imp λ_ _ _ h=>YZ (fo h)
noncomputable def Y0:ME:=λ_ S=>.ok (.ref S.length) (S++[.dK []])
noncomputable def Vn:ME:=λ_ S=>.ok (.ref S.length) (S++[.dT []])
theorem gs:GE X E (.Dict [] [] pos) Y0:=(fC (X:=X) (pos:=pos)).imp<|by
 rintro B H Q ⟨C,l,S,G,j,k⟩ p m
 obtain⟨s,A,g⟩:=j.alloc (ho:=.dK []) (o:=.dK []) m ⟨[],Bc,.nil⟩;exact k _ _ _ A s (.ref g)
theorem XO:GE X E (.Dict [] [] pos) Vn:=(fB (X:=X) (pos:=pos)).imp<|by
 rintro B H Q ⟨C,l,S,G,j,k⟩ p m
 obtain⟨s,A,g⟩:=j.alloc (ho:=.dT []) (o:=.dT []) m ⟨[],Bc,.nil⟩;exact k _ _ _ A s (.ref g)
noncomputable def XV(x y v:D)(S:Sto):Option Sto:=match x with
 | .ref n=>match S[n]? with
  | some (.dK g)=>match gP y with
   | some k=>if g.length < sizeLine then some (S.set n (.dK (Go g k v)))else none
   | none=>none
  | some (.dT g)=>match y with
   | .tup j=>match Np j with
    | some l=>if g.length < sizeLine then some (S.set n (.dT (Go g l v)))else none
    | none=>none
   | _=>none
  | _=>none
 | _=>none
noncomputable def IL(mo mi mv:ME):MS:=λe S=>(mv e S).lift e λv g=>(mo e g).lift e λx j=>(mi e j).lift e λy l=>match XV x y v l with
 | some m=>.ok (.nx e) m
 | none=>.bad
theorem Vw(hu:X.A.units+1 < Ez)(ho:GE X E o mo)(hi:GE X E i mi)(hv:GE X E value mv)(Z:Gy value (some (.Subscript o i I)) pos.line X.env=pure false:=by rfl):GS X E (.Assign [.Subscript o i I] value pos) (IL mo mi mv):=(jr hu ho hi hv Z).imp<|by
 rintro D σ H ⟨ρ,l,S,C,Z,m⟩
 refine⟨ρ,l,S,C,Z,m.lift C .refl λv S1 m ρ1 H1 P s s1 r1=>⟨ρ1,l,S1,C.mono s,s1,(m.later s).lift (C.mono s) s λx S2 m ρ2 H2 xv B s2 r2=>⟨ρ2,l,S2,C.mono (s.trans B),s2,(m.later B).lift (C.mono (s.trans B)) (s.trans B) λy S3 m j Q yv J R r3=>?_⟩⟩⟩;have L:=r1.mono (B.trans J);have r2':=r2.mono J;have Ρ:=C.mono (s.trans (B.trans J));split at m
 ·rename_i S4 g
  unfold XV at g;split at g
  ·rename_i n
   cases r2' with
   | @ref _ a G=>
    split at g
    ·rename_i f' h4
     split at g
     ·rename_i U hk
      split at g
      ·rename_i hz
       cases g;obtain⟨N,e,r⟩:=R.ob n _ _ h4 G;rw[RG r3 hk];have le:Le X.K j Q j (upd Q a (.dK (MB N U P))):=Le.write G (by rw[e];trivial);obtain⟨s5,O⟩:=R.write (ho:=.dK (MB N U P)) (o:=.dK (Go f' U v)) G ⟨_,Bc,(KVR.put U L r).mono le⟩ le;exact⟨a,_,rfl,Xl.k e (by rw[<-KVR.length r];exact hz),m j _ σ (s.trans (B.trans (J.trans O))) s5 (Ρ.mono O)⟩
      ·cases g
     ·cases g
    ·rename_i f' h4
     split at g
     ·rename_i ds
      split at g
      ·rename_i Y hk
       split at g
       ·rename_i hz
        cases g;obtain⟨N,e,r⟩:=R.ob n _ _ h4 G
        cases r3 with
        | tup b1 b2=>
         rw[Os b2 hk]at b1;have le:Le X.K j Q j (upd Q a (.dT (MB N Y P))):=Le.write G (by rw[e];trivial);obtain⟨s5,O⟩:=R.write (ho:=.dT (MB N Y P)) (o:=.dT (Go f' Y v)) G ⟨_,Bc,(KVR.put Y L r).mono le⟩ le;exact⟨a,_,rfl,Xl.t e b1 (by rw[<-KVR.length r];exact hz),m j _ σ (s.trans (B.trans (J.trans O))) s5 (Ρ.mono O)⟩
       ·cases g
      ·cases g
     ·cases g
    ·cases g
  ·cases g
 ·exact m.elim
end
section
variable{X:Cx}{E:EW}{a b c:Expr}{pos:Pos}
theorem bT{K}{f g}{N}{H}{Q}(h:gE K E (m3 f g ma Z mc) N H Q):dz (rD K f) (rD K g) (gE K E ma) (gE K E Z) (gE K E mc) N H Q:=by
 obtain⟨ρ,l,S,C,hs,j⟩:=h;refine⟨ρ,l,S,C,hs,j.seq λx S1 j G H1 u m s1 r1=>⟨G,l,S1,C.mono m,s1,(j.later m).seq λy O j I H2 v o s2 P=>?_⟩⟩
 cases B:f x y O with
 | bad=>rw[B]at j;exact j.elim
 | err _ _=>rw[B]at j;exact j.elim
 | ok z R=>
  rw[B]at j;dsimp only[okR,Res.bind]at j;refine⟨I,O,x,y,z,R,s2,r1.mono o,P,B,λs H3 w A U r3=>?_⟩
  cases z with
  | bl k=>
   cases r3;refine⟨k,rfl,?_⟩
   cases k with
   | true=>
    rw[qX rfl];refine⟨s,l,R,C.mono (m.trans (o.trans A)),U,B1.seq (j.later (o.trans A)) λw S4 j J H4 wv Y s4 r4=>?_⟩;obtain⟨d,S',e,k⟩:=j.okR;exact⟨J,S4,y,w,d,S',s4,P.mono (A.trans Y),r4,e,λL H' z l' s' r'=>k L H' z (m.trans (o.trans (A.trans (Y.trans l')))) s' r'⟩
   | false=>rw[qY AT];exact j s H3 _ (m.trans (o.trans A)) U (.bl false)
  | _=>exact j.elim
theorem SX(ho:OpR X (Bt op) (rD X.K f))(l:OpR X (Bt j) (rD X.K g))(m:GE X E a ma)(hb:GE X E b o)(s:GE X E c A)
  (B:lastMarks [op,j] [b,c]=false:=by with_unfolding_all rfl):GT X E (.Compare a [op,j] [b,c] pos) (mB (m3 f g ma o A)):=(eY ho l m hb s B).imp λ_ _ _ h=>bT (fo h)
noncomputable def Pu(m:ME):ME:=λe S=>(m e S).bind λd g=>match d with
 | .int i=>.ok (.int (-i)) g
 | _=>.bad
theorem KU(h:GE X E a ma):GE X E (.UnaryOp .USub a pos) (Pu ma):=(sA mr h).imp<|by
 rintro I H Q ⟨m,l,S,o,s,g⟩
 refine⟨m,l,S,o,s,g.seq λd J g j A x B C G=>?_⟩
 cases d <;> first | exact g.elim | skip
 cases G;exact⟨_,rfl,g j A _ B C (.int _)⟩
end
noncomputable abbrev MO:=Lo->Sto->Res (Option Int)
noncomputable def gO(K:AD)(E:EW)(m:MO):TO:=λs H Q=>∃j e S,FF K j H e s/\CA K j S H/\B1 K (λc=>E c s) j H (m e S) λo A=>∀g l,Le K j H g l->CA K g A l->Q o l
noncomputable abbrev GO(X:Cx)(E:EW)(e:Option Expr)(m:MO):Prop:=PO X e (gO X.K E m)
noncomputable def UG:MO:=λ_ S=>.ok none S
noncomputable def SI(m:ME):MO:=λe S=>(m e S).bind λd g=>match d with
 | .int i=>.ok (some i) g
 | _=>.bad
noncomputable def Ji{α:Type}(xs:List α)(lo hi:Option Int):List α:=(xs.drop (HT.sIx xs.length 0 lo)).take (HT.sIx xs.length xs.length hi - HT.sIx xs.length 0 lo)
noncomputable def dR(n:Nat)(lo hi:Option Int):Bool:=decide (HT.sIx n 0 lo=0/\HT.sIx n n hi=n)
noncomputable def VH(d:D)(lo hi:Option Int)(S:Sto):Res D:=match d with
 | .tup g=>if dR g.length lo hi=true then .bad else .ok (.tup (Ji g lo hi)) S
 | _=>match Nf d S with
  | some g=>.ok (.ref S.length) (S++[.lst (Ji g lo hi)])
  | none=>.bad
noncomputable def OC(m:ME)(ml g:MO):ME:=λe S=>(m e S).bind λd j=>(ml e j).bind λlo l=>(g e l).bind λo s=>okR (VH d lo o s)
section
variable{X:Cx}{E:EW}{e:Expr}{lo hi:Option Expr}{pos p2:Pos}{m:ME}{ml mh:MO}
theorem PO.imp(h:PO X o t)(i:∀g H Q,t' g H Q->t g H Q):PO X o t':=λj s g H Q I q=>h j s g H Q I (i g H Q q)
theorem RK:GO X E none UG:=PO.imp jw λs H Q ⟨g,l,S,A,j,o⟩=>o g H .refl j
theorem RJ(h:GE X E e m):GO X E (some e) (SI m):=PO.imp (jv h)<|by
 rintro J H Q ⟨o,l,S,s,A,g⟩
 refine⟨o,l,S,s,A,g.seq λd L g j B x C G I=>?_⟩
 cases d <;> first | exact g.elim | skip
 cases I;exact⟨_,rfl,g j B C G⟩
theorem XX{K}{ρ}{H}{ds}{vs}(r:Ak K ρ H ds vs)(lo hi:Option Int):Ak K ρ H (Ji ds lo hi) (Sn vs lo hi):=by
 unfold Ji Sn;rw[r.length];exact(r.drop _).take _
theorem Oy(he:GE X E e m)(A:GO X E lo ml)(hu:GO X E hi mh):GE X E (.Subscript e (.Slice lo hi none p2) pos) (OC m ml mh):=(e8 (jZ.or nK) he A hu).imp<|by
 rintro σ H Q ⟨ρ,l,S,A,hs,s⟩
 refine⟨ρ,l,S,A,hs,s.seq λd S1 s J H1 x B s1 r1=>⟨J,l,S1,A.mono B,s1,(s.later B).seq λlo S2 s L H2 C s2=>⟨L,l,S2,A.mono (B.trans C),s2,(s.later C).seq λhi N s G O P R=>?_⟩⟩⟩;obtain⟨d',S',e,k⟩:=s.okR;have Z:=r1.mono (C.trans P)
 have lst:∀g,Nf d N=some g->Res.ok (.ref N.length) (N++[.lst (Ji g lo hi)])=Res.ok d' S'->rf X.K x lo hi O Q:=λg j e=>by
  cases e;obtain⟨p,U,rfl,rr,sq⟩:=Ih R Z j;refine⟨p,U,rfl,sq,λq j=>?_⟩;have le:Le X.K G O (G++[q]) (upd O q (.lst (Sn U lo hi))):=Le.alloc j;obtain⟨Y,I,yF⟩:=R.alloc (ho:=.lst (Sn U lo hi)) (o:=.lst (Ji g lo hi)) j ⟨_,Bc,(XX rr lo hi).mono le⟩;exact k _ _ _ (B.trans (C.trans (P.trans I))) Y (.ref yF)
 cases d with
 | tup g=>
  unfold VH at e;dsimp only at e;split at e
  ·cases e
  ·rename_i hw
   cases e
   cases Z with
   | @tup _ a vs h1 h2=>
    refine .inr ⟨a,vs,rfl,.inl (.inl h1),λz=>hw ?_,λq j=>?_⟩
    ·unfold dR
     rw[h2.length];exact wX z
    ·obtain⟨Y,I⟩:=Fq (ho:=.tup (Sn vs lo hi)) R j
     exact k _ _ _ (B.trans (C.trans (P.trans I))) Y (.tup Bc ((XX h2 lo hi).mono I))
 | non=>cases e
 | bl _=>cases e
 | int _=>cases e
 | str _=>cases e
 | exc _=>cases e
 | fro g=>exact .inl (lst g rfl e)
 | ref n=>
  unfold VH at e;dsimp only at e;split at e
  ·rename_i g j
   exact .inl (lst g j e)
  ·cases e
end
section
variable{X:Cx}{E:EW}{e:Expr}{p pos:Pos}{m:ME}
noncomputable def Gq(m:ME):ME:=λe S=>(m e S).bind λd g=>match IA d g with
 | some j=>.ok (.tup j) g
 | none=>.bad
theorem HE(U:Gl X "tuple") (s:X.mg "tuple" = none) (h:GE X E e m) (N:AQ [e] X.env=(false,Bd e X.env) :: AQ [] X.env:=by rfl):GE X E (.Call (.Name "tuple" p) [e] [] pos) (Gq m):=
 (UF Tj U s QZ (FB h IM N) (by decide) (by decide) N rfl).imp<|by
 rintro σ H Q ⟨Y,l,S,Z,hs,s⟩
 refine⟨Y,l,S,Z,hs,s.seq λd S1 s B A x O G r1=>?_⟩
 cases g:IA d S1 with
 | none=>rw[g]at s;exact s.elim
 | some ds=>
  rw[g]at s
  have P:∀a j,x=.ref a->SqL X.K A a j->Ak X.K B A ds j->∃p I,[x]=[.ref p]/\((SqL X.K A p I/\∀l,A l=none->Q (.ref l) (upd A l (.tup I)))∨(SqT X.K A p I/\Q (.ref p) A)):=λa j e sq J=>by
   subst e;refine⟨a,j,rfl,.inl ⟨sq,λq g=>?_⟩⟩;obtain⟨s2,R⟩:=Fq (ho:=.tup j) G g;exact s _ _ _ (O.trans R) s2 (.tup Bc (J.mono R))
  cases r1 with
  | @tup _ a j C L=>cases g;exact⟨a,j,rfl,.inr ⟨.inl (.inl C),s B A _ O G (.tup C L)⟩⟩
  | @fro _ a j C L=>cases g;exact P a j rfl C.sq L
  | @ref n a hn=>
   obtain⟨o,ho,ro⟩:=G.there hn;unfold IA at g;simp only[ho]at g
   cases o with
   | lst es=>cases g;obtain⟨j,e,J⟩:=ro;exact P a j rfl (.inl (.inl e)) J
   | _=>cases g
  | _=>cases g
variable{o:Expr}
noncomputable def atL(d:D)(S:Sto):Option (Nat×List D):=match d with
 | .ref n=>match S[n]? with
  | some (.lst g)=>some (n,g)
  | _=>none
 | _=>none
theorem P9{K}{ρ}{S}{H}{d}{x}{n}{xs}(s:CA K ρ S H)(r:Bs K ρ H d x)(h:atL d S=some (n,xs)):d=.ref n/\S[n]?=some (.lst xs)/\∃a vs,x=.ref a/\ρ[n]?=some a/\H a=some (.lst vs)/\Ak K ρ H xs vs:=by
 unfold atL at h;split at h
 ·split at h
  ·rename_i j g
   cases h;exact⟨rfl,g,Z3 s r g⟩
  ·cases h
 ·cases h
theorem RC{K}{ρ}{S}{H}{n}{a}{vs g}{ys}(s:CA K ρ S H)(j:ρ[n]?=some a)(e:H a=some (.lst vs))(r:Ak K ρ H ys g) :
  CA K ρ (S.set n (.lst ys)) (upd H a (.lst g))/\Le K ρ H ρ (upd H a (.lst g)):=by
 have le:Le K ρ H ρ (upd H a (.lst g)):=Le.write j (by rw[e];trivial);exact s.write (ho:=.lst g) (o:=.lst ys) j ⟨_,Bc,r.mono le⟩ le
noncomputable def fg(mo:ME):ME:=λe S=>(mo e S).bind λd g=>match atL d g with
 | some (n,j)=>.ok .non (g.set n (.lst j.reverse))
 | none=>.bad
theorem ZA(ho:GE X E o mo)(G:Ei o "reverse" X.env (Bd o X.env)=Bd o X.env:=by rfl) (I:(j.endLine==J.line)=true:=by rfl) :
  GE X E (.Call (.Attribute o "reverse" j) [] [] J) (fg mo):=(fD Kh PySem.F.slot_list_reverse PySem.F.type_list_reverse Yr ho G I).imp<|by
 rintro σ H Q ⟨L,l,S,N,O,g⟩
 refine⟨L,l,S,N,O,g.seq λd P g s H1 v R B U=>?_⟩
 cases A:atL d P with
 | none=>rw[A]at g;exact g.elim
 | some z=>
  obtain⟨n,xs⟩:=z;rw[A]at g;obtain⟨rfl,h0,a,C,rfl,Y,e,Z⟩:=P9 B U A;obtain⟨s2,l2⟩:=RC B Y e Z.reverse;exact⟨.inl ⟨rfl,C,.inl (.inl e)⟩,a,C,rfl,rfl,e,g s _ _ (R.trans l2) s2 .non⟩
noncomputable def Pb(mo mi:ME):MG:=λv e S=>(mo e S).bind λd s=>(mi e s).bind λk g=>match atL d g,k with
 | some (n,l),.int i=>match ixN l.length i with
  | some j=>.ok e (g.set n (.lst (l.set j v)))
  | none=>.bad
 | _,_=>.bad
theorem pN{i}{mi}(ho:GE X noE o mo)(hi:GE X noE i mi)(U:∀v,N0 (.Subscript o i pos) X.env v=(do
   let A <-Gz [v] (Bd o X.env)
   let C <-Gz [v,A] (Bd i X.env)
   QC pos
   Gz [v,A,C] (Xo A C v)
   qM [v,A,C] []):=by intro _;rfl):GG X (.Subscript o i pos) (Pb mo mi):=(ny ho hi Wo U).imp<|by
 rintro v Y H Q ⟨Z,l,S,d,hd,G,hs,g⟩
 refine⟨Z,l,S,G,hs,g.seq λx S1 L I H1 u s s1 r1=>⟨I,l,S1,G.mono s,s1,(L.later s).seq λk S2 N J H2 w B O r2=>?_⟩⟩;have g:=N
 clear N L
 have uo:=G.mono (s.trans B);split at g
 ·rename_i n xs i hq
  split at g
  ·rename_i j hj
   obtain⟨rfl,h0,a,vs,rfl,hn,e,P⟩:=P9 O (r1.mono B) hq;cases r2;obtain⟨s3,R⟩:=RC O hn e (P.set (hd.mono (s.trans B)) j);exact⟨a,vs,i,j,rfl,rfl,e,by rw[<-P.length];exact hj,g J _ Y (s.trans (B.trans R)) s3 (uo.mono R)⟩
  ·exact g.elim
 ·exact g.elim
end
section
noncomputable def J9:List D->Option ZLi
 | []=>some []
 | .int b :: g=>(J9 g).map (b :: ·)
 | _ :: _=>none
theorem Ov:∀{ds:List D} {ns:ZLi},J9 ds=some ns->ds=ns.map D.int
 | [],_,h=>by cases h;rfl
 | .int b :: ds,ns,h=>by
  unfold J9 at h
  cases g:J9 ds with
  | none=>rw[g]at h;cases h
  | some j=>rw[g]at h;cases h;rw[Ov g];rfl
 | .non :: _,_,h=>by cases h
 | .bl _ :: _,_,h=>by cases h
 | .str _ :: _,_,h=>by cases h
 | .tup _ :: _,_,h=>by cases h
 | .fro _ :: _,_,h=>by cases h
 | .ref _ :: _,_,h=>by cases h
 | .exc _ :: _,_,h=>by cases h
noncomputable def tyD(d:D)(S:Sto):Option String:=match d with
 | .non=>some "NoneType"
 | .bl _=>some "bool"
 | .int _=>some "int"
 | .str _=>some "str"
 | .tup _=>some "tuple"
 | .ref n=>match S[n]? with
  | some (.lst _)=>some "list"
  | some (.dK _)=>some "dict"
  | some (.dT _)=>some "dict"
  | _=>none
 | .fro _=>none
 | .exc _=>none
theorem mw{K}{ρ}{S}{H}{d}{x}{T}(s:CA K ρ S H)(r:Bs K ρ H d x)(h:tyD d S=some T):O4 K H x (.type T):=by
 cases r with
 | non=>cases h;exact .non
 | bl b=>cases h;exact .bl b
 | int i=>cases h;exact .int i
 | str i=>cases h;exact .str i
 | tup A _=>cases h;exact .tup A
 | fro _ _=>cases h
 | exc _ _=>cases h
 | @ref n a B=>
  obtain⟨o,C,g⟩:=s.there B;unfold tyD at h;simp only[C]at h
  cases o with
  | lst j=>cases h;obtain⟨l,e,m⟩:=g;exact .lst e
  | dK j=>cases h;obtain⟨l,e,m⟩:=g;exact .dK e
  | dT j=>cases h;obtain⟨l,e,m⟩:=g;exact .dT e
  | ins _ _=>cases h
  | fK _=>cases h
  | fT _=>cases h
  | mem _=>cases h
noncomputable def lq(c T:String):Option Bool:=if T==c then some true else if T=="bool"&&c=="int" then some true else if ["NoneType", "bool", "int", "str", "tuple", "list", "dict"].contains T&&["bool", "int", "str", "tuple", "list", "dict"].contains c then some false else none
end
noncomputable def KR{α:Type}(r g:Res α):Res α:=match r with
 | .bad=>g
 | r=>r
theorem bv{g:Type}(r r':Res g):KR r r'=r∨KR r r'=r':=by cases r <;> simp[KR]
noncomputable def op2(f g:D->D->Sto->Res D):D->D->Sto->Res D:=λx y S=>KR (f x y S) (g x y S)
theorem ft(f g:D->D->Sto->Res D)(ma j:ME)(l:Lo)(S:Sto):m2 (op2 f g) ma j l S=m2 f ma j l S∨m2 (op2 f g) ma j l S=m2 g ma j l S:=by
 unfold m2
 cases ma l S with
 | ok x o=>
  dsimp only[Res.bind]
  cases j l o with
  | ok y m=>
   dsimp only[Res.bind];unfold op2
   rcases bv (f x y m) (g x y m)with e | e <;> rw[e] <;> simp
  | err c m=>exact .inl rfl
  | bad=>exact .inl rfl
 | err c o=>exact .inl rfl
 | bad=>exact .inl rfl
section
theorem pT{m g m2}(G:GE X E e g)(J:GE X E e m2)(h:∀l S,m l S=g l S∨m l S=m2 l S):GE X E e m:=by
 rintro j s o H Q I ⟨A,l,S,B,C,a⟩
 rcases h l S with q | q
 ·rw[q]at a;exact G j s o H Q I ⟨A,l,S,B,C,a⟩
 ·rw[q]at a;exact J j s o H Q I ⟨A,l,S,B,C,a⟩
theorem gk(B:GT X E e C)(G:GT X E e J)(h:∀l S,t l S=C l S∨t l S=J l S):GT X E e t:=by
 rintro g s j H Q I ⟨m,l,S,o,A,a⟩
 rcases h l S with q | q
 ·rw[q]at a;exact B g s j H Q I ⟨m,l,S,o,A,a⟩
 ·rw[q]at a;exact G g s j H Q I ⟨m,l,S,o,A,a⟩
theorem pM(B:GI X E tg e C)(G:GI X E tg e J)(h:∀l S,t l S=C l S∨t l S=J l S):GI X E tg e t:=by
 rintro g s j H R I ⟨m,l,S,o,A,a⟩
 rcases h l S with q | q
 ·rw[q]at a;exact B g s j H R I ⟨m,l,S,o,A,a⟩
 ·rw[q]at a;exact G g s j H R I ⟨m,l,S,o,A,a⟩
theorem lj{m g m2}(h:∀l S,m l S=g l S∨m l S=m2 l S)(l:Lo)(S:Sto):mB m l S=mB g l S∨mB m l S=mB m2 l S:=by
 unfold mB
 rcases h l S with q | q <;> rw[q] <;> simp
noncomputable abbrev inA(neg:Bool):=op2 (inD neg) (OG neg)
theorem aL(j:X.A.units+64 < Ez)(hi:GE X E i mi)(ho:GE X E o mo)(g:Df .In o=false:=by with_unfolding_all rfl):GT X E (.Compare i [.In] [o] pos) (mB (m2 (inA false) mi mo)):=
 gk (Fa (sQ j) hi ho g) (pC (by lia) hi ho g) (lj λ_ _=>ft _ _ _ _ _ _)
theorem XM(j:X.A.units+64 < Ez)(hi:GE X E i mi)(ho:GE X E o mo)(g:Df .NotIn o=false:=by with_unfolding_all rfl):GT X E (.Compare i [.NotIn] [o] pos) (mB (m2 (inA true) mi mo)):=
 gk (Fa (fI j) hi ho g) (cE (by lia) hi ho g) (lj λ_ _=>ft _ _ _ _ _ _)
noncomputable abbrev ixA:=op2 ixD Sm
theorem Dw(j:X.A.units+64 < Ez)(ho:GE X E o mo)(hi:GE X E i mi)(g:WE i:=by intro _ _;rfl):GE X E (.Subscript o i pos) (m2 ixA mo mi):=
 pT (tI sP ho hi g) (kh (by lia) ho hi g) λ_ _=>ft _ _ _ _ _ _
noncomputable def GU(d:D):OM:=match d with
 | .tup g=>L6 g
 | d=>GV d
noncomputable def GC(m:ME):MI:=λe S=>(m e S).bind λd g=>match GU d g with
 | some _=>.ok (GU d) g
 | none=>.bad
theorem E4(h:GE X E e m):GI X E tg e (GC m):=pM (pL h) (pJ h) λl S=>by
 unfold GC tD lr
 cases m l S with
 | ok d g=>
  dsimp only[Res.bind]
  cases d <;> first | exact .inl rfl | exact .inr rfl
 | err c g=>exact .inl rfl
 | bad=>exact .inl rfl
noncomputable def Nd(m:ME):ME:=λe S=>(m e S).bind λd g=>match IA d g with
 | some j=>.ok (.int j.length) g
 | none=>.bad
theorem Mt(j:Gl X "len") (o:X.mg "len" = none) (h:GE X E e m) (s:AQ [e] X.env=(false,Bd e X.env) :: AQ [] X.env:=by rfl):GE X E (.Call (.Name "len" p) [e] [] pos) (Nd m):=
 (aO WA nL j o PySem.boot_len (lu h) (by decide) (by decide) s).imp λG H Q ⟨A,l,S,B,C,a⟩=>⟨A,l,S,B,C,by
  have q:mQ sd (XC m) l S=Nd m l S:=by
   unfold mQ XC Nd
   cases m l S with
   | ok d g=>
    dsimp only[Res.bind]
    cases IA d g <;> rfl
   | err c g=>rfl
   | bad=>rfl
  rw[q];exact a⟩
theorem V0(g:X.calm=true)(j:Gl X "min") (l:X.mg "min" = none) (h:GA X E [a,b] ml) (m:AQ [a,b] X.env=(false,Bd a X.env) :: AQ [b] X.env:=by rfl) (o:(Da pos (AQ [b] X.env)).any (·.1)=false:=by rfl):GE X E (.Call (.Name "min" p) [a,b] [] pos) (mQ Oo ml):=
 aR (cY g) lF j l RQ h (by decide) (by decide) m o
theorem kf(g:X.calm=true)(j:Gl X "max") (l:X.mg "max" = none) (h:GA X E [a,b] ml) (m:AQ [a,b] X.env=(false,Bd a X.env) :: AQ [b] X.env:=by rfl) (o:(Da pos (AQ [b] X.env)).any (·.1)=false:=by rfl):GE X E (.Call (.Name "max" p) [a,b] [] pos) (mQ UK ml):=
 aR (cZ g) lG j l tm h (by decide) (by decide) m o
end
noncomputable abbrev MJ:=Str->Lo->Sto->Res Str
noncomputable def kW:MJ:=λg _ S=>if g.length<=sizeLine then .ok g S else .bad
noncomputable def SU(m:ME)(r:MJ):MJ:=λg e S=>(m e S).bind λd j=>match d with
 | .str y=>if (g++y).length<=sizeLine then r (g++y) e j else .bad
 | _=>.bad
noncomputable def gJ(K:AD)(E:EW)(m:MJ)(l:Str):TE:=λs H Q=>∃j e S,FF K j H e s/\CA K j S H/\B1 K (λc=>E c s) j H (m l e S) λy A=>∀g o,Le K j H g o->CA K g A o->Q (.str y) o
noncomputable def GJ(X:Cx)(E:EW)(es:List Expr)(m:MJ):Prop:=∀(g:Str) (l:List (AN×Obj)) (s:AK) (j:St) (H:Hp) (Q:VK),Inv X l j H s->gJ X.K E m g j H Q->AY (Ad X.prog X.w) X.A (joinParts g (evalEach es X.env)) (EP X l j Q) X.xe s
noncomputable def fj(m:MJ):ME:=λe S=>(m Xp e S).bind λy g=>.ok (.str y) g
noncomputable def oa(m:ME):ME:=λe S=>(m e S).bind λd g=>match d with
 | .int i=>if i.natAbs.log2 < 1920 then .ok (.str (toString i)) g else .bad
 | _=>.bad
section
theorem pI:GJ X E [] kW:=by
 rintro j B s C H Q I ⟨m,l,S,G,o,g⟩
 unfold kW at g;split at g
 ·rename_i A
  exact joinParts_nil ⟨.str j,H,I.tok _,⟨_,rfl⟩,g m H .refl o⟩ A
 ·exact g.elim
theorem Vy(h:GE X E e m)(P:GJ X E es mj):GJ X E (e :: es) (SU m mj):=by
 rintro g N s A H Q I ⟨R,l,S,O,U,j⟩
 show AY _ _ (joinParts g (Bd e X.env :: evalEach es X.env)) _ _ s;refine joinParts_cons (thn (h N s A H (λx o=>∃y,x=.str y/\(g++y).length<=sizeLine/\gJ X.K E mj (g++y) A o Q) I ⟨R,l,S,O,U,B1.seq j λd Y j B o x C G Z=>?_⟩) λu G ⟨x,o,I1,rx,y,ex,J,q⟩=>?_)
 ·cases d <;> first | exact j.elim | skip
  dsimp only at j;split at j
  ·rename_i y J
   cases Z;exact⟨y,rfl,J,B,l,Y,O.mono C,G,j.go C λ_ _ k L H2 l2 s2=>k L H2 (C.trans l2) s2⟩
  ·exact j.elim
 ·subst ex
  obtain⟨t,rfl⟩:=rx;exact⟨J,P _ N G A o Q I1 q⟩
theorem kg(h:GJ X E (a :: b :: es) mj):GE X E (.JoinedStr (a :: b :: es) pos) (fj mj):=by
 rintro m s o H Q I ⟨A,l,S,B,C,g⟩
 refine JoinedStr_many (h Xp m s o H Q I ⟨A,l,S,B,C,B1.seq g λy N g j G J L=>g j G _ J L (.str y)⟩)
theorem pQ(h:GE X E e m):GE X E (.FormattedValue e (-1) none pos) (oa m):=by
 rintro C s G H Q I ⟨J,l,S,L,N,g⟩
 refine FormattedValue_plain (thn (h C s G H (λx j=>∃i:Int,x=.int i/\i.natAbs.log2 < 1920/\Q (.str (toString i)) j) I ⟨J,l,S,L,N,B1.seq g λd Y g o j x O B P=>?_⟩) λu B ⟨x,j,R,U,i,ex,A,q⟩=>?_)
 ·cases d <;> first | exact g.elim | skip
  dsimp only at g;split at g
  ·rename_i A
   cases P;exact⟨_,rfl,A,g o j _ O B (.str _)⟩
  ·exact g.elim
 ·subst ex
  obtain⟨t,rfl⟩:=U;exact wpAny_formatField_int A ⟨.str (toString i),j,R.tok _,⟨_,rfl⟩,q⟩
end
noncomputable def isB(t A:String):Option Bool:=if ["NoneType", "bool", "int", "str", "tuple", "list", "dict"].contains A then lq t A else none
noncomputable def isN(A:String):Option Bool:=if ["NoneType", "bool", "int", "str", "tuple", "list", "dict"].contains A then some false else none
noncomputable def mIs(g:String->Option Bool)(tabC:AN->Option Bool)(m:ME):ME:=λe S=>(m e S).bind λd j=>match d with
 | .exc C=>match tabC C with
  | some b=>.ok (.bl b) j
  | none=>.bad
 | d=>match tyD d j with
  | some T=>match g T with
   | some b=>.ok (.bl b) j
   | none=>.bad
  | none=>.bad
noncomputable def jE(g:TH)(x:Str):Bool:=decide (g.names.lookup x=some .local)||decide (g.names.lookup x=some .cell)||decide (g.names.lookup x=some .free)
noncomputable def iF(X:Cx)(scope:TH)(own N':List Str):Bool:=
 decide (scope.kind=.function)&&scope.names.all (λy=>!decide (y.2=.local)||decide (scope.names.lookup y.1=some .local)) &&
 scope.names.all (λy=>!decide (y.2=.free)||decide (X.env.kindOf y.1=some .cell)||decide (X.env.kindOf y.1=some .free))&&decide (N'.length=own.length+X.N.length) &&
 ((N'.drop own.length).zip X.N).all (λp=>!jE (Kf scope X.env) p.1||(decide (p.1=p.2)&&jE X.env.scope p.1&&(decide ((Kf scope X.env).names.lookup p.1=some .cell)||decide ((Kf scope X.env).names.lookup p.1=some .free))&&!decide (X.env.kindOf p.1=some .local)&&!scope.names.any (λz=>decide (z=(p.1,C2)))&&scope.names.any (λz=>decide (z=(p.1,GK))))) &&
 (Kf scope X.env).names.all (λy=>(!decide (y.2=.cell)&&!decide (y.2=.free))||scope.names.any (λz=>decide (z=(y.1,GK)))||scope.names.any (λz=>decide (z=(y.1,C2))))
theorem WY:jE g x=true↔Vis g x:=by
 unfold jE Vis;simp[or_assoc]
theorem Hv(h:iF X scope own N'=true):ON X scope own N':=by
 unfold iF at h;simp only[B0]at h;obtain⟨⟨⟨⟨⟨I,m⟩,o⟩,s⟩,A⟩,B⟩:=h;rw[Dz]at m o A B;refine⟨of_decide_eq_true I,λy l e=>?_,λy l e=>?_,of_decide_eq_true s,λi x e v=>?_,λx j=>?_⟩
 ·have:=m y l
  simpa[e]using this
 ·have:=o y l
  simpa[e]using this
 ·have C:=of_decide_eq_true s
  have U:own.length+i < N'.length:=(AF.mp e).1
  have j:i < X.N.length:=by lia
  have J:(x,X.N[i])∈(N'.drop own.length).zip X.N:=by
   rw[List.mem_iff_getElem?];refine⟨i,?_⟩;rw[List.getElem?_zip_eq_some];exact⟨by rw[O8];exact e,by simp[j]⟩
  have:=A _ J;rw[WY.mpr v]at this;simp only[mR,mS,B0,MX,decide_eq_true_eq,dQ,decide_eq_false_iff_not]at this;obtain⟨⟨⟨⟨⟨L,O⟩,P⟩,Q⟩,E⟩,R⟩:=this;refine⟨⟨by rw[L];simp[j],WY.mp O,P,Q⟩,λq=>?_,?_⟩
  ·rw[dN]at E
   exact E _ q (wX rfl)
  ·obtain⟨z,G,e⟩:=IE.mp R
   rw[of_decide_eq_true e]at G;exact G
 ·have g:∀k,(Kf scope X.env).names.lookup x=some k->(k=.cell∨k=.free)->(x,GK)∈scope.names∨(x,C2)∈scope.names:=λk e S=>by
   have:=B _ (Dk e)
   rcases S with rfl | rfl
   ·simpa using this
   ·simpa using this
  rcases j with e | e
  ·exact g _ e (.inl rfl)
  ·exact g _ e (.inr rfl)
structure Dfn(K:AD)(mg:Str->Option AE)(x qual:Str)(st:Dg)(ps:List Str) where
 f:AN
 fd:Je
 F:Fun K x qual st f fd
 b:Binds K fd ps []
 m:mg x=some (.ref f)
theorem Dfn.kp{K}{j}{x g}{st}{ps}(d:Dfn K j x g st ps):FL K (.ref d.f)=true:=d.F.kp
structure Mtd(K:AD)(x qual:Str)(st:Dg)(ps:List Str) where
 f:AN
 fd:Je
 F:Fun K x qual st f fd
 b:Binds K fd ps []
structure Own(K:AD)(mg:Str->Option AE)(x:Str)(C f:AN):Prop where
 cl:Cls K C
 mk':Mk K C f
 m:mg x=some (.ref C)
structure Xcl(K:AD)(mg:Str->Option AE)(x:Str)(C:AN):Prop where
 xc:XCl K C
 m:mg x=some (.ref C)
noncomputable abbrev wN:Nat:=1000000
structure XIs(K:AD)(C:AN):Prop where
 cl:(EK K C).isSome=true
 ga:CU K (.ref C) "__getattribute__" = some (some (.builtin "BaseException.__getattribute__"))
 gn:CU K (.ref C) "__getattr__" = some none
 ca:CU K (.ref C) "__class__" = some (some (.builtin "object.__class__"))
 sp:ZX K (.builtin "object.__class__") "__get__" = some (some (.builtin "getset_descriptor.__get__"))
 tk:cu K (.builtin "object.__class__")=some true
 ob:Nk K C (.type "object")=some true
 be:Nk K C (.type "BaseException")=some true
theorem Tp.inst(g:h.get? a=some o)(x:Tp o C):dH h a o C none:=by
 obtain⟨j,l,s,m⟩:=x;refine⟨g,j,?_,?_⟩
 ·unfold PySem.W.notCls;rw[m]
 ·rw[l];trivial
section
variable{prog:BP}{w:Bu}{A:Bw}{E:AE->AK->Prop}{s:AK}{K:AD}{a C:AN}{o:Obj}
theorem cO(c:XIs K C)(X:K.In s.heap)(g:s.heap.get? a=some o)(x:Tp o C)(h:Q () s):AY M A (qj "BaseException.__getattribute__" ⟨[.ref a,nameV],[]⟩) Q E s:=by
 have I:=x.inst g;obtain⟨j,J,d,t,os⟩:=s;have l:=I.type (M:=M);have m:Hl M j (isInstance (.ref a) (.type "BaseException")) true:=l.andThen (PySem.W.looks_mroIn X c.be)
 have B:builtinKind "BaseException.__getattribute__" = some .slot:=by decide +kernel
 have G:splitId "BaseException.__getattribute__" = some ("BaseException", "__getattribute__"):=by decide +kernel
 have L:=PySem.F.args_bexc_ga (.ref a) nameV;simp only[qj,B,G];refine AA (m.at ?_)
 repeat(any_goals (first | assumption | wp_step))
theorem cM(c:XIs K C)(X:K.In s.heap)(g:s.heap.get? a=some o)(x:Tp o C)(h:Q (.done (.ret (.ref C))) s) :
  AY (Ad prog w) A (N4.«object.__getattribute__» ⟨[.ref a,.str "__class__" tk],[]⟩) Q E s:=by
 have I:=x.inst g;obtain⟨G,J,d,t,os⟩:=s;have j:=I.type (M:=Ad prog w)
 have l:cx K C none "__class__" = some (.bind (.builtin "getset_descriptor.__get__") (.builtin "object.__class__")):=by
  obtain⟨L,m⟩:=Ke.mp c.cl;unfold cx;rw[m,c.ca];simp only[AB];rw[c.sp];simp only[AB];rw[c.tk];rfl
 have B:=PySem.W.looks_find (M:=Ad prog w) X I l;unfold N4.«object.__getattribute__»;refine AA (AG ?_);dsimp only;refine AA (AG (AA (j.at (AA (B.at ?_)))));dsimp only;unfold ij;dsimp only;refine AA (By (X0 (PySem.W.class_get X I c.ob ?_)));exact AG h
theorem cN(c:XIs K C)(X:K.In s.heap)(g:s.heap.get? a=some o)(x:Tp o C)(h:Q (some (.ref C)) { s with toks:=s.toks+1 }):AY (Ad prog w) A (getAttr? (.ref a) "__class__") Q E s:=by
 have I:=x.inst g;obtain⟨B,G,d,t,os⟩:=s;have j:=I.type (M:=Ad prog w);have l:=MR (M:=Ad prog w) X c.ga;have L2:=MR (M:=Ad prog w) X c.gn;unfold getAttr? getAttrBy? getAttrBy;refine AA (wpAny_mkText (AA (Fv (By (AA (j.at (AA (l.at ?_))))))))
 have m:(onTheHeap (Ai C)&&lN "BaseException.__getattribute__"==lN "object.__getattribute__")=false:=by show(true&&_)=false;decide +kernel
 dsimp only;rw[qY (by rw[m];exact AT)];unfold getAttrByItsOwn hookBefore;refine AA ?_;rw[qX (show onTheHeap (Ai C)=true from rfl)];refine L2.at (AA (Fv (By ?_)));unfold callGetattribute;rw[qY (by simp)];unfold boundAndCalled;refine AA (WH (RP.ga.bind (.ref a)) ?_);refine X0 (codeAny_call_builtin RP.ga.plain PySem.F.entry_bexc_ga (cO c X g x (cM c X g x ?_)));exact AG (AG h)
theorem XG(c:XIs K C):PySem.W.KitX K (.ref a) (.ref C) (λh=>∃o,h.get? a=some o/\Tp o C) where
 ty:=λM h X ⟨o,g,x⟩=>(x.inst g).type
 it:=λM h X _=>by
  have z:=c.cl;unfold EK at z;split at z
  ·rename_i j
   intro m B G I k q;unfold isType loadHead;exact AA (Xz (k _ _ (X _ _ j)) (AG q))
  ·cases z
 ne:=λh tp J L n sl X l=>by
  refine Bool.eq_false_iff.mpr λq=>?_
  have e:C=tp:=Ai.inj (beq_iff_eq.mp q);subst e;have z:=c.cl;unfold EK at z;split at z
  ·rename_i j
   have y:=(X _ _ j).symm.trans l;cases y
  ·cases z
 ca:=λX ⟨o,g,x⟩ k=>cN c X g x k
end
noncomputable def rIs(K:AD)(c:V)(cv:AE):List V->Hp->VK->Prop:=λg H Q=>(∃x t b,g=[x,c]/\O4 K H x t/\Bb K t cv=some b/\Q (.bl b) H) ∨
 ∃a o u C b,g=[.ref a,c]/\H a=some (.frz o u)/\Tp o C/\XIs K C/\Bb K (.ref C) cv=some b/\Q (.bl b) H
section
variable{X:Cx}{E:EW}{e ce:Expr}{c:V}
theorem k9(m:∀u,RelV c u->u=cv):Kv X (.builtin "isinstance") (rIs X.K c cv):=by
 intro J s L H N O Q I r h
 rcases h with⟨x,t,b,rfl,ty,e,q⟩ | ⟨a,o,u,C,b,rfl,A,B,G,e,q⟩
 ·obtain⟨v,w,rfl,j,l⟩:=vals2 r
  rw[m w l]
  exact b8 I j ty e λtk=>⟨.bl b,H,I.tok tk,rfl,q⟩
 ·obtain⟨v,w,rfl,j,l⟩:=vals2 r
  rw[m w l];cases(show v=Ai a from j);obtain⟨g,_⟩:=(show Cz X.prog X.w H s.heap a (.frz o u)from I.hok a _ A)
  exact CY (XG G) I.kIn ⟨o,g,B⟩ e (λz=>nomatch z) λtk=>⟨.bl b,H,I.tok tk,rfl,q⟩
theorem aQ(Y:∀u,RelV c u->u=cv)(Z:∀T b,o T=some b->Bb X.K (.type T) cv=some b)(O:∀C b,tabC C=some b->XIs X.K C/\Bb X.K (.ref C) cv=some b)
  (hg:Gl X "isinstance") (j:X.mg "isinstance" = none) (h:GE X E e m) (Τ:PE X ce (tC c))
  (P:AQ [e,ce] X.env=(false,Bd e X.env) :: AQ [ce] X.env:=by rfl) (uU:AQ [ce] X.env=(false,Bd ce X.env) :: AQ [] X.env:=by rfl) (ub:(Da pos (AQ [ce] X.env)).any (·.1)=false:=by rfl) :
  GE X E (.Call (.Name "isinstance" p) [e,ce] [] pos) (mIs o tabC m):=
 (Mo (k9 Y) hg j OQ (FB h (FB Τ IM uU) P) (by decide) (by decide) P ub).imp<|by
 rintro σ H Q ⟨G,l,S,hl,hs,j⟩
 refine⟨G,l,S,hl,hs,j.seq λd I j A J x R L U=>?_⟩
 have xw:∀(z:B1 X.K (λc=>E c σ) G H (match tyD d I with | some T=>(match o T with | some b=>Res.ok (D.bl b) I | none=>.bad) | none=>.bad) λd S'=>∀s B x,Le X.K G H s B->CA X.K s S' B->Bs X.K s B d x->Q x B),rIs X.K c cv [x,c] J Q:=λj=>by
  cases N:tyD d I with
  | none=>rw[N]at j;exact j.elim
  | some T=>
   rw[N]at j;dsimp only at j
   cases hb:o T with
   | none=>rw[hb]at j;exact j.elim
   | some b=>
    rw[hb]at j;exact .inl ⟨x,_,b,rfl,mw L U N,Z T b hb,j A J _ R L (.bl _)⟩
 cases d with
 | exc C=>
  dsimp only at j
  cases hb:tabC C with
  | none=>rw[hb]at j;exact j.elim
  | some b=>
   rw[hb]at j
   cases U with
   | exc g x=>exact .inr ⟨_,_,_,C,b,rfl,g,x,(O C b hb).1,(O C b hb).2,j A J _ R L (.bl _)⟩
 | _=>exact xw j
end
end L2
namespace Srt
open PySem PyProof.Rows
structure Ord(U:DQ->Prop)(lt:DQ->DQ->Bool):Prop where
 asym:∀x y,U x->U y->lt x y=true->lt y x=false
 ntr:∀x y z,U x->U y->U z->lt y x=false->lt z y=false->lt z x=false
theorem Ord.irr(o:Ord U lt)(h:U x):lt x x=false:=by
 cases e:lt x x with
 | false=>rfl
 | true=>exact(o.asym x x h h e).symm.trans e |>.symm▸rfl
noncomputable def ix(xs:Array DQ)(i:Nat):DQ:=xs.getD i (.none,.none)
theorem Ks(h:xs[i]?=ys[j]?):ix xs i=ix ys j:=by
 unfold ix;rw[Ix,Ix,h]
theorem RH(h:i < xs.size):xs[i]?=some (ix xs i):=by
 unfold ix;rw[Ix,getElem?_pos xs i h];rfl
theorem b7(l:g < xs.size)(m:d<=g)(k:Nat) :
  ix (mK xs g d) k=if k=g - d then ix xs g else if g - d < k/\k<=g then ix xs (k - 1)else ix xs k:=by
 have e:=getElem?_bubble l d m k;split
 ·rename_i h;rw[qX h]at e;exact Ks e
 ·rename_i h
  rw[qY h]at e;split
  ·rename_i j;rw[qX j]at e;exact Ks e
  ·rename_i j;rw[qY j]at e;exact Ks e
theorem Ee(g:j<=xs.size)(k:Nat) :
  ix (K0 xs i j ((j - i) / 2)) k=if i<=k/\k < j then ix xs (i+j - 1 - k)else ix xs k:=by
 have e:=getElem?_mirror_all (i:=i) g k;split
 ·rename_i h;rw[qX h]at e;exact Ks e
 ·rename_i h;rw[qY h]at e;exact Ks e
section
noncomputable def Sx(prog:BP)(w:Bu)(A:Bw)(s:AK)(a₀:Array DQ)(g:PL)(lt:DQ->DQ->Bool):Prop:=
 ∀x y,x∈a₀->y∈a₀->∀(Q:Bool->AK->Prop) (E:AE->AK->Prop),Q (lt x y) s->AY (Ad prog w) A (keyLt' g x.1 y.1) Q E s
structure Good(a₀:Array DQ)(κ:PL)(st:FK):Prop where
 perm:(Ap st).Perm a₀
 kind:kindOf st=κ
 failed:failedOf st=none
theorem Good.size{st:FK}(g:Good a₀ j st):(Ap st).size=a₀.size:=g.perm.size_eq
theorem Good.mem{st:FK}(g:Good a₀ l st){i:Nat}(h:i < a₀.size):ix (Ap st) i∈a₀:=by
 have j:i < (Ap st).size:=by rw[g.size];exact h
 have e:=RH j;have:=Array.mem_of_getElem? e;exact Fm.mp ((Jg.mp g.perm).mem_iff.mp (Fm.mpr this))
theorem Good.setArr{st:FK}(g:Good a₀ j st){xs:Array DQ}(l:xs.Perm (Ap st)):Good a₀ j (setArr st xs):=⟨l.trans g.perm,g.kind,g.failed⟩
theorem mW{st:FK}{x y:DQ}{Q:Option Bool->FK->Prop}(C:Sx prog w A s a₀ j lt)(g:Good a₀ j st)(l:x∈a₀)(m:y∈a₀)(h:Q (some (lt x y)) st):wpS (Ad prog w) A E s (lt' x y) Q st:=by
 rw[lt'_eq];refine Bj (Xn ?_);rw[g.kind];refine Bj (wpS_lift (Fv ?_));refine C x y l m _ _ ⟨rfl,?_⟩;exact Cn h
theorem PR{st:FK}{i j:Nat}{Q:Option Bool->FK->Prop}(C:Sx prog w A s a₀ m lt)(g:Good a₀ m st)(hi:i < a₀.size)(l:j < a₀.size)(h:Q (some (lt (ix (Ap st) i) (ix (Ap st) j))) st) :
  wpS (Ad prog w) A E s (qN i j) Q st:=by
 rw[ltAt'_eq];refine Bj (Xn ?_);show wpS _ _ _ _ (do let x <-elem' (Ap st) i;let y <-elem' (Ap st) j;lt' x y) Q st;rw[elem'_eq,elem'_eq,RH (by rw[g.size];exact hi),RH (by rw[g.size];exact l)];exact Bj (Cn (Bj (Cn (mW C g (g.mem hi) (g.mem l) h))))
noncomputable def Up(lt:DQ->DQ->Bool)(xs:Array DQ)(lo hi:Nat):Prop:=∀i j,lo<=i->i<=j->j < hi->lt (ix xs j) (ix xs i)=false
noncomputable def Dn(lt:DQ->DQ->Bool)(xs:Array DQ)(lo hi:Nat):Prop:=∀i j,lo<=i->i<=j->j < hi->lt (ix xs i) (ix xs j)=false
noncomputable def Out(xs ys:Array DQ)(lo hi:Nat):Prop:=∀i,(i < lo∨hi<=i)->ix ys i=ix xs i
theorem Out.refl{xs:Array DQ}{lo hi:Nat}:Out xs xs lo hi:=λ_ _=>rfl
theorem Out.trans{xs ys g:Array DQ}{lo hi:Nat}(a:Out xs ys lo hi)(b:Out ys g lo hi):Out xs g lo hi:=λi h=>(b i h).trans (a i h)
theorem Up.grow{st:FK}(O:Ord (·∈a₀) lt)(g:Good a₀ B st){lo hi:Nat}(l:hi < a₀.size)(u:Up lt (Ap st) lo hi)(h0:lo < hi)(h:lt (ix (Ap st) hi) (ix (Ap st) (hi - 1))=false):Up lt (Ap st) lo (hi+1):=λi j m o C=>by
 by_cases s:j < hi
 ·exact u i j m o s
 ·have:j=hi:=by lia
  subst this
  by_cases A:i=j
  ·subst A;exact O.irr (g.mem l)
  ·exact O.ntr _ _ _ (g.mem (by lia)) (g.mem (show j - 1 < _ by omega)) (g.mem l) (u i (j - 1) m (by lia) (by lia)) h
theorem wpS_binarySort{st:FK}{lo n ok:Nat}{Q:Bool->FK->Prop}(C:Sx prog w A s a₀ X lt)(O:Ord (·∈a₀) lt)(hn:lo+n<=a₀.size)(hok:ok<=n)(g:Good a₀ X st)(u:Up lt (Ap st) lo (lo+ok))
  (h:∀o,Good a₀ X o->Up lt (Ap o) lo (lo+n)->Out (Ap st) (Ap o) lo (lo+n)->CB o=CB st->Q true o):wpS (Ad prog w) A E s (binarySort' lo n ok) Q st:=by
 rw[binarySort'_eq]
 refine Bj (PB (IF (I:=λk c o=>c=(none,())/\Good a₀ X o/\Up lt (Ap o) lo (lo+min k n)/\Out (Ap st) (Ap o) lo (lo+n)/\CB o=CB st)
  (Q:=λc o=>c=(none,())/\Good a₀ X o/\Up lt (Ap o) lo (lo+n)/\Out (Ap st) (Ap o) lo (lo+n)/\CB o=CB st) ?step ?fin ?init) ?post)
 case post=>
  rintro c o ⟨rfl,g',u',o',p'⟩;exact Cn (h o g' u' o' p')
 case init=>
  refine⟨rfl,g,λi j S Y h3=>?_,.refl,rfl⟩
  by_cases h0:ok=0
  ·have:i=j:=by lia
   subst this;exact O.irr (g.mem (by omega))
  ·exact u i j S Y (by lia)
 case fin=>
  rintro c o ⟨hc,g',u',o',p'⟩;refine⟨hc,g',?_,o',p'⟩;rwa [show min (max (max ok 1) n) n=n by lia]at u'
 case step=>
  rintro k c L hak hkn ⟨rfl,G,Z,o1,p1⟩;rw[show min k n=k by lia]at Z
  have P:lo+k < a₀.size:=by lia
  refine Bj (PB (IF (I:=λx c m=>m=L/\∃l r,c=(none,l,r)/\l<=r/\r<=k/\r - l<=k - x /\
    (∀i,i < l->lt (ix (Ap L) (lo+k)) (ix (Ap L) (lo+i))=false)/\(∀i,r<=i->i < k->lt (ix (Ap L) (lo+k)) (ix (Ap L) (lo+i))=true))
   (Q:=λc m=>m=L/\∃l r,c=(none,l,r)/\l<=k /\
    (∀i,i < l->lt (ix (Ap L) (lo+k)) (ix (Ap L) (lo+i))=false)/\(∀i,l<=i->i < k->lt (ix (Ap L) (lo+k)) (ix (Ap L) (lo+i))=true)) ?istep ?ifin ?iinit) ?ipost)
  case iinit=>exact⟨rfl,0,k,rfl,by lia,by lia,by lia,λi hi=>by lia,λi S Y=>by lia⟩
  case ifin=>
   rintro c m ⟨rfl,l,r,rfl,hlr,N,hm,R,B⟩
   have:l=r:=by lia
   subst this;exact⟨rfl,l,l,rfl,N,R,B⟩
  case istep=>
   rintro x c m _ hxk ⟨rfl,l,r,rfl,hlr,N,hm,R,B⟩;dsimp only
   by_cases U:l ≥ r
   ·rw[qX U]
    have:l=r:=by lia
    subst this;exact Cn ⟨rfl,l,l,rfl,N,R,B⟩
   ·rw[qY U]
    refine Bj (PR C G P (by lia) ?_)
    cases J:lt (ix (Ap m) (lo+k)) (ix (Ap m) (lo+(l+r) / 2))with
    | true=>
     refine Cn ⟨rfl,l,(l+r) / 2,rfl,by lia,by lia,by omega,R,λi S Y=>?_⟩
     cases e:lt (ix (Ap m) (lo+k)) (ix (Ap m) (lo+i))with
     | true=>rfl
     | false=>
      have:=O.ntr _ _ _ (G.mem (show lo+(l+r) / 2 < _ by lia)) (G.mem (show lo+i < _ by lia)) (G.mem P) (Z (lo+(l+r) / 2) (lo+i) (by lia) (by lia) (by lia)) e;rw[J]at this;cases this
    | false=>
     refine Cn ⟨rfl,(l+r) / 2+1,r,rfl,by lia,by omega,by omega,λi S=>?_,B⟩;exact O.ntr _ _ _ (G.mem (show lo+i < _ by lia)) (G.mem (show lo+(l+r) / 2 < _ by lia)) (G.mem P) (Z (lo+i) (lo+(l+r) / 2) (by lia) (by lia) (by lia)) J
  case ipost=>
   rintro c m ⟨rfl,l,r,rfl,hlk,R,B⟩;show wpS _ _ _ _ (do moveDown' (lo+k) (lo+l);pure (Hx (none,()))) _ _;rw[moveDown'_eq]
   have hks:lo+k < (Ap m).size:=by rw[G.size];exact P
   have e:∀i,ix (mK (Ap m) (lo+k) (lo+k - (lo+l))) i=if i=lo+l then ix (Ap m) (lo+k)else if lo+l < i/\i<=lo+k then ix (Ap m) (i - 1)else ix (Ap m) i:=λi=>by
    rw[b7 hks (by lia),show lo+k - (lo+k - (lo+l))=lo+l by lia]
   refine Bj (Ky (Cn ⟨rfl,G.setArr (bubble_perm _ _ _),?_,o1.trans λi hi=>?_,p1⟩))
   ·rw[show min (k+1) n=k+1 by lia]
    intro i j S Y h3;show lt (ix (mK (Ap m) (lo+k) (lo+k - (lo+l))) j) (ix (mK (Ap m) (lo+k) (lo+k - (lo+l))) i)=false;rw[e,e]
    repeat' split
    all_goals first
     | (exfalso;lia)
     | exact O.irr (G.mem P)
     | (have q:=R (i - lo) (by lia);rw[show lo+(i - lo)=i by lia]at q;exact q)
     | (have q:=B (j - 1 - lo) (by omega) (by omega);rw[show lo+(j - 1 - lo)=j - 1 by lia]at q;exact O.asym _ _ (G.mem P) (G.mem (by lia)) q)
     | exact Z _ _ (by omega) (by omega) (by lia)
   ·show ix (mK (Ap m) (lo+k) (lo+k - (lo+l))) i=ix (Ap m) i
    rw[e,qY (by lia),qY (by lia)]
end
section
theorem WW{g:Type}{M:Model}{r:String}{Q:PUnit->g->Prop}{st:g}(h:Q ⟨⟩ st):wpS M A E s (liftM (rule r):StateT g Sem PUnit) Q st:=wpS_lift (Xy ⟨rfl,h⟩)
theorem Dn.flip{xs:Array DQ}{lo hi:Nat}(g:hi<=xs.size)(d:Dn lt xs lo hi):Up lt (K0 xs lo hi ((hi - lo) / 2)) lo hi:=λi j l m o=>by
 rw[Ee g,Ee g,qX (by lia),qX (by lia)];exact d _ _ (by omega) (by omega) (by omega)
theorem Dn.part{xs:Array DQ}{lo hi m:Nat}(g:hi<=xs.size)(o:lo<=m)(l:m<=hi)(d:Dn lt xs lo hi)(e:Up lt xs m hi):Dn lt (K0 xs m hi ((hi - m) / 2)) lo hi:=λi j s A B=>by
 rw[Ee g,Ee g]
 by_cases C:m<=i
 ·rw[qX (by lia),qX (by lia)]
  exact e _ _ (by omega) (by omega) (by omega)
 ·rw[qY (by lia)]
  split
  ·exact d _ _ (by omega) (by lia) (by omega)
  ·exact d _ _ (by omega) (by omega) (by omega)
theorem LS{xs:Array DQ}{i j lo hi:Nat}(g:j<=xs.size)(l:lo<=i)(m:j<=hi):Out xs (K0 xs i j ((j - i) / 2)) lo hi:=λk o=>by
 rw[Ee g,qY (by lia)]
theorem Dn.grow{st:FK}(O:Ord (·∈a₀) lt)(g:Good a₀ B st){lo hi:Nat}(l:hi < a₀.size)(u:Dn lt (Ap st) lo hi)(h0:lo < hi)(h:lt (ix (Ap st) (hi - 1)) (ix (Ap st) hi)=false):Dn lt (Ap st) lo (hi+1):=λi j m o C=>by
 by_cases s:j < hi
 ·exact u i j m o s
 ·have:j=hi:=by lia
  subst this
  by_cases A:i=j
  ·subst A;exact O.irr (g.mem l)
  ·exact O.ntr _ _ _ (g.mem l) (g.mem (show j - 1 < _ by omega)) (g.mem (by lia)) h (u i (j - 1) m (by lia) (by lia))
theorem YS(O:Ord (·∈a₀) lt){st:FK}(g:Good a₀ o st){lo:Nat}(h:lo < a₀.size):Up lt (Ap st) lo (lo+1):=λi j s A B=>by
 have l:i=lo:=by lia
 have m:j=lo:=by lia
 rw[l,m];exact O.irr (g.mem h)
theorem i7{st:FK}{lo u5 n:Nat}{Q:Option Nat->FK->Prop}(C:Sx prog w A s a₀ l lt)(O:Ord (·∈a₀) lt)(L:1<=n)(N:n<=u5)(P:lo+u5<=a₀.size)(g:Good a₀ l st)(u:Up lt (Ap st) lo (lo+n))
  (h:∀n,1<=n->n<=u5->Up lt (Ap st) lo (lo+n)->Q (some n) st):wpS (Ad prog w) A E s (do
   let mut n:=n
   for _ in [n:u5] do
    let some m <-qN (lo+n) (lo+n - 1) | return none
    if m then break
    n:=n+1
   return some n) Q st:=by
 refine Bj (PB (IF (I:=λx c j=>j=st/\c=(none,x)/\Up lt (Ap st) lo (lo+x))
  (Q:=λc j=>j=st/\∃n,c=(none,n)/\1<=n/\n<=u5/\Up lt (Ap st) lo (lo+n)) ?step ?fin ⟨rfl,rfl,u⟩) ?post)
 case fin=>
  rintro c j ⟨rfl,rfl,u⟩
  have e:max n u5=u5:=by lia
  rw[e]at u ⊢;exact⟨rfl,u5,rfl,by lia,AO _,u⟩
 case step=>
  rintro x c j R o ⟨rfl,rfl,u⟩;dsimp only;refine Bj (PR C g (by lia) (by lia) ?_)
  cases B:lt (ix (Ap j) (lo+x)) (ix (Ap j) (lo+x - 1))with
  | true=>exact Cn ⟨rfl,x,rfl,by lia,by lia,u⟩
  | false=>exact Cn ⟨rfl,rfl,Up.grow (hi:=lo+x) O g (by lia) u (by lia) B⟩
 case post=>
  rintro c j ⟨rfl,n,rfl,G,J,u⟩;exact Cn (h n G J u)
theorem wpS_countRun{st}{lo u5}{Q}(C:Sx prog w A s a₀ J lt)(O:Ord (·∈a₀) lt)(h1:1<=u5)(hn:lo+u5<=a₀.size)(g:Good a₀ J st)
  (h:∀l n,Good a₀ J l->1<=n->n<=u5->Up lt (Ap l) lo (lo+n)->Out (Ap st) (Ap l) lo (lo+u5)->CB l=CB st->Q (some n) l):wpS (Ad prog w) A E s (countRun' lo u5) Q st:=by
 rw[countRun'_eq]
 refine Bj (PB (IF (I:=λx c l=>l=st/\c=(none,x)/\Up lt (Ap st) lo (lo+x))
  (Q:=λc l=>l=st/\∃n,c=(none,n)/\1<=n/\n<=u5/\Up lt (Ap st) lo (lo+n)/\(n=u5∨lt (ix (Ap st) (lo+n)) (ix (Ap st) (lo+n - 1))=true)) ?step ?fin ?init) ?post)
 case init=>
  refine⟨rfl,rfl,λi j a1 a2 a3=>?_⟩
  have:i=j:=by lia
  subst this;exact O.irr (g.mem (by lia))
 case fin=>
  rintro c l ⟨rfl,rfl,u⟩
  have e:max 1 u5=u5:=by lia
  rw[e]at u ⊢;exact⟨rfl,u5,rfl,h1,AO _,u,.inl rfl⟩
 case step=>
  rintro x c l zD hx2 ⟨rfl,rfl,u⟩;dsimp only;refine Bj (PR C g (by lia) (by lia) ?_)
  cases P:lt (ix (Ap l) (lo+x)) (ix (Ap l) (lo+x - 1))with
  | true=>exact Cn ⟨rfl,x,rfl,zD,by lia,u,.inr P⟩
  | false=>exact Cn ⟨rfl,rfl,Up.grow (hi:=lo+x) O g (by lia) u (by lia) P⟩
 case post=>
  rintro c l ⟨rfl,n,rfl,yH,uY,u,hd⟩;dsimp only
  by_cases X:n=u5
  ·rw[qX (by simpa using X)]
   exact Cn (h l n g yH uY u .refl rfl)
  ·rw[qY (by simpa using X)]
   have uN:=hd.resolve_left X
   have S:∀(uq:FK),Good a₀ J uq->Dn lt (Ap uq) lo (lo+(n+1))->Out (Ap l) (Ap uq) lo (lo+u5)->CB uq=CB l ->
     wpS (Ad prog w) A E s (do
      liftM (rule "list.sort.descending-run")
      let mut n:=n+1
      let mut neq:=0
      for _ in [n:u5] do
       let some Z <-qN (lo+n) (lo+n - 1) | return none
       if Z then
        if neq > 0 then Qy (lo+n - (neq+1)) (lo+n)
        neq:=0
       else
        let some xy <-qN (lo+n - 1) (lo+n) | return none
        if xy then break
        neq:=neq+1
       n:=n+1
      if neq > 0 then Qy (lo+n - (neq+1)) (lo+n)
      Qy lo (lo+n)
      for _ in [n:u5] do
       let some Z <-qN (lo+n) (lo+n - 1) | return none
       if Z then break
       n:=n+1
      return some n) Q uq:=by
    intro uq g1 d1 o1 p1;refine Bj (WW ?_)
    refine Bj (PB (IF (I:=λx c B=>Good a₀ J B/\∃q,c=(none,x,q)/\q+1<=x/\Dn lt (Ap B) lo (lo+x)/\Up lt (Ap B) (lo+x - (q+1)) (lo+x)/\Out (Ap l) (Ap B) lo (lo+u5)/\CB B=CB l)
     (Q:=λc B=>Good a₀ J B/\∃n q,c=(none,n,q)/\n<=u5/\q+1<=n/\Dn lt (Ap B) lo (lo+n)/\Up lt (Ap B) (lo+n - (q+1)) (lo+n)/\Out (Ap l) (Ap B) lo (lo+u5)/\CB B=CB l) ?dstep ?dfin ?dinit) ?dpost)
    case dinit=>
     refine⟨g1,0,rfl,by lia,d1,?_,o1,p1⟩;have:=YS O g1 (lo:=lo+n) (by lia);rwa [show lo+(n+1) - (0+1)=lo+n by lia,show lo+(n+1)=lo+n+1 by lia]
    case dfin=>
     rintro c B ⟨G,q,rfl,P,d2,U,L,N⟩
     have e:max (n+1) u5=u5:=by lia
     rw[e]at d2 U P ⊢;exact⟨G,u5,q,rfl,AO _,P,d2,U,L,N⟩
    case dstep=>
     rintro x c B zD hx2 ⟨G,q,rfl,P,d2,U,L,N⟩;dsimp only;refine Bj (PR C G (by lia) (by lia) ?_)
     cases hs:lt (ix (Ap B) (lo+x)) (ix (Ap B) (lo+x - 1))with
     | true=>
      dsimp only;rw[qX rfl];have uE:=O.asym _ _ (G.mem (show lo+x < _ by lia)) (G.mem (show lo+x - 1 < _ by lia)) hs
      by_cases xA:q > 0
      ·rw[qX xA,NV]
       have o:lo+x<=(Ap B).size:=by rw[G.size];lia
       have Y:Good a₀ J (setArr B (K0 (Ap B) (lo+x - (q+1)) (lo+x) ((lo+x - (lo+x - (q+1))) / 2))):=G.setArr (WJ _ _ _ _);have d3:=Dn.part (lt:=lt) (lo:=lo) o (show lo<=lo+x - (q+1) by lia) (by omega) d2 U;refine Bj (Ky (Cn ⟨Y,0,rfl,by lia,?_,?_,L.trans (LS o (by lia) (by lia)),N⟩))
       ·refine Dn.grow (hi:=lo+x) O Y (by lia) d3 (by lia) ?_
        show lt (ix (K0 (Ap B) (lo+x - (q+1)) (lo+x) ((lo+x - (lo+x - (q+1))) / 2)) (lo+x - 1)) (ix (K0 (Ap B) (lo+x - (q+1)) (lo+x) ((lo+x - (lo+x - (q+1))) / 2)) (lo+x))=false;rw[Ee o,Ee o,qX (by omega),qY (by lia)];exact O.ntr _ _ _ (G.mem (by lia)) (G.mem (show lo+x - 1 < _ by lia)) (G.mem (by omega)) uE (d2 _ _ (by lia) (by omega) (by lia))
       ·have:=YS O Y (lo:=lo+x) (by lia)
        rwa [show lo+(x+1) - (0+1)=lo+x by lia,show lo+(x+1)=lo+x+1 by lia]
      ·rw[qY xA]
       refine Cn ⟨G,0,rfl,by lia,Dn.grow (hi:=lo+x) O G (by lia) d2 (by lia) uE,?_,L,N⟩;have:=YS O G (lo:=lo+x) (by lia);rwa [show lo+(x+1) - (0+1)=lo+x by lia,show lo+(x+1)=lo+x+1 by lia]
     | false=>
      dsimp only;rw[qY AT];refine Bj (PR C G (by lia) (by lia) ?_)
      cases hl:lt (ix (Ap B) (lo+x - 1)) (ix (Ap B) (lo+x))with
      | true=>exact Cn ⟨G,x,q,rfl,by lia,P,d2,U,L,N⟩
      | false=>
       refine Cn ⟨G,q+1,rfl,by lia,Dn.grow (hi:=lo+x) O G (by lia) d2 (by lia) hl,?_,L,N⟩;rw[show lo+(x+1) - (q+1+1)=lo+x - (q+1) by lia];exact Up.grow (hi:=lo+x) O G (by lia) U (by omega) hs
    case dpost=>
     rintro c B ⟨G,m,q,rfl,hm,P,d2,U,L,N⟩;dsimp only
     have o:lo+m<=(Ap B).size:=by rw[G.size];lia
     have last:∀vk,Good a₀ J vk->Dn lt (Ap vk) lo (lo+m)->Out (Ap l) (Ap vk) lo (lo+u5)->CB vk=CB l->∀(R:StateT FK Sem (Option Nat)),R=(do
        let mut n:=m
        for _ in [n:u5] do
         let some Z <-qN (lo+n) (lo+n - 1) | return none
         if Z then break
         n:=n+1
        return some n)->wpS (Ad prog w) A E s (do Qy lo (lo+m);R) Q vk:=by
      rintro vk Y d3 o3 p3 R rfl
      have yI:lo+m<=(Ap vk).size:=by rw[Y.size];lia
      rw[NV];refine Bj (Ky ?_);have g4:Good a₀ J (setArr vk (K0 (Ap vk) lo (lo+m) ((lo+m - lo) / 2))):=Y.setArr (WJ _ _ _ _)
      exact i7 C O (by lia) hm hn g4 (Dn.flip yI d3) λk k1 k2 k3=>h _ k g4 k1 k2 k3 (o3.trans (LS yI (by lia) (by lia))) p3
     by_cases xA:q > 0
     ·rw[qX xA,NV]
      refine Bj (Ky ?_);exact last _ (G.setArr (WJ _ _ _ _)) (Dn.part o (by lia) (by omega) d2 U) (L.trans (LS o (by lia) (by lia))) N _ rfl
     ·rw[qY xA]
      exact last _ G d2 L N _ rfl
   have uE:=O.asym _ _ (g.mem (show lo+n < _ by lia)) (g.mem (show lo+n - 1 < _ by omega)) uN
   by_cases yu:n > 1
   ·rw[qX yu]
    refine Bj (PR C g (by lia) (by omega) ?_)
    cases hr:lt (ix (Ap l) lo) (ix (Ap l) (lo+n - 1))with
    | true=>exact Cn (h l n g yH uY u .refl rfl)
    | false=>
     dsimp only;rw[qY AT,NV]
     have o:lo+n<=(Ap l).size:=by rw[g.size];lia
     have g1:Good a₀ J (setArr l (K0 (Ap l) lo (lo+n) ((lo+n - lo) / 2))):=g.setArr (WJ _ _ _ _)
     have al:∀i j,lo<=i->i < lo+n->lo<=j->j < lo+n->lt (ix (Ap l) i) (ix (Ap l) j)=false:=λi j i1 i2 j1 j2=>by
      have q1:=u j (lo+n - 1) (by omega) (by lia) (by omega);have q2:=u lo i (by lia) (by omega) (by omega);exact O.ntr _ _ _ (g.mem (by lia)) (g.mem (show lo < _ by lia)) (g.mem (by lia)) (O.ntr _ _ _ (g.mem (by lia)) (g.mem (show lo+n - 1 < _ by lia)) (g.mem (by lia)) q1 hr) q2
     refine Bj (Ky ?_);refine S _ g1 ?_ (LS o (by lia) (by lia)) rfl;refine Dn.grow (hi:=lo+n) O g1 (by lia) (λi j a1 a2 a3=>?_) (by lia) ?_
     ·show lt (ix (K0 (Ap l) lo (lo+n) ((lo+n - lo) / 2)) i) (ix (K0 (Ap l) lo (lo+n) ((lo+n - lo) / 2)) j)=false
      rw[Ee o,Ee o,qX (by lia),qX (by lia)];exact al _ _ (by omega) (by omega) (by omega) (by omega)
     ·show lt (ix (K0 (Ap l) lo (lo+n) ((lo+n - lo) / 2)) (lo+n - 1)) (ix (K0 (Ap l) lo (lo+n) ((lo+n - lo) / 2)) (lo+n))=false
      rw[Ee o,Ee o,qX (by omega),qY (by lia),show lo+(lo+n) - 1 - (lo+n - 1)=lo by omega];exact O.ntr _ _ _ (g.mem (by lia)) (g.mem (show lo+n - 1 < _ by lia)) (g.mem (by lia)) uE hr
   ·rw[qY yu]
    have e:n=1:=by lia
    subst e;refine S _ g (Dn.grow (hi:=lo+1) O g (by lia) (λi j a1 a2 a3=>?_) (by lia) uE) .refl rfl
    have e1:i=lo:=by lia
    have e2:j=lo:=by lia
    rw[e1,e2];exact O.irr (g.mem (by lia))
end
theorem kt(a:Array DQ)(i:Nat):(a.extract i a.size).toList=a.toList.drop i:=by
 simp[List.extract];exact MP (by simp)
section
variable{lt:DQ->DQ->Bool}
noncomputable abbrev Rl(lt:DQ->DQ->Bool)(x y:DQ):Prop:=lt y x=false
end
theorem ox{a:Array DQ}{lo hi i:Nat}(h:hi<=a.size)(g:i < hi - lo):ix (a.extract lo hi) i=ix a (lo+i):=by
 apply Ks
 rw[Array.getElem?_extract];simp
 lia
section
variable{lt:DQ->DQ->Bool}
theorem rG{a:Array DQ}{lo hi:Nat}(h:hi<=a.size)(u:Up lt a lo hi):(a.extract lo hi).toList.Pairwise (Rl lt):=by
 rw[Uo];intro i j m o s;simp at m o
 have e:∀k (g:k < (a.extract lo hi).toList.length),(a.extract lo hi).toList[k]=ix a (lo+k):=λk g=>by
  have l:k < (a.extract lo hi).size:=by rw[Ch]at g;exact g
  have:=RH l;rw[getElem?_pos (a.extract lo hi) k l]at this
  have A:(a.extract lo hi).size=hi - lo:=by simp;lia
  rw[<-ox h (by lia)];simpa using this
 rw[e,e];exact u _ _ (by lia) (by lia) (by omega)
end
section
variable{prog:BP}{w:Bu}{A:Bw}{E:AE->AK->Prop}{s:AK}{a₀:Array DQ}{κ:PL}{lt:DQ->DQ->Bool}
theorem TN{st:FK}{Q:Unit->FK->Prop}(yJ:a₀.size < 64)(h1:1<=a₀.size)(C:Sx prog w A s a₀ κ lt)(O:Ord (·∈a₀) lt)(g:Good a₀ κ st)(hp:CB st = #[])
  (h:∀j,Good a₀ κ j->Up lt (Ap j) 0 a₀.size->Q () j):wpS (Ad prog w) A E s sortRuns' Q st:=by
 rw[sortRuns'_eq];refine Bj (Xn ?_);dsimp only;rw[g.size]
 have N:minRun' a₀.size a₀.size 0=a₀.size:=by
  obtain⟨f,hf⟩:∃f,a₀.size=f+1:=⟨a₀.size - 1,by omega⟩
  have:minRun' (f+1) a₀.size 0=a₀.size:=by rw[minRun'_succ,qX yJ];rfl
  rwa [<-hf]at this
 rw[N]
 refine Bj (PB (IF (I:=λx c j=>(x=0/\c=(none,0)/\Good a₀ κ j/\CB j = #[])∨(1<=x/\c=(none,a₀.size)/\Good a₀ κ j/\Up lt (Ap j) 0 a₀.size/\(CB j).size<=1))
  (Q:=λc j=>c=(none,a₀.size)/\Good a₀ κ j/\Up lt (Ap j) 0 a₀.size/\(CB j).size<=1) ?step ?fin ?init) ?post)
 case init=>exact .inl ⟨rfl,rfl,g,hp⟩
 case fin=>
  rintro c j (⟨h0,_⟩ | ⟨_,rfl,g',u',p'⟩)
  ·lia
  ·exact⟨rfl,g',u',p'⟩
 case step=>
  rintro x c uq _ hx (⟨rfl,rfl,o,m⟩ | ⟨zD,rfl,o,P,m⟩)
  ·dsimp only
   rw[qY (by lia)];refine Bj (wpS_countRun C O (by lia) (by lia) o λU n L n1 n2 R o2 X=>?_);dsimp only;rw[Qa]at R
   by_cases Y:n < a₀.size
   ·rw[qX Y]
    refine Bj (WW ?_);refine Bj (wpS_binarySort C O (by lia) (by lia) L (by simpa using R) λZ S u3 o3 p3=>?_);rw[qY (by simp)];refine Bj (Xn ?_)
    have B:CB Z = #[]:=by rw[p3,X,m]
    rw[B];dsimp only[qZ]
    have em:min (a₀.size - 0) a₀.size=a₀.size:=by lia
    rw[em]at u3 ⊢;refine Bj (Ky (Cn (.inr ⟨by lia,by rw[Qa],⟨S.perm,S.kind,S.failed⟩,by simpa using u3,?_⟩)));show((CB Z).push (0,a₀.size,0)).size<=1;rw[B];simp
   ·have e:n=a₀.size:=by lia
    subst e;rw[qY Y];refine Bj (Xn ?_)
    have B:CB U = #[]:=by rw[X,m]
    rw[B];dsimp only[qZ];refine Bj (Ky (Cn (.inr ⟨by lia,by rw[Qa],⟨L.perm,L.kind,L.failed⟩,R,?_⟩)));show((CB U).push (0,a₀.size,0)).size<=1;rw[B];simp
  ·dsimp only
   rw[qX (AO _)];exact Cn ⟨rfl,o,P,m⟩
 case post=>
  rintro c uq ⟨rfl,o,P,m⟩;dsimp only;refine Bj (PB (IF (I:=λx c l=>c=(none,())/\Good a₀ κ l/\Up lt (Ap l) 0 a₀.size/\(CB l).size<=1) (Q:=λc l=>c=(none,())/\Good a₀ κ l/\Up lt (Ap l) 0 a₀.size) ?_ ?_ ⟨rfl,o,P,m⟩) ?_)
  ·rintro x c l _ _ ⟨rfl,G,J,p4⟩
   refine Bj (Xn ?_);rw[qX p4];exact Cn ⟨rfl,G,J⟩
  ·rintro c l ⟨rfl,G,J,_⟩
   exact⟨rfl,G,J⟩
  ·rintro c l ⟨rfl,G,J⟩
   exact Cn (h l G J)
end
noncomputable def ltL:ZLi->ZLi->Bool
 | [],[]=>false
 | [],_ :: _=>true
 | _ :: _,[]=>false
 | x :: g,y :: j=>if x=y then ltL g j else decide (x < y)
theorem SM:∀x y,ltL x y=true->ltL y x=false
 | [],[],h=>by cases h
 | [],_ :: _,_=>rfl
 | _ :: _,[],h=>by cases h
 | x :: g,y :: j,h=>by
  unfold ltL at h ⊢
  by_cases e:x=y
  ·rw[qX e]at h;rw[qX e.symm];exact SM g j h
  ·rw[qY e]at h;rw[qY (BW e)];simp at h ⊢;lia
theorem Vp:∀x y z,ltL y x=false->ltL z y=false->ltL z x=false
 | [],y,[],_,_=>rfl
 | [],[],_ :: _,_,_=>rfl
 | [],_ :: _,_ :: _,_,_=>rfl
 | x :: o,[],z,h,_=>by cases h
 | _,y :: s,[],_,h=>by cases h
 | x :: o,y :: s,z :: B,j,g=>by
  unfold ltL at j g ⊢
  by_cases m:y=x
  ·rw[qX m]at j
   subst m
   by_cases l:z=y
   ·rw[qX l]at g ⊢
    exact Vp o s B j g
   ·rw[qY l]at g ⊢;exact g
  ·rw[qY m]at j
   by_cases l:z=y
   ·subst l;rw[qY m];exact j
   ·rw[qY l]at g
    by_cases A:z=x
    ·subst A;simp at j g;lia
    ·rw[qY A];simp at j g ⊢;lia
theorem aF:∀x y,ltL x y=false->ltL y x=false->x=y
 | [],[],_,_=>rfl
 | [],_ :: _,h,_=>by cases h
 | _ :: _,[],_,h=>by cases h
 | x :: l,y :: m,g,j=>by
  unfold ltL at g j
  by_cases e:x=y
  ·rw[qX e]at g;rw[qX e.symm]at j;rw[e,aF l m g j]
  ·rw[qY e]at g;rw[qY (BW e)]at j;simp at g j;lia
noncomputable def ltK(f:AE->ZLi)(x y:DQ):Bool:=ltL (f x.1) (f y.1)
theorem kF(f:AE->ZLi)(U:DQ->Prop):Ord U (ltK f):=⟨λx y _ _ h=>SM _ _ h,λx y z _ _ _ g j=>Vp _ _ _ g j⟩
section
theorem Ym(o:Bool)(h:Q (decide (a < b)) s):AY (Ad prog w) A (oneLt' o (.int a t) (.int b u)) Q E s:=by
 cases o with
 | true=>exact oneLt_int h
 | false=>
  rw[oneLt'_eq];simp only[CH,if_false];exact AA (wpAny_lt_int (DJ h))
noncomputable def ZR(s:AK)(v:AE)(ns:ZLi):Prop:=∃a g,v=.ref a/\s.heap.IsTuple a g/\Dt g.toList ns
noncomputable def tP(o:Bool):(AE×AE)×Nat->Option Bool×Unit->Sem (ForInStep (Option Bool×Unit)):=λe _=>match e with
 | ((p,q),i)=>eqBool p q >>= λc=>if (!c)=true then oneLt' (o&&i==0) p q >>= λb=>pure (.done (some b,()))else pure (.yield (none,()))
theorem gN(o:Bool)(x y:AE):keyLt' (qJ o) x y=(EU x >>= λr=>EU y >>= λq=>forIn (r.toList.zip q.toList).zipIdx ((none,()):Option Bool×Unit) (tP o) >>= λz=>match z.1 with
  | some b=>pure b
  | none=>pure (decide (r.size < q.size))):=by kernel_rfl
theorem iJ(o:Bool):∀{is j:List AE} {ns C:ZLi} (k:Nat) {Q:Bool->AK->Prop},Dt is ns->Dt j C->Q (ltL ns C) s ->
  AY (Ad prog w) A (forIn ((is.zip j).zipIdx k) ((none,()):Option Bool×Unit) (tP o) >>= λz=>match z.1 with
   | some b=>pure b
   | none=>pure (decide (n0+is.length < n0+j.length))) Q E s:=by
 intro is
 induction is with
 | nil=>
  intro j ns C k Q l B g;cases l;rw[dI,i0,HV];refine AA (AG (AG ?_))
  cases B with
  | nil=>simpa[ltL]using g
  | cons m t h=>simpa[ltL]using g
 | cons v is G=>
  intro j ns C k Q l B g
  cases l with
  | cons n t l=>
   cases B with
   | nil=>
    rw[c7,i0,HV];refine AA (AG (AG ?_));rw[wY (by rw[Aj,Dj];lia)];exact g
   | cons m u B=>
    rw[O7,List.zipIdx_cons,G2];rw[bind_assoc];unfold ltL at g;refine AA ?_;refine AA (qf ?_)
    by_cases e:n=m
    ·rw[qX e]at g
     rw[qY (by simp[e])];refine AG ?_;have:=G (k+1) l B g;simpa[Nat.add_lt_add_iff_left]using this
    ·rw[qY e]at g
     rw[qX (by simp[e])];refine AA (Ym _ (AG ?_));exact AA (AG (AG g))
end
section
theorem PZ(h:ZR s v ns):∃g:Array AE,Dt g.toList ns/\s.TypeIs v "tuple"/\∀(E:AE->AK->Prop) (Q:Array AE->AK->Prop),Q g s->AY (Ad prog w) A (EU v) Q E s:=by
 obtain⟨a,g,rfl,⟨o,j,l,n,m⟩,B⟩:=h;exact⟨g,B,⟨o,j,l⟩,λE Q q=>listItems_at j m q⟩
theorem kz(o:Bool)(g:ZR s x ns)(j:ZR s y l)(h:Q (ltL ns l) s):AY (Ad prog w) A (keyLt' (qJ o) x y) Q E s:=by
 obtain⟨r,m,_,B⟩:=PZ (prog:=prog) (w:=w) (A:=A) g;obtain⟨q,C,_,G⟩:=PZ (prog:=prog) (w:=w) (A:=A) j;rw[gN];refine AA (B E _ (AA (G E _ ?_)));have:=iJ (prog:=prog) (w:=w) (A:=A) (E:=E) (n0:=0) o 0 m C h;simp only[Qa,Ch]at this;exact this
theorem cJ(h:ZR s v (n :: ns))(j:∀t,Q (some (.int n t)) s):AY (Ad prog w) A (az v) Q E s:=by
 obtain⟨r,g,ty,m⟩:=PZ (prog:=prog) (w:=w) (A:=A) h;refine(AA (dD ty ?_):AY _ _ (az v) Q E s);refine(show AY (Ad prog w) A (if (G1 "tuple" != G1 "tuple")=true then _ else _) Q E s from ?_);rw[qY (by simp)];refine AA (m E _ (AG ?_));generalize o:r.toList=l at g
 cases g with
 | cons _ t B=>
  have:r[0]?=some (.int n t):=by
   rw[<-Xx,o];rfl
  rw[this];exact j t
theorem Se:∀{vs:List AE},(∀v∈vs,∃n ns,ZR s v (n :: ns))->∀{Q:List (Option AE)->AK->Prop},(∀is ns,Dt is ns->is.length=vs.length->Q (is.map some) s)->AY (Ad prog w) A (vs.mapM az) Q E s
 | [],_,Q,h=>by
  rw[List.mapM_nil];exact AG (h [] [] .nil rfl)
 | v :: vs,g,Q,h=>by
  obtain⟨n,ns,j⟩:=g v Ah;rw[List.mapM_cons];refine AA (cJ j λt=>AA (Se (λv l=>g v (AS _ l)) λis m o B=>AG ?_));exact h (.int n t :: is) (n :: m) (.cons n t o) (by rw[Aj,B,Aj])
theorem VZ(h:Dt is ns)(h0:is≠[]):oneTypeOnly' is.toArray=pure (some (.type "int")):=by
 rw[oneTypeOnly'_eq,dJ,mapM_typeOf_ints h];simp only[map_pure,pure_bind]
 cases is with
 | nil=>exact zX rfl h0
 | cons v is=>
  have g:(Jk (λ_=>G1 "int") (v :: is)).toArray[0]?=some (G1 "int"):=by simp
  have j:((Jk (λ_=>G1 "int") (v :: is)).toArray.all λx=>x==G1 "int")=true:=by
   simp only[List.all_toArray,qS,Dz]
   exact λ_ _=>rfl
  rw[g];simp only[j,if_true]
theorem gK(g:∀v∈vs,∃n ns,ZR s v (n :: ns))(h0:vs≠[])(h:Q (qJ true) s):AY (Ad prog w) A (keyKind' vs.toArray) Q E s:=by
 rw[keyKind'_eq,dJ];refine AA ?_;rw[map_eq_pure_bind];refine AA (Se g λis ns j l=>AG ?_)
 have m:((is.map some).toArray.all λx=>x.isSome)=true:=by simp
 rw[qX m];refine AA (Xy ?_)
 have o:(is.map some).toArray.filterMap id=is.toArray:=by simp
 rw[o,VZ j (by intro e;subst e;cases vs with | nil=>exact h0 rfl | cons=>simp at l)];refine AA (AG (AG ?_));exact h
end
section
theorem Hg(h:x∈MN vs):x.1∈vs/\x.1=x.2:=by
 have:x∈(MN vs).toList:=Fm.mpr h;rw[pairsOf_toList]at this;exact⟨(mem_zip_self this).2,(mem_zip_self this).1⟩
theorem bu(vs:List AE):(MN vs).map (·.2)=vs.toArray:=by
 apply Array.ext'
 rw[K6,pairsOf_toList];simp[List.map_snd_zip]
noncomputable def WD(prog:BP)(w:Bu)(A:Bw)(s:AK)(vs:List AE)(f:AE->ZLi):Prop:=
 ∃g:PL,(∀(Q:PL->AK->Prop) (E:AE->AK->Prop),Q g s->AY (Ad prog w) A (keyKind' vs.toArray) Q E s)/\Sx prog w A s (MN vs) g (ltK f)
theorem Qv{a:AN}{vs:List AE}{n:Nat}{P:Fin->AK->Prop}{f:AE->ZLi}(ho:s.heap.get? a=some (KH "list" vs.toArray n)) (X:vs.length<=sizeLine) (Y:vs.length < 64)
  (Z:2<=vs.length->∀s':AK,(∀b o,b≠a->s.heap.get? b=some o->s'.heap.get? b=some o)->WD prog w A s' vs f)
  (h:∀out:Array AE,out.toList.Perm vs->out.toList.Pairwise (λx y=>ltL (f y) (f x)=false)->P (.done (.ret .none)) { s with heap:=mI s.heap a vs out }) :
  AY (Ad prog w) A (N4.«list.sort» ⟨[.ref a],[]⟩) P E s:=by
 have ha:a < s.heap.objs.size:=AL ho
 have N:vs.toArray.size=vs.length:=by simp
 obtain⟨O,B⟩:∃O,(s.heap.update a (CI λ_=>#[])).get? a=some (KH "list" #[] O):=⟨_,get?_update_seq ho (λ_=>#[])⟩
 have I:(((s.heap.update a (CI λ_=>#[])).push (KH "tuple" vs.toArray 0)).push (KH "list" #[] 0)).get? a=some (KH "list" #[] O):=
  AI _ (AI _ B)
 have old:∀b o,b≠a->s.heap.get? b=some o->(((s.heap.update a (CI λ_=>#[])).push (KH "tuple" vs.toArray 0)).push (KH "list" #[] 0)).get? b=some o:=λb o hb hg=>
  AI _ (AI _ (by rw[bG _ _ _ _ hb];exact hg))
 have fin:∀j:FK,(Ap j).Perm (MN vs)->(Ap j).toList.Pairwise (Rl (ltK f))->P (.done (.ret .none)) { s with heap:=mI s.heap a vs ((Ap j).map (·.2)) }:=by
  intro j m J
  have S:∀x∈(Ap j).toList,x.1=x.2:=λx R=>by
   have:x∈(MN vs).toList:=(Jg.mp m).mem_iff.mp R;exact(Hg (Fm.mp this)).2
  refine h _ ?_ ?_
  ·have:=(Jg.mp m).map (·.2)
   rw[<-K6,<-K6,bu]at this;simpa using this
  ·rw[K6,DD]
   refine J.imp_of_mem λ{x y} R hy r=>?_
   rw[<-S x R,<-S y hy];exact r
 have last:∀j:FK,(Ap j).Perm (MN vs)->failedOf j=none->(Ap j).toList.Pairwise (Rl (ltK f))->(((Ap j).map (·.2)).size<=sizeLine+1):=λj m _ _=>by
  rw[Array.size_map,m.size_eq,TC]
  lia
 rw[list_sort_plain];refine AA (listItems_at ho rfl (AA (ay ho rfl (AA (iq B rfl (AA (wpAny_newTuple (AA (wpAny_newList (By ?_)))))) ) (by rw[N];exact X) (Dx _))));show AY (Ad prog w) A _ P E { s with heap:=((s.heap.update a (CI λ_=>#[])).push (KH "tuple" vs.toArray 0)).push (KH "list" #[] 0) };dsimp only
 by_cases L:vs.toArray.size < 2
 ·rw[qX L,qX L]
  refine AA (AG ?_);rw[StateT.run_pure]
  have G:(Ap (Lu X7 (vs.toArray.zip vs.toArray) #[] 7 none)).toList.Pairwise (Rl (ltK f)):=by
   have:(Ap (Lu X7 (vs.toArray.zip vs.toArray) #[] 7 none)).toList.length < 2:=by
    rw[Ch];show(MN vs).size < 2;rw[TC];omega
   generalize (Ap (Lu X7 (vs.toArray.zip vs.toArray) #[] 7 none)).toList=l at this
   match l,this with
   | [],_=>exact .nil
   | [x],_=>exact Lw _ _
   | _ :: _ :: _,h=>simp at h;lia
  refine AA (AG (AA (iq I rfl (AA (ay I rfl ?_ (Dx _) (last (Lu X7 (vs.toArray.zip vs.toArray) #[] 7 none) (O9 _) rfl G))))));simp only[bne_self_eq_false,CH,if_false];exact AG (fin (Lu X7 (vs.toArray.zip vs.toArray) #[] 7 none) (O9 _) G)
 ·rw[qY L,qY L]
  obtain⟨κ,kk,C⟩:=Z (by lia) { s with heap:=((s.heap.update a (CI λ_=>#[])).push (KH "tuple" vs.toArray 0)).push (KH "list" #[] 0) } old;refine AA (kk _ _ ?_)
  refine AA (Eh (Srt.TN (a₀:=MN vs) (st:=Lu κ (vs.toArray.zip vs.toArray) #[] 7 none)
   (Q:=λ_ j=>(Ap j).Perm (MN vs)/\failedOf j=none/\(Ap j).toList.Pairwise (Rl (ltK f))) (by rw[TC];exact Y) (by rw[TC];lia) C (kF f _) ⟨O9 _,rfl,rfl⟩ rfl λj g u=>⟨g.perm,g.failed,?_⟩) ?_ λ_ _ e=>e)
  ·have:=rG (a:=Ap j) (lo:=0) (hi:=(Ap j).size) (AO _) (by rw[g.size];exact u)
   rwa [kt,lS]at this
  rintro⟨⟨⟩,j⟩ s' ⟨rfl,m,U,J⟩;refine AA (iq I rfl (AA (ay I rfl ?_ (Dx _) (last j m U J))));rw[U];simp only[bne_self_eq_false,CH,if_false];exact AG (fin j m J)
theorem bV(h:∀v∈vs,ZR s v (f v)/\f v≠[])(h0:vs≠[]):WD prog w A s vs f:=
 ⟨qJ true,λQ E q=>gK (λv g=>by
  obtain⟨j,l⟩:=h v g
  cases e:f v with
  | nil=>exact zX e l
  | cons n m=>exact⟨n,m,by rw[<-e];exact j⟩) h0 q,λx y o B Q E q=>kz true (h _ (Hg o).1).1 (h _ (Hg B).1).1 q⟩
noncomputable def fH(v:AE):ZLi:=[numOf v]
theorem bX(h:Dt vs ns)(l:2<=vs.length):WD prog w A s vs fH:=by
 refine⟨oneType',λQ E q=>?_,λx y o B Q E q=>?_⟩
 ·match vs,l,h with
  | v :: u :: r,_,h=>rw[keyKind_ints h];exact AG q
 ·obtain⟨n,t,g⟩:=h.all _ (Hg o).1
  obtain⟨m,u,j⟩:=h.all _ (Hg B).1;rw[keyLt'_oneType,g,j];refine oneLt_int ?_
  have:ltK fH x y=decide (n < m):=by
   unfold ltK fH;rw[g,j];show(if n=m then false else decide (n < m))=_;split
   ·rename_i e;simp[e]
   ·rfl
  rw[<-this];exact q
end
noncomputable def Tn(h:CS)(d:AN)(es:Array dC)(ep:Nat):Prop:=∃o,h.get? d=some o/\o.ExactDict/\o.data=.dict es ep
theorem Tn.at'(x:Tn h d es ep)(e:∀o,h.get? d=some o->h'.get? d=some o):Tn h' d es ep:=let ⟨o,g,r⟩:=x;⟨o,e _ g,r⟩
theorem Tn.ty{s:AK}{d:AN}{es:Array dC}{ep:Nat}(x:Tn s.heap d es ep):s.TypeIs (.ref d) "dict":=let ⟨o,g,j,_⟩:=x;⟨o,g,j.1⟩
section
theorem eQ{Q:AE->AK->Prop}(B:(d==EI)=false)(j:Tn s.heap d es ep)
  (C:Q (.ref s.heap.objs.size) { s with heap:=s.heap.push { cls:=.type "dict_keyiterator",data:=.fields #[.ref d,.int 0 0,.int es.size 0,.int ep 0] } }):AY (Ad prog w) A (dF (.ref d)) Q E s:=by
 have g:=j.ty;obtain⟨o,l,G,m⟩:=j;refine qG g Uk (Cj Uk g PySem.F.entry_dict_iter ?_ (PySem.F.args_dict_iter_1 _));unfold N4.«dict.__iter__»;refine AA ?_;unfold t6;refine AA (wpAny_notOrdered_dict g (show AY _ _ (pure (Ai d)) _ _ s from AG ?_));refine(show AY _ _ (RY d >>= _) _ _ s from ?_);unfold RY;rw[qY (by simp[B])];refine AA (AG (AA (S9 l m (AA (WP l m (AA (CG (AG ⟨_,rfl, "dict_keyiterator",_,⟨_,Aa _ rfl,rfl⟩,Cp.lookup,?_⟩))))))));simpa[EV]using C
theorem eO(g:s.heap.IsKeyIter it d i es.size ep)(G:Tn s.heap d es ep)(hi:i < es.size)
  (I:∀h',h'.IsKeyIter it d (i+1) es.size ep->Du it s.heap h'->Q (some es[i].key) { s with heap:=h' }):AY (Ad prog w) A (Hc (.ref it)) Q E s:=by
 obtain⟨o,l,J,j⟩:=id g;obtain⟨L,m,N,B⟩:=G;unfold Hc;refine AA (Fv (Ce (name:=E0 "__next__") g.typeIs Cp (Cj Cp g.typeIs Nl (AA (AG (AA (AA ?_)))) (NZ _))))
 first | refine AA (FG g.typeIs (AG (AA (PH l j ?_)))) | refine AA (HM g.typeIs (AG (AA (PH l j ?_))))
 simp only[show MQ "dict_keyiterator" = false by decide,CH,if_false];refine(show AY _ _ (if (Ai d==BI)=true then _ else _) _ _ s from ?_);rw[qY (λz:(Ai d==BI)=true=>AT z)];refine AA (AG (AA (S9 m B ?_)));rw[qY (by simp)];refine AA (AG (AA (WP m B ?_)));rw[qY (by simp)];refine AG ?_;simp only[show ¬((i:Int) < 0) by lia,if_false,Am,D9 hi];refine AA ?_
 first | refine AA (FG g.typeIs (AG (AA (OU g.typeIs ?_)))) | refine AA (HM g.typeIs (AG (AA (OU g.typeIs ?_))))
 refine(show AY _ _ (X3 (.ref it) 1 (EV ((i:Int)+1)) >>= _) _ _ s from ?_);have C:(s.heap.update it (DW (·.setIfInBounds 1 (EV ((i:Int)+1))))).IsKeyIter it d (i+1) es.size ep:=⟨_,BY _ l (FM (Cc j _)),(Kw ..).trans J,by rw[Cc j];simp[EV]⟩;refine AA (Gk l j (by simp) (AA (By (AA (OU (s:={ s with heap:=s.heap.update it (DW (·.setIfInBounds 1 (EV ((i:Int)+1)))) }) C.typeIs ?_)))));exact(show AY _ _ (pure es[i].key) _ _ _ from AG (AG ⟨_,rfl,AG (I _ C (Hd ..))⟩))
theorem jk(h0:A.handled=none)(g:s.heap.IsKeyIter it d i es.size ep)(G:Tn s.heap d es ep)(hi:es.size<=i)
  (I:∀h',Zf it s.heap h'->Q none { s with heap:=h' }):AY (Ad prog w) A (Hc (.ref it)) Q E s:=by
 obtain⟨o,j,J,l⟩:=id g;obtain⟨L,B,N,C⟩:=G;unfold Hc;refine AA (Fv (Ce (name:=E0 "__next__") g.typeIs Cp (Cj Cp g.typeIs Nl (AA (AG (AA (AA ?_)))) (NZ _))))
 first | refine AA (FG g.typeIs (AG (AA (PH j l ?_)))) | refine AA (HM g.typeIs (AG (AA (PH j l ?_))))
 simp only[show MQ "dict_keyiterator" = false by decide,CH,if_false];refine(show AY _ _ (if (Ai d==BI)=true then _ else _) _ _ s from ?_);rw[qY (λz:(Ai d==BI)=true=>AT z)];refine AA (AG (AA (S9 B C ?_)));rw[qY (by simp)];refine AA (AG (AA (WP B C ?_)));rw[qY (by simp)];refine AG ?_;simp only[show ¬((i:Int) < 0) by lia,if_false,Am,Array.getElem?_eq_none hi];refine AA ?_
 first | refine AA (FG g.typeIs (AG (show AY _ _ (X3 (.ref it) 0 .none >>= _) _ _ s from ?_))) | refine AA (HM g.typeIs (AG (show AY _ _ (X3 (.ref it) 0 .none >>= _) _ _ s from ?_)))
 refine AA (Gk j l (by simp) (show AY _ _ (newExc (.type "StopIteration") [] >>= _) _ _ _ from AA ?_));simp only[newExc,newTuple];refine AA (CG (AA (m:=PK _ _) (WH (a:=BI) (by first | rfl | (simp only[PK];rfl)) (CG ?_ (by size_fits)))) (by size_fits));simp only[raiseNew];refine AA (wpAny_handled ?_);rw[show A.in1.handled=none from h0];refine AA (AG (wpAny_throw ?_));refine AA (Ue (T:="StopIteration") (b:=true) ⟨_,Aa _ rfl,rfl⟩ X6 (AG ?_));exact I _ (((Hd ..).extBut.push _).push _)
theorem bj(h0:A.handled=none)(I:AN)(C:d≠I):Walks prog w A I [I,d] [I] es.size (λi v=>∃h:i < es.size,v=es[i].key) (λi h=>h.IsKeyIter I d i es.size ep/\Tn h d es ep) where
 sub:=λx l=>by simp at l;simp[l]
 frame:=λ_ _ _ st keep=>⟨st.1.at λo e=>keep I (by simp) o e,st.2.at' λo e=>keep d (by simp) o e⟩
 item:=λi s Q E m st g=>eO st.1 st.2 m λj G B=>g _ j s.toks ⟨m,rfl⟩ ⟨G,st.2.at' λo e=>B.extBut d o C e⟩ λb o hb e=>B.extBut b o (λh=>hb (by simp[h])) e
 done:=λs Q E st g=>jk h0 st.1 st.2 (AO _) λj J=>g j s.toks λb o hb e=>J b o (λh=>hb (by simp[h])) e
 self:=λ_ _ _ _ st g=>wpAny_pyIter_keyiter st.1 g
theorem Z4(lo:(d==EI)=false):PySem.W.KdlSrc prog w "dict" d d es.size (λi v=>∃h:i < es.size,v=es[i].key) (λh=>Tn h d es ep) where
 type:=λ_ g=>g.ty
 there:=λ_ g=>⟨let ⟨_,j,_⟩:=g;AL j,let ⟨_,j,_⟩:=g;AL j⟩
 keep:=λ_ _ g m=>g.at' λo e=>m d (.inl rfl) o e
 notList:=by decide
 notTuple:=by decide
 hint:=λ_ _ _ _ g l=>PySem.W.kdl_hint_dict g.ty l
 iter:=λ_ _ s g=>⟨_,_,(λ_ _ l=>eQ lo g l),bj s _ (Ao (let ⟨_,j,_⟩:=g;AL j)),⟨⟨_,Aa _ rfl,rfl,rfl⟩,g.at' λo e=>AI _ e⟩⟩
end
end Srt
namespace L2
open PySem PySem.Spec PyProof.Rows
open Srt (ltL)
theorem W2{A B:Type}{R:A->B->Prop}{C g:List B}(p:C.Perm g):∀{l1:List A},IH R l1 C->∃E,IH R E g/\E.Perm l1:=by
 induction p with
 | nil=>intro l1 h;cases h;exact⟨[],.nil,.refl _⟩
 | cons x _ G=>
  intro l1 h
  cases h with
  | cons r t=>
   obtain⟨I,j,m⟩:=G t;exact⟨_ :: I,.cons r j,m.cons _⟩
 | swap x y l=>
  intro l1 h
  cases h with
  | cons r t=>
   cases t with
   | cons J t=>exact⟨_ :: _ :: _,.cons J (.cons r t),bE _ _ _⟩
 | trans _ _ o s=>
  intro l1 h;obtain⟨a,j,m⟩:=o h;obtain⟨b,L,N⟩:=s j;exact⟨b,L,N.trans m⟩
theorem Oi{j l o:Type}{R:j->l->Prop}{f:j->o}{g:l->o}:∀{m:List j} {s:List l},IH R m s->(∀a∈m,∀b,R a b->g b=f a)->s.map g=m.map f
 | _,_,.nil,_=>rfl
 | _,_,.cons r t,h=>by rw[As,As,h _ Ah _ r,Oi t λa A=>h a (AS _ A)]
theorem SC{j g:Type}{R:j->g->Prop}:∀{l:List j} {m:List g} {b:g},IH R l m->b∈m->∃a∈l,R a b
 | _,_,_,.nil,h=>nomatch h
 | _,_,b,.cons r t,h=>by
  rcases Aq.mp h with h | h
  ·subst h;exact⟨_,Ah,r⟩
  ·obtain⟨a,o,e⟩:=SC t h
   exact⟨a,AS _ o,e⟩
noncomputable def Te:V->Int
 | .int n=>n
 | _=>0
noncomputable def bg(H:Hp):AE->ZLi
 | .int n _=>[n]
 | .ref b=>match H b with
  | some (.tup g)=>g.map Te
  | _=>[]
 | _=>[]
theorem Po(r:ZLi):(r.map V.int).map Te=r:=by
 rw[BX];exact(CN λa _=>rfl).trans (List.map_id' r)
noncomputable def tR(K:AD)(H:Hp)(p:AN)(G:List V->Prop):Prop:=
 (∃j,(SqL K H p j∨SqT K H p j)/\G j)∨(∃g,H p=some (.dK g)/\G (g.map λx=>kV x.1)) ∨
  ∃g,H p=some (.dT g)/\∀bs:List AN,IH (λ(k:List Key×V) b=>H b=some (.tup (k.1.map kV))) g bs->G (bs.map V.ref)
noncomputable def Uc(H:Hp)(f:V->ZLi)(vs:List V):Prop:=(∀v∈vs,∃n,v=.int n/\f v=[n])∨∀v∈vs,∃b,v=.ref b/\H b=some (.tup ((f v).map V.int))/\f v≠[]
noncomputable def re(K:AD):List V->Hp->VK->Prop:=λj H Q=>∃p,j=[.ref p]/\tR K H p λg=>∃f:V->ZLi,g.length < 64/\Uc H f g /\
 ∀out,out.Perm g->out.Pairwise (λx y=>ltL (f y) (f x)=false)->∀l,H l=none->Q (.ref l) (upd H l (.lst out))
theorem Uc.rel(h:Uc H f vs):∀v∈vs,∀u,RelV v u->bg H u=f v:=λv g u r=>by
 rcases h with h | h
 ·obtain⟨n,rfl,e⟩:=h v g
  obtain⟨t,rfl⟩:=r;exact e.symm
 ·obtain⟨b,rfl,e,_⟩:=h v g
  cases r;show(match H b with | some (.tup j)=>j.map Te | _=>[])=_;rw[e];exact Po _
theorem Wm(hc:X.calm=true)(I:Inv X ζ σ H s)(h:tR X.K H p G) :
  ∃vs P,G vs/\Bf vs P/\P.length<=sizeLine/\∀(R:List AE->AK->Prop) (E:AE->AK->Prop),(∀(g:CS) (tk:Nat),(∀b o,s.heap.get? b=some o->g.get? b=some o)->R P { s with heap:=g,toks:=tk })->AY (Ad X.prog X.w) X.A.in1 (collect (.ref p)) R E s:=by
 have hh:X.A.handled=none:=I.ok.hd hc
 rcases h with⟨vs,sq,g⟩ | ⟨B,e,g⟩ | ⟨B,e,g⟩
 ·rcases sq with sq | sq
  ·obtain⟨P,Y,pl,J⟩:=I.list sq
   refine⟨vs,P,g,Y,by rw[<-Y.length];exact J,λR E k=>collect_list pl.isList (k _ s.toks λb o e=>?_) (by rw[<-Y.length];exact J)⟩;rw[bG _ _ _ _ (Ao (AL e))];exact AI _ e
  ·obtain⟨P,Y,⟨o,ho,vq,n,hd⟩,J⟩:=I.tuple sq
   have Z:P.length<=sizeLine:=by rw[<-Y.length];exact J
   exact⟨vs,P,g,Y,Z,λR E k=>wpAny_collect_seq p (.inr rfl) ho vq hd (λh' kp=>by simpa using k h' s.toks kp) (by simpa using Z)⟩
 ·obtain⟨J,sm,us,kv,o,es,ep,g1,g2,g3,g5,g6,_⟩:=(show Cz X.prog X.w H s.heap p (.dK B)from I.hok p _ e)
  have C:es.size=B.length:=by
   have a1:=g6.length;have a2:B.length=us.length:=E1 kv;rw[Ch]at a1
   lia
  have hv:Bf (B.map λx=>kV x.1) (es.toList.map (·.key)):=by
   have Q:∀{l:List dC} {us:List (Key×AE)} {B:List (Key×V)},Pairs (Em X.prog X.w) l us->KV B us->Bf (B.map λx=>kV x.1) (l.map (·.key)):=by
    intro l us B hp
    induction hp generalizing B with
    | nil=>intro h;cases h;exact .nil
    | cons q1 q2 _ ih=>
     intro h
     cases h with
     | cons r t=>
      refine .cons ?_ (ih t);dsimp only;rw[r.1]
      rcases Dq q1 with⟨i,t,e1,S⟩ | ⟨x,t,e1,S⟩
      ·rw[e1,S];exact⟨t,rfl⟩
      ·rw[e1,S];exact⟨t,rfl⟩
   exact Q g6 kv
  refine⟨_,es.toList.map (·.key),g,hv,by rw[AJ,Ch,C];exact J,λR E k=>?_⟩
  refine Xr (Srt.Z4 (es:=es) (ep:=ep) sm) hh ⟨o,g1,g2,g3⟩ (by rw[C];exact J) λg' tk m kp U=>?_
  have:m.toList=es.toList.map (·.key):=by
   apply QH
   intro j
   by_cases L:j < es.size
   ·have N:j < m.size:=by rw[U.1];exact L
    obtain⟨_,S⟩:=U.2 j m[j] (by simp[N]);simp[L,N,S]
   ·have N:¬j < m.size:=by rw[U.1];exact L
    simp[L,N]
  rw[this];exact k g' tk kp
 ·obtain⟨J,sm,O,rr,o,es,ep,g1,g2,g3,g4,_⟩:=(show Cz X.prog X.w H s.heap p (.dT B)from I.hok p _ e)
  have C:es.size=B.length:=by
   have a1:=congrArg RV g4;have a2:B.length=O.length:=E1 rr;rw[Ch,AJ]at a1
   lia
  have hb:IH (λ(k:List Key×V) b=>H b=some (.tup (k.1.map kV))) B (O.map (·.2.1)):=by
   have Q:∀{B:List (List Key×V)} {O:List (List Key×AN×AE)},IH (λ(p:List Key×V) (q:List Key×AN×AE)=>p.1=q.1/\H q.2.1=some (.tup (p.1.map kV))/\RelV p.2 q.2.2) B O->IH (λ(k:List Key×V) b=>H b=some (.tup (k.1.map kV))) B (O.map (·.2.1)):=by
    intro B O h
    induction h with
    | nil=>exact .nil
    | cons r _ ih=>exact .cons r.2.1 ih
   exact Q rr
  have hk:es.toList.map (·.key)=(O.map (·.2.1)).map Ai:=by
   rw[g4,BX,BX];rfl
  have hv:∀l:List AN,Bf (l.map V.ref) (l.map Ai):=λl=>by
   induction l with
   | nil=>exact .nil
   | cons a l ih=>exact .cons rfl ih
  refine⟨_,(O.map (·.2.1)).map Ai,g _ hb,hv _,by rw[AJ,AJ,<-E1 rr];exact J,λR E k=>?_⟩
  refine Xr (Srt.Z4 (es:=es) (ep:=ep) sm) hh ⟨o,g1,g2,g3⟩ (by rw[C];exact J) λg' tk m kp U=>?_
  have:m.toList=(O.map (·.2.1)).map Ai:=by
   rw[<-hk]
   apply QH
   intro j
   by_cases L:j < es.size
   ·have N:j < m.size:=by rw[U.1];exact L
    obtain⟨_,S⟩:=U.2 j m[j] (by simp[N]);simp[L,N,S]
   ·have N:¬j < m.size:=by rw[U.1];exact L
    simp[L,N]
  rw[this];exact k g' tk kp
theorem Wu{X:Cx}{s:AK}{H:Hp}{f:V->ZLi}{vs:List V}{g:List AE}(I:∀b xs,H b=some (.tup xs)->∃is:List AE,Bf xs is/\dA s.heap b is.toArray)(h:Uc H f vs)(C:Bf vs g)(G:2<=g.length){A:Bw}:Srt.WD X.prog X.w A s g (bg H):=by
 rcases id h with N | O
 ·have:∃ns,Dt g ns:=by
   have B:∀{vs:List V} {g:List AE},Bf vs g->(∀v∈vs,∃n,v=.int n/\f v=[n])->∃ns,Dt g ns:=by
    intro vs g r
    induction r with
    | nil=>exact λ_=>⟨[],.nil⟩
    | cons r _ P=>
     intro j
     obtain⟨ns,l⟩:=P λv R=>j v (AS _ R)
     obtain⟨n,rfl,_⟩:=j _ Ah;obtain⟨t,rfl⟩:=r;exact⟨n :: ns,.cons n t l⟩
   exact B C N
  obtain⟨ns,l⟩:=this;obtain⟨S,U,Y⟩:=Srt.bX (prog:=X.prog) (w:=X.w) (A:=A) (s:=s) l G;refine⟨S,U,λx y J L Q E q=>Y x y J L Q E ?_⟩;obtain⟨n,t,Z⟩:=l.all _ (Srt.Hg J).1;obtain⟨m,u,e2⟩:=l.all _ (Srt.Hg L).1
  have e:Srt.ltK Srt.fH x y=Srt.ltK (bg H) x y:=by
   unfold Srt.ltK Srt.fH;rw[Z,e2];rfl
  rw[e];exact q
 ·refine Srt.bV (λu hu=>?_) (by intro e;subst e;simp at G)
  obtain⟨v,j,r⟩:=SC C hu;rw[h.rel v j u r];obtain⟨b,rfl,e,ne⟩:=O v j;cases r;refine⟨⟨b,?_⟩,ne⟩;obtain⟨is,r,o,ho,vq,n,hd⟩:=I b _ e;exact⟨is.toArray,rfl,⟨o,ho,vq,n,hd⟩,by simpa using intsAre_of r⟩
theorem cW{X}(Y:X.calm=true):Kv X (.builtin "sorted") (re X.K):=by
 intro Z s σ H P us Q I r h;obtain⟨p,rfl,E⟩:=h;obtain⟨u,rfl,rx⟩:=vals1 r;cases rx;obtain⟨vs,B,⟨f,Υ,j,q⟩,C,G,J⟩:=Wm Y I E;refine Calls.call_function_entry kind_sorted plain_sorted entry_sorted (args_sorted1 _) ?_;unfold N4.«sorted»;refine AA (m:=checkCount "sorted" 1 1 _) (AG (AA (J _ _ λg tk kp=>?_)));refine AA (wpAny_newList ?_ G);have L:Inv X Z σ H { s with heap:=g,toks:=tk }:=I.kept kp;have N:(g.push (KH "list" B.toArray 0)).get? g.objs.size=some (KH "list" B.toArray 0):=Aa _ rfl;refine AA (By (Cj slot_list_sort ⟨_,N,rfl⟩ entry_list_sort (Srt.Qv (f:=bg H) N G (by rw[<-C.length];exact Υ) (λh2 s' keep=>?_) λout po so=>⟨_,rfl,AG ⟨_,rfl,?_⟩⟩) (args_list_sort _)))
 ·refine Wu (λb P e=>?_) j C h2
  obtain⟨_,is,r,o,S,vq,n,hd⟩:=(show Cz X.prog X.w H g b (.tup P)from L.hok b _ e);exact⟨is,r,o,keep b o (Ao (AL S)) (AI _ S),vq,n,hd⟩
 ·obtain⟨l,U,pv⟩:=W2 po.symm C
  have O:l.Pairwise (λx y=>ltL (f y) (f x)=false):=by
   have e:out.toList.map (bg H)=l.map f:=Oi U λa ha b rb=>j.rel a (pv.mem_iff.mp ha) b rb
   have:=(DD (f:=bg H) (R:=λx y=>ltL y x=false)).mpr so;rw[e]at this;exact DD.mp this
  obtain⟨k,hk⟩:=sortedHeap_at (out:=out) N
  have A:l.length<=sizeLine:=by rw[pv.length_eq,C.length];exact G
  have I2:=L.laid (a:=g.objs.size) (o:=.lst l) (t':=tk) (h':=mI (g.push (KH "list" B.toArray 0)) g.objs.size B out)
   (λb u z=>by
    have lt:b < g.objs.size:=AL z;rw[sortedHeap_old (Ao lt) (by rw[size_push'];exact Kx lt)]
    exact AI _ z) (AO _) ⟨A,out.toList,k,U,hk⟩
  exact⟨.ref g.objs.size,_,I2,rfl,q l pv O _ (L.hok.fresh (AO _))⟩
noncomputable def Di(ns:ZLi):ZLi:=ns.mergeSort (λa b=>decide (a<=b))
@[simp] noncomputable def qc:Di []=[]:=by unfold Di;simp
theorem El(ns:ZLi):(Di ns).Perm ns:=bB ns _
theorem Ry(ns:ZLi):(Di ns).Pairwise (·<=·):=by
 have:=WS (le:=λa b:Int=>decide (a<=b)) (by intro a b c g j;simp at g j ⊢;lia) (by intro a b;simp;lia) ns
 exact this.imp λh=>by simpa using h
noncomputable def Rz(rs:List ZLi):List ZLi:=rs.mergeSort (λa b=>!ltL b a)
theorem N6(rs:List ZLi):(Rz rs).Perm rs:=bB rs _
theorem eG(rs:List ZLi):(Rz rs).Pairwise (λa b=>ltL b a=false):=by
 have:=WS (le:=λa b:ZLi=>!ltL b a) (by intro a b c g j;simp at g j ⊢;exact Srt.Vp _ _ _ g j) (by
  intro a b
  cases e:ltL b a with
  | false=>simp
  | true=>simp[Srt.SM _ _ e]) rs
 exact this.imp λh=>by simpa using h
theorem bW{l l':List ZLi}(p:l.Perm l')(h:l.Pairwise (λa b=>ltL b a=false))(h':l'.Pairwise (λa b=>ltL b a=false)):l=l':=
 p.eq_of_pairwise (λa b _ _ g j=>Srt.aF a b j g) h h'
noncomputable def gM:Key->D
 | .inl i=>.int i
 | .inr x=>.str x
noncomputable def LZ(d:D)(S:Sto):Option (List D):=match d with
 | .fro g=>some g
 | .tup g=>some g
 | .ref n=>match S[n]? with
  | some (.lst g)=>some g
  | some (.dK j)=>some (j.map λx=>gM x.1)
  | some (.dT j)=>some (j.map λx=>.tup (x.1.map gM))
  | _=>none
 | _=>none
noncomputable def Qn(r:ZLi):D:=.tup (r.map D.int)
noncomputable def UD:List D->Option (List ZLi)
 | []=>some []
 | .tup g :: r=>match J9 g,UD r with
  | some (n :: j),some l=>some ((n :: j) :: l)
  | _,_=>none
 | _ :: _=>none
noncomputable def Kn(ds:List D):Option (List D):=if ds.length < 64 then(match J9 ds with
 | some g=>some ((Di g).map D.int)
 | none=>match UD ds with
  | some j=>some ((Rz j).map Qn)
  | none=>none)else none
theorem UA{ds es:List D}(h:Kn ds=some es):ds.length < 64:=by
 unfold Kn at h;split at h
 ·assumption
 ·cases h
noncomputable def Ft(m:ME):ME:=λe S=>(m e S).bind λd g=>match LZ d g with
 | some j=>match Kn j with
  | some l=>.ok (.ref g.length) (g++[.lst l])
  | none=>.bad
 | none=>.bad
section
theorem kQ(x y:Int):ltL [y] [x]=decide (y < x):=by
 show(if y=x then false else decide (y < x))=_;split
 ·rename_i e;simp[e]
 ·rfl
noncomputable def TZ(H:Hp):V->ZLi
 | .int n=>[n]
 | .ref b=>match H b with
  | some (.tup g)=>g.map Te
  | _=>[]
 | _=>[]
theorem Wv{K}{ρ}{H}:∀{ds:List D} {rs:List ZLi} {vs:List V},UD ds=some rs->Ak K ρ H ds vs->vs.map (TZ H)=rs/\∀v∈vs,∃b,v=.ref b/\H b=some (.tup ((TZ H v).map V.int))/\TZ H v≠[]
 | [],_,_,h,.nil=>by cases h;exact⟨rfl,λv g=>nomatch g⟩
 | .tup C :: ds,rs,_,h,.cons r t=>by
  unfold UD at h;split at h
  ·rename_i n ns j l m
   cases h;obtain⟨o,s⟩:=Wv m t
   cases r with
   | @tup _ b E hb A=>
    have:=Ov l;subst this;have:=A.ints;subst this
    have e:TZ H (.ref b)=n :: ns:=by
     show(match H b with | some (.tup B)=>B.map Te | _=>[])=_;rw[hb];exact Po _
    refine⟨by rw[As,e,o],λv g=>?_⟩
    rcases Aq.mp g with g | g
    ·subst g
     refine⟨b,rfl,?_,?_⟩
     ·rw[e];exact hb
     ·rw[e];exact List.cons_ne_nil _ _
    ·exact s v g
  ·cases h
 | .non :: _,_,_,h,_=>by cases h
 | .bl _ :: _,_,_,h,_=>by cases h
 | .int _ :: _,_,_,h,_=>by cases h
 | .str _ :: _,_,_,h,_=>by cases h
 | .fro _ :: _,_,_,h,_=>by cases h
 | .ref _ :: _,_,_,h,_=>by cases h
 | .exc _ :: _,_,_,h,_=>by cases h
theorem Wy{K}{ρ}{H}:∀{vs:List V},(∀v∈vs,∃b,v=.ref b/\H b=some (.tup ((TZ H v).map V.int))/\TZ H v≠[])->Ak K ρ H ((vs.map (TZ H)).map Qn) vs
 | [],_=>.nil
 | v :: vs,h=>by
  obtain⟨b,e,hb,_⟩:=h v Ah;refine .cons ?_ (Wy λu g=>h u (AS _ g));subst e;exact .tup hb (Ak.of_ints _)
theorem eE{K:AD}{ρ:List AN}{H:Hp}{ds es:List D}{vs:List V}(h:Kn ds=some es)(r:Ak K ρ H ds vs) :
  ∃f:V->ZLi,Uc H f vs/\∀out,out.Perm vs->out.Pairwise (λx y=>ltL (f y) (f x)=false)->Ak K ρ H es out:=by
 have A:=UA h;unfold Kn at h;rw[qX A]at h;split at h
 ·rename_i ns B
  cases h;have:=Ov B;subst this;have:=r.ints;subst this;refine⟨λv=>[Te v],.inl λv j=>?_,λout l m=>?_⟩
  ·obtain⟨n,_,rfl⟩:=BS.mp j
   exact⟨n,rfl,rfl⟩
  ·have C:out=(out.map Te).map V.int:=by
    rw[BX]
    conv=>lhs;rw[<-RU out]
    refine CN λv j=>?_
    obtain⟨n,_,rfl⟩:=BS.mp (l.mem_iff.mp j);rfl
   have o:out.map Te=Di ns:=by
    have E:(out.map Te).Perm (Di ns):=by
     have:=l.map Te;rw[Po]at this;exact this.trans (El ns).symm
    refine E.eq_of_pairwise (λa b _ _ G I=>Int.le_antisymm G I) ?_ (Ry ns);rw[DD]
    refine m.imp λ{x y} g=>?_
    rw[kQ]at g;simp at g;exact g
   rw[C,o];exact Ak.of_ints _
 ·split at h
  ·rename_i rs J
   cases h;obtain⟨L,s⟩:=Wv J r;refine⟨TZ H,.inr s,λout l m=>?_⟩
   have o:out.map (TZ H)=Rz rs:=by
    refine bW ?_ (DD.mpr m) (eG rs);have:=l.map (TZ H);rw[L]at this;exact this.trans (N6 rs).symm
   rw[<-o]
   exact Wy λv j=>s v (l.mem_iff.mp j)
  ·cases h
theorem SR{K}{ρ}{H}:∀g:List Key,Ak K ρ H (g.map gM) (g.map kV)
 | []=>.nil
 | .inl i :: g=>.cons (.int i) (SR g)
 | .inr x :: g=>.cons (.str x) (SR g)
theorem SQ{K}{ρ}{H}:∀{g:List (Key×D)} {j:List (Key×V)},KVR K ρ H g j->Ak K ρ H (g.map λx=>gM x.1) (j.map λx=>kV x.1)
 | _,_,.nil=>.nil
 | (k,_) :: _,(k',_) :: _,.cons r t=>by
  have e:k=k':=r.1;subst e
  cases k with
  | inl i=>exact .cons (.int i) (SQ t)
  | inr x=>exact .cons (.str x) (SQ t)
theorem XD{K}{ρ}{H}:∀{g:List (List Key×D)} {j:List (List Key×V)} {bs:List AN},KVR K ρ H g j->IH (λ(k:List Key×V) b=>H b=some (.tup (k.1.map kV))) j bs->Ak K ρ H (g.map λx=>.tup (x.1.map gM)) (bs.map V.ref)
 | _,_,_,.nil,.nil=>.nil
 | (k,_) :: _,(k',_) :: _,_,.cons r t,.cons l m=>by
  have e:k=k':=r.1;subst e;exact .cons (.tup l (SR k)) (XD t m)
theorem Iq(Y:X.calm=true)(Z:Gl X "sorted") (s:X.mg "sorted" = none) (h:GE X E e m) (O:AQ [e] X.env=(false,Bd e X.env) :: AQ [] X.env:=by rfl):GE X E (.Call (.Name "sorted" p) [e] [] pos) (Ft m):=
 (Mo (cW Y) Z s tj (FB h IM O) (by decide) (by decide) O rfl).imp<|by
 rintro σ H Q ⟨ρ,l,S,hl,hs,s⟩
 refine⟨ρ,l,S,hl,hs,s.seq λd S1 s B G x l1 P r1=>?_⟩
 cases g:LZ d S1 with
 | none=>rw[g]at s;exact s.elim
 | some R=>
  rw[g]at s;dsimp only at s
  cases I:Kn R with
  | none=>rw[I]at s;exact s.elim
  | some U=>
   rw[I]at s
   have fin:∀j:List V,Ak X.K B G U j->∀q,G q=none->Q (.ref q) (upd G q (.lst j)):=λj A q g=>by
    have le:Le X.K B G (B++[q]) (upd G q (.lst j)):=Le.alloc g;obtain⟨s4,l4,yF⟩:=P.alloc (ho:=.lst j) (o:=.lst U) g ⟨_,Bc,A.mono le⟩;exact s _ _ _ (l1.trans l4) s4 (.ref yF)
   have out:∀j,Ak X.K B G R j->∃f:V->ZLi,j.length < 64/\Uc G f j/\∀out,out.Perm j->out.Pairwise (λx y=>ltL (f y) (f x)=false)->∀l,G l=none->Q (.ref l) (upd G l (.lst out)):=λj A=>by
    obtain⟨f,k1,k2⟩:=eE I A;exact⟨f,by rw[<-A.length];exact UA I,k1,λout po so=>fin out (k2 out po so)⟩
   cases r1 with
   | fro J L=>cases g;exact⟨_,rfl,.inl ⟨_,.inl J.sq,out _ L⟩⟩
   | tup J L=>cases g;exact⟨_,rfl,.inl ⟨_,.inr (.inl (.inl J)),out _ L⟩⟩
   | @ref n a hn=>
    obtain⟨o,ho,N⟩:=P.there hn;unfold LZ at g;simp only[ho]at g
    cases o with
    | lst ys=>cases g;obtain⟨j,e,A⟩:=N;exact⟨_,rfl,.inl ⟨j,.inl (.inl (.inl e)),out _ A⟩⟩
    | dK f'=>cases g;obtain⟨j,e,A⟩:=N;exact⟨_,rfl,.inr (.inl ⟨j,e,out _ (SQ A)⟩)⟩
    | dT f'=>cases g;obtain⟨j,e,A⟩:=N;exact⟨_,rfl,.inr (.inr ⟨j,e,λbs hb=>out _ (XD A hb)⟩)⟩
    | ins C fs=>cases g
    | fK _=>cases g
    | fT _=>cases g
    | mem _=>cases g
   | _=>cases g
end
open PySem PySem.Spec PyProof.Rows
theorem o0{K}{t}(h:∀A∈["NoneType", "bool", "int", "str", "tuple", "list", "dict"],Bb K (.type A) (.type t)=lq t A):∀A b,isB t A=some b->Bb K (.type A) (.type t)=some b:=λA b e=>by
 unfold isB at e;split at e
 ·rename_i g
  rw[h A (by simpa using g)];exact e
 ·cases e
theorem b9{K}:∀A b,isB "tuple" A=some b->Bb K (.type A) (.type "tuple")=some b:=o0 λA h=>by
 simp only[Aq,Bq,or_false]at h
 rcases h with rfl | rfl | rfl | rfl | rfl | rfl | rfl <;> kernel_rfl
noncomputable def isV(A:String):Option Bool:=if A = "NoneType" then some false else none
theorem oz{K}:∀A b,isV A=some b->Bb K (.type A) (.type "ValueError")=some b:=λA b e=>by
 unfold isV at e;split at e
 ·rename_i g
  subst g;cases e
  kernel_rfl
 ·cases e
theorem gW{K}{C}(h:∀A∈["NoneType", "bool", "int", "str", "tuple", "list", "dict"],Bb K (.type A) (.ref C)=some false):∀A b,isN A=some b->Bb K (.type A) (.ref C)=some b:=λA b e=>by
 unfold isN at e;split at e
 ·rename_i g
  cases e;exact h A (by simpa using g)
 ·cases e
theorem aJ{K}{C}(j:(EK K C).isSome=true)(l:Iu K (.ref C)=some (.type "type")):∀A∈["NoneType", "bool", "int", "str", "tuple", "list", "dict"],Bb K (.type A) (.ref C)=some false:=λA h=>by
 have g:∀A,Nj K (.type A) (.ref C)=some false->Bb K (.type A) (.ref C)=some false:=λA e=>by
  unfold Bb PySem.W.kitCls;rw[qY (by simp)];dsimp only;rw[qX (by rw[j,l];rfl)];exact e
 refine g A ?_;simp only[Aq,Bq,or_false]at h
 rcases h with rfl | rfl | rfl | rfl | rfl | rfl | rfl <;> kernel_rfl
noncomputable def eD(K:AD):Sp:=λj H Q _=>∃(a:AN) (g:ZLi),j=[.ref a]/\To K H a (g.map V.int)/\g.length<=63/\∀l,Q (.bl true) l
theorem gF{P}{w}{K}{g}{base}{k}{l}{fd}{f}(F:DI P w K g base (CXG P w) k l fd ["script"] (spM K 1 f))
  (h:∀ns:ZLi,ns.length<=63->∃m,f [.fro (ns.map D.int)] []=.ok (.bl true) m):DI P w K g base (CXG P w) k l fd ["script"] (eD K):=F.imp<|by
 rintro J H Q E ⟨a,ns,e,s,A,q⟩
 subst e;obtain⟨m,e⟩:=h ns A;refine⟨[],[.fro (ns.map D.int)],[],rfl,.cons (.fro s (Ak.of_ints ns)) .nil,⟨rfl,λi j a B=>by simp at B,λn o a C=>by simp at C⟩,?_⟩;rw[e]
 exact λG I x _ _ r=>by cases r;exact q I
theorem pV{K:AD}{H:Hp}{a:AN}{ns:ZLi}(g:lJ H)(j:SqL K H a (ns.map V.int)):To K H a (ns.map V.int):=by
 rcases j with(h | h) | h
 ·rcases g a with z | ⟨o,l,z⟩ <;> rw[z]at h <;> cases h
 ·exact .inl h
 ·exact .inr h
theorem OH{K}{C}{v}{b}(h:Nk K C v=some b):(EK K C).isSome=true:=by
 obtain⟨g,a,_⟩:=Ul.mp h;rw[a];rfl
theorem pz(h:CXG P w [] H s (λ_ _ _=>False) e s'):False:=by
 obtain⟨_,_,_,_,_,_,_,_,_,z⟩:=h;exact z
open PySem
noncomputable def mD(I:Lo->Sto->Prop)(R:Fl->Sto->Prop)(f:Fl)(S:Sto):Prop:=match f with
 | .nx e=>I e S
 | .ct e=>I e S
 | .bk e=>R (.nx e) S
 | .rt d=>R (.rt d) S
 | .ex c e=>R (.ex c e) S
theorem kn(I:Nat->Lo->Sto->Prop)(R:Fl->Sto->Prop)(l:∀i e S,I i e S->v S=some xs)
  (step:∀i d e S,xs[i]?=some d->I i e S->∃e1 S1,g d e S=.ok e1 S1/\∃f S2,b e1 S1=.ok f S2/\mD (I (i+1)) R f S2)
  (fin:∀e S,I xs.length e S->R (.nx e) S):∀(k i:Nat) (e:Lo) (S:Sto),I i e S->i<=xs.length->xs.length<=i+k->∃f S',MF v g b k i e S=.ok f S'/\R f S':=by
 intro k
 induction k with
 | zero=>
  intro i e S h s A
  have:i=xs.length:=by lia
  subst this;refine⟨.nx e,S,?_,fin e S h⟩;unfold MF;rw[l _ e S h];simp
 | succ k m=>
  intro i e S h s A;unfold MF;rw[l _ e S h];dsimp only
  by_cases B:i < xs.length
  ·have o:xs[i]?=some xs[i]:=by simp[B]
   rw[o];dsimp only;obtain⟨e1,S1,C,f,S2,E,t⟩:=step i _ e S o h;rw[C];dsimp only[Res.bind];rw[E];dsimp only[Res.bind]
   cases f with
   | nx j=>exact m (i+1) j S2 t (by lia) (by lia)
   | ct j=>exact m (i+1) j S2 t (by lia) (by lia)
   | bk j=>exact⟨_,_,rfl,t⟩
   | rt d=>exact⟨_,_,rfl,t⟩
   | ex c j=>exact⟨_,_,rfl,t⟩
  ·have:i=xs.length:=by lia
   subst this;rw[show xs[xs.length]?=none by simp];exact⟨.nx e,S,rfl,fin e S h⟩
theorem P1(I:Nat->Lo->Sto->Prop)(R:Fl->Sto->Prop)(h0:I 0 e S)(j:∀i e S,I i e S->v S=some xs)
  (step:∀i d e S,xs[i]?=some d->I i e S->∃e1 S1,g d e S=.ok e1 S1/\∃f S2,b e1 S1=.ok f S2/\mD (I (i+1)) R f S2)
  (fin:∀e S,I xs.length e S->R (.nx e) S):∃f S',MF v g b (D1 v S) 0 e S=.ok f S'/\R f S':=by
 have l:D1 v S=xs.length:=by unfold D1;rw[j 0 e S h0]
 rw[l];exact kn I R j step fin _ _ _ _ h0 (Dx _) (by lia)
theorem iE(I:Nat->Lo->Sto->List D->Prop)(l:∀i e S j,I i e S j->v S=some xs)
  (step:∀i d e S j,xs[i]?=some d->I i e S j->j.length < sizeLine/\∃e1 S1,g d e S=.ok e1 S1/\∃b S2,c e1 S1=.ok b S2/\((b=true/\∃y S3,m e1 S2=.ok y S3/\I (i+1) e1 S3 (j++[y]))∨(b=false/\I (i+1) e1 S2 j))) :
  ∀(k i:Nat) (e:Lo) (S:Sto) (j:List D),I i e S j->i<=xs.length->xs.length<=i+k->∃r o,Gw v g c m k i e S j=.ok r o/\∃B,I xs.length B o r:=by
 intro k
 induction k with
 | zero=>
  intro i e S j h C E
  have:i=xs.length:=by lia
  subst this;refine⟨j,S,?_,e,h⟩;unfold Gw;rw[l _ e S j h];simp
 | succ k s=>
  intro i e S j h C E;unfold Gw;rw[l _ e S j h];dsimp only
  by_cases G:i < xs.length
  ·have A:xs[i]?=some xs[i]:=by simp[G]
   rw[A];dsimp only;obtain⟨J,e1,S1,L,b,S2,N,t⟩:=step i _ e S j A h;rw[qX J,L];dsimp only[okR,Res.bind];rw[N];dsimp only[okR,Res.bind]
   rcases t with⟨rfl,y,S3,O,t⟩ | ⟨rfl,t⟩
   ·rw[qX rfl,O]
    exact s (i+1) e1 S3 _ t (by lia) (by lia)
   ·rw[qY AT]
    exact s (i+1) e1 S2 j t (by lia) (by lia)
  ·have:i=xs.length:=by lia
   subst this;rw[show xs[xs.length]?=none by simp];exact⟨j,S,rfl,e,h⟩
theorem ah(I:Nat->Lo->Sto->List D->Prop)(h0:I 0 e S [])(l:∀i e S j,I i e S j->v S=some xs)
  (step:∀i d e S j,xs[i]?=some d->I i e S j->j.length < sizeLine/\∃e1 S1,g d e S=.ok e1 S1/\∃b S2,c e1 S1=.ok b S2/\((b=true/\∃y S3,m e1 S2=.ok y S3/\I (i+1) e1 S3 (j++[y]))∨(b=false/\I (i+1) e1 S2 j))) :
  ∃r o,Gw v g c m (D1 v S) 0 e S []=.ok r o/\∃s,I xs.length s o r:=by
 have A:D1 v S=xs.length:=by unfold D1;rw[l 0 e S [] h0]
 rw[A];exact iE I l step _ _ _ _ _ h0 (Dx _) (by lia)
theorem fx(h:-1000000<=j):-(2 ^ 62)<=j:=qu (by decide) h
theorem gh{j:Int}(h:j<=1000000):j < 2 ^ 62:=KN h (by decide)
theorem gZ{ml:ML}{e:Lo}{S S1:Sto}{j:Int}(h:ml e S=.ok [.int j] S1)(h0:-1000000<=j)(g:j<=1000000):iR1 ml e S=.ok (L6 (HY 0 j.toNat)) S1:=by
 unfold iR1;rw[h];dsimp only[Res.bind];rw[qX ⟨fx h0,gh g⟩]
theorem pB{ml:ML}{e:Lo}{S S1:Sto}{i j:Int}(h:ml e S=.ok [.int i,.int j] S1)(h0:-1000000<=i)(g:i<=1000000)(l:-1000000<=j)(m:j<=1000000):iR2 ml e S=.ok (L6 (HY i (j - i).toNat)) S1:=by
 unfold iR2;rw[h];dsimp only[Res.bind];rw[qX ⟨fx h0,gh g,fx l,gh m⟩]
theorem bh(lo:Int)(n:Nat):(HY lo n).length=n:=by simp[HY]
theorem eM{lo:Int}{n i:Nat}{d:D}(h:(HY lo n)[i]?=some d):i < n/\d=.int (lo+i):=by
 rw[UE]at h;split at h
 ·rename_i g
  cases h;exact⟨g,rfl⟩
 ·cases h
theorem lh(h:-1000000<=j)(g:j<=1000000):Xm i j:=.inr ⟨PP (by decide) h,KN g (by decide)⟩
theorem Vi(h:-1000000<=j)(g:j<=1000000):Pt (.int i) (.int j) S=.ok (.int (i * j)) S:=by
 show(if Xm i j then _ else _)=_;rw[qX (lh h g)]
theorem hG(h:0 < j)(g:j<=1000000):IY (.int i) (.int j) S=.ok (.int (i / j)) S:=by
 show(if iY i j then _ else _)=_;rw[qX ⟨h,by lia⟩]
theorem aA(h:0 < j):Kr (.int i) (.int j) S=.ok (.int (i % j)) S:=by
 show(if 0 < j then _ else _)=_;rw[qX h]
theorem FZ(g:ma e S=.ok x S1)(hb:j e S1=.ok y S2)(l:f x y S2=.ok d S3):m2 f ma j e S=.ok d S3:=by
 unfold m2;rw[g];dsimp only[Res.bind];rw[hb];dsimp only[Res.bind];rw[l];rfl
theorem Mf(h:m e S=.ok d S1):Ci i m e S=.ok (.nx (e.set i (some d))) S1:=by
 unfold Ci Wt;rw[h];rfl
theorem JJ(h:m e S=.ok d S1):EQ m e S=.ok (.rt d) S1:=by
 unfold EQ;rw[h];rfl
theorem KB(h:m e S=.ok d S1):Eb m e S=.ok (.nx e) S1:=by
 unfold Eb;rw[h];rfl
theorem Nq(h:t e S=.ok c S1):sIf t a b e S=if c=true then a e S1 else b e S1:=by
 unfold sIf;rw[h];rfl
theorem gV(h:t e S=.ok c S1):Vl t a b e S=if c=true then a e S1 else b e S1:=by
 unfold Vl;rw[h];rfl
theorem OF(h:m e S=.ok v S1):Fy m g b e S=MF v g b (D1 v S1) 0 e S1:=by
 unfold Fy;rw[h];rfl
theorem Hw(h:m e S=.ok ds S1)(g:ds.length=n):B2 n f m e S=f ds S1:=by
 unfold B2;rw[h];dsimp only[Res.bind];rw[qX g]
theorem Ck(h:a e S=.ok (.nx e1) S1):BO a b e S=b e1 S1:=by unfold BO;rw[h];rfl
theorem eI(h:a e S=.ok (.rt d) S1):BO a b e S=.ok (.rt d) S1:=by unfold BO;rw[h];rfl
theorem VJ(h:a e S=.ok (.ex c e1) S1):BO a b e S=.ok (.ex c e1) S1:=by unfold BO;rw[h];rfl
theorem Mm(h:g (FS n ds) S=.ok (.rt d) S1):ER n g ds S=.ok d S1:=by unfold ER;rw[h];rfl
theorem Yi(h:g (FS n ds) S=.ok (.nx e) S1):ER n g ds S=.ok .non S1:=by unfold ER;rw[h];rfl
theorem R7(h:g (FS n ds) S=.ok (.ex c e) S1):ER n g ds S=.err c S1:=by unfold ER;rw[h];rfl
noncomputable def Keeps(S g:Sto):Prop:=S.length<=g.length/\∀j,j < S.length->g[j]?=S[j]?
theorem Keeps.refl(S:Sto):Keeps S S:=⟨AO _,λ_ _=>rfl⟩
theorem Keeps.trans(a:Keeps S S1)(b:Keeps S1 S2):Keeps S S2:=⟨Au a.1 b.1,λj h=>(b.2 j (AW h a.1)).trans (a.2 j h)⟩
theorem Keeps.app(S:Sto)(G:Sto):Keeps S (S++G):=⟨by simp,λj h=>Al h⟩
theorem Keeps.set(a:Keeps S S1)(h:S.length<=m)(o:Ob):Keeps S (S1.set m o):=⟨by simpa using a.1,λj g=>by rw[Af (by lia)];exact a.2 j g⟩
theorem Keeps.at{S S1:Sto}(a:Keeps S S1){j:Nat}{o:Ob}(h:S[j]?=some o):S1[j]?=some o:=by
 rw[a.2 j (AF.mp h).1];exact h
theorem WC(g:mo e S=.ok (.ref n) S1)(j:S1[n]?=some (.lst xs))(l:ma e S1=.ok y S2)(m:S2[n]?=some (.lst xs2))(o:xs2.length < sizeLine) :
  MD mo ma e S=.ok .non (S2.set n (.lst (xs2++[y]))):=by
 unfold MD;rw[g];dsimp only[Res.bind];rw[j];dsimp only;rw[l];dsimp only[Res.bind];rw[m];dsimp only;rw[qX o]
theorem jS(h:xs.length+ys.length<=sizeLine):Ge (.tup xs) (.tup ys) S=.ok (.tup (xs++ys)) S:=by
 unfold Ge;dsimp only;rw[qX h]
theorem EZ(h:S[n]?=some (.lst xs)):GU (.ref n) S=some xs:=by
 unfold GU GV;dsimp only;rw[h]
theorem JO(h:m e S=.ok (.ref n) S1)(g:S1[n]?=some (.lst xs)):GC m e S=.ok (GU (.ref n)) S1:=by
 unfold GC;rw[h];dsimp only[Res.bind];rw[EZ g]
theorem XJ(h:m e S=.ok (.tup xs) S1):GC m e S=.ok (L6 xs) S1:=by
 unfold GC;rw[h];rfl
theorem Yp(h:ml e S=.ok ds S1):Ga ml e S=.ok (.ref S1.length) (S1++[.lst ds]):=by
 unfold Ga;rw[h];rfl
theorem GD(S:Sto)(o:Ob):(S++[o])[S.length]?=some o:=by simp
theorem Hz(h:S[n]?=some (.lst ds)):IA (.ref n) S=some ds:=by
 unfold IA;dsimp only;rw[h]
theorem SV(h:S[n]?=some (.lst ds)):LZ (.ref n) S=some ds:=by
 unfold LZ;dsimp only;rw[h]
theorem NH(h:m e S=.ok d S1)(hi:LZ d S1=some ds)(g:Kn ds=some es):Ft m e S=.ok (.ref S1.length) (S1++[.lst es]):=by
 unfold Ft;rw[h];dsimp only[Res.bind];rw[hi];dsimp only;rw[g]
theorem Oe(h:m e S=.ok d S1)(g:IA d S1=some ds):Gq m e S=.ok (.tup ds) S1:=by
 unfold Gq;rw[h];dsimp only[Res.bind];rw[g]
theorem Y4(h:m e S=.ok d S1)(g:IA d S1=some ds):Nd m e S=.ok (.int ds.length) S1:=by
 unfold Nd;rw[h];dsimp only[Res.bind];rw[g]
theorem Q9(g:mv e S=.ok v S1)(ho:mo e S1=.ok (.ref n) S2)(j:S2[n]?=some (.ins C fs))(l:fs.length < 1000) :
  JH C f mo mv e S=.ok (.nx e) (S2.set n (.ins C (Jh f v fs))):=by
 unfold JH;rw[g];dsimp only[Res.lift];rw[ho];dsimp only[Res.lift];rw[j];dsimp only;rw[qX ⟨rfl,l⟩]
theorem Lc(h:m e S=.ok (.ref n) S1)(g:S1[n]?=some (.ins C fs))(j:fs.lookup f=some v):DZ C f m e S=.ok v S1:=by
 unfold DZ;rw[h];dsimp only[Res.bind];rw[g];dsimp only;rw[qX rfl,j]
theorem aC(h:ml e S=.ok ds S1)(g:ds.length+1=n)(j:f (.ref S1.length :: ds) (S1++[.ins C []])=.ok .non S2):No C n f ml e S=.ok (.ref S1.length) S2:=by
 unfold No;rw[h];dsimp only[Res.bind];rw[qX g,j]
theorem CP(h:m e S=.ok d S1)(g:r e S1=.ok ds S2):AR m r e S=.ok (d :: ds) S2:=by
 unfold AR;rw[h];dsimp only[Res.bind];rw[g]
theorem V5(h:mi e S=.ok v S1):HZ n mi g c m e S=Gw v g c m (D1 v S1) 0 (BM n none++e) S1 []:=by
 unfold HZ;rw[h];rfl
theorem WG(h:m e S=.ok (.bl b) S1):mB m e S=.ok b S1:=by
 unfold mB;rw[h];rfl
theorem lm(j:ma e S=.ok x S1)(hb:l e S1=.ok y S2)(m:f x y S2=.ok (.bl true) S3)(o:s e S3=.ok w A)(B:g y w A=.ok d S5):m3 f g ma l s e S=.ok d S5:=by
 unfold m3;rw[j];dsimp only[Res.bind];rw[hb];dsimp only[Res.bind];rw[m];dsimp only[Res.bind,okR];rw[o];dsimp only[Res.bind];rw[B]
theorem sX(j:ma e S=.ok x S1)(hb:l e S1=.ok y S2)(m:f x y S2=.ok (.bl false) S3):m3 f g ma l o e S=.ok (.bl false) S3:=by
 unfold m3;rw[j];dsimp only[Res.bind];rw[hb];dsimp only[Res.bind];rw[m];rfl
theorem gC(h:decide (i<=j)=b):leD (.int i) (.int j) S=.ok (.bl b) S:=by subst h;rfl
theorem oh(h:decide (i < j)=b):ltD (.int i) (.int j) S=.ok (.bl b) S:=by subst h;rfl
theorem pU(h:decide (j<=i)=b):geD (.int i) (.int j) S=.ok (.bl b) S:=by subst h;rfl
theorem pd(h:decide (i=j)=b):eqD false (.int i) (.int j) S=.ok (.bl b) S:=by
 subst h;show Res.ok (D.bl (i==j)) S=_;rfl
theorem fP(h:m e S=.ok b S1):Qu m e S=.ok (!b) S1:=by
 unfold Qu;rw[h];rfl
theorem Zy(h:m e S=.err c S1):Ci i m e S=.ok (.ex c e) S1:=by
 unfold Ci Wt;rw[h];rfl
theorem W1(h:ml e S=.ok ds S1)(g:ds.length<=30):R5 C ml e S=.ok (.ex C e) S1:=by
 unfold R5;rw[h];dsimp only[Res.lift];rw[qX (Au g (by decide))]
theorem mz(hb:b e S=.ok (.nx e1) S1):bZ g i b h e S=.ok (.nx e1) S1:=by
 unfold bZ;rw[hb];rfl
theorem m6(hb:b e S=.ok (.ex c e1) S1)(g:c∈j)(l:h (e1.set i (some (.exc c))) S1=.ok (.nx e2) S2):bZ j i b h e S=.ok (.nx (e2.set i none)) S2:=by
 unfold bZ;rw[hb];dsimp only[Res.bind];rw[qX g,l]
theorem YX(h:ml e S=.ok ds S1)(g:ds.length<=1000):Nc ml e S=.ok (.tup ds) S1:=by
 unfold Nc;rw[h];dsimp only[Res.bind];rw[qX (Au g (by decide))]
theorem Y6(h:m e S=.ok (.exc C) S1)(hb:tabC C=some b):mIs g tabC m e S=.ok (.bl b) S1:=by
 unfold mIs;rw[h];dsimp only[Res.bind];rw[hb]
theorem si(h:m e S=.ok d S1)(j:tyD d S1=some T)(hb:g T=some b):mIs g tabC m e S=.ok (.bl b) S1:=by
 unfold mIs;rw[h];dsimp only[Res.bind]
 cases d with
 | exc C=>cases j
 | _=>dsimp only;rw[j];dsimp only;rw[hb]
theorem oH(h:g e S=.ok false S1):mOr g j e S=j e S1:=by
 unfold mOr;rw[h];rfl
theorem rY(h:m e S=.ok d S1)(g:IA d S1=some ds):XC m e S=.ok ds S1:=by
 unfold XC;rw[h];dsimp only[Res.bind];rw[g]
theorem jm(h:ml e S=.ok ds S1)(g:f ds S1=.ok d S2):mQ f ml e S=.ok d S2:=by
 unfold mQ;rw[h];dsimp only[Res.bind];rw[g];rfl
theorem Mr(h:S[n]?=some (.lst ds)):Nf (.ref n) S=some ds:=by
 unfold Nf;dsimp only;rw[h]
noncomputable def ch:Nat->Nat->Nat
 | _,0=>1
 | 0,_+1=>0
 | n+1,k+1=>ch n k+ch n (k+1)
theorem RL(n:Nat):ch n 0=1:=by cases n <;> rfl
theorem ZK:∀{n k:Nat},n < k->ch n k=0
 | 0,k+1,_=>rfl
 | n+1,k+1,h=>by
  show ch n k+ch n (k+1)=0;rw[ZK (by lia),ZK (by lia)]
theorem ak:∀n:Nat,ch n n=1
 | 0=>rfl
 | n+1=>by
  show ch n n+ch n (n+1)=1;rw[ak n,ZK (by lia)]
theorem V9:∀n k:Nat,((k:Int)+1) * ch n (k+1)=((n:Int) - k) * ch n k
 | 0,0=>by simp[ch]
 | 0,k+1=>by simp[ch]
 | n+1,0=>by
  have:=V9 n 0;rw[RL]at this ⊢;show((0:Nat)+1:Int) * ((ch n 0+ch n 1:Nat):Int)=_;rw[RL]
  push_cast
  simp at this ⊢
  lia
 | n+1,k+1=>by
  have g:=V9 n k;have j:=V9 n (k+1);show(((k+1:Nat):Int)+1) * ((ch n (k+1)+ch n (k+2):Nat):Int)=(((n+1:Nat):Int) - ((k+1:Nat):Int)) * ((ch n k+ch n (k+1):Nat):Int)
  push_cast at g j ⊢
  grind
theorem iK:∀{n k:Nat},k<=n->0 < ch n k
 | n,0,_=>by rw[RL];exact Nat.zero_lt_one
 | n+1,k+1,h=>by
  show 0 < ch n k+ch n (k+1);have:=iK (n:=n) (k:=k) (by lia)
  lia
theorem gd(j:Nat):∀d:Nat,((Bl (d+1)).map λi=>ch (i+j) j).sum=ch (d+j+1) (j+1)
 | 0=>by
  simp[ak]
 | d+1=>by
  rw[Im,BZ,S6,gd j d];show _=ch (d+1+j) j+ch (d+1+j) (j+1);rw[As,Jb,OZ,List.sum_nil,show d+1+j=d+j+1 by lia]
  lia
open PySem PySem.Spec PyProof.Rows
section
variable{X:Cx}{E:EW}{e:Expr}
noncomputable def og:ME:=λ_ _=>.bad
theorem gv:GE X E e og:=λ_ _ _ _ _ _ ⟨_,_,_,_,_,g⟩=>g.elim
end
noncomputable def tCs(g:List V):TA:=λ_ H Q=>Q g H
section
variable{X:Cx}{E:EW}{e:Expr}{es:List Expr}{p pos p2:Pos}{x1:Nat}{m:ME}{Cs:List AN}{tabC:AN->Option Bool}
theorem sG:PA X [] (tCs []):=IM
theorem fE(h:PE X e (tC c))(g:PA X es (tCs j))(l:AQ (e :: es) X.env=(false,Bd e X.env) :: AQ es X.env:=by rfl):PA X (e :: es) (tCs (c :: j)):=FB h g l
noncomputable def rIsT(K:AD)(Cs:List AN):List V->Hp->VK->Prop:=λj H Q=>
 ∃a o u C b g,j=[.ref a,.ref g]/\H a=some (.frz o u)/\Tp o C/\XIs K C/\H g=some (.tup (Cs.map V.ref))/\EX K (.ref C) (Cs.map Ai)=some b/\Q (.bl b) H
theorem Tx:∀{l:List AN} {us:List AE},Bf (l.map V.ref) us->us=l.map Ai
 | [],_,.nil=>rfl
 | a :: l,_,.cons r t=>by rw[Tx t,show _=Ai a from r];rfl
theorem iM:Kv X (.builtin "isinstance") (rIsT X.K Cs):=by
 intro S s U H Y Z Q I r h;obtain⟨a,o,u,C,b,j,rfl,B,G,J,L,e,q⟩:=h;obtain⟨v,w,rfl,N,O⟩:=vals2 r;cases(show v=Ai a from N);cases(show w=Ai j from O);obtain⟨g,_⟩:=(show Cz X.prog X.w H s.heap a (.frz o u)from I.hok a _ B);obtain⟨_,is,P,⟨cl,dd,dt,sl⟩,R,l,n,A⟩:=(show Cz X.prog X.w H s.heap j (.tup (Cs.map V.ref))from I.hok j _ L);dsimp only at l A;subst l A;rw[<-Tx P]at e
 exact PySem.W.kia_tup (XG J) I.kIn ⟨o,g,G⟩ R e (λz=>nomatch z) λtk=>⟨.bl b,H,I.tok tk,rfl,q⟩
noncomputable def fm(tabC:AN->Option Bool)(m:ME):ME:=λe S=>(m e S).bind λd g=>match d with
 | .exc C=>match tabC C with
  | some b=>.ok (.bl b) g
  | none=>.bad
 | _=>.bad
theorem pP(A:∀C b,tabC C=some b->XIs X.K C/\EX X.K (.ref C) (Cs.map Ai)=some b)(I:Cs.length<=1000)
  (J:Gl X "isinstance") (j:X.mg "isinstance" = none) (h:GE X E e m) (L:PA X es (tCs (Cs.map V.ref)))
  (B:AQ [e,.Tuple es x1 p2] X.env=(false,Bd e X.env) :: AQ [.Tuple es x1 p2] X.env:=by rfl) (N:AQ [.Tuple es x1 p2] X.env=(false,Bd (.Tuple es x1 p2) X.env) :: AQ [] X.env:=by rfl) (O:(Da pos (AQ [.Tuple es x1 p2] X.env)).any (·.1)=false:=by rfl) :
  GE X E (.Call (.Name "isinstance" p) [e,.Tuple es x1 p2] [] pos) (fm tabC m):=
 (Mo iM J j OQ (FB h (FB (e7 L) IM N) B) (by decide) (by decide) B O).imp<|by
 rintro σ H Q ⟨P,l,S,R,U,j⟩
 refine⟨P,l,S,R,U,j.seq λd S1 j s H1 x Y Z r1=>⟨by rw[AJ];exact Au I (by decide),λtp hp=>?_⟩⟩
 cases d with
 | exc C=>
  dsimp only at j
  cases hb:tabC C with
  | none=>rw[hb]at j;exact j.elim
  | some b=>
   rw[hb]at j;obtain⟨s2,G⟩:=Fq (ho:=.tup (Cs.map V.ref)) Z hp
   cases r1 with
   | @exc _ a o u g xo=>
    exact⟨a,o,u,C,b,tp,rfl,G.frz _ _ _ g,xo,(A C b hb).1,Bc,(A C b hb).2,j s _ _ (Y.trans G) s2 (.bl _)⟩
 | _=>exact j.elim
end
section
variable{X:Cx}{E:EW}{e:Expr}{p pos:Pos}{m:ME}
noncomputable def Vm(m:ME):ME:=λe S=>(m e S).bind λd g=>match d with
 | .int i=>.ok (.int i) g
 | .bl k=>.ok (.int (if k then 1 else 0)) g
 | _=>.bad
theorem V1(G:Gl X "int") (g:X.mg "int" = none) (h:GE X E e m) (o:AQ [e] X.env=(false,Bd e X.env) :: AQ [] X.env:=by rfl):GE X E (.Call (.Name "int" p) [e] [] pos) (Vm m):=
 (UF cb G g tq (FB h IM o) (by decide) (by decide) o rfl).imp<|by
 rintro N H Q ⟨I,l,S,J,L,g⟩
 refine⟨I,l,S,J,L,g.seq λd O g j s x A B C=>?_⟩
 cases d <;> first | exact g.elim | skip
 ·cases C
  exact .inr ⟨_,rfl,g j s _ A B (.int _)⟩
 ·cases C
  exact .inl ⟨_,rfl,g j s _ A B (.int _)⟩
end
end L2
namespace PySem
open Sem (wp)
theorem Mq(l:AN)(items:Array AE)(n:Nat)(B:Option AN)(sl:Array (Option AE)) :
  Meets (N4.«enumerate.__new__» ⟨[.type "enumerate",.ref l],[]⟩) (λ_ R s=>s.heap.get? l=some { cls:=.type "tuple",dict:=B,data:=.seq items n,slots:=sl } /\
   R (.ok (.ret (.ref (s.heap.push { cls:=.type "tuple_iterator",data:=.fields #[.ref l,.int 0 0] }).objs.size)))
    { s with heap:=(s.heap.push { cls:=.type "tuple_iterator",data:=.fields #[.ref l,.int 0 0] }).push { cls:=.type "enumerate",data:=.fields #[.none,.bool false,.ref s.heap.objs.size,EV 0,.none,.none] } }):=
 .of_wp λo w A R s h=>by
  obtain⟨C,g,d,tk,os⟩:=s;obtain⟨j,h⟩:=h;have E:=sub_enumerate;have m:CS.IsTuple (AK.heap ⟨C,g,d,tk,os⟩) l items:=⟨_,j,rfl,n,rfl⟩
  wp_walk using GM j
  refine wpAny_stack_any λst=>AG ?_
  split
  ·rename_i c _ _ _ _ _
   cases(c==G1 "enumerate")
   ·wp_walk using GM j,Ha m
    exact⟨_,rfl,h⟩
   ·wp_walk using GM j,Ha m
    exact⟨_,rfl,h⟩
  ·wp_walk using GM j,Ha m
   exact⟨_,rfl,h⟩
section
variable{w:Bu}{A:Bw}{E:AE->AK->Prop}{s:AK}
theorem M2(G:s.heap.IsTuple l g)
  (h:∀h',Ur h' (s.heap.objs.size+1) s.heap.objs.size 0 .none->h'.IsTupleIter s.heap.objs.size l 0->h'.objs.size=s.heap.objs.size+2 ->
   (∀b o,s.heap.get? b=some o->h'.get? b=some o)->Q (.ref (s.heap.objs.size+1)) { s with heap:=h' }) :
  AY (Ad prog w) A (call (.type "enumerate") [.ref l]) Q E s:=by
 obtain⟨⟨c,I,J,sl⟩,L,j,n,m⟩:=G
 replace j:c=.type "tuple":=j
 replace m:J=.seq g n:=m
 subst j m
 refine callType_new F.called_enumerate (by decide) (F.typeCall_enumerate_1 _) (F.newCall_enumerate_1 _) (λobj=>F.args_object_init_2 obj _) F.entry_enumerate_new
  (Mq l g n I sl) ⟨L,?_⟩
 have B:(s.heap.push { cls:=.type "tuple_iterator",data:=.fields #[.ref l,.int 0 0] }).objs.size=s.heap.objs.size+1:=Cb ..;show _/\_;rw[B]
 have C:Ur ((s.heap.push { cls:=.type "tuple_iterator",data:=.fields #[.ref l,.int 0 0] }).push
   { cls:=.type "enumerate",data:=.fields #[.none,.bool false,.ref s.heap.objs.size,EV 0,.none,.none] }) (s.heap.objs.size+1) s.heap.objs.size 0 .none:=by
  have:=Aa (s.heap.push { cls:=.type "tuple_iterator",data:=.fields #[.ref l,.int 0 0] })
   (o:={ cls:=.type "enumerate",data:=.fields #[.none,.bool false,.ref s.heap.objs.size,EV 0,.none,.none] }) rfl
  rw[B]at this;exact this
 refine⟨⟨_,C,rfl⟩,h _ C ⟨_,AI _ (Aa _ rfl),rfl,rfl⟩ (by rw[Cb,B]) λb o x=>AI _ (AI _ x)⟩
theorem On{it t}{i}{g}{x}{Q}(j:s.heap.IsTupleIter it t i)
  (B:s.heap.IsTuple t g) (C:g[i]?=some x)
  (G:∀h',h'.IsTupleIter it t (i+1)->Du it s.heap h'->Q x { s with heap:=h' }) :
  AY (Ad prog w) A (Bv (.ref it)) Q E s:=by
 obtain⟨o,m,I,l⟩:=id j;obtain⟨N,J,_,O,L⟩:=B;unfold Bv
 refine AA (Ce (name:=E0 "__next__") j.typeIs GR
  (Cj GR j.typeIs WM ?_ (Ut _)))
 show AY _ _ (WK (.ref it) 0 >>= _) _ _ s;refine AA (CJ m l (x:=.ref t) rfl ?_);show AY _ _ (if (Ai t==BI)=true then _ else _) _ _ s;rw[qY (show ¬((Ai t==BI)=true)from AT)];show AY _ _ (WK (.ref it) 1 >>= _) _ _ s;refine AA (CJ m l (x:=.int i 0) rfl ?_);show AY _ _ (Ug (.ref t) >>= _) _ _ s;refine AA (Ex J L ?_);simp only[Am,C];refine AA (Gk m l (by simp) (AG ⟨x,rfl,AG (G _ ?_ (Hd ..))⟩))
 exact⟨_,BY _ m (FM (Cc l _)),(Kw ..).trans I,by
  rw[Cc l];simp[EV]⟩
theorem Kq{it t}{i}{g}{Q}(C:A.handled=none)
  (j:s.heap.IsTupleIter it t i) (G:s.heap.IsTuple t g) (I:g[i]?=none)
  (J:∀h' e,Zf it s.heap h'->(∃o,h'.get? e=some o/\o.cls=.type "StopIteration")->E (.ref e) { s with heap:=h' }) :
  AY (Ad prog w) A (Bv (.ref it)) Q E s:=by
 obtain⟨o,l,O,B⟩:=id j;obtain⟨P,L,_,R,N⟩:=G;unfold Bv
 refine AA (Ce (name:=E0 "__next__") j.typeIs GR
  (Cj GR j.typeIs WM ?_ (Ut _)))
 show AY _ _ (WK (.ref it) 0 >>= _) _ _ s;refine AA (CJ l B (x:=.ref t) rfl ?_);show AY _ _ (if (Ai t==BI)=true then _ else _) _ _ s;rw[qY (show ¬((Ai t==BI)=true)from AT)];show AY _ _ (WK (.ref it) 1 >>= _) _ _ s;refine AA (CJ l B (x:=.int i 0) rfl ?_);show AY _ _ (Ug (.ref t) >>= _) _ _ s;refine AA (Ex L N ?_);simp only[Am,I];refine AA (Xy (AA (Gk l B (by simp) ?_)));show AY _ _ (newExc (.type "StopIteration") [] >>= _) _ _ _;refine AA ?_;simp only[newExc,newTuple];refine AA (CG ?_ (by size_fits));refine AA (m:=PK _ _) (WH (a:=BI) (by first | rfl | (simp only[PK];rfl)) ?_);refine CG ?_ (by size_fits);simp only[raiseNew];refine AA (wpAny_handled ?_)
 first | rw[show A.in1.handled=none from C] | rw[C]
 refine AA (AG (wpAny_throw ?_));exact J _ _ (((Hd ..).extBut.push _).push _) ⟨_,Aa _ rfl,rfl⟩
theorem Xk(G:A.handled=none)(it l:AN)(I:l≠it)(g:Array AE) :
  Draws prog w A it [it,l] g.size (λi v=>g[i]?=some v) (λi h=>h.IsTupleIter it l i/\h.IsTuple l g) where
 live:=λ_ _ st=>let ⟨o,j,_⟩:=st.1;⟨o,j⟩
 frame:=λ_ _ _ st m=>⟨st.1.at λo e=>m it (by simp) o e,let ⟨o,j,r⟩:=st.2;⟨o,m l (by simp) o j,r⟩⟩
 item:=λi s Q E B st J=>by
  refine On st.1 st.2 (x:=g[i]) (by simp[B]) λL N C=>?_
  exact J _ L s.toks (by simp[B]) ⟨N,st.2.extBut C.extBut I⟩ C
 done:=λs Q E st O=>Kq G st.1 st.2 (by simp) O
theorem Nb{e it l:AN}{i:Nat}{g:Array AE}{old:AE}{Q:Option AE->AK->Prop}(C:A.handled=none)
  (m:Ur s.heap e it i old) (j:s.heap.IsTupleIter it l i) (G:s.heap.IsTuple l g) (I:g[i]?=none)
  (J:∀h',Zf it s.heap h'->Q none { s with heap:=h' }):AY (Ad prog w) A (Hc (.ref e)) Q E s:=by
 have B:s.TypeIs (.ref e) "enumerate":=⟨_,m,rfl⟩;unfold Hc
 refine AA (Fv (Ce (name:=E0 "__next__") B dB
  (Cj dB B F.entry_enumerate_next ?_ (F.args_enumerate_next_1 _))))
 show AY _ _ (WK (.ref e) 2 >>= _) _ _ _;refine AA (CJ m rfl (x:=.ref it) rfl ?_);refine AA (Kq C j G I λh' x L N=>?_);obtain⟨o,O,P⟩:=N;refine AA (Ue (T:="StopIteration") (b:=true) ⟨o,O,P⟩ X6 ?_);exact AG (J _ L)
end
end PySem
namespace L2
open PySem PySem.Spec PyProof.Rows
theorem Inv.turned2(I:Inv X B G H s)(k:∀b u,b≠e->b≠it->s.heap.get? b=some u->h'.get? b=some u)
  (j:MK X B H e) (l:MK X B H it) (C:s.heap.objs.size<=a) (new:Cz X.prog X.w (upd H a o) h' a o):Inv X B G (upd H a o) { s with heap:=h',toks:=t' }:=by
 have A:=I.hok.fresh C
 have E:∀b u,H b=some u->b≠e/\b≠it:=λb u q=>⟨λz=>(by rw[z,j.1]at q;cases q),λz=>(by rw[z,l.1]at q;cases q)⟩
 have out:∀b:AN,b∉[e,it]->b≠e/\b≠it:=λb hb=>⟨λz=>hb (by simp[z]),λz=>hb (by simp[z])⟩
 refine I.step (g':=s.gens) (d':=s.drawn) (ch:=[e,it]) (λb hb=>?_) (λb o _ _ g q _=>k b o (out b g).1 (out b g).2 q) (λb o _ _ g q _=>⟨o.slots,k b o (out b g).1 (out b g).2 q⟩) (λb o _ q n=>?_)
  (λb o g q=>⟨o,k b o (out b g).1 (out b g).2 q⟩) (λb J q=>by rw[BA (BU q A)];exact q) (λb o u q=>by rw[BA (BU q A)];exact q) (λb R q=>⟨#[],by rw[BA (BU q A),q];simp⟩) (λm L=>?_) (λb u q=>?_) I.bare
 ·have N:b=e∨b=it:=by simpa using hb
  rcases N with z | z
  ·subst z;exact⟨j.2.2.2.1,j.2.1,j.2.2.2.2.1,j.2.2.2.2.2⟩
  ·subst z;exact⟨l.2.2.2.1,l.2.1,l.2.2.2.2.1,l.2.2.2.2.2⟩
 ·rw[BA (Ao (AW (AL q) C))];exact n
 ·obtain⟨o,O,P,Q,r⟩:=L
  exact⟨o,O,P,k _ o (BW j.2.1) (BW l.2.1) Q,r⟩
 ·by_cases hb:b=a
  ·subst hb;rw[Bc]at q;cases q;exact new
  ·rw[BA hb]at q
   refine(I.hok b u q).stay (λc v g r=>?_) (λc r=>by rw[BA (BU r A)];exact r) λc J r=>by rw[BA (BU r A)];exact r
   have:c≠e/\c≠it:=by
    rcases g with z | z
    ·rw[z];exact E b u q
    ·exact E c _ z
   exact k c v this.1 this.2 r
noncomputable def Ite(sq:Hp->List V->Prop):It:=
 ⟨λi H=>∃g x,sq H g/\g[i]?=some x,λi H y j=>∃p x,H p=none/\y=.ref p/\j=upd H p (.tup [.int i,x])/\∀g,sq H g->g[i]?=some x,λi H=>∃g,sq H g/\g.length<=i⟩
section
variable{P:BP}{w:Bu}{K:AD}{elts:List Expr}{x1:Nat}{pos:Pos}
theorem UU{X:Cx}{j:List (AN×Obj)}{m:St}{H:Hp}{s:AK}{E:AE->AK->Prop}{sq:Hp->List V->Prop}{e it:AN}{i:Nat}{x:V}{u:AE}{tk:Nat}{h':CS}{tn:Nat->CS->Prop}
  (I:Inv X j m H s) (uT:e≠it) (B:∀b∈[e,it],MK X j H b) (le:e < s.heap.objs.size) (O:it < s.heap.objs.size) (Q:RelV x u) (R:∀xs,sq H xs->xs[i]?=some x)
  (ho:IsEnumOut h' e it ((i:Int)+1) u s.heap.objs.size) (C:h'.get? s.heap.objs.size=some { cls:=.type "tuple",data:=.seq #[.int i tk,u] }) (S:∀b o,b≠e->b≠it->s.heap.get? b=some o->h'.get? b=some o)
  (U:∀h2,Du e h' h2->(∃old,Ur h2 e it ((i+1:Nat):Int) old)->tn (i+1) h2) :
  AY (Ad X.prog X.w) X.A (OP (.Tuple elts x1 pos) (.ref e) (.ref s.heap.objs.size)) (λ_ G=>∃y l,Inv X j m l G/\RelV y (.ref s.heap.objs.size)/\(Ite sq).yld i H y l/\tn (i+1) G.heap/\∀b∈[e,it],l b=none) E { s with heap:=h',toks:=tk+1 }:=by
 have g:=B e (by simp);have J:=B it (by simp);have L:e≠s.heap.objs.size:=Ao le;have Y:it≠s.heap.objs.size:=Ao O
 have new:Cz X.prog X.w (upd H s.heap.objs.size (.tup [.int i,x])) h' s.heap.objs.size (.tup [.int i,x]):=
  ⟨⟨Au (show 2<=1000 by decide) (by decide),_,C,rfl⟩,[.int i tk,u],.cons ⟨tk,rfl⟩ (.cons Q .nil),_,C,rfl,_,rfl⟩
 have Z:=I.turned2 (t':=tk+1) S g J (AO _) new
 refine wpAny_letOwnedTupleGo_enum (s:={ s with heap:=h',toks:=tk+1 }) ho λh2 uU uu=>?_
 have N:Du e h' h2:=uu;have I2:=Z.turned (t':=tk+1) (h':=h2) (it:=e) (λb o hb q=>(N.2 b hb).trans q) (by rw[BA L];exact g.1) g.2.1 g.2.2.2.1 g.2.2.2.2.1 g.2.2.2.2.2;refine⟨.ref s.heap.objs.size,_,I2,rfl,⟨s.heap.objs.size,x,I.hok.fresh (AO _),rfl,rfl,R⟩,U h2 N ⟨u,by rw[Int.natCast_add,Int.natCast_one];exact uU⟩,λb hb=>?_⟩
 have ux:b=e∨b=it:=by simpa using hb
 rcases ux with z | z
 ·rw[z,BA L];exact g.1
 ·rw[z,BA Y];exact J.1
theorem YW(a e it:AN)(m:e≠it):Tl P w K (.Tuple elts x1 pos) (Ite λH xs=>SqL K H a xs) [e,it] e (λi h=>(∃old,Ur h e it i old)/\h.IsListIter it a i) where
 mem:=by simp
 obj:=λi h st b hb=>by
  have Q:b=e∨b=it:=by simpa using hb
  rcases Q with z | z
  ·subst z
   obtain⟨⟨old,g⟩,_⟩:=st
   exact⟨_,g,λv z=>by
    have R:RX _=N3 v:=z
    cases R⟩
  ·subst z
   obtain⟨_,o,e,c,d⟩:=st;exact⟨o,e,λv z=>by rw[d]at z;cases z⟩
 keep:=λi h N st k=>⟨st.1.imp λold g=>k e (by simp) _ g,st.2.at λo q=>k it (by simp) o q⟩
 item:=by
  intro X A hw B O i S s U H E I C st G;subst A hw B;obtain⟨xs,x,l,J⟩:=G;obtain⟨Y,L,p,Z⟩:=I.list l;obtain⟨u,hu,ru⟩:=L.get J;obtain⟨⟨old,g⟩,j⟩:=st
  have li:it < s.heap.objs.size:=by obtain⟨o,q,_⟩:=j;exact AL q
  refine wpAny_pyNext_enum_item g j p.isList (x:=u) (by simpa using hu) m λN ho xC hT hsz hk=>?_
  exact⟨_,rfl,UU (sq:=λH xs=>SqL X.K H a xs) (tn:=λi h=>(∃old,Ur h e it i old)/\h.IsListIter it a i) I m C (AL g) li ru (λys hy=>by rw[I.list_inj hy l];exact J) ho hT hk λh2 uu uU=>⟨uU,xC.at λo q=>(uu.2 it (BW m)).trans q⟩⟩
 done:=by
  intro X A hw B O i S s U H E I C st G;subst A hw B;obtain⟨xs,l,J⟩:=G;obtain⟨Y,L,p,Z⟩:=I.list l;obtain⟨⟨old,g⟩,j⟩:=st;obtain⟨f0,f1,f2,f3,f4,f5⟩:=C it (by simp);have hl:=L.length
  exact wpAny_pyNext_enum_end (I.ok.hd O) g j p.isList (by simp;lia) λN eb=>⟨rfl,I.turned (t':=s.toks) (λb o hb e=>eb b o hb e) f0 f1 f3 f4 f5⟩
 self:=λ_ _ _ _ _ st h=>by
  obtain⟨⟨old,g⟩,_⟩:=st;exact MM g h
theorem YV(a e it:AN)(B:e≠it)(G:a≠it)(J:e≠a):Tl P w K (.Tuple elts x1 pos) (Ite λH xs=>SqT K H a xs) [e,it] e (λi h=>(∃old,Ur h e it i old)/\h.IsTupleIter it a i) where
 mem:=by simp
 obj:=λi h st b hb=>by
  have ux:b=e∨b=it:=by simpa using hb
  rcases ux with z | z
  ·subst z
   obtain⟨⟨old,g⟩,_⟩:=st
   exact⟨_,g,λv z=>by
    have z':RX _=N3 v:=z
    cases z'⟩
  ·subst z
   obtain⟨_,o,e,c,d⟩:=st;exact⟨o,e,λv z=>by rw[d]at z;cases z⟩
 keep:=λi h Y st k=>⟨st.1.imp λold g=>k e (by simp) _ g,st.2.at λo q=>k it (by simp) o q⟩
 item:=by
  intro X L hw N O i ζ s σ H E I Q st R;subst L hw N;obtain⟨xs,x,C,S⟩:=R;obtain⟨l,U,p,hz⟩:=I.tuple C;have p':s.heap.IsTuple a l.toArray:=p;obtain⟨u,Z,ru⟩:=U.get S
  have uE:i < l.toArray.size:=by
   have:=(AF.mp Z).1;simpa using this
  obtain⟨⟨old,g⟩,j⟩:=st
  have li:it < s.heap.objs.size:=by obtain⟨o,q,_⟩:=j;exact AL q
  refine wpAny_pyNext_enum_itemD (Xk (A:=X.A.in1) (I.ok.hd O) it a G l.toArray) g ⟨j,p'⟩ uE B (by simp[B,J]) λu' Y tk zG ho δ hT hsz hk=>?_
  have:u'=u:=by
   have m:l[i]?=some u':=by simpa using zG
   rw[Z]at m;cases m;rfl
  subst this;exact⟨_,rfl,UU (sq:=λH xs=>SqT X.K H a xs) (tn:=λi h=>(∃old,Ur h e it i old)/\h.IsTupleIter it a i) I B Q (AL g) li ru (λys hy=>by rw[I.tuple_inj hy C];exact S) ho hT hk λh2 uu uU=>⟨uU,δ.1.at λo q=>(uu.2 it (BW B)).trans q⟩⟩
 done:=by
  intro X L hw N O i ζ s σ H E I Q st R;subst L hw N;obtain⟨xs,C,S⟩:=R;obtain⟨l,U,p,hz⟩:=I.tuple C;obtain⟨⟨old,g⟩,j⟩:=st;obtain⟨f0,f1,f2,f3,f4,f5⟩:=Q it (by simp);have hl:=U.length
  exact Nb (I.ok.hd O) g j (show s.heap.IsTuple a l.toArray from p) (by simp;lia) λY eb=>⟨rfl,I.turned (t':=s.toks) (λb o hb e=>eb b o hb e) f0 f1 f3 f4 f5⟩
 self:=λ_ _ _ _ _ st h=>by
  obtain⟨⟨old,g⟩,_⟩:=st;exact MM g h
end
section
variable{X:Cx}{E:EW}{e:Expr}{elts:List Expr}{x1:Nat}{p pos yQ:Pos}{ta:TA}
noncomputable def tF(K:AD)(ta:TA):TI:=λl H R=>ta l H λm j=>∃a,m=[.ref a]/\(((∃g,SqL K j a g)/\R (Ite λH g=>SqL K H a g) j)∨((∃g,SqT K j a g)/\R (Ite λH g=>SqT K H a g) j))
theorem jz(S:Gl X "enumerate") (U:X.mg "enumerate" = none) (Y:PA X [e] ta) (Z:AQ [e] X.env=[(false,Bd e X.env)]:=by rfl):PI X (.Tuple elts x1 yQ) (.Call (.Name "enumerate" p) [e] [] pos) (tF X.K ta):=by
 intro L s σ H R I h;refine qV (IN I S U boot_enumerate (BJ (thn (Y pos L s σ H _ I h) λus g ⟨vs,A,j,r1,B⟩=>?_) Z rfl));obtain⟨a,rfl,B⟩:=B;obtain⟨u,rfl,ru⟩:=vals1 r1;cases ru
 have N:∀{h':CS} (b:AN),b∈[g.heap.objs.size+1,g.heap.objs.size]->MK X L A b:=λb hb=>by
  have ux:b=g.heap.objs.size+1∨b=g.heap.objs.size:=by simpa using hb
  rcases ux with z | z
  ·rw[z];exact j.fpOk (Ib _) (j.hok.fresh (Ib _))
  ·rw[z];exact j.fpOk (AO _) (j.hok.fresh (AO _))
 rcases B with⟨⟨xs,sq⟩,q⟩ | ⟨⟨xs,sq⟩,q⟩
 ·obtain⟨O,rv,C,hz⟩:=j.list sq
  refine call_enumerate_list C.isList λh' m l G J=>MM m ?_
  exact⟨_,[g.heap.objs.size+1,g.heap.objs.size],_,_,A,rfl,j.kept (t':=g.toks) J,YW a _ _ (iw _),⟨⟨_,m⟩,l⟩,N (h':=h'),q⟩
 ·obtain⟨O,rv,C,hz⟩:=j.tuple sq
  have P:g.heap.IsTuple a O.toArray:=C
  have Q:a < g.heap.objs.size:=by obtain⟨o,q,_⟩:=P;exact AL q
  refine M2 P λh' m l G J=>MM m ?_
  exact⟨_,[g.heap.objs.size+1,g.heap.objs.size],_,_,A,rfl,j.kept (t':=g.toks) J,YV a _ _ (iw _) (Ao Q) (DX (Kx Q)),⟨⟨_,m⟩,l⟩,N (h':=h'),q⟩
noncomputable def Sk(ds:List D):List D:=ds.zipIdx.map λx=>.tup [.int x.2,x.1]
noncomputable def Tw(v:OM):OM:=λS=>(v S).map Sk
noncomputable def Py(m:ME):MI:=λe S=>(m e S).bind λd g=>match GU d g with
 | some _=>.ok (Tw (GU d)) g
 | none=>.bad
theorem Sj(ds:List D)(i:Nat):(Sk ds)[i]?=(ds[i]?).map λd=>.tup [.int i,d]:=by
 unfold Sk;rw[Ae,Nm]
 cases ds[i]? <;> simp
theorem QO{K}{ρ}{H}{J}{v}{sq}(N:OL K ρ H J v)(O:∀i H,J.go i H->∃xs x,sq H xs/\xs[i]?=some x)(P:∀i H,J.stop i H->∃xs,sq H xs/\xs.length<=i)
  (Q:∀i H x,(∀xs,sq H xs->xs[i]?=some x)->J.yld i H x H):OL K ρ H (Ite sq) (Tw v):=by
 intro B j S ds i l s m;unfold Tw at m
 cases C:v S with
 | none=>rw[C]at m;cases m
 | some g=>
  rw[C]at m;cases m;obtain⟨R,U⟩:=N B j S g i l s C;refine⟨λG=>?_,λd o=>?_⟩
  ·rw[Sj]at G
   refine P i j (R ?_)
   cases A:g[i]? with
   | none=>rfl
   | some d=>rw[A]at G;cases G
  ·rw[Sj]at o
   cases A:g[i]? with
   | none=>rw[A]at o;cases o
   | some Y=>
    rw[A]at o;cases o;obtain⟨Z,b2⟩:=U Y A;refine⟨O i j Z,λy H' hy=>?_⟩;obtain⟨p,x,hp,rfl,rfl,hx⟩:=hy;obtain⟨I,l3,s3,r3⟩:=b2 x j (Q i j x hx);obtain⟨s4,L⟩:=Fq (ho:=.tup [.int i,x]) s3 hp;exact⟨I,l3.trans L,s4,.tup Bc (.cons (.int _) (.cons (r3.mono L) .nil))⟩
theorem aN(J:Gl X "enumerate") (g:X.mg "enumerate" = none) (h:GE X E e m) (B:AQ [e] X.env=[(false,Bd e X.env)]:=by rfl):GI X E (.Tuple elts x1 yQ) (.Call (.Name "enumerate" p) [e] [] pos) (Py m):=
 (jz J g (FB h IM B) B).imp<|by
 rintro σ H R ⟨L,l,S,N,O,g⟩
 refine⟨L,l,S,N,O,g.seq λd P g j C x G A o=>?_⟩
 cases d with
 | tup Q=>
  have U:=g
  cases o with
  | @tup _ a Y I Z=>
   exact⟨a,rfl,.inr ⟨⟨Y,.inl (.inl I)⟩,U j C _ G A (QO (Rc I Z) (λi H z=>z) (λi H z=>z) λi H x z=>⟨rfl,z⟩)⟩⟩
 | _=>
  cases s:GU _ P with
  | none=>rw[s]at g;exact g.elim
  | some Q=>
   rw[s]at g
   have:∃a,x=.ref a:=by
    cases o <;> first | exact⟨_,rfl⟩ | (cases s;done)
   obtain⟨a,rfl⟩:=this;obtain⟨xs,sq,_⟩:=Iy A o s;exact⟨a,rfl,.inl ⟨⟨xs,sq⟩,g j C _ G A (QO (Rf o) (λi H z=>z) (λi H z=>z) λi H x z=>⟨rfl,z⟩)⟩⟩
end
section
theorem Z7{s:AK}{o:Obj}{h':CS}(g:∀b u,b∉[s.heap.objs.size]->(s.heap.push o).get? b=some u->h'.get? b=some u):∀b u,s.heap.get? b=some u->h'.get? b=some u:=λb u e=>
 g b u (λj=>zX (Ab.mp j▸AL e) (Cf _)) (AI _ e)
theorem lw{s:AK}{o:Obj}{l:AN}(g:l < s.heap.objs.size):∀b∈[s.heap.objs.size,l],b < (s.heap.push o).objs.size:=λb hb=>by
 rw[Cb]
 have j:b=s.heap.objs.size∨b=l:=by simpa using hb
 rcases j with rfl | rfl
 ·exact C0 _
 ·exact Kx g
end
open PySem
theorem OK{g:Type}{xs:List g}{j:Int}{x:g}(h0:0<=j)(h:xs[j.toNat]?=some x):atI xs j=some x:=by
 have l:=(AF.mp h).1;unfold atI ixN;rw[qX (by omega),qX (by lia)];simpa using h
theorem cL(h:m e S=.err c S1):Eb m e S=.ok (.ex c e) S1:=by
 unfold Eb;rw[h];rfl
theorem ff(h:ml e S=.ok ds S1)(g:ds.length+1=n)(j:f (.ref S1.length :: ds) (S1++[.ins C []])=.err c S2):No C n f ml e S=.err c S2:=by
 unfold No;rw[h];dsimp only[Res.bind];rw[qX g,j]
theorem Ik{P:AN->Prop}:∀C∈([]:List AN),P C:=λ_ h=>zX h Bq
theorem all_cons{P:AN->Prop}{a:AN}{l:List AN}(h:P a)(t:∀C∈l,P C):∀C∈a :: l,P C:=λC g=>by
 rcases Aq.mp g with e | g
 ·rw[e];exact h
 ·exact t C g
theorem U6{P:AN->Bool->Prop}{al ex:List AN}(g:∀C∈al,P C true)(j:∀C∈ex,C∉al->P C false)(C:AN)(b:Bool)(e:(if C∈al then some true else if C∈ex then some false else none)=some b):P C b:=by
 split at e
 ·cases e;exact g C ‹_›
 ·split at e
  ·cases e;exact j C ‹_› ‹_›
  ·cases e
theorem Xf{K:AD}{v:AE}:EX K v []=some false:=by simp only[EX]
theorem Kc{K:AD}{v t:AE}{ts:List AE}(h:Bb K v t=some false):EX K v (t :: ts)=EX K v ts:=by simp only[EX,h]
theorem sg{g:Type}:∀{l:List g},l.length=1->∃j,l=[j]
 | [a],_=>⟨a,rfl⟩
theorem sf{j:Type}:∀{l:List j},l.length=2->∃m g,l=[m,g]
 | y :: _,q=>by
  obtain⟨g,rfl⟩:=sg (OR q);exact⟨y,g,rfl⟩
theorem se{m:Type}:∀{l:List m},l.length=3->∃o g j,l=[o,g,j]
 | y :: _,q=>by
  obtain⟨g,j,rfl⟩:=sf (OR q);exact⟨y,g,j,rfl⟩
theorem len4{o:Type}:∀{l:List o},l.length=4->∃s g j m,l=[s,g,j,m]
 | y :: _,q=>by
  obtain⟨g,j,m,rfl⟩:=se (OR q);exact⟨y,g,j,m,rfl⟩
open PySem PySem.Spec PyProof.Rows
section
noncomputable def R6(i:Nat)(g:Int->Int->Int)(m:ME):MS:=λe S=>match e[i]? with
 | some (some (.int x))=>(m e S).lift e λd j=>match d with
  | .int y=>.ok (.nx (e.set i (some (.int (g x y))))) j
  | _=>.bad
 | _=>.bad
theorem pF(C:X.N.Nodup)(hi:X.N[i]?=some x)(G:Loc X.env.scope x)(I:PIp X op (ipI g))(J:GE X E e m)
  (L:X.fn x=true∨X.env.scope.names.lookup x=some .local:=by first | exact .inl rfl | exact .inr rfl | assumption):GS X E (.AugAssign (.Name x A) op e pos) (R6 i g m):=(na C hi G J I L).imp<|by
 rintro D σ H ⟨O,l,S,o,P,j⟩
 unfold R6 at j;split at j
 ·rename_i n Q
  obtain⟨v,R,U⟩:=o.at' i _ Q;cases U;refine⟨_,R,O,l,S,o,P,j.lift o .refl λd S1 j s Y y B Z r1=>?_⟩
  cases d with
  | int y=>cases r1;exact⟨n,y,rfl,rfl,j s Y _ B Z ((o.mono B).set (.int _) i)⟩
  | _=>exact j.elim
 ·exact j.elim
end
noncomputable def Itv(K:AD)(a:AN)(n:Nat):It:=
 ⟨λi H=>∃g x,SqL K H a g/\g.length=n/\g.reverse[i]?=some x,λi H x j=>j=H/\∀g,SqL K H a g->g.reverse[i]?=some x,λi H=>∃g,SqL K H a g/\g.length=n/\n<=i⟩
theorem dq{P}{w}{K}{tg}(a it:AN)(n:Nat):Tl P w K tg (Itv K a n) [it] it (λi h=>i<=n/\h.IsRevIter it a ((n:Int) - 1 - i)) where
 mem:=by simp
 obj:=λi h st b hb=>by
  have e:b=it:=by simpa using hb
  subst e;obtain⟨_,o,e,c,d⟩:=st;exact⟨o,e,λv z=>by rw[d]at z;cases z⟩
 keep:=λi h g st k=>⟨st.1,st.2.at λo e=>k it (by simp) o e⟩
 item:=by
  intro X m hw A S i U s Y H E I j st B;subst m hw A;obtain⟨yr,st⟩:=st;obtain⟨C,x,G,Z,l⟩:=B
  have hi:i < n:=by have:=(AF.mp l).1;simpa[Z]using this
  have vA:=l;rw[List.getElem?_reverse (by lia)]at vA;obtain⟨i',rv,p,hz⟩:=I.list G;obtain⟨u,hu,ru⟩:=rv.get vA;obtain⟨J,L,f2,N,O,Q⟩:=j it (by simp)
  have R:(n:Int) - 1 - (i:Int)=((C.length - 1 - i:Nat):Int):=by lia
  rw[R]at st
  refine wpAny_pyNext_rev_item st p.isList (x:=u) (by simpa using hu) λg t7 sb=>?_
  have I1:Inv X U Y H { s with heap:=g }:=I.turned (t':=s.toks) (λb o hb e=>(sb.2 b hb).trans e) J L N O Q;obtain⟨o,e,c,d⟩:=id t7;refine⟨u,rfl,aM (s:={ s with heap:=g }) e c d (by decide) ⟨x,H,I1,ru,⟨rfl,λys hy=>by rw[I.list_inj hy G];exact l⟩,⟨hi,?_⟩,λb hb=>(j b hb).1⟩⟩
  have e1:(n:Int) - 1 - ((i+1:Nat):Int)=((C.length - 1 - i:Nat):Int) - 1:=by lia
  rw[e1];exact t7
 done:=by
  intro X m hw A S i U s Y H E I j st B;subst m hw A;obtain⟨yr,st⟩:=st;obtain⟨C,G,Z,l⟩:=B;obtain⟨J,L,f2,N,O,Q⟩:=j it (by simp)
  have R:(n:Int) - 1 - (i:Int) = -1:=by lia
  rw[R]at st
  exact wpAny_pyNext_rev_end (I.ok.hd S) st λg eb=>⟨rfl,I.turned (t':=s.toks) (λb o hb e=>eb b o hb e) J L N O Q⟩
 self:=λ_ _ _ _ _ st h=>il st.2 h
section
noncomputable def sw(K:AD)(l:TA):TI:=λm H R=>l m H λo g=>∃a j,o=[.ref a]/\SqL K g a j/\R (Itv K a j.length) g
theorem nq(A:Gl X "reversed") (B:X.mg "reversed" = none) (C:PA X [e] E) (G:AQ [e] X.env=[(false,Bd e X.env)]:=by rfl):PI X tg (.Call (.Name "reversed" p) [e] [] pos) (sw X.K E):=by
 intro J s L H R I h;refine qV (IN I A B boot_reversed (BJ (thn (C pos J s L H _ I h) λus g ⟨vs,N,l,O,P⟩=>?_) G rfl));obtain⟨a,m,rfl,sq,q⟩:=P;obtain⟨u,rfl,Q⟩:=vals1 O;cases Q;obtain⟨S,U,Y,hz⟩:=l.list sq;have Z:=U.length;refine call_reversed_list Y.isList ?_;have j:(g.heap.push (revObj a ((S.toArray.size:Int) - 1))).IsRevIter g.heap.objs.size a ((m.length:Int) - 1 - ((0:Nat):Int)):=⟨_,Aa _ rfl,rfl,by simp[revObj,Z]⟩;refine il j ⟨g.heap.objs.size,[g.heap.objs.size],_,_,N,rfl,l.kept (t':=g.toks) λb o e=>AI _ e,dq a _ m.length,⟨Dx _,j⟩,λb hb=>?_,q⟩
 have e:b=g.heap.objs.size:=by simpa using hb
 subst e;exact l.fpOk (AO _) (l.hok.fresh (AO _))
noncomputable def WZ(d:D)(n:Nat):OM:=λS=>match Nf d S with
 | some g=>if g.length=n then some g.reverse else none
 | none=>none
noncomputable def aK(m:ME):MI:=λe S=>(m e S).bind λd g=>match Nf d g with
 | some j=>.ok (WZ d j.length) g
 | none=>.bad
theorem YL{K}{ρ}{H}{a}{d}{n}(r:Bs K ρ H d (.ref a)):OL K ρ H (Itv K a n) (WZ d n):=by
 intro j L S N i l s g;unfold WZ at g;split at g
 ·rename_i O m
  split at g
  ·rename_i A
   cases g;obtain⟨P,o,e,B,sq⟩:=Ih s (r.mono l) m;cases e;have Q:=B.length;refine⟨λE=>⟨o,sq,by lia,?_⟩,λd G=>?_⟩
   ·have:=DK.mp E
    rw[OS]at this
    lia
   ·obtain⟨x,C,I⟩:=B.reverse.get G
    refine⟨⟨o,x,sq,by lia,C⟩,λy R ⟨e,J⟩=>?_⟩;subst e;have:=J o sq;rw[C]at this;cases this;exact⟨j,.refl,s,I⟩
  ·cases g
 ·cases g
theorem pK(C:Gl X "reversed") (g:X.mg "reversed" = none) (h:GE X E e m) (s:AQ [e] X.env=[(false,Bd e X.env)]:=by rfl):GI X E tg (.Call (.Name "reversed" p) [e] [] pos) (aK m):=
 (nq C g (FB h IM s) s).imp<|by
 rintro U H R ⟨G,l,S,I,J,g⟩
 refine⟨G,l,S,I,J,g.seq λd L g j N x O A B=>?_⟩
 cases o:Nf d L with
 | none=>rw[o]at g;exact g.elim
 | some Y=>
  rw[o]at g;obtain⟨a,P,rfl,Q,sq⟩:=Ih A B o;refine⟨a,P,rfl,sq,g j N _ O A ?_⟩;rw[<-Q.length];exact YL B
noncomputable def Mn(lo:Int)(n:Nat):List V:=(Bl n).map λk:Nat=>V.int (lo+k)
theorem Wx{lo}:∀{n:Nat} {g:List AE},g.length=n->(∀(k:Nat) v,g[k]?=some v->∃t,v=.int (lo+k) t)->Bf (Mn lo n) g
 | 0,g,j,_=>by
  have:g=[]:=IV j;subst this;exact .nil
 | n+1,g,j,h=>by
  cases g with
  | nil=>cases j
  | cons v r=>
   have l:r.length=n:=OR j;obtain⟨t,e⟩:=h 0 v rfl
   have m:=Wx (lo:=lo+1) l λk v o=>by
    obtain⟨t,e⟩:=h (k+1) v o;exact⟨t,by rw[e];congr 1;lia⟩
   have s:Mn lo (n+1)=.int lo :: Mn (lo+1) n:=by
    unfold Mn;rw[HR,As,BX]
    congr 1
    ·congr 1;lia
    ·apply CN
     intro k _;show V.int (lo+((k+1:Nat):Int))=V.int (lo+1+k)
     congr 1
     lia
   rw[s];refine .cons ⟨t,?_⟩ m;rw[e]
   congr 1
   lia
theorem jg{K}{ρ}{H}(lo:Int)(n:Nat):Ak K ρ H (HY lo n) (Mn lo n):=by
 unfold HY Mn
 induction Bl n with
 | nil=>exact .nil
 | cons k r g=>exact .cons (.int _) g
end
open PySem PySem.Spec PyProof.Rows
section
theorem Wz{K}{ρ}{H}:∀{ns:ZLi} {vs:List V},Ak K ρ H (ns.map D.int) vs->vs=ns.map V.int
 | [],_,.nil=>rfl
 | n :: ns,_,.cons r t=>by
  cases r;rw[Wz t];rfl
end
open PySem PySem.Spec PyProof.Rows
section
noncomputable def jW(l:TA):TE:=λm H Q=>l m H λo g=>∃j:Int,o=[.int j]/\(-1000000<=j/\j<=1000000)/\∀q,g q=none->Q (.ref q) (upd g q (.lst (Mn 0 (j - 0).toNat)))
theorem bq(L:X.calm=true)(N:Gl X "list") (O:X.mg "list" = none) (P:Gl X "range") (R:X.mg "range" = none) (S:PA X [a] U)
  (Y:AQ [a] X.env=[(false,Bd a X.env)]:=by rfl)
  (C:AQ [.Call (.Name "range" m) [a] [] l] X.env=(false,Bd (.Call (.Name "range" m) [a] [] l) X.env) :: AQ [] X.env:=by rfl) :
  PE X (.Call (.Name "list" p) [.Call (.Name "range" m) [a] [] l] [] pos) (jW U):=by
 intro Z s σ H Q I hq;refine EG (IN I N O Qz ?_ (by decide) (by decide));refine BJ ?_ C rfl;rw[C];show AY _ _ (qK ((false,Bd (.Call (.Name "range" m) [a] [] l) X.env) :: Da pos (AQ [] X.env))) _ _ s;refine Oa ?_;refine qV (IN I P R mL (BJ (thn (S l Z s σ H _ I hq) λus A ⟨vs,H1,E,r1,q1⟩=>?_) Y rfl));obtain⟨j,e,⟨b3,b4⟩,q⟩:=q1;subst e
 cases r1 with
 | cons r rr=>
  cases rr;obtain⟨t,rfl⟩:=r;refine call_range_1 ?_;refine PQ ?_
  have hn:QI 0 j 1=((j - 0).toNat:Nat):=by rw[rangeSize_one];split <;> lia
  refine call_list_range (I.ok.hd L) (lU ..) (small_one (fx (by lia)) (gh (by lia)) (fx b3) (gh b4)) hn (Au (show(j - 0).toNat<=2000000 by lia) (by decide)) λh' tk g c' hk hS B=>?_
  have k:∀b o,A.heap.get? b=some o->h'.get? b=some o:=λb o e=>hk b o (AI _ e)
  have G:Bf (Mn 0 (j - 0).toNat) g.toList:=Wx (by have:=B.1;simpa using this) λk v hv=>by
   obtain⟨t,e⟩:=B.2 k v (by simpa using hv);exact⟨t,by rw[e];congr 1;lia⟩
  have hl:(Mn 0 (j - 0).toNat).length<=sizeLine:=by
   rw[G.length,show g.toList.length=(j - 0).toNat by have:=B.1;simpa using this];exact Au (show(j - 0).toNat<=2000000 by lia) (by decide)
  have J:∀o,A.heap.objs.size<=(A.heap.push o).objs.size:=λo=>by rw[Cb];exact Ib _
  refine⟨.ref _,upd H1 _ (.lst (Mn 0 (j - 0).toNat)),E.laid (t':=tk) k (J _) ?_,rfl,q _ (E.hok.fresh (J _))⟩;exact⟨hl,g.toList,c',G,by simpa using hS⟩
noncomputable def RF(ml:ML):ML:=λe S=>(ml e S).bind λg l=>match g with
 | [.int j]=>if -1000000<=j/\j<=1000000 then .ok (HY 0 (j - 0).toNat) l else .bad
 | _=>.bad
theorem cF(G:X.calm=true)(I:Gl X "list") (g:X.mg "list" = none) (J:Gl X "range") (L:X.mg "range" = none) (N:GA X E [a] ml)
  (m:AQ [a] X.env=[(false,Bd a X.env)]:=by rfl)
  (O:AQ [.Call (.Name "range" A) [a] [] B] X.env=(false,Bd (.Call (.Name "range" A) [a] [] B) X.env) :: AQ [] X.env:=by rfl) :
  GL X E (.Call (.Name "list" p) [.Call (.Name "range" A) [a] [] B] [] pos) (RF ml):=(bq G I g J L N m O).imp<|by
 rintro σ H Q ⟨P,l,S,R,m,g⟩
 refine⟨P,l,S,R,m,g.seq λds S1 g U H1 xs C o Y=>?_⟩;split at g
 ·rename_i j
  split at g
  ·rename_i hb
   cases Y with
   | cons r Z=>
    cases Z;cases r;refine⟨j,rfl,hb,λq s=>?_⟩;obtain⟨s4,l4⟩:=Fq (ho:=.lst (Mn 0 (j - 0).toNat)) o s;exact g _ _ q _ (C.trans l4) s4 (jg _ _) Bc (λn z=>o.notIn s z) (C.back m o s)
  ·exact g.elim
 ·exact g.elim
end
open PySem PySem.Spec PyProof.Rows
noncomputable def mIns(mo mi m:ME):ME:=λe S=>(mo e S).bind λd j=>match atL d j with
 | some (n,_)=>(mi e j).bind λx o=>(m e o).bind λy l=>match atL d l,x with
  | some (_,g),.int i=>if 0<=i/\i < 1000000/\g.length+1<=sizeLine then .ok .non (l.set n (.lst (g.take i.toNat++[y]++g.drop i.toNat)))else .bad
  | _,_=>.bad
 | none=>.bad
noncomputable def UL(mo mi:ME):ME:=λe S=>(mo e S).bind λd g=>match atL d g with
 | some (n,_)=>(mi e g).bind λx j=>match atL d j,x with
  | some (_,l),.int i=>if 0<=i/\i < 1000000 then(match l[i.toNat]? with
   | some y=>.ok y (j.set n (.lst (l.eraseIdx i.toNat)))
   | none=>.bad)else .bad
  | _,_=>.bad
 | none=>.bad
theorem Ak.erase{K}{ρ}{H}:∀{ds:List D} {vs:List V},Ak K ρ H ds vs->∀k,Ak K ρ H (ds.eraseIdx k) (vs.eraseIdx k)
 | _,_,.nil,k=>.nil
 | _,_,.cons r t,k=>by
  cases k with
  | zero=>exact t
  | succ k=>exact .cons r (Ak.erase t k)
section
theorem kc(ho:GE X E o mo)(he:GE X E e mi)(uh:Ei o "pop" X.env (Bd o X.env)=Bd o X.env:=by rfl)
  (vO:((Da m (AQ [e] X.env)).all (λx=>!x.1)&&(X9 m (PJ [] X.env)).all (λx=>x.1.isSome)
    &&decide ([e].length+([]:List Xu).length+(if ([]:List Xu).isEmpty then 0 else 1) < 30))=true:=by rfl)
  (ui:(j.endLine==m.line)=true:=by rfl) (s:AQ [e] X.env=(false,Bd e X.env) :: AQ [] X.env:=by rfl) (uJ:(Da m (AQ [] X.env)).any (·.1)=false:=by rfl) :
  GE X E (.Call (.Attribute o "pop" j) [e] [] m) (UL mo mi):=(lf Kh PySem.F.slot_list_pop PySem.F.type_list_pop fW ho (FB he IM s) uh vO ui s uJ).imp<|by
 rintro σ H Q ⟨ρ,l,S,L,s,g⟩
 refine⟨ρ,l,S,L,s,g.seq λd N g A H1 v B O P=>?_⟩
 cases C:atL d N with
 | none=>rw[C]at g;exact g.elim
 | some z=>
  obtain⟨n,xs0⟩:=z;rw[C]at g;dsimp only at g;obtain⟨rfl,h0,a,G,rfl,hn,e0,_⟩:=P9 O P C;refine⟨.inl ⟨rfl,G,.inl (.inl e0)⟩,A,l,N,L.mono B,O,(g.later B).seq λx S2 g I H2 u R U r2=>?_⟩;split at g
  ·rename_i n' xs i h2
   split at g
   ·rename_i J
    split at g
    ·rename_i y hy
     obtain⟨e',h4,a',Y,ea,uY,Z,rr⟩:=P9 U (P.mono R) h2;cases e';cases ea;cases r2;obtain⟨w,hw,uD⟩:=rr.get hy;obtain⟨s4,l4⟩:=RC U uY Z (rr.erase i.toNat);have uE:=(AF.mp hw).1;refine⟨a,Y,i,i.toNat,w,rfl,rfl,Z,qu (by decide) J.1,Int.lt_trans J.2 (by decide),?_,hw,g I _ _ (B.trans (R.trans l4)) s4 (uD.mono l4)⟩
     have:ixN Y.length i=some i.toNat:=by
      unfold ixN;rw[qX J.1,qX (by lia)]
     exact(Vq this).1
    ·exact g.elim
   ·exact g.elim
  ·exact g.elim
end
open PySem PySem.Spec PyProof.Rows
theorem Inv.turnedS{X:Cx}{l:List (AN×Obj)}{A:List (Option V)}{H:Hp}{s:AK}{h':CS}{t':Nat}{ch:List AN}{a:AN}{o:HO}(I:Inv X l A H s)(k:∀b u,b∉ch->s.heap.get? b=some u->h'.get? b=some u)
  (f:∀b∈ch,MK X l H b) (B:s.heap.objs.size<=a) (new:Cz X.prog X.w (upd H a o) h' a o):Inv X l A (upd H a o) { s with heap:=h',toks:=t' }:=by
 have j:=I.hok.fresh B
 have C:∀b u,H b=some u->b∉ch:=λb u q z=>by rw[(f b z).1]at q;cases q
 refine I.step (g':=s.gens) (d':=s.drawn) (ch:=ch) (λb hb=>⟨(f b hb).2.2.2.1,(f b hb).2.1,(f b hb).2.2.2.2.1,(f b hb).2.2.2.2.2⟩) (λb o _ _ g q _=>k b o g q) (λb o _ _ g q _=>⟨o.slots,k b o g q⟩) (λb o _ q n=>?_)
  (λb o g q=>⟨o,k b o g q⟩) (λb E q=>by rw[BA (BU q j)];exact q) (λb o u q=>by rw[BA (BU q j)];exact q) (λb O q=>⟨#[],by rw[BA (BU q j),q];simp⟩) (λm G=>?_) (λb u q=>?_) I.bare
 ·rw[BA (Ao (AW (AL q) B))];exact n
 ·obtain⟨o,J,L,N,r⟩:=G
  exact⟨o,J,L,k _ o (λz=>(f _ z).2.1 rfl) N,r⟩
 ·by_cases hb:b=a
  ·subst hb;rw[Bc]at q;cases q;exact new
  ·rw[BA hb]at q
   refine(I.hok b u q).stay (λc v g r=>?_) (λc r=>by rw[BA (BU r j)];exact r) λc E r=>by rw[BA (BU r j)];exact r
   refine k c v ?_ r
   rcases g with z | z
   ·rw[z];exact C b u q
   ·exact C c _ z
section
theorem ao{o:Obj}{vs:Array AE}(h:o.data=.fields vs)(v:Option AE):o.data≠.cell v:=λz=>by rw[h]at z;cases z
end
section
noncomputable def QM(xs ys:List D):List D:=(xs.zip ys).map λx=>.tup [x.1,x.2]
theorem Tu(xs ys:List D)(i:Nat):(QM xs ys)[i]?=(xs[i]?).bind λx=>(ys[i]?).map λy=>.tup [x,y]:=by
 unfold QM;rw[Ae,bA,YH]
 cases xs[i]? <;> cases ys[i]? <;> rfl
end
open PySem PySem.Spec PyProof.Rows
section
noncomputable instance(i j:Int):Decidable ((λ_ j:Int=>0<=j) i j):=inferInstanceAs (Decidable (0<=j))
noncomputable abbrev Qe:=intOp iX λi j=>.int (i * 2 ^ j.toNat)
noncomputable abbrev cf:=intOp (λ_ _=>True) λi j=>.int (BL i j)
theorem OB:OpR X (DV .LShift) (rD X.K Qe):=SH (λ_ _ _ _=>.int _) oJ
theorem Ve:OpR X (DV .BitAnd) (rD X.K cf):=NN (λ_ _ _ _=>.int _) oQ
theorem UQ:PIp X .BitOr (ipI λi j=>Be i j):=by
 intro A s B H x y v u Q I g l h;obtain⟨i,j,m,o,q⟩:=h;subst m;subst o;obtain⟨a,rfl⟩:=g;obtain⟨b,rfl⟩:=l;exact ior_int ⟨.int _,H,I.tok _,⟨_,rfl⟩,q⟩
theorem pA:PIp X .BitAnd (ipI λi j=>BL i j):=by
 intro A s B H x y v u Q I g l h;obtain⟨i,j,m,o,q⟩:=h;subst m;subst o;obtain⟨a,rfl⟩:=g;obtain⟨b,rfl⟩:=l;exact iand_int ⟨.int _,H,I.tok _,⟨_,rfl⟩,q⟩
end
noncomputable def L8(C:AN)(m:Str)(n:Nat)(f:List D->Sto->Res D)(mo:ME)(ml:ML):ME:=λe S=>(mo e S).bind λd g=>match d with
 | .ref k=>match g[k]? with
  | some (.ins l fs)=>if l=C/\fs.lookup m=none then(ml e g).bind λj o=>if j.length+1=n then f (.ref k :: j) o else .bad else .bad
  | _=>.bad
 | _=>.bad
theorem KVR.none{K}{ρ}{H}(f:Str):∀{x:List (Str×D)} {y:List (Str×V)},KVR K ρ H x y->x.lookup f=none->y.lookup f=none
 | _,_,.nil,_=>rfl
 | (g,a) :: x,(o,b) :: y,.cons r t,h=>by
  obtain⟨j,m⟩:=r;dsimp only at j m;subst j;rw[BQ]at h ⊢
  cases l:(f==g)with
  | true=>rw[l]at h;cases h
  | false=>rw[l]at h;exact KVR.none f t h
section
variable{X:Cx}{E:EW}{k n:Nat}{f C:AN}{m:Str}{mo:ME}{ml:ML}{g:List D->Sto->Res D}
theorem dv{t:TA}{N:St}{H:Hp}{Q:VK}(h:gE X.K E (L8 C m n g mo ml) N H Q):lY C m (spM X.K n g) [] (Uv E) (gE X.K E mo) (gA X.K E ml) N H Q:=by
 obtain⟨Y,l,S,O,Z,j⟩:=h;refine⟨Y,l,S,O,Z,j.seq λd P j A H1 x B R r1=>?_⟩
 cases d <;> first | exact j.elim | skip
 rename_i q;dsimp only at j
 cases s:P[q]? with
 | none=>rw[s]at j;exact j.elim
 | some ob=>
  rw[s]at j
  cases ob <;> first | exact j.elim | skip
  rename_i C' fs;dsimp only at j;split at j
  ·rename_i G
   obtain⟨G,V'⟩:=G;rw[G]at s
   cases r1 with
   | ref U=>
    obtain⟨dx,w6,e1,e2⟩:=R.ob q _ _ s U;refine⟨_,dx,w6,rfl,e1,KVR.none m e2 V',A,l,P,O.mono B,R,(j.later B).seq λds S2 j I H2 xs J s2 r2=>?_⟩;split at j
    ·rename_i o
     rw[Ba];exact⟨I,.ref q :: ds,S2,by simpa using o,.cons (.ref (J.pre _ _ U)) r2,s2,j.xk J λ_ _ k L H' z l' s' r'=>k L H' z (B.trans (J.trans l')) s' r'⟩
    ·exact j.elim
  ·exact j.elim
theorem NS{pl:Sem Bool}(ho:GE X E o mo)(c:Cls X.K C)(s:WF X.K C m f)(F:DI X.prog X.w X.K X.mg X.base CX k f fd ps (spM X.K n g))(B:Ls CX X (Uv E))(G:HP k X.A)(hb:Binds X.K fd ps [])(I:GA X E (e :: es) ml)
  (J:AQ (e :: es) X.env=(false,Bd e X.env) :: AQ es X.env:=by rfl) (L:(Da pos (AQ es X.env)).any (·.1)=false:=by rfl)
  (N:Bd (.Call (.Attribute o m j) (e :: es) [] pos) X.env=(do
   let l <-Bd o X.env
   QC j.atName
   let (f,fts) <-Gz [l] (cp l m pl)
   callWith pos f fts (Da pos (AQ (e :: es) X.env)) (X9 pos (PJ [] X.env))):=by rfl) :
  GE X E (.Call (.Attribute o m j) (e :: es) [] pos) (L8 C m n g mo ml):=
 (j7 (E:=Uv E) ho c s F G hb .nil B I J L N).imp λO H Q h=>dv (t:=gA X.K E ml) h
end
section
noncomputable def rm:V->List V->Hp->VK->Prop:=λx g H Q=>∃i,x=.int i/\g=[]/\Q (.int (DY i)) H
theorem kP:MtR X "int.bit_length" rm:=by
 intro l s m H x o v A Q I g j h;obtain⟨i,rfl,rfl,q⟩:=h;obtain⟨t,rfl⟩:=g;cases j;exact call_int_bit_length ⟨.int _,H,I.tok _,⟨_,rfl⟩,q⟩
noncomputable def aE(m:ME):ME:=λe S=>(m e S).bind λd g=>match d with
 | .int i=>.ok (.int (DY i)) g
 | _=>.bad
theorem kj(ho:GE X E o mo)(s:Ei o "bit_length" X.env (Bd o X.env)=Bd o X.env:=by rfl) (A:(g.endLine==B.line)=true:=by rfl) :
  GE X E (.Call (.Attribute o "bit_length" g) [] [] B) (aE mo):=(fD PySem.F.plainAttrs_int PySem.F.slot_int_bit_length PySem.F.type_int_bit_length kP ho s A).imp<|by
 rintro P H Q ⟨C,l,S,G,I,j⟩
 refine⟨C,l,S,G,I,j.seq λd R j m J v L N O=>?_⟩
 cases d <;> first | exact j.elim | skip
 cases O;exact⟨rfl,_,rfl,rfl,j m J _ L N (.int _)⟩
end
section
noncomputable def rj(K:AD):V->V->Hp->VK->Prop:=λo i H Q=>∃p g k z,o=.ref p/\i=.int k/\0<=k/\H p=some (.lst g)/\g[k.toNat]?=some z/\Q z H
theorem gr:tT X (rj X.K):=by
 intro O s P H o i R S Q I m A h;obtain⟨p,B,k,z,rfl,rfl,C,E,g,q⟩:=h;cases m;obtain⟨t,rfl⟩:=A;obtain⟨j,n,r,G,J⟩:=I.lst E
 obtain⟨u,L,N⟩:∃u,j[k.toNat]?=some u/\RelV z u:=r.get g
 have U:k.toNat < B.length:=(AF.mp g).1;have Y:=Pw;exact getItem_listL (l:=j) ⟨_,G,rfl,n,rfl⟩ C (by omega) L ⟨z,H,I,N,q⟩
noncomputable def Ws(g:Int->Int->Int)(mo mi mv:ME):MS:=λe S=>(mo e S).lift e λd o=>(mi e o).lift e λk j=>match atL d j,k with
 | some (_,s),.int i=>if 0<=i then(match s[i.toNat]? with
  | some (.int x)=>(mv e j).lift e λy l=>match y,atL d l with
   | .int y,some (n,m)=>if i.toNat < m.length then .ok (.nx e) (l.set n (.lst (m.set i.toNat (.int (g x y)))))else .bad
   | _,_=>.bad
  | _=>.bad)else .bad
 | _,_=>.bad
theorem kY(ho:GE X E o mo)(hi:GE X E i mi)(he:GE X E e mv)(hp:PIp X op (ipI g))
  (ha:∀I J new,augStore i I J new=(do Gz [new,I,J] (Xo I J new);qM [new,I,J] [];pure .next):=by intros;rfl):GS X E (.AugAssign (.Subscript o i tpos) op e pos) (Ws g mo mi mv):=
 (ju ho hi gr he hp Wo ha).imp<|by
 rintro D σ H ⟨ρ,l,S,s,hs,j⟩
 refine⟨ρ,l,S,s,hs,j.lift s .refl λd S1 j L H1 x m s1 r1=>⟨L,l,S1,s.mono m,s1,(j.later m).lift (s.mono m) m λk S2 j N H2 y A R r2=>?_⟩⟩;have B:=r1.mono A;split at j
 ·rename_i n xs i hq
  split at j
  ·rename_i U
   obtain⟨rfl,h5,a,vs,rfl,hn,e1,rr⟩:=P9 R B hq;cases r2;split at j
   ·rename_i x hx
    obtain⟨z,hz,rz⟩:=rr.get hx;cases rz;refine⟨a,vs,i,.int x,rfl,rfl,U,e1,hz,N,l,S2,s.mono (m.trans A),R,(j.later A).lift (s.mono (m.trans A)) (m.trans A) λy S3 j O H3 w P Y r3=>?_⟩;split at j
    ·rename_i y n3 zs xD
     split at j
     ·rename_i uE
      cases r3;obtain⟨_,h6,a3,C,e4,Ν,Z,G⟩:=P9 Y (B.mono P) xD;cases e4;obtain⟨s4,l4⟩:=RC Y Ν Z (G.set (.int (g x y)) i.toNat)
      have Q:ixN C.length i=some i.toNat:=by
       unfold ixN;rw[qX U,qX (by rw[<-G.length];omega)]
      exact⟨x,y,rfl,rfl,a,C,i,i.toNat,rfl,rfl,Z,Q,j O _ _ ((m.trans A).trans (P.trans l4)) s4 (s.mono ((m.trans A).trans (P.trans l4)))⟩
     ·exact j.elim
    ·exact j.elim
   ·exact j.elim
  ·exact j.elim
 ·exact j.elim
end
open PySem PySem.Spec PyProof.Rows PySem.SeqAt
section
variable{P:BP}{w:Bu}{K:AD}{mg:Str->Option AE}{base:CS}
theorem Gp(g:N.Nodup:=by decide +kernel)(j:∀x∈ps,sc.names.lookup x=some .local∨sc.names.lookup x=some .cell:=by decide +kernel)(l:∀y∈sc.names,y.2≠.free:=by decide +kernel)(m:sc.kind=.function:=by rfl)(o:sc.isCoroutine=false:=by rfl)(s:sc.isGenerator=false:=by rfl)(A:N.take ps.length=ps:=by rfl):Bi N ps sc:=⟨m,o,s,g,A,j,l⟩
theorem CF{x j}{st}{f}{fd}{N ps}{k n}(F:Fun K x j st f fd)(m:Bi N ps (Ay st))(G:ps.length=n){o}
  (I:∀(l:AE) (A:Bw) (g:List Env) (s:AK) (H:Hp) (E:XK),HP k (A.deeper (Nz j (Ay st) s.heap.objs.size f l))->Ku (V4 (CXG P w) P w K mg base N j (Ay st) f l A g s H E)->(A.deeper (Nz j (Ay st) s.heap.objs.size f l)).units+64 < Ez->N.Nodup ->
   ∀pn B,GSs ((V4 (CXG P w) P w K mg base N j (Ay st) f l A g s H E).w' pn B) B (Ij st) o) :
  DI P w K mg base (CXG P w) (k+1) f fd ps (spM K n (ER N.length o)):=pW F m G λl A g s H E C=>I l A g s H E C ⟨rfl,rfl,rfl⟩ C.units m.nd
end
section
variable{X:Cx}{E:EW}{e:Expr}
theorem Cy(i:Nat)(g:X.N.Nodup)(hi:X.N[i]?=some x:=by rfl)(j:Loc X.env.scope x:=by first | exact Sy rfl | exact QE rfl)(l:X.fn x=true∨X.env.scope.names.lookup x=some .local:=by first | exact .inl rfl | exact .inr rfl | assumption):GG X (.Name x pos) (tgN i):=ka (j6 g hi j l)
theorem CO(i:Nat)(j:X.N.Nodup)(l:GE X E e m)(hi:X.N[i]?=some x:=by rfl)(o:Loc X.env.scope x:=by first | exact Sy rfl | exact QE rfl)(s:Gy e (some (.Name x g)) pos.line X.env=pure false:=by rfl)
  (A:X.fn x=true∨X.env.scope.names.lookup x=some .local:=by first | exact .inl rfl | exact .inr rfl | assumption):GS X E (.Assign [.Name x g] e pos) (Ci i m):=pE j hi o l s A
theorem US(i:Nat)(l:X.N.Nodup)(o:PIp X op (ipI g))(s:GE X E e m)(hi:X.N[i]?=some x:=by rfl)(A:Loc X.env.scope x:=by first | exact Sy rfl | exact QE rfl)
  (B:X.fn x=true∨X.env.scope.names.lookup x=some .local:=by first | exact .inl rfl | exact .inr rfl | assumption):GS X E (.AugAssign (.Name x j) op e pos) (R6 i g m):=pF l hi A o s B
end
end L2
namespace PySem
open Sem (wp)
noncomputable def iW(prog:BP)(w:Bu)(A:Bw)(op:CmpOp)(P:Nat->AE->Prop)(m:Nat->Nat->Bool)(J:CS->Prop):Prop:=
 ∀i j g l (s:AK) (Q E:AE->AK->Prop),J s.heap->P i g->P j l->Q (.bool (m i j)) s->AY (Ad prog w) A (ir op g l) Q E s
section
noncomputable def Xh(g:List AN)(B:AN)(h h':CS):Prop:=∀b o,b∉g->b≠B->h.get? b=some o->h'.get? b=some o
theorem Yu(W:Walks prog w A.in1 z fp wr n P St)(Y:∀h h',J h->Xh wr B h h'->J h')(cm:iW prog w A.in1 .Lt P G J)(Z:B∉fp)(m:Nat) :
  ∀(j:Nat) (s:AK) (x:AE) (c:Nat),j+1+m=n->J s.heap->St (j+1) s.heap->P (GH G j) x->s.heap.get? B=some { cls:=.type "list",dict:=none,data:=.seq #[x,x] c,slots:=#[] } ->
   (∀v h' tk,P (GH G (n - 1)) v->Xh wr B s.heap h'->R (.ok (.ret v)) { s with heap:=h',toks:=tk })->JZ (Ad prog w) A (.builtin "min.loop" ⟨[.ref z,.none,.ref B],[]⟩) R s:=by
 have nw:B∉wr:=λh=>Z (W.sub _ h)
 have nm:(toString "min"++toString ".loop" : String) = "min.loop":=by decide
 induction m with
 | zero=>
  intro j s x c e hj st N I k;have e':j+1=n:=e;refine KI TL ?_;rw[Fh Ep _];refine(show AY _ A.in1 (Ug (.ref B) >>= _) _ _ s from AA (Ex I rfl ?_));refine(show AY _ A.in1 (tryCatch (Hc (.ref z)) _ >>= _) _ _ s from AA (PD (W.done s _ _ (e'▸st) λh1 tk E=>?_)));have L:=E B _ nw I;refine(show AY _ A.in1 (QB B (λ_=>#[]) >>= _) _ _ _ from AA (Fi L rfl (AA (PF (AG ?_)))))
  exact k x _ tk (by rw[<-e'];exact N) λb o C l g=>(At _ _ (BW l)).trans (E b o C g)
 | succ m ih=>
  intro j s x c e hj st N I k
  have lt:j+1 < n:=by lia
  refine KI TL ?_;rw[Fh Ep _];refine(show AY _ A.in1 (Ug (.ref B) >>= _) _ _ s from AA (Ex I rfl ?_));refine(show AY _ A.in1 (tryCatch (Hc (.ref z)) _ >>= _) _ _ s from AA (PD (W.item (j+1) s _ _ lt st λy h1 tk hy t7 E=>?_)));have L:=E B _ nw I
  have O:J h1:=Y _ _ hj λb o C _ g=>E b o C g
  refine(show AY _ A.in1 (tryCatch (Gz [y,y] (ir .Lt y x >>= _)) _ >>= _) _ _ _ from AA (PD (By (AA (cm (j+1) (GH G j) y x _ _ _ O hy N ?_)))));refine AA (By (DJ ?_));refine AA (PF (AG ?_))
  cases hb:G (j+1) (GH G j)with
  | true=>
   simp only[if_true];refine AA ?_;refine Fi L rfl (AA (PF ?_));rw[nm]
   have up:Xh wr B h1 (h1.update B λo=>{ o with data:=.seq #[y,y] (c+1) }):=λb o _ l g=>(At _ _ (BW l)).trans g
   refine AG ⟨JY Ep _,ih (j+1) _ y _ (by lia) (Y _ _ O λb o _ l g=>(At _ _ (BW l)).trans g) (W.frame _ _ _ t7 λb q o g=>(At _ _ λh:B=b=>Z (by rw[h];exact q)).trans g) (by simp only[GH,hb,if_true];exact hy) (BY _ L rfl) λv Q S U X=>?_⟩
   exact k v Q S U λb o C l g=>X b o C l ((At _ _ (BW l)).trans (E b o C g))
  | false=>
   simp only[CH,if_false];refine AA (PF ?_);rw[nm];refine AG ⟨JY Ep _,ih (j+1) _ x c (by lia) O t7 (by simp only[GH,hb,CH,if_false];exact N) L λv Q S U X=>?_⟩
   exact k v Q S U λb o C l g=>X b o C l (E b o C g)
theorem SL
  (h:AY (Ad prog w) A.in1 (dF x) (λit g=>∃z fp wr n P St B J,it=.ref z/\Walks prog w A.in1 z fp wr n P St/\St 0 g.heap/\(∀b∈fp,b < g.heap.objs.size)/\0 < n/\iW prog w A.in1 .Lt P B J/\J g.heap/\(∀h h',J h->Xh wr g.heap.objs.size h h'->J h') /\
   ∀v h' tk,P (GH B (n - 1)) v->(∀b o,b∉wr->g.heap.get? b=some o->h'.get? b=some o)->Q v { g with heap:=h',toks:=tk }) E s):AY (Ad prog w) A (call (.builtin "min") [x]) Q E s:=by
 have I:(toString "min"++toString ".loop" : String) = "min.loop":=by decide
 refine call_function_tree F.kind_min F.plain_min F.entry_min (F.args_min1 _) ?_;refine(show AY _ A.in1 (Na "min" ["key", "default"] 0 ⟨[],[]⟩ >>= _) _ _ s from AA (WH (show Na "min" ["key", "default"] 0 ⟨[],[]⟩=pure [none,none]from rfl) ?_));refine AA (AG (AA (Eh h (λit g C=>?_) λ_ _ e=>e)));obtain⟨z,fp,wr,n,P,St,B,J,rfl,W,st,R,S,U,X,L,k⟩:=C
 have G:g.heap.objs.size∉fp:=λq=>Cf _ (R _ q)
 have Y:g.heap.objs.size∉wr:=λq=>G (W.sub _ q)
 refine AA (CG ?_);rw[I];refine AG ⟨JY Ep _,?_⟩;refine KI TL ?_;rw[Fh Ep _];refine(show AY _ A.in1 (Ug (.ref g.heap.objs.size) >>= _) _ _ _ from AA (Ex (Aa _ rfl) rfl ?_));refine(show AY _ A.in1 (tryCatch (Hc (.ref z)) _ >>= _) _ _ _ from AA (PD (W.item 0 _ _ _ S (W.frame _ _ _ st λb _ o e=>AI _ e) λy Z tk hy t7 N=>?_)));have O:=N _ _ Y (Aa _ rfl)
 have old:∀b o,b∉wr->g.heap.get? b=some o->b≠g.heap.objs.size/\Z.get? b=some o:=λb o j m=>⟨Ao (AL m),N b o j (AI _ m)⟩
 refine(show AY _ A.in1 (QB g.heap.objs.size (λ_=>#[y,y]) >>= _) _ _ _ from AA (Fi O rfl ?_));rw[I];refine AG ⟨JY Ep _,Yu W L U G (n - 1) 0 _ y _ (by lia) (L _ _ X λb o j m l=>(At _ _ (BW m)).trans (old b o j l).2) (W.frame _ _ _ t7 λb q o l=>(At _ _ λh:g.heap.objs.size=b=>G (by rw[h];exact q)).trans l) hy (BY _ O rfl) λv C yR hv u0=>?_⟩
 exact k v C yR hv λb o j l=>u0 b o j (old b o j l).1 ((At _ _ (BW (old b o j l).1)).trans (old b o j l).2)
end
end PySem
namespace L2
open PySem PySem.Spec PyProof.Rows
section
variable{X:Cx}{e:Expr}
noncomputable def UC:List D->Option (List ZLi)
 | []=>some []
 | .tup g :: j=>match J9 g,UC j with
  | some r,some l=>some (r :: l)
  | _,_=>none
 | _ :: _=>none
theorem Ww:∀{ds:List D} {rs:List ZLi},UC ds=some rs->rs.length=ds.length/\∀(i:Nat) d,ds[i]?=some d->d=.tup ((rs.getD i []).map D.int)
 | [],rs,h=>by cases h;exact⟨rfl,λi d h=>by simp at h⟩
 | d :: ds,rs,h=>by
  cases d with
  | tup s=>
   unfold UC at h;split at h
   ·rename_i r j m o
    cases h;obtain⟨l,a⟩:=Ww o;refine⟨by simp[l],λi d g=>?_⟩
    cases i with
    | zero=>cases g;rw[Ov m];rfl
    | succ i=>exact a i d g
   ·cases h
  | _=>cases h
noncomputable def Yt(ds:List D)(S:Sto):Res D:=match UC ds with
 | some g=>match ds[GH (λi j=>HT.lexLt (g.getD i []) (g.getD j [])) (g.length - 1)]? with
  | some d=>.ok d S
  | none=>.bad
 | none=>.bad
noncomputable def lc(K:AD):List V->Hp->VK->Prop:=λm H Q=>∃(a:AN) (g:List V) (l:List ZLi) (v:V),m=[.ref a]/\(SqL K H a g∨SqT K H a g)/\g.length=l.length/\(∀(i:Nat) u,g[i]?=some u->∃b,u=.ref b/\SqT K H b ((l.getD i []).map V.int))/\g[GH (λi j=>HT.lexLt (l.getD i []) (l.getD j [])) (l.length - 1)]?=some v/\Q v H
theorem cX(hc:X.calm=true)(hu:X.A.units+64 < Ez):Kv X (.builtin "min") (lc X.K):=by
 intro ζ s σ H xs us Q I r h;obtain⟨a,J,m,v,rfl,sq,hl,tp,hv,q⟩:=h;obtain⟨u,rfl,ru⟩:=vals1 r;cases ru;have hh:=I.ok.hd hc
 have at_:∀g:List AE,Bf J g->∀(i:Nat) (x:AE),g[i]?=some x->∃b,x=.ref b/\∃L:List AE,s.heap.IsTuple b L.toArray/\Dt L (m.getD i []):=λg l i x B=>by
  obtain⟨y,hy,ry⟩:∃y,J[i]?=some y/\RelV y x:=by
   have N:i < g.toArray.size:=by rw[AZ];exact(AF.mp B).1
   obtain⟨y,C,E⟩:=Bf.at_ l N
   have:g.toArray[i]=x:=by simpa using(AF.mp B).2
   exact⟨y,C,this▸E⟩
  obtain⟨b,rfl,sb⟩:=tp i y hy;cases ry;obtain⟨L,rt,pt,_⟩:=I.tuple sb;exact⟨b,rfl,L,pt,intsAre_of rt⟩
 have O:∀g:List AE,Bf J g->0 < g.toArray.size:=λg l=>by
  have C:=(AF.mp hv).1;have E:=l.length;rw[AZ]
  lia
 have P:∀g:List AE,Bf J g->iW X.prog X.w X.A.in1 .Lt (λi v=>g.toArray[i]?=some v) (λi j=>HT.lexLt (m.getD i []) (m.getD j [])) (λG=>∀b o,s.heap.get? b=some o->G.get? b=some o):=λg l i j vi vj s' Q' E' hJ N hj hq=>by
  obtain⟨b,rfl,L,t1,n1⟩:=at_ g l i vi (by simpa using N);obtain⟨b',rfl,ts',t2,n2⟩:=at_ g l j vj (by simpa using hj);obtain⟨o,ho,r1⟩:=t1;obtain⟨Y,uw,r2⟩:=t2;exact HT.Y1 (A:=X.A.in1) ⟨o,hJ _ _ ho,r1⟩ ⟨Y,hJ _ _ uw,r2⟩ (by simpa using n1) (by simpa using n2) (by rw[Gu];lia) hq
 have stay:∀(Y:Obj) (C E:CS),(∀b o,s.heap.get? b=some o->C.get? b=some o)->Xh [s.heap.objs.size] (s.heap.push Y).objs.size C E->∀b o,s.heap.get? b=some o->E.get? b=some o:=λY C E q1 q2 b o e=>by
  have Z:=AL e;refine q2 b o (λhm=>?_) (λhm=>?_) (q1 b o e)
  ·exact zX (Ab.mp hm▸Z) (Cf _)
  ·rw[hm,Cb]at Z
   exact zX (Nat.lt_of_succ_lt Z) (Cf _)
 have fin:∀(g:List AE) (x:AE) (G:CS) (tk:Nat),Bf J g->g.toArray[GH (λi j=>HT.lexLt (m.getD i []) (m.getD j [])) (g.toArray.size - 1)]?=some x->(∀b o,s.heap.get? b=some o->G.get? b=some o)->EP X ζ σ Q x { s with heap:=G,toks:=tk }:=λg x G tk l B R=>by
  rw[List.getElem?_toArray,AZ]at B
  have N:GH (λi j=>HT.lexLt (m.getD i []) (m.getD j [])) (g.length - 1) < g.toArray.size:=by rw[AZ];exact(AF.mp B).1
  obtain⟨y,C,E⟩:=Bf.at_ l N
  have e1:g.toArray[GH (λi j=>HT.lexLt (m.getD i []) (m.getD j [])) (g.length - 1)]=x:=by simpa using(AF.mp B).2
  rw[e1]at E
  have e2:g.length=m.length:=by have:=l.length;lia
  rw[e2,hv]at C;cases C;exact⟨_,H,I.kept R,E,q⟩
 rcases sq with sq | sq
 ·obtain⟨g,l,S,hz⟩:=I.list sq
  have U:a < s.heap.objs.size:=by obtain⟨o,q,_⟩:=S.isList;exact AL q
  refine SL (qH S.isList ?_);exact⟨_,_,_,_,_,_,_,_,rfl,Walks.list (A:=X.A.in1) hh _ a (Ao U) g.toArray,⟨⟨_,Aa _ rfl,rfl,rfl⟩,S.isList.push _⟩,lw U,O g l,P g l,λb o e=>AI _ e,stay _,λx G tk B R=>fin g x G tk l B (Z7 R)⟩
 ·obtain⟨g,l,S,hz⟩:=I.tuple sq
  have xW:s.heap.IsTuple a g.toArray:=S
  have U:a < s.heap.objs.size:=by obtain⟨o,q,_⟩:=xW;exact AL q
  refine SL (Ha xW ?_);exact⟨_,_,_,_,_,_,_,_,rfl,Walks.tuple (A:=X.A.in1) hh _ a (Ao U) g.toArray,⟨⟨_,Aa _ rfl,rfl,rfl⟩,xW.push _⟩,lw U,O g l,P g l,λb o e=>AI _ e,stay _,λx G tk B R=>fin g x G tk l B (Z7 R)⟩
theorem ja:qB X.K (lc X.K) Yt:=λm H S R q o d U Q s j sq g k=>by
 unfold Yt at g;split at g
 ·rename_i A B
  obtain⟨C,E⟩:=Ww B;split at g
  ·rename_i Y G
   cases g;obtain⟨v,I,J⟩:=j.get G;refine⟨q,o,A,v,rfl,sq,by rw[<-j.length,C],λi u L=>?_,I,k m H _ .refl s J⟩;obtain⟨x,N,O⟩:=j.get' L;have e:=E i x N;subst e
   cases O with
   | tup l P=>rw[Wz P]at l;exact⟨_,rfl,.inl (.inl l)⟩
  ·cases g
 ·cases g
theorem ke(g:X.A.units+64 < Ez)(j:X.calm=true)(l:Gl X "min") (o:X.mg "min" = none) (h:GE X E e m) (s:AQ [e] X.env=(false,Bd e X.env) :: AQ [] X.env:=by rfl):GE X E (.Call (.Name "min" p) [e] [] pos) (mQ Yt (XC m)):=
 aO (cX j g) ja l o RQ (lu h) (by decide) (by decide) s
end
open PySem PySem.Spec PyProof.Rows
section
variable{K:AD}{ρ ρ':List AN}{H H':Hp}{S:Sto}{L:Key->Int}{m n:Nat}{a:AN}
mutual
theorem Bs.cut(p:∀(n:Nat) a,ρ[n]?=some a->ρ'[n]?=some a):∀{d:D} {v j:V},Bs K ρ H d v->Bs K ρ' H' d j->Bs K ρ H' d j
 | _,_,_,.non,.non=>.non
 | _,_,_,.bl _,.bl b=>.bl b
 | _,_,_,.int _,.int i=>.int i
 | _,_,_,.str _,.str x=>.str x
 | _,_,_,.tup _ r,.tup h g=>.tup h (Ak.cut p r g)
 | _,_,_,.fro _ r,.fro h g=>.fro h (Ak.cut p r g)
 | _,_,_,.ref h,.ref l=>by
  have e:=(p _ _ h).symm.trans l;cases e;exact .ref h
 | _,_,_,.exc _ _,.exc h e=>.exc h e
theorem Ak.cut(p:∀(n:Nat) a,ρ[n]?=some a->ρ'[n]?=some a):∀{d:List D} {v g:List V},Ak K ρ H d v->Ak K ρ' H' d g->Ak K ρ H' d g
 | _,_,_,.nil,.nil=>.nil
 | _,_,_,.cons r t,.cons j l=>.cons (Bs.cut p r j) (Ak.cut p t l)
end
theorem KVR.cut(p:∀(n:Nat) a,ρ[n]?=some a->ρ'[n]?=some a):∀{x:List (j×D)} {y z:List (j×V)},KVR K ρ H x y->KVR K ρ' H' x z->KVR K ρ H' x z
 | _,_,_,.nil,.nil=>.nil
 | _,_,_,.cons r t,.cons g l=>.cons ⟨g.1,r.2.cut p g.2⟩ (KVR.cut p t l)
theorem EF.cut(p:∀(n:Nat) a,ρ[n]?=some a->ρ'[n]?=some a)(h:EF K ρ H a o)(h':EF K ρ' H' a o):EF K ρ H' a o:=by
 cases o with
 | lst l=>obtain⟨_,_,r⟩:=h;obtain⟨g,e,j⟩:=h';exact⟨g,e,r.cut p j⟩
 | dK l=>obtain⟨_,_,r⟩:=h;obtain⟨g,e,j⟩:=h';exact⟨g,e,KVR.cut p r j⟩
 | dT l=>obtain⟨_,_,r⟩:=h;obtain⟨g,e,j⟩:=h';exact⟨g,e,KVR.cut p r j⟩
 | ins C l=>obtain⟨_,_,_,r⟩:=h;obtain⟨s,g,e,j⟩:=h';exact⟨s,g,e,KVR.cut p r j⟩
 | fK l=>obtain⟨_,_,_,r⟩:=h;obtain⟨s,g,e,j⟩:=h';exact⟨s,g,e,KVR.cut p r j⟩
 | fT l=>obtain⟨_,_,_,r⟩:=h;obtain⟨s,g,e,j⟩:=h';exact⟨s,g,e,KVR.cut p r j⟩
 | mem L=>exact h'
noncomputable def lK(L:Key->Int)(g:List (Key×D)):Prop:=(g.map (·.1)).Nodup/\∀x∈g,x.1∈Vj/\x.2=D.int (L x.1)
theorem aB:∀{g:List (Key×V)},(∀x∈g,x.2=V.int (L x.1))->KVR K ρ H (g.map λx=>(x.1,D.int (L x.1))) g
 | [],_=>.nil
 | (k,v) :: l,h=>.cons ⟨rfl,by rw[show v=V.int (L k)from h _ (Ah ..)];exact .int _⟩ (aB λx j=>h x (AS _ j))
theorem XF:∀{j:List (Key×D)} {us:List (Key×V)},KVR K ρ H j us->(∀x∈j,x.1∈Vj/\x.2=D.int (L x.1))->∀x∈us,x.1∈Vj/\x.2=V.int (L x.1)
 | _,_,.nil,_,x,g=>by cases g
 | (k,d) :: l,(B,v) :: us,.cons r t,h,x,g=>by
  rcases Aq.mp g with rfl | g
  ·obtain⟨e,r⟩:=r
   dsimp only at e r ⊢;subst e;obtain⟨o,s⟩:=h _ (Ah ..);dsimp only at o s;rw[s]at r;cases r;exact⟨o,rfl⟩
  ·exact XF t (λy A=>h y (AS _ A)) x g
theorem aG(r:KVR K ρ H g us)(h:lK L g):(us.map (·.1)).Nodup/\∀x∈us,x.1∈Vj/\x.2=V.int (L x.1):=⟨by rw[<-KVR.keys r];exact h.1,XF r h.2⟩
theorem CA.swap(s:CA K ρ S H)(l:S[m]?=some o)(h:∀a,ρ[m]?=some a->EF K ρ H a o->EF K ρ H a o'):CA K ρ (S.set m o') H:=
 ⟨by rw[Cw];exact s.len,s.nd,λj q b g hb=>by
  rw[EM]at g;split at g
  ·rename_i c
   subst c;split at g
   ·cases g;exact h b hb (s.ob m o b l hb)
   ·cases g
  ·exact s.ob j q b g hb⟩
end
noncomputable def lmI:Res D->Int
 | .ok (.int z) _=>z
 | _=>0
noncomputable def fldS(x:Str)(q:Nat)(S:Sto):Option Str:=match S[q]? with
 | some (.ins _ fs)=>match fs.lookup x with
  | some (.str y)=>some y
  | _=>none
 | _=>none
noncomputable def UJ(x:Str)(ds:List D)(S:Sto):Option Nat:=match ds with
 | .ref q :: _=>match S[q]? with
  | some (.ins _ fs)=>match fs.lookup x with
   | some (.ref m)=>some m
   | _=>none
  | _=>none
 | _=>none
noncomputable def mF(f:List D->Sto->Res D)(ds:List D)(S:Sto)(m:Nat)(L:Key->Int)(z:Int):Prop:=
 ∀j,lK L j->∃g l,f ds (S.set m (.dK j))=.ok (.int z) g/\g[m]?=some (.dK l)/\lK L l/\∀n,n < S.length->n≠m->g[n]?=S[n]?
open Classical in
noncomputable def lH(x:Str)(f:List D->Sto->Res D)(ds:List D)(S:Sto):Res D:=match UJ x ds S with
 | some m=>match S[m]? with
  | some (.mem L)=>match f ds (S.set m (.dK []))with
   | .ok (.int z) _=>if mF f ds S m L z then .ok (.int z) S else .bad
   | _=>.bad
  | _=>.bad
 | none=>.bad
section
variable{P:BP}{w:Bu}{K:AD}{mg:Str->Option AE}{base:CS}{CX:CXT}{k n:Nat}{fa:AN}{fd:Je}{ps:List Str}{x:Str}{f:List D->Sto->Res D}
theorem pX(F:DI P w K mg base CX k fa fd ps (spM K n f)):DI P w K mg base CX k fa fd ps (spM K n (lH x f)):=F.imp<|by
 rintro vs H Q E ⟨I,O,S,R,U,A,g⟩
 unfold lH at g;split at g
 ·rename_i m hm
  split at g
  ·rename_i L C
   split at g
   ·rename_i z S0 hz
    split at g
    ·rename_i X
     obtain⟨a,Y,G,e,Z,J⟩:=A.at C
     obtain⟨S',t9,hf,xp,vD,hk⟩:=X (G.map λx=>(x.1,D.int (L x.1))) ⟨by rw[BX];exact Z,λy hy=>by
      obtain⟨u,hu,rfl⟩:=BS.mp hy
      exact⟨(J u hu).1,rfl⟩⟩
     refine⟨I,O,S.set m (.dK (G.map λx=>(x.1,D.int (L x.1)))),R,U,A.swap C (λb hb _=>⟨G,?_,aB λx hx=>(J x hx).2⟩),?_⟩
     ·rw[Y]at hb;cases hb;exact e
     ·rw[hf]
      intro ρ' H' y l s r;cases r;refine g I H' _ ⟨λ_ _ h=>h,l.tup,l.frz,λa o e n=>⟨(l.oth a o e n).1,n⟩⟩ ⟨A.len,A.nd,λj o b B hb=>?_⟩ (.int z);have N:=l.pre j b hb
      by_cases c:j=m
      ·subst c
       rw[C]at B;cases B;obtain⟨us,e3,r3⟩:=s.ob j _ b xp N;exact⟨us,e3,aG r3 vD⟩
      ·exact(A.ob j o b B hb).cut l.pre (s.ob j o b ((hk j (AF.mp B).1 c).trans B) N)
    ·exact g.elim
   ·exact g.elim
  ·exact g.elim
 ·exact g.elim
end
end L2
namespace L2
open PySem PySem.Spec PyProof.Rows PySem.W
section
variable{X:Cx}{k k' n:Nat}{x qual:Str}{st:Dg}{ps:List Str}{p pos:Pos}{e:Expr}{es:List Expr}{ml:ML}{g:List D->Sto->Res D}
theorem gcl(D:Dfn X.K X.mg x qual st ps)(F:DI X.prog X.w X.K X.mg X.base (CXG X.prog X.w) k D.f D.fd ps (spM X.K n g))(j:HP k' X.A)(l:GA X noE (e :: es) ml)(o:k<=k':=by decide)(s:X.xe=λ_ _=>False:=by rfl)(B:Gl X x:=by rfl)
  (C:(x==("__debug__" : Str))=false:=by decide) (E:AQ (e :: es) X.env=(false,Bd e X.env) :: AQ es X.env:=by rfl) (G:(Da pos (AQ es X.env)).any (·.1)=false:=by rfl) :
  GE X noE (.Call (.Name x p) (e :: es) [] pos) (B2 n g ml):=Bo F (good_none s).pass (j.mono o) B D.m D.kp D.b l C E G
end
noncomputable abbrev FnAt(K:Frag)(x g:Str)(st:Dg)(f:AN):Prop:=∃(m:AE) (o:Option AN) (kV j s:AE) (A:Option AN) (l ct:AE) (B:Array (Option AE)),
 K.lookup f=some ⟨m,o,.func (fnOf x g (Lj st) (Ij st) (Ay st) .none kV j s A l ct),B⟩/\codeIn K l g=true/\keepIn K (.ref f)=true
noncomputable abbrev Et(K:Frag)(x:Str)(st:Dg)(f:AN):Prop:=nsIn K Av x=some (some (.ref f))/\FnAt K x x st f
noncomputable abbrev Nv(K:Frag)(C:AN)(x g:Str)(st:Dg)(f:AN):Prop:=findIn K (.ref C) x=some (some (.ref f))/\isFn K (.ref f)=true/\FnAt K x g st f
noncomputable abbrev ClsAt(K:Frag)(x:Str)(C:AN):Prop:=nsIn K Av x=some (some (.ref C))/\plainGet K C Xp=true/\hasDictIn K C=true/\plainOver K C=true/\findIn K (.ref C) "__setattr__" = some (some (.builtin "object.__setattr__"))/\makesIn K C=true/\keepIn K (.ref C)=true
noncomputable def ci(st:Dg)(ps:List Str):Prop:=∀(x g:Str) (kV j m:AE) (o:Option AN) (s ct:AE) (l:List AE),l.length=ps.length->iu (fnOf x g (Lj st) (Ij st) (Ay st) .none kV j m o s ct) ⟨l,[]⟩=pure (ps.zip l)
section
variable{K:Frag}{h:CS}{mg:Str->Option AE}{x qual:Str}{st:Dg}{f C:AN}{ps:List Str}{a b c d:Str}
theorem FnAt.fd(z:FnAt K x qual st f):∃fd,Fun K x qual st f fd:=by
 obtain⟨j,m,kV,g,o,s,A,ct,B,l,c,k⟩:=z;exact⟨_,gw l c k⟩
noncomputable def mkD(X:K.In h)(G:h.Ns Av mg)(z:Et K x st f)(b:ci st ps):Dfn K mg x x st ps:=⟨f,(FnAt.fd z.2).choose,(FnAt.fd z.2).choose_spec,(FnAt.fd z.2).choose_spec.binds (b x x),OO X G z.1⟩
noncomputable def mkM(z:Nv K C x qual st f)(b:ci st ps):Mtd K x qual st ps:=⟨f,(FnAt.fd z.2.2).choose,(FnAt.fd z.2.2).choose_spec,(FnAt.fd z.2.2).choose_spec.binds (b x qual)⟩
theorem FnAt.kp(z:FnAt K x qual st f):keepIn K (.ref f)=true:=by
 obtain⟨j,m,kV,g,o,s,A,ct,B,l,c,k⟩:=z;exact k
theorem mkE(z:Nv K C x qual st f):WF K C x f:=⟨z.1,z.2.1,FnAt.kp z.2.2⟩
theorem mkO(X:K.In h)(G:h.Ns Av mg)(z:ClsAt K y C)(i:Nv K C "__init__" qual st f):Own K mg y C f:=⟨⟨z.2.1,z.2.2.1,z.2.2.2.1,z.2.2.2.2.1⟩,⟨z.2.2.2.2.2.1,i.1,i.2.1,z.2.2.2.2.2.2⟩,OO X G z.1⟩
noncomputable abbrev bnd(st:Dg)(ps:List Str)(us:List AE):Prop:=∀(x qual:Str) (kV g j:AE) (l:Option AN) (m ct:AE),iu (fnOf x qual (Lj st) (Ij st) (Ay st) .none kV g j l m ct) ⟨us,[]⟩=pure (ps.zip us)
theorem bd1(z:∀u,bnd st [a] [u]):ci st [a]:=λx q k d p n c t j g=>by obtain⟨u,rfl⟩:=sg g;exact z u x q k d p n c t
theorem bd2(z:∀u v,bnd st [a,b] [u,v]):ci st [a,b]:=λx q k d p n c t j g=>by obtain⟨u,v,rfl⟩:=sf g;exact z u v x q k d p n c t
theorem bd3(z:∀u v w,bnd st [a,b,c] [u,v,w]):ci st [a,b,c]:=λx q k d p n c t j g=>by obtain⟨u,v,w,rfl⟩:=se g;exact z u v w x q k d p n c t
theorem bd4(z:∀u v w y,bnd st [a,b,c,d] [u,v,w,y]):ci st [a,b,c,d]:=λx q k d p n c t j g=>by obtain⟨u,v,w,y,rfl⟩:=len4 g;exact z u v w y x q k d p n c t
end
end L2
namespace PySem
section
variable{prog:BP}{w:Bu}{A:Bw}{E:AE->AK->Prop}{s:AK}
theorem WX{M:Model}{a:AN}{Q:Option Obj->AK->Prop}(h:Q (s.heap.get? a) s):AY M A (loadIfAlive a) Q E s:=λ_ _ _=>h
noncomputable abbrev QA(h:CS)(z TI TO T:AN)(g:AE):Prop:=h.get? z=some { cls:=.type "zip",dict:=none,data:=.fields #[EV T,g,.bool false,.ref TI,.ref TO],slots:=#[] }
theorem UX{z TI TO T:AN}{g:AE}{o:Obj}{Q:Bool->AK->Prop}(j:QA s.heap z TI TO T g)(B:s.heap.get? T=some o)(C:g=.bool false∨g=.bool true)
  (m:∀h',QA h' z TI TO T (.bool true)->Du z s.heap h'->Q false { s with heap:=h' }):AY (Ad prog w) A (DM (.ref z)) Q E s:=by
 unfold DM;refine AA (CJ j rfl (x:=EV T) rfl ?_);show AY _ _ (loadIfAlive ((T:Int).toNat) >>= _) _ _ _;refine AA (WX ?_);rw[Am,B];show AY _ _ (WK (.ref z) 1 >>= _) _ _ _;refine AA (CJ j rfl (x:=g) rfl ?_)
 rcases C with rfl | rfl
 ·show AY _ _ (X3 (.ref z) 1 (.bool true) >>= _) _ _ _
  refine AA (wpAny_setField_rec j (by simp) λG l I=>AG ?_);exact m G l I
 ·exact AG (m s.heap j (Us ..))
theorem cc{z TI TO T g j m B:AN}{L:AE}{k1 k2:Nat}{xs ys:Array AE}{x y:AE}{Z:Obj}{Q:AE->AK->Prop}(D:NW z TI TO g j m B)
  (N:QA s.heap z TI TO T L) (hf:L=.bool false∨L=.bool true) (hT:s.heap.get? T=some Z) (η:RW s.heap TI (.ref g) (.ref j))
  (h1:s.heap.IsListIter g m k1) (h2:s.heap.IsListIter j B k2) (uK:s.heap.IsList m xs) (uo:s.heap.IsList B ys) (hx:xs[k1]?=some x) (hy:ys[k2]?=some y)
  (hQ:∀h',QA h' z TI TO T (.bool true)->h'.IsListIter g m (k1+1)->h'.IsListIter j B (k2+1)->RW h' s.heap.objs.size x y->h'.objs.size=s.heap.objs.size+1 ->
   (∀c o,c≠z->c≠g->c≠j->s.heap.get? c=some o->h'.get? c=some o)->Q (.ref s.heap.objs.size) { s with heap:=h' }) :
  AY (Ad prog w) A (N4.«zip.__next__» ⟨[.ref z],[]⟩) (λfin s'=>∃v,fin=.done (.ret v)/\Q v s') E s:=by
 show AY _ _ (WK (.ref z) 2 >>= _) _ _ _;refine AA (CJ N rfl (x:=.bool false) rfl ?_);show AY _ _ (WK (.ref z) 3 >>= _) _ _ _;refine AA (CJ N rfl (x:=.ref TI) rfl ?_);refine AA (Ex η rfl ?_);show AY _ _ (DM (.ref z) >>= _) _ _ _;refine AA (UX N hT hf λI O C=>?_);simp only[CH,if_false];have zH:I.IsListIter g m k1:=h1.extBut C.extBut D.i1z;have θ:I.IsListIter j B k2:=h2.extBut C.extBut D.i2z;have zI:I.IsList m xs:=uK.extBut C.extBut D.l1z;have ι:I.IsList B ys:=uo.extBut C.extBut D.l2z;refine AA ?_;rw[<-bH];simp only[G2,HV];refine AA (AA (By ?_));show AY _ _ (Bv (.ref g) >>= _) _ _ _;refine AA (Nx zH zI hx λhb P G=>AG (AG ?_));refine AA (AA (By ?_));show AY _ _ (Bv (.ref j) >>= _) _ _ _;refine AA (Nx (θ.extBut G.extBut D.i12.symm) (ι.extBut G.extBut D.l2i1) hy λR S J=>AG (AG (AG ?_)));show AY _ _ (newTuple [x,y] >>= _) _ _ _;refine AA (wpAny_newTuple ?_);refine AG ⟨_,rfl,?_⟩
 have l:R.objs.size=s.heap.objs.size:=by rw[J.1,G.1,C.1]
 show Q (.ref R.objs.size) _;rw[l]
 have up:∀c o,c≠z->c≠g->c≠j->s.heap.get? c=some o->R.get? c=some o:=λc o U X Y e=>J.extBut _ _ Y (G.extBut _ _ X (C.extBut _ _ U e))
 refine hQ _ ?_ ?_ ?_ ?_ ?_ λc o U X Y e=>AI _ (up c o U X Y e)
 ·exact AI _ (J.extBut _ _ D.i2z.symm (G.extBut _ _ D.i1z.symm O))
 ·exact(P.extBut J.extBut D.i12).at λo e=>AI _ e
 ·exact S.at λo e=>AI _ e
 ·rw[<-l];exact Aa _ rfl
 ·rw[Cb,l]
theorem iN{z TI TO T g j m B:AN}{I:AE}{k1 k2:Nat}{xs ys:Array AE}{Y:Obj}{Q:Fin->AK->Prop}(R:A.handled=none)(D:NW z TI TO g j m B)
  (J:QA s.heap z TI TO T I) (Z:I=.bool false∨I=.bool true) (hT:s.heap.get? T=some Y) (η:RW s.heap TI (.ref g) (.ref j))
  (h1:s.heap.IsListIter g m k1) (h2:s.heap.IsListIter j B k2) (uK:s.heap.IsList m xs) (uo:s.heap.IsList B ys) (wo:xs[k1]?=none∨ys[k2]?=none)
  (S:∀h' e,(∀c o,c≠z->c≠TO->c≠g->c≠j->s.heap.get? c=some o->h'.get? c=some o)->(∃o,h'.get? e=some o/\o.cls=.type "StopIteration")->E (.ref e) { s with heap:=h' }) :
  AY (Ad prog w) A (N4.«zip.__next__» ⟨[.ref z],[]⟩) Q E s:=by
 show AY _ _ (WK (.ref z) 2 >>= _) _ _ _;refine AA (CJ J rfl (x:=.bool false) rfl ?_);show AY _ _ (WK (.ref z) 3 >>= _) _ _ _;refine AA (CJ J rfl (x:=.ref TI) rfl ?_);refine AA (Ex η rfl ?_);show AY _ _ (DM (.ref z) >>= _) _ _ _;refine AA (UX J hT Z λG hza l=>?_);simp only[CH,if_false];have U:G.IsListIter g m k1:=h1.extBut l.extBut D.i1z;have θ:G.IsListIter j B k2:=h2.extBut l.extBut D.i2z;have X:G.IsList m xs:=uK.extBut l.extBut D.l1z;have ι:G.IsList B ys:=uo.extBut l.extBut D.l2z;refine AA ?_;rw[<-bH];simp only[G2,HV];refine AA (AA (By ?_));show AY _ _ (Bv (.ref g) >>= _) _ _ _
 cases L:xs[k1]? with
 | none=>exact AA (ia R U X L λhb e C N=>S hb e (λc o O _ P _ q=>C _ _ P (l.extBut _ _ O q)) N)
 | some x=>
  have hy:ys[k2]?=none:=by rcases wo with h | h;rw[L]at h;cases h;exact h
  refine AA (Nx U X L λhb h1b C=>AG (AG ?_));refine AA (AA (By ?_));show AY _ _ (Bv (.ref j) >>= _) _ _ _;exact AA (ia R (θ.extBut C.extBut D.i12.symm) (ι.extBut C.extBut D.l2i1) hy λhc e xX N=>S hc e (λc o O _ P c4 q=>xX _ _ c4 (C.extBut _ _ P (l.extBut _ _ O q))) N)
structure ZL(h:CS)(z TI TO i1 i2 l1 l2:AN)(k:Nat):Prop where
 zip:IsZip h z TI TO .none∨∃T oT f1,QA h z TI TO T f1/\(f1=.bool false∨f1=.bool true)/\h.get? T=some oT/\T≠z/\T≠TO/\T≠i1/\T≠i2
 ins:RW h TI (.ref i1) (.ref i2)
 out:∃a b,RW h TO a b
 one:h.IsListIter i1 l1 k
 two:h.IsListIter i2 l2 k
theorem ZL.ty{z TI TO g j l m:AN}{k:Nat}(Z:ZL s.heap z TI TO g j l m k):s.TypeIs (.ref z) "zip":=by
 rcases Z.zip with h | ⟨T,o,B,h,_⟩
 ·exact⟨_,h,rfl⟩
 ·exact⟨_,h,rfl⟩
theorem ZL.keep{h h':CS}{z TI TO j l B C:AN}{k:Nat}(Z:ZL h z TI TO j l B C k)(S:AN)(N:S≠z/\S≠TI/\S≠TO/\S≠j/\S≠l)(g:∀b o,b≠S->h.get? b=some o->h'.get? b=some o)(O:∃o,h'.get? S=some o):ZL h' z TI TO j l B C k:=by
 obtain⟨m,P,Q,R,U⟩:=N;refine⟨?_,g _ _ P.symm Z.ins,let ⟨a,b,e⟩:=Z.out;⟨a,b,g _ _ Q.symm e⟩,Z.one.at λo e=>g _ o R.symm e,Z.two.at λo e=>g _ o U.symm e⟩
 rcases Z.zip with h | ⟨T,X,G,I,J,Y,L⟩
 ·exact .inl (g _ _ m.symm h)
 ·by_cases c:T=S
  ·subst c
   obtain⟨o,ho⟩:=O;exact .inr ⟨T,o,G,g _ _ m.symm I,J,ho,L⟩
  ·exact .inr ⟨T,X,G,g _ _ m.symm I,J,g _ _ c Y,L⟩
theorem i5{z TI TO i1 i2 j l:AN}{k:Nat}{xs ys:Array AE}{x y:AE}{Q:Option AE->AK->Prop}(D:NW z TI TO i1 i2 j l)(Z:ZL s.heap z TI TO i1 i2 j l k)
  (L:s.heap.IsList j xs) (N:s.heap.IsList l ys) (O:xs[k]?=some x) (P:ys[k]?=some y)
  (R:∀h',ZL h' z TI TO i1 i2 j l (k+1)->RW h' s.heap.objs.size x y->h'.objs.size=s.heap.objs.size+1 ->
   (∀c o,c≠z->c≠TO->c≠i1->c≠i2->s.heap.get? c=some o->h'.get? c=some o)->Q (some (.ref s.heap.objs.size)) { s with heap:=h' }) :
  AY (Ad prog w) A (Hc (.ref z)) Q E s:=by
 have lt:∀{c o},s.heap.get? c=some o->s.heap.objs.size≠c:=λe=>DX (AL e)
 have n1:s.heap.objs.size≠i1:=by obtain⟨_,e,_⟩:=Z.one;exact lt e
 have n2:s.heap.objs.size≠i2:=by obtain⟨_,e,_⟩:=Z.two;exact lt e
 obtain⟨a,b,B⟩:=Z.out
 rcases Z.zip with h | ⟨T,oT,f1,q1,q2,S,U,t2,X,Y⟩
 ·refine iZ D h Z.ins B Z.one Z.two L N O P λh' C a2 G I m J g=>?_
  exact R h' ⟨.inr ⟨_,_,_,C,.inl rfl,m,lt h,lt B,n1,n2⟩,g _ _ D.TIz D.TITO D.TIi1 D.TIi2 Z.ins,⟨_,_,a2⟩,G,I⟩ m J g
 ·have hT:=Z.ty
  unfold Hc
  refine AA (Fv (Ce (name:=E0 "__next__") hT Jf
   (Cj Jf hT mP
    (cc D q1 q2 S Z.ins Z.one Z.two L N O P λh' C G I m J g=>AG ?_) (lV _))))
  exact R h' ⟨.inr ⟨T,oT,_,C,.inr rfl,g _ _ U X Y S,U,t2,X,Y⟩,g _ _ D.TIz D.TIi1 D.TIi2 Z.ins,⟨a,b,g _ _ D.TOz D.TOi1 D.TOi2 B⟩,G,I⟩ m J λc o c1 _ c3 c4 e=>g c o c1 c3 c4 e
theorem mU{z TI TO g j l m:AN}{k:Nat}{xs ys:Array AE}{Q:Option AE->AK->Prop}(C:A.handled=none)(D:NW z TI TO g j l m)(Z:ZL s.heap z TI TO g j l m k)
  (G:s.heap.IsList l xs) (I:s.heap.IsList m ys) (J:xs[k]?=none∨ys[k]?=none)
  (L:∀h',(∀c o,c≠z->c≠TO->c≠g->c≠j->s.heap.get? c=some o->h'.get? c=some o)->Q none { s with heap:=h' }):AY (Ad prog w) A (Hc (.ref z)) Q E s:=by
 obtain⟨a,b,B⟩:=Z.out
 rcases Z.zip with h | ⟨T,Y,f1,O,P,R,t1,t2,t3,t4⟩
 ·exact ik C D h Z.ins B Z.one Z.two G I J L
 ·have N:=Z.ty
  unfold Hc
  refine AA (Fv (Ce (name:=E0 "__next__") N Jf
   (Cj Jf N mP (iN C D O P R Z.ins Z.one Z.two G I J λh' e S U=>?_) (lV _))))
  obtain⟨o,B,X⟩:=U;refine AA (Ue (T:="StopIteration") (b:=true) ⟨o,B,X⟩ X6 ?_);exact AG (L _ S)
end
namespace F
theorem nolen_zip:X1 (.type "zip") "__len__" = pure none:=by rw[tV,ic];kernel_rfl
theorem nohint_zip:X1 (.type "zip") "__length_hint__" = pure none:=by rw[tV,ic];kernel_rfl
end F
noncomputable abbrev lsO(g:Array AE)(c:Nat):Obj:={ cls:=.type "list",dict:=none,data:=.seq g c,slots:=#[] }
structure Ud(h:CS)(B S:AN)(sp:List AN)(xs ys:Array AE)(Ts:List AN):Prop where
 nd:Ts.Nodup
 hi:∀T∈Ts,B<=T/\T≠S/\T∉sp
 pr:∀(j:Nat) (T:AN),Ts[j]?=some T->∃u v,xs[j]?=some u/\ys[j]?=some v/\RW h T u v
section
variable{prog:BP}{w:Bu}{A:Bw}{R:Result->AK->Prop}{z TI TO i1 i2 l1 l2:AN}{xs ys:Array AE}{B:Nat}{h0:CS}
theorem i4(hh:A.in1.handled=none)(D:NW z TI TO i1 i2 l1 l2){S:AN}(nS:S≠z/\S≠TI/\S≠TO/\S≠i1/\S≠i2)(n1:S≠l1)(n2:S≠l2)(sB:B<=S/\B<=z/\B<=TO/\B<=i1/\B<=i2)(res:AE)(hn:min xs.size ys.size<=sizeLine) :
  ∀(k i:Nat) (s:AK) (g:Array AE) (c:Nat) (Ts:List AN),min xs.size ys.size - i=k->i<=min xs.size ys.size->ZL s.heap z TI TO i1 i2 l1 l2 i->s.heap.IsList l1 xs->s.heap.IsList l2 ys ->
  s.heap.get? S=some (lsO g c)->g=(Ts.map Ai).toArray->Ts.length=i->Ud s.heap B S [z,TI,TO,i1,i2] xs ys Ts->B<=s.heap.objs.size->(∀b o,b < B->h0.get? b=some o->s.heap.get? b=some o) ->
  (∀h' I c',h'.get? S=some (lsO (I.map Ai).toArray c')->I.length=min xs.size ys.size->Ud h' B S [z,TI,TO,i1,i2] xs ys I->(∀b o,b < B->h0.get? b=some o->h'.get? b=some o)->R (.ok (.ret res)) { s with heap:=h' }) ->
  JZ (Ad prog w) A (.builtin "list.extend.loop" ⟨[.ref S,.ref z,res],[]⟩) R s:=by
 obtain⟨m1,m2,m3,m4,m5⟩:=nS;obtain⟨b1,b2,b3,b4,b5⟩:=sB
 have below:∀b,b < B->b≠S/\b≠z/\b≠TO/\b≠i1/\b≠i2:=λb hb=>⟨by lia,by lia,by lia,by lia,by lia⟩
 have stay:∀{h h':CS} {Ts:List AN},Ud h B S [z,TI,TO,i1,i2] xs ys Ts->(∀c o,c≠z->c≠TO->c≠i1->c≠i2->c≠S->h.get? c=some o->h'.get? c=some o)->Ud h' B S [z,TI,TO,i1,i2] xs ys Ts:=λK k=>⟨K.nd,K.hi,λj T m=>by
  obtain⟨u,v,q1,q2,q3⟩:=K.pr j T m;obtain⟨_,t1,J⟩:=K.hi T (Ca m);simp only[Aq,Bq,or_false,not_or]at J
  exact⟨u,v,q1,q2,k _ _ J.1 J.2.2.1 J.2.2.2.1 J.2.2.2.2 t1 q3⟩⟩
 intro k
 induction k with
 | zero=>
  intro i s g c Ts hk hi Z X Y hS E l K hB xE hR
  have yr:i=min xs.size ys.size:=by lia
  refine KI ii ?_;rw[Fh Jm _];show AY _ A.in1 (Hc (.ref z) >>= _) _ _ s
  refine AA (mU hh D Z X Y (by
   rw[yr]
   by_cases c:xs.size<=ys.size
   ·exact .inl (by simp;lia)
   ·exact .inr (by simp;lia)) λh' G=>?_)
  refine AG (hR h' Ts c ?_ (by lia) (stay K λc o L N O P _ e=>G c o L N O P e) λb o hb e=>?_)
  ·rw[<-E];exact G _ _ m1 m3 m4 m5 hS
  ·obtain⟨_,n1,n2,n3,n4⟩:=below b hb
   exact G b o n1 n2 n3 n4 (xE b o hb e)
 | succ k ih=>
  intro i s g c Ts hk hi Z X Y hS E l K hB xE hR
  have uE:i < min xs.size ys.size:=by lia
  have hx:i < xs.size:=by lia
  have hy:i < ys.size:=by lia
  refine KI ii ?_;rw[Fh Jm _];show AY _ A.in1 (Hc (.ref z) >>= _) _ _ s;refine AA (i5 D Z X Y (D9 hx) (D9 hy) λh' Z' hp hsz G=>?_);have Q:h'.get? S=some (lsO g c):=G _ _ m1 m3 m4 m5 hS;have hSl:S < s.heap.objs.size:=AL hS
  have U:g.size=i:=by rw[E];simp[l]
  show AY _ A.in1 (QB S (·.push (.ref s.heap.objs.size)) >>= _) _ _ _;refine AA (Fi (s:={ s with heap:=h' }) Q rfl (AG ⟨JY Jm _,?_⟩) (by rw[U];lia) (by show(g.push _).size<=sizeLine+1;rw[Array.size_push,U];lia))
  have oth:∀b o,b≠S->h'.get? b=some o->(h'.update S (CI (·.push (.ref s.heap.objs.size)))).get? b=some o:=λb o hb e=>(At _ _ (BW hb)).trans e
  have C:=BY (CI (·.push (Ai s.heap.objs.size))) Q rfl
  have up:∀b o,b≠S->b≠z->b≠TO->b≠i1->b≠i2->s.heap.get? b=some o->(h'.update S (CI (·.push (.ref s.heap.objs.size)))).get? b=some o:=λb o h1 h2 h3 h4 h5 e=>oth b o h1 (G b o h2 h3 h4 h5 e)
  refine ih (i+1) _ (g.push (.ref s.heap.objs.size)) _ (Ts++[s.heap.objs.size]) (by lia) uE (Z'.keep S ⟨m1,m2,m3,m4,m5⟩ oth ⟨_,C⟩) ?_ ?_ C (by rw[E];simp) (by simp[l]) ?_ ?_ ?_ λh2 I c'=>hR h2 I c'
  ·exact X.at λo e=>up _ o n1.symm D.l1z D.l1TO D.l1i1 D.l1i2 e
  ·exact Y.at λo e=>up _ o n2.symm D.l2z D.l2TO D.l2i1 D.l2i2 e
  ·have K2:=stay (h':=h'.update S (CI (·.push (.ref s.heap.objs.size)))) K λc o L N O P c5 e=>up c o c5 L N O P e
   have lts:∀T∈Ts,T < s.heap.objs.size:=λT m=>by
    obtain⟨j,hj⟩:=List.getElem?_of_mem m;obtain⟨u,v,_,_,q⟩:=K.pr j T hj;exact AL q
   refine⟨HU.mpr ⟨K2.nd,by simp,λa E b hb e=>?_⟩,λT m=>?_,λj T m=>?_⟩
   ·have:=lts a E
    rw[Ab.mp hb]at e
    lia
   ·rcases Bg.mp m with q | q
    ·exact K2.hi T q
    ·rw[Ab.mp q]
     have lz:z < s.heap.objs.size:=by rcases Z.zip with h | ⟨_,_,_,h,_⟩ <;> exact AL h
     have lI:TI < s.heap.objs.size:=AL Z.ins
     have lO:TO < s.heap.objs.size:=let ⟨_,_,e⟩:=Z.out;AL e
     have la:i1 < s.heap.objs.size:=let ⟨o,e,_⟩:=Z.one;AL e
     have lb:i2 < s.heap.objs.size:=let ⟨o,e,_⟩:=Z.two;AL e
     refine⟨hB,by lia,?_⟩;simp only[Aq,Bq,or_false,not_or];exact⟨by lia,by lia,by lia,by lia,by lia⟩
   ·by_cases cj:j < Ts.length
    ·rw[Al cj]at m
     exact K2.pr j T m
    ·have:j=Ts.length:=by
      have:=(AF.mp m).1;simp at this
      lia
     subst this;rw[BV (AO _),qo]at m;cases m;rw[l];exact⟨_,_,D9 hx,D9 hy,oth _ _ (by lia) hp⟩
  ·show B<=(h'.update S _).objs.size
   rw[Lz,hsz]
   lia
  ·intro b o hb e
   obtain⟨c0,L,N,O,P⟩:=below b hb;exact up b o c0 L N O P (xE b o hb e)
theorem ZE(U:A.in1.handled=none)(D:NW z TI TO i1 i2 l1 l2){s:AK}{S:AN}(G:S≠z/\S≠TI/\S≠TO/\S≠i1/\S≠i2)(J:S≠l1)(L:S≠l2)(X:B<=S/\B<=z/\B<=TO/\B<=i1/\B<=i2)(res:AE)(Y:min xs.size ys.size<=sizeLine){c:Nat}
  (Z:ZL s.heap z TI TO i1 i2 l1 l2 0) (uK:s.heap.IsList l1 xs) (uo:s.heap.IsList l2 ys) (N:s.heap.get? S=some (lsO #[] c)) (hB:B<=s.heap.objs.size) (xE:∀b o,b < B->h0.get? b=some o->s.heap.get? b=some o)
  (hR:∀h' l g,h'.get? S=some (lsO (l.map Ai).toArray g)->l.length=min xs.size ys.size->Ud h' B S [z,TI,TO,i1,i2] xs ys l->(∀b o,b < B->h0.get? b=some o->h'.get? b=some o)->R (.ok (.ret res)) { s with heap:=h' }) :
  AY (Ad prog w) A.in1 (Ej (.ref S) (.ref z) res)
   (λfin s'=>match fin with | .done f=>R (.ok f) s' | .again g=>g.quiet=true/\JZ (Ad prog w) A g R s') (λe s'=>R (.error e) s') s:=by
 have h1:QJ (.ref S) (.ref z)=false:=by simp[QJ,G.1]
 unfold Ej;refine AA (dD Z.ty ?_);rw[qY (by rw[h1];decide)]
 have C:∀{Q:AE->AK->Prop} {E:AE->AK->Prop},Q (.ref z) s->AY (Ad prog w) A.in1 (dF (.ref z)) Q E s:=λhq=>by
  have I:=Z.ty;refine qG I qU (Cj qU I F.entry_zip_iter ?_ (F.args_zip_iter_1 _));show AY _ _ (ret (.ref z)) _ _ s;exact AG ⟨_,rfl, "zip",_,I,Jf.lookup,hq⟩
 refine AA (C ?_);refine AA (By ?_);unfold t5;refine AA (WO Z.ty F.nolen_zip ?_);show AY _ A.in1 (specialOf (Ai z) (E0 "__length_hint__") >>= _) _ _ _;refine AA (WO Z.ty F.nohint_zip ?_);refine AG ?_;simp only[qW,if_true];refine AA (Xy ?_);refine AA ?_;unfold tz;have O:=BY (CI (·.push BI)) N rfl;refine AA (m:=Qc (.ref S) (·.push .none)) ?_;show AY _ _ (QB S (·.push .none)) _ _ _;refine Fi N rfl ?_;show AY _ _ (QB S (·.pop)) _ _ _;refine Fi (s:={ s with heap:=s.heap.update S (CI (·.push BI)) }) O rfl ?_;have P:=BY (CI (λa:Array AE=>a.pop)) O rfl
 have oth:∀b o,b≠S->s.heap.get? b=some o->((s.heap.update S (CI (·.push BI))).update S (CI (λa:Array AE=>a.pop))).get? b=some o:=λb o hb e=>(At _ _ (BW hb)).trans ((At _ _ (BW hb)).trans e)
 refine AG ⟨JY Jm _,i4 (B:=B) (h0:=h0) U D G J L X res Y _ 0 _ #[] _ [] rfl (Dx _) (Z.keep S G oth ⟨_,P⟩) (uK.at λo e=>oth _ o J.symm e) (uo.at λo e=>oth _ o L.symm e) P rfl rfl
  ⟨HS,λ_ h=>zX h Bq,λj T h=>by simp at h⟩ ?_ (λb o hb e=>oth b o (by lia) (xE b o hb e)) λh' l g=>hR h' l g⟩
 show B<=((s.heap.update S _).update S _).objs.size;rw[Lz,Lz];exact hB
end
section
variable{prog:BP}{w:Bu}{A:Bw}{E:AE->AK->Prop}{s:AK}{z TI TO i1 i2 l1 l2:AN}{xs ys:Array AE}{B:Nat}{h0:CS}
theorem Tk{Q:AE->AK->Prop}(N:A.in1.in1.handled=none)(D:NW z TI TO i1 i2 l1 l2)(O:min xs.size ys.size<=sizeLine)(P:B<=z/\B<=TO/\B<=i1/\B<=i2)
  (Z:ZL s.heap z TI TO i1 i2 l1 l2 0) (I:s.heap.IsList l1 xs) (J:s.heap.IsList l2 ys) (R:∀b o,b < B->h0.get? b=some o->s.heap.get? b=some o)
  (S:∀h' l G,h'.get? s.heap.objs.size=some (lsO (l.map Ai).toArray G)->l.length=min xs.size ys.size->Ud h' B s.heap.objs.size [z,TI,TO,i1,i2] xs ys l->(∀b o,b < B->h0.get? b=some o->h'.get? b=some o)->Q (.ref s.heap.objs.size) { s with heap:=h' }) :
  AY (Ad prog w) A (call (.type "list") [.ref z]) Q E s:=by
 have lz:z < s.heap.objs.size:=by rcases Z.zip with h | ⟨_,_,_,h,_⟩ <;> exact AL h
 have lI:TI < s.heap.objs.size:=AL Z.ins
 have lO:TO < s.heap.objs.size:=let ⟨_,_,e⟩:=Z.out;AL e
 have la:i1 < s.heap.objs.size:=let ⟨o,e,_⟩:=Z.one;AL e
 have lb:i2 < s.heap.objs.size:=let ⟨o,e,_⟩:=Z.two;AL e
 have U:l1 < s.heap.objs.size:=by obtain⟨o,e,_⟩:=I;exact AL e
 have X:l2 < s.heap.objs.size:=by obtain⟨o,e,_⟩:=J;exact AL e
 refine callType_codes (Q₁:=λobj j=>obj=.ref s.heap.objs.size/\j={ s with heap:=s.heap.push { cls:=.type "list",data:=.seq #[] } }) PySem.F.called_list (PySem.F.typeCall_list_1 _) PySem.F.entry_list_init
  (code_list_new _ ⟨rfl,rfl⟩) λobj j m=>?_
 obtain⟨rfl,rfl⟩:=m;have C:(s.heap.push { cls:=.type "list",data:=.seq #[] }).get? s.heap.objs.size=some { cls:=.type "list",data:=.seq #[] }:=Aa _ rfl;refine⟨⟨_,C,rfl⟩,PySem.F.args_list_init_2 _ _,?_⟩;show AY _ _ (do let old <-EU (.ref s.heap.objs.size);Qc (.ref s.heap.objs.size) (λ_=>#[]);letGo old.toList.reverse;Ej (.ref s.heap.objs.size) (.ref z) .none) _ _ _;refine AA ?_;unfold EU;refine AA (Ex C rfl (AG ?_));show AY _ _ (QB s.heap.objs.size (λ_=>#[]) >>= λ_=>letGo (#[]:Array AE).toList.reverse >>= λ_=>Ej (.ref s.heap.objs.size) (.ref z) .none) _ _ _;refine AA (Fi C rfl ?_);have g:=BY (CI (λ_=>(#[]:Array AE))) C rfl;refine AA (PF ?_)
 have oth:∀b o,b≠s.heap.objs.size->s.heap.get? b=some o->((s.heap.push { cls:=.type "list",data:=.seq #[] }).update s.heap.objs.size (CI (λ_=>(#[]:Array AE)))).get? b=some o:=
  λb o hb e=>(At _ _ (BW hb)).trans (AI _ e)
 have L:s.heap.objs.size≠z/\s.heap.objs.size≠TI/\s.heap.objs.size≠TO/\s.heap.objs.size≠i1/\s.heap.objs.size≠i2:=⟨by lia,by lia,by lia,by lia,by lia⟩
 refine ZE (A:=A.in1) (B:=B) (h0:=h0) N D L (by lia) (by lia) ⟨by lia,P⟩ .none O (Z.keep _ L oth ⟨_,g⟩) (I.at λo e=>oth _ o (by lia) e) (J.at λo e=>oth _ o (by lia) e) g ?_ (λb o hb e=>oth b o (by lia) (R b o hb e)) λh' l G Y g2 g3 g4=>⟨rfl,S h' l G Y g2 g3 g4⟩
 show B<=((s.heap.push _).update _ _).objs.size;rw[Lz,Cb]
 lia
end
end PySem
namespace L2
open PySem PySem.Spec PyProof.Rows
theorem Inv.more{X:Cx}{j:List (AN×Obj)}{l:List (Option V)}{H g:Hp}{s:AK}{h':CS}{t':Nat}(I:Inv X j l H s)(k:∀b u,s.heap.get? b=some u->h'.get? b=some u)(e1:∀b u,H b=some u->g b=some u)
  (e2:∀b,b < s.heap.objs.size->H b=none->g b=none) (new:∀b u,H b=none->g b=some u->Cz X.prog X.w g h' b u):Inv X j l g { s with heap:=h',toks:=t' }:=by
 refine I.step (g':=s.gens) (d':=s.drawn) (ch:=[]) (λb hb=>zX hb Bq) (λb o _ _ _ q _=>k b o q) (λb o _ _ _ q _=>⟨o.slots,k b o q⟩) (λb o _ q n=>e2 b (AL q) n)
  (λb o _ q=>⟨o,k b o q⟩) (λb A q=>e1 b _ q) (λb o u q=>e1 b _ q) (λb L q=>⟨#[],by rw[e1 b _ q];simp⟩) (λm B=>?_) (λb u q=>?_) I.bare
 ·obtain⟨o,C,E,G,r⟩:=B
  exact⟨o,C,E,k _ o G,r⟩
 ·cases hb:H b with
  | none=>exact new b u hb q
  | some J=>
   rw[e1 b J hb]at q;cases q
   exact(I.hok b _ hb).stay (λc v N r=>k c v r) (λc r=>e1 c _ r) λc A r=>e1 c _ r
noncomputable def LC:Hp->List AN->List (V×V)->Hp
 | H,T :: g,p :: j=>LC (upd H T (.tup [p.1,p.2])) g j
 | H,_,_=>H
theorem Kl{b:AN}:∀{Ts:List AN} {ps:List (V×V)} {H:Hp},b∉Ts->LC H Ts ps b=H b
 | [],_,_,_=>by unfold LC;rfl
 | _ :: _,[],_,_=>by unfold LC;rfl
 | T :: Ts,p :: ps,H,h=>by
  unfold LC;rw[Kl λz=>h (AS _ z),BA λz=>h (by rw[z];exact Ah)]
theorem Zt{b:AN}{u:HO}:∀{Ts:List AN} {ps:List (V×V)} {H:Hp},Ts.Nodup->H b=none->LC H Ts ps b=some u->∃(j:Nat) (p:V×V),Ts[j]?=some b/\ps[j]?=some p/\u=.tup [p.1,p.2]
 | [],_,_,_,g,h=>by unfold LC at h;rw[g]at h;cases h
 | _ :: _,[],_,_,g,h=>by unfold LC at h;rw[g]at h;cases h
 | T :: Ts,p :: ps,H,l,g,h=>by
  obtain⟨m,o⟩:=Bz.mp l;unfold LC at h
  by_cases c:b=T
  ·subst c
   rw[Kl m,Bc]at h;cases h;exact⟨0,p,rfl,rfl,rfl⟩
  ·obtain⟨j,q,s,A,B⟩:=Zt o (by rw[BA c];exact g) h
   exact⟨j+1,q,s,A,B⟩
section
variable{X:Cx}{E:EW}{e1 e2:Expr}{p p2 pos ur:Pos}{ml:ML}{ta:TA}
noncomputable def dw(K:AD)(ta:TA):TE:=λo H Q=>ta o H λs g=>∃a b l m,s=[.ref a,.ref b]/\SqL K g a l/\SqL K g b m/\∀j q,j.length=min l.length m.length->j.Nodup->(∀T∈j,g T=none/\T≠q)->g q=none->Q (.ref q) (upd (LC g j (l.zip m)) q (.lst (j.map V.ref)))
theorem Yl(hc:X.calm=true)(hg:Gl X "list") (hm:X.mg "list" = none) (vW:Gl X "zip") (tx:X.mg "zip" = none) (ha:PA X [e1,e2] ta)
  (hs:AQ [e1,e2] X.env=[(false,Bd e1 X.env),(false,Bd e2 X.env)]:=by rfl) (uu:AQ [e2] X.env=[(false,Bd e2 X.env)]:=by rfl) (uU:AQ [.Call (.Name "zip" p2) [e1,e2] [] ur] X.env=(false,Bd (.Call (.Name "zip" p2) [e1,e2] [] ur) X.env) :: AQ [] X.env:=by rfl) :
  PE X (.Call (.Name "list" p) [.Call (.Name "zip" p2) [e1,e2] [] ur] [] pos) (dw X.K ta):=by
 intro ζ s σ H Q I hq;refine EG (IN I hg hm Qz ?_ (by decide) (by decide));refine BJ ?_ uU rfl;rw[uU];show AY _ _ (qK ((false,Bd (.Call (.Name "zip" p2) [e1,e2] [] ur) X.env) :: Da pos (AQ [] X.env))) _ _ s;refine Oa ?_;refine EG (IN I vW tx tf ?_ (by decide) (by decide));refine BJ (thn (ha ur ζ s σ H _ I hq) λus l ⟨vs,H1,L,r1,q1⟩=>?_) (by rw[hs,uu]) (by rw[uu];rfl);obtain⟨a,b,xs,ys,rfl,sx,sy,q⟩:=q1;obtain⟨u,v,rfl,R,S⟩:=vals2 r1;cases R;cases S;obtain⟨i',rx,U,hzx⟩:=L.list sx;obtain⟨yS,ry,Y,hzy⟩:=L.list sy
 have la:a < l.heap.objs.size:=by obtain⟨o,q,_⟩:=U.isList;exact AL q
 have lb:b < l.heap.objs.size:=by obtain⟨o,q,_⟩:=Y.isList;exact AL q
 have lx:=rx.length;have ly:=ry.length
 refine call_zip_2 U.isList Y.isList λG z1 z2 z3 z4 z5 z6 Z=>?_
 refine PQ ?_
 refine Tk (B:=l.heap.objs.size) (h0:=l.heap) (s:={ l with heap:=G }) (xs:=i'.toArray) (ys:=yS.toArray) (A:=X.A) (I.ok.hd hc) (zipApart_new la lb) (by rw[AZ,AZ];lia) ⟨by lia,by lia,by lia,by lia⟩
  ⟨.inl z1,z2,⟨_,_,z3⟩,z4,z5⟩ (U.isList.at λo e=>Z _ o e) (Y.isList.at λo e=>Z _ o e) (λb o _ e=>Z b o e) λh' J c hL g K k0=>?_
 rw[AZ,AZ]at g
 have hS:l.heap.objs.size<=G.objs.size:=by lia
 have fr:∀T,l.heap.objs.size<=T->H1 T=none:=λT N=>L.hok.fresh N
 have pr:∀T∈J,H1 T=none/\T≠G.objs.size:=λT N=>⟨fr T (K.hi T N).1,(K.hi T N).2.1⟩
 refine⟨.ref G.objs.size,_,L.more (t':=l.toks) (h':=h') (λb u e=>k0 b u (AL e) e) (λb u hb=>?_) (λb hb hn=>?_) (λb u hn O=>?_),rfl,q J _ (by lia) K.nd pr (fr _ hS)⟩
 ·have uE:b < l.heap.objs.size:=Iw λz=>by rw[fr b (KM.mp z)]at hb;cases hb
  rw[BA (by lia),Kl λz=>by have:=(K.hi b z).1;lia];exact hb
 ·rw[BA (by lia),Kl λz=>by have:=(K.hi b z).1;lia]
  exact hn
 ·by_cases c1:b=G.objs.size
  ·subst c1
   rw[Bc]at O;cases O;refine⟨?_,J.map Ai,c,?_,hL⟩
   ·rw[AJ,g]
    lia
   ·clear hL g K pr
    induction J with
    | nil=>exact .nil
    | cons T J ih=>exact .cons rfl ih
  ·rw[BA c1]at O
   obtain⟨j,pq,g1,m,rfl⟩:=Zt K.nd hn O;obtain⟨u,v,g3,g4,g5⟩:=K.pr j b g1
   have C:∃x y,xs[j]?=some x/\ys[j]?=some y/\pq=(x,y):=by
    rw[bA,YH]at m
    cases C:xs[j]? with
    | none=>rw[C]at m;cases m
    | some x=>
     cases P:ys[j]? with
     | none=>rw[C,P]at m;cases m
     | some y=>rw[C,P]at m;cases m;exact⟨x,y,rfl,rfl,rfl⟩
   obtain⟨x,y,C,P,rfl⟩:=C;obtain⟨u',zG,R⟩:=rx.get C;obtain⟨v',vN,S⟩:=ry.get P
   have e3:u'=u:=by
    have:i'[j]?=some u:=by simpa using g3
    rw[this]at zG;exact(CC zG).symm
   have e4:v'=v:=by
    have:yS[j]?=some v:=by simpa using g4
    rw[this]at vN;exact(CC vN).symm
   subst e3 e4;exact⟨⟨Au (show 2<=1000 by decide) (by decide),_,g5,rfl⟩,[u',v'],.cons R (.cons S .nil),_,g5,rfl,_,rfl⟩
theorem Wh{K:AD}{ρ:List AN}{S:Sto}:∀{Ts:List AN} {xs ys:List V} {ds es:List D} {H:Hp},CA K ρ S H->Ts.Nodup->(∀T∈Ts,H T=none)->Ak K ρ H ds xs->Ak K ρ H es ys->Ts.length=min xs.length ys.length ->
  CA K ρ S (LC H Ts (xs.zip ys))/\Le K ρ H ρ (LC H Ts (xs.zip ys))/\Ak K ρ (LC H Ts (xs.zip ys)) (QM ds es) (Ts.map V.ref)
 | [],_,_,_,_,_,j,_,_,.nil,_,_=>by unfold LC;exact⟨j,.refl,.nil⟩
 | [],_,_,_,_,_,j,_,_,.cons _ _,.nil,_=>by unfold LC;exact⟨j,.refl,.nil⟩
 | [],_,_,_,_,_,_,_,_,.cons _ _,.cons _ _,g=>by simp at g
 | T :: Ts,_,_,_,_,_,_,_,_,.nil,_,g=>by simp at g
 | T :: Ts,_,_,_,_,_,_,_,_,.cons _ _,.nil,g=>by simp at g
 | T :: Ts,_,_,_,_,H,j,B,o,.cons (v:=x) (vs:=xs) C G,.cons (v:=y) (vs:=ys) I J,g=>by
  obtain⟨s,L⟩:=Bz.mp B;obtain⟨N,l⟩:=Fq (ho:=.tup [x,y]) j (o T Ah)
  have O:Ts.length=min xs.length ys.length:=by simp at g;lia
  obtain⟨P,m,Q⟩:=Wh (Ts:=Ts) N L (λU A=>by rw[BA λz=>s (by rw[<-z];exact A)];exact o U (AS _ A)) (G.mono l) (J.mono l) O;refine⟨P,l.trans m,.cons (.tup ?_ (.cons (C.mono (l.trans m)) (.cons (I.mono (l.trans m)) .nil))) Q⟩;show LC (upd H T (.tup [x,y])) Ts (xs.zip ys) T=_;rw[Kl s,Bc]
noncomputable def Op(ml:ML):ME:=λe S=>(ml e S).bind λj g=>match j with
 | [d1,d2]=>match Nf d1 g with
  | some l=>match Nf d2 g with
   | some m=>.ok (.ref g.length) (g++[.lst (QM l m)])
   | none=>.bad
  | none=>.bad
 | _=>.bad
theorem ZB(P:X.calm=true)(R:Gl X "list") (g:X.mg "list" = none) (U:Gl X "zip") (Y:X.mg "zip" = none) (Z:GA X E [e1,e2] ml)
  (B:AQ [e1,e2] X.env=[(false,Bd e1 X.env),(false,Bd e2 X.env)]:=by rfl) (uu:AQ [e2] X.env=[(false,Bd e2 X.env)]:=by rfl) (uU:AQ [.Call (.Name "zip" p2) [e1,e2] [] ur] X.env=(false,Bd (.Call (.Name "zip" p2) [e1,e2] [] ur) X.env) :: AQ [] X.env:=by rfl) :
  GE X E (.Call (.Name "list" p) [.Call (.Name "zip" p2) [e1,e2] [] ur] [] pos) (Op ml):=(Yl P R g U Y Z B uu uU).imp<|by
 rintro σ H Q ⟨ρ,l,S,hl,B,g⟩
 refine⟨ρ,l,S,hl,B,g.seq λds L g j C m l1 G r1=>?_⟩;split at g
 ·rename_i d1 d2
  cases I:Nf d1 L with
  | none=>rw[I]at g;exact g.elim
  | some us=>
   rw[I]at g;dsimp only at g
   cases J:Nf d2 L with
   | none=>rw[J]at g;exact g.elim
   | some vs=>
    rw[J]at g
    cases r1 with
    | cons r t=>
     cases t with
     | cons r' t=>
      cases t;obtain⟨a,m,rfl,rr,sq⟩:=Ih G r I;obtain⟨b,A,rfl,yC,Ο⟩:=Ih G r' J;refine⟨a,b,m,A,rfl,sq,Ο,λs q g1 g2 N g4=>?_⟩;obtain⟨s2,l2,r2⟩:=Wh G g2 (λT hT=>(N T hT).1) rr yC g1
      have O:LC C s (m.zip A) q=none:=by rw[Kl λz=>(N q z).2 rfl];exact g4
      have le:Le X.K j (LC C s (m.zip A)) (j++[q]) (upd (LC C s (m.zip A)) q (.lst (s.map V.ref))):=Le.alloc O;obtain⟨s4,l4,yF⟩:=s2.alloc (ho:=.lst (s.map V.ref)) (o:=.lst (QM us vs)) O ⟨_,Bc,r2.mono le⟩;exact g _ _ _ ((l1.trans l2).trans l4) s4 (.ref yF)
 ·exact g.elim
end
structure ZipP(h:CS)(z TI TO i1 i2 l1 l2:AN)(k:Nat):Prop where
 zip:IsZip h z TI TO .none
 ins:RW h TI (.ref i1) (.ref i2)
 out:∃a b,RW h TO a b
 one:h.IsListIter i1 l1 k
 two:h.IsListIter i2 l2 k
noncomputable def tU(K:AD)(a b:AN):It:=
 ⟨λi H=>∃g j x y,SqL K H a g/\SqL K H b j/\g[i]?=some x/\j[i]?=some y,λi H v l=>∃p x y,H p=none/\v=.ref p/\l=upd H p (.tup [x,y])/\(∀g,SqL K H a g->g[i]?=some x)/\∀j,SqL K H b j->j[i]?=some y,
  λi H=>∃g j,SqL K H a g/\SqL K H b j/\(g.length<=i∨j.length<=i)⟩
section
variable{P:BP}{w:Bu}{K:AD}{elts:List Expr}{x1:Nat}{pos:Pos}
theorem bQ(a b z TI TO j A:AN)(D:NW z TI TO j A a b):Tl P w K (.Tuple elts x1 pos) (tU K a b) [z,TI,TO,j,A] z (λi h=>ZipP h z TI TO j A a b i) where
 mem:=by simp
 obj:=λi h st c g=>by
  obtain⟨Zz,ZI,⟨_,_,ZO⟩,⟨R,q1,_,d1⟩,⟨S,q2,_,d2⟩⟩:=st;simp only[Aq,Bq,or_false]at g
  rcases g with rfl | rfl | rfl | rfl | rfl
  ·exact⟨_,Zz,λv t=>by cases(show RX _=N3 v from t)⟩
  ·exact⟨_,ZI,λv t=>by cases(show lW _ _=N3 v from t)⟩
  ·exact⟨_,ZO,λv t=>by cases(show lW _ _=N3 v from t)⟩
  ·exact⟨R,q1,ao d1⟩
  ·exact⟨S,q2,ao d2⟩
 keep:=λi h h' st k=>⟨k z (by simp) _ st.zip,k TI (by simp) _ st.ins,let ⟨p,q,e⟩:=st.out;⟨p,q,k TO (by simp) _ e⟩,st.one.at λo e=>k j (by simp) o e,st.two.at λo e=>k A (by simp) o e⟩
 item:=by
  intro X U hw Y g i ζ s σ H E I B st Z;subst U hw Y;obtain⟨xs,ys,x,y,L,N,O,hy⟩:=Z;obtain⟨i',rv,p,_⟩:=I.list L;obtain⟨yS,uD,p2,_⟩:=I.list N;obtain⟨u,hu,ru⟩:=rv.get O;obtain⟨v,hv,yD⟩:=uD.get hy;have lz:z < s.heap.objs.size:=AL st.zip;have lI:TI < s.heap.objs.size:=AL st.ins
  have lO:TO < s.heap.objs.size:=let ⟨_,_,e⟩:=st.out;AL e
  have l1:j < s.heap.objs.size:=let ⟨o,e,_⟩:=st.one;AL e
  have l2:A < s.heap.objs.size:=let ⟨o,e,_⟩:=st.two;AL e
  obtain⟨R,S,C⟩:=st.out
  refine iZ D st.zip st.ins C st.one st.two p.isList p2.isList (x:=u) (y:=v) (by simpa using hu) (by simpa using hv) λh' a1 a2 a3 a4 a5 _ a6=>?_
  have new:Cz X.prog X.w (upd H s.heap.objs.size (.tup [x,y])) h' s.heap.objs.size (.tup [x,y]):=
   ⟨⟨Au (show 2<=1000 by decide) (by decide),_,a5,rfl⟩,[u,v],.cons ru (.cons yD .nil),_,a5,rfl,_,rfl⟩
  have I1:=I.turnedS (t':=s.toks) (ch:=[z,TO,j,A]) (λc o g e=>a6 c o (λt=>g (by simp[t])) (λt=>g (by simp[t])) (λt=>g (by simp[t])) (λt=>g (by simp[t])) e) (λc g=>B c (by
   simp only[Aq,Bq,or_false]at g ⊢
   rcases g with h | h | h | h <;> simp[h])) (AO _) new
  refine⟨_,rfl,wpAny_letOwnedTupleGo_zip (s:={ s with heap:=h' }) a1 λh2 Z2 S2=>?_⟩;have G:Du z h' h2:=S2;have fz:=B z (by simp);have I2:=I1.turned (t':=s.toks) (h':=h2) (it:=z) (λc o g q=>(G.2 c g).trans q) (by rw[BA (Ao lz)];exact fz.1) fz.2.1 fz.2.2.2.1 fz.2.2.2.2.1 fz.2.2.2.2.2;refine⟨.ref s.heap.objs.size,_,I2,rfl,⟨s.heap.objs.size,x,y,I.hok.fresh (AO _),rfl,rfl,λl h=>by rw[I.list_inj h L];exact O,λl h=>by rw[I.list_inj h N];exact hy⟩,?_,λc g=>?_⟩
  ·have up:∀c o,c≠z->h'.get? c=some o->h2.get? c=some o:=λc o n e=>(G.2 c n).trans e
   exact⟨Z2,up _ _ D.TIz (a6 _ _ D.TIz D.TITO D.TIi1 D.TIi2 st.ins),⟨_,_,up _ _ D.TOz a2⟩,a3.at λo e=>up _ o D.i1z e,a4.at λo e=>up _ o D.i2z e⟩
  ·have:c≠s.heap.objs.size:=by
    simp only[Aq,Bq,or_false]at g
    rcases g with rfl | rfl | rfl | rfl | rfl <;> apply Ao <;> assumption
   rw[BA this];exact(B c g).1
 done:=by
  intro X U hw Y g i ζ s σ H E I B st Z;subst U hw Y;obtain⟨xs,ys,L,N,O⟩:=Z;obtain⟨i',rv,p,_⟩:=I.list L;obtain⟨yS,uD,p2,_⟩:=I.list N;have n1:=rv.length;have n2:=uD.length;obtain⟨R,S,C⟩:=st.out
  refine ik (I.ok.hd g) D st.zip st.ins C st.one st.two p.isList p2.isList (by
   rcases O with h | h
   ·exact .inl (by simp;lia)
   ·exact .inr (by simp;lia)) λh' k=>⟨rfl,?_⟩
  have vM:∀b u,H b=some u->b∉[z,TO,j,A]:=λb u q Q=>by
   rw[(B b (by
    simp only[Aq,Bq,or_false]at Q ⊢
    rcases Q with h | h | h | h <;> simp[h])).1]at q
   cases q
  have f:∀b∈[z,TO,j,A],MK X ζ H b:=λc g=>B c (by
   simp only[Aq,Bq,or_false]at g ⊢
   rcases g with h | h | h | h <;> simp[h])
  have J:∀c o,c∉[z,TO,j,A]->s.heap.get? c=some o->h'.get? c=some o:=λc o g e=>k c o (λt=>g (by simp[t])) (λt=>g (by simp[t])) (λt=>g (by simp[t])) (λt=>g (by simp[t])) e
  refine I.step (t':=s.toks) (g':=s.gens) (d':=s.drawn) (ch:=[z,TO,j,A]) (λb hb=>⟨(f b hb).2.2.2.1,(f b hb).2.1,(f b hb).2.2.2.2.1,(f b hb).2.2.2.2.2⟩) (λb o _ _ g q _=>J b o g q) (λb o _ _ g q _=>⟨o.slots,J b o g q⟩) (λb o _ q n=>n)
   (λb o g q=>⟨o,J b o g q⟩) (λb xs q=>q) (λb o u q=>q) (λb ps q=>⟨#[],by rw[q];simp⟩) (λm Q=>?_) (λb u q=>?_) I.bare
  ·obtain⟨o,es,ep,C,r⟩:=Q
   exact⟨o,es,ep,J _ o (λt=>(f _ t).2.1 rfl) C,r⟩
  ·refine(I.hok b u q).stay (λc v g r=>?_) (λc r=>r) λc xs r=>r
   refine J c v ?_ r
   rcases g with t | t
   ·rw[t];exact vM b u q
   ·exact vM c _ t
 self:=λ_ _ _ _ _ st h=>qd st.zip h
end
section
variable{X:Cx}{E:EW}{e1 e2:Expr}{elts:List Expr}{x1:Nat}{p pos yQ:Pos}{ml:ML}{ta:TA}
noncomputable def sr(K:AD)(ta:TA):TI:=λj H R=>ta j H λl g=>∃a b,l=[.ref a,.ref b]/\(∃m,SqL K g a m)/\(∃o,SqL K g b o)/\R (tU K a b) g
theorem jx(L:Gl X "zip") (N:X.mg "zip" = none) (O:PA X [e1,e2] ta) (P:AQ [e1,e2] X.env=[(false,Bd e1 X.env),(false,Bd e2 X.env)]:=by rfl) (l:AQ [e2] X.env=[(false,Bd e2 X.env)]:=by rfl):PI X (.Tuple elts x1 yQ) (.Call (.Name "zip" p) [e1,e2] [] pos) (sr X.K ta):=by
 intro m s Q H R I h;refine qV (IN I L N boot_zip (BJ (thn (O pos m s Q H _ I h) λus g ⟨vs,A,j,S,U⟩=>?_) (by rw[P,l]) (by rw[l];rfl)));obtain⟨a,b,rfl,⟨xs,Y⟩,⟨ys,Z⟩,q⟩:=U;obtain⟨u,v,rfl,ru,rv⟩:=vals2 S;cases ru;cases rv;obtain⟨i',rx,B,_⟩:=j.list Y;obtain⟨yS,ry,C,_⟩:=j.list Z
 have la:a < g.heap.objs.size:=by obtain⟨o,q,_⟩:=B.isList;exact AL q
 have lb:b < g.heap.objs.size:=by obtain⟨o,q,_⟩:=C.isList;exact AL q
 have fp:∀c∈[g.heap.objs.size+4,g.heap.objs.size+2,g.heap.objs.size+3,g.heap.objs.size,g.heap.objs.size+1],MK X m A c:=λc G=>by
  have:g.heap.objs.size<=c:=by
   simp only[Aq,Bq,or_false]at G
   rcases G with h | h | h | h | h <;> rw[h] <;> first | exact AO _ | exact Nat.le_add_right _ _
  exact j.fpOk this (j.hok.fresh this)
 refine call_zip_2 B.isList C.isList λh1 J z2 z3 z4 z5 _ k1=>qd J ?_
 exact⟨_,_,_,_,A,rfl,j.kept (t':=g.toks) k1,bQ a b _ _ _ _ _ (zipApart_new la lb),⟨J,z2,⟨_,_,z3⟩,z4,z5⟩,fp,q⟩
noncomputable def Zl(v w:OM):OM:=λS=>(v S).bind λg=>(w S).map λj=>QM g j
noncomputable def Vr(ml:ML):MI:=λe S=>(ml e S).bind λj g=>match j with
 | [d1,d2]=>match GV d1 g with
  | some _=>match GV d2 g with
   | some _=>.ok (Zl (GV d1) (GV d2)) g
   | none=>.bad
  | none=>.bad
 | _=>.bad
theorem kZ(hg:Gl X "zip") (g:X.mg "zip" = none) (ha:GA X E [e1,e2] ml) (L:AQ [e1,e2] X.env=[(false,Bd e1 X.env),(false,Bd e2 X.env)]:=by rfl) (uu:AQ [e2] X.env=[(false,Bd e2 X.env)]:=by rfl):GI X E (.Tuple elts x1 yQ) (.Call (.Name "zip" p) [e1,e2] [] pos) (Vr ml):=
 (jx hg g ha L uu).imp<|by
 rintro σ H R ⟨ρ,l,S,hl,L,g⟩
 refine⟨ρ,l,S,hl,L,g.seq λds N g A H1 B l1 O r1=>?_⟩;split at g
 ·rename_i d1 d2
  cases j:GV d1 N with
  | none=>rw[j]at g;exact g.elim
  | some us=>
   rw[j]at g;dsimp only at g
   cases m:GV d2 N with
   | none=>rw[m]at g;exact g.elim
   | some I=>
    rw[m]at g
    cases r1 with
    | cons r t=>
     cases t with
     | cons P t=>
      cases t
      have ref:∀{d:D} {x:V} {ds:List D},Bs X.K A H1 d x->GV d N=some ds->∃a,x=.ref a:=λr h=>by
       cases r <;> first | exact⟨_,rfl⟩ | (cases h;done)
      obtain⟨a,rfl⟩:=ref r j;obtain⟨b,rfl⟩:=ref P m;obtain⟨B,C,_⟩:=Iy O r j;obtain⟨J,G,_⟩:=Iy O P m;refine⟨a,b,rfl,⟨B,C⟩,⟨J,G⟩,g A H1 _ l1 O ?_⟩;intro Q H2 S2 uS i l2 U o;unfold Zl at o
      cases Y:GV d1 S2 with
      | none=>rw[Y]at o;cases o
      | some B=>
       rw[Y]at o
       cases Z:GV d2 S2 with
       | none=>rw[Z]at o;cases o
       | some J=>
        rw[Z]at o;cases o;obtain⟨I,C,ra⟩:=Iy U (r.mono l2) Y;obtain⟨ws,G,rb⟩:=Iy U (P.mono l2) Z;refine⟨λhn=>⟨I,ws,C,G,?_⟩,λd s=>?_⟩
        ·rw[Tu]at hn
         rw[<-ra.length,<-rb.length]
         cases j:B[i]? with
         | none=>exact .inl (DK.mp j)
         | some x=>
          cases m:J[i]? with
          | none=>exact .inr (DK.mp m)
          | some y=>rw[j,m]at hn;cases hn
        ·rw[Tu]at s
         cases j:B[i]? with
         | none=>rw[j]at s;cases s
         | some x=>
          cases m:J[i]? with
          | none=>rw[j,m]at s;cases s
          | some y=>
           rw[j,m]at s;cases s;obtain⟨v,o,rx⟩:=ra.get j;obtain⟨u,hu,ry⟩:=rb.get m;refine⟨⟨I,ws,v,u,C,G,o,hu⟩,λt H' ht=>?_⟩;obtain⟨q,x',y',hq,rfl,rfl,vA,hy'⟩:=ht;have e1:=vA I C;have e2:=hy' ws G;rw[o]at e1;rw[hu]at e2;cases e1;cases e2;obtain⟨s4,l4⟩:=Fq (ho:=.tup [v,u]) U hq;exact⟨Q,l4,s4,.tup Bc (.cons (rx.mono l4) (.cons (ry.mono l4) .nil))⟩
 ·exact g.elim
end
noncomputable def XB(x:Str)(j:List D->Sto->Key->Int)(f:List D->Sto->Res D)(ds:List D)(S:Sto):Res D:=match f ds S with
 | .ok .non g=>match UJ x ds g with
  | some m=>match g[m]? with
   | some (.dK [])=>.ok .non (g.set m (.mem (j ds g)))
   | _=>.bad
  | none=>.bad
 | .err c g=>.err c g
 | _=>.bad
section
variable{P:BP}{w:Bu}{K:AD}{mg:Str->Option AE}{base:CS}{CX:CXT}{k n:Nat}{fa:AN}{fd:Je}{ps:List Str}{x:Str}{f:List D->Sto->Res D}{Lf:List D->Sto->Key->Int}
theorem gz(F:DI P w K mg base CX k fa fd ps (spM K n f)):DI P w K mg base CX k fa fd ps (spM K n (XB x Lf f)):=F.imp<|by
 rintro U H Q E ⟨A,B,S,C,G,I,g⟩
 unfold XB at g;refine⟨A,B,S,C,G,I,?_⟩;split at g
 ·rename_i J j
  split at g
  ·rename_i m X
   split at g
   ·rename_i L
    rw[j];intro o N y l s r;exact g o N y l (s.swap L λa Y ⟨O,e,r⟩=>⟨O,e,aG r ⟨HS,λ_ R=>nomatch R⟩⟩) r
   ·exact g.elim
  ·exact g.elim
 ·rename_i c J j
  rw[j];exact g
 ·exact g.elim
end
end L2
namespace L4
open PySem L2
inductive Cel where
 | no | fz (o:Ob) | ow (i:Nat)
noncomputable abbrev Fz:=Nat->Cel
inductive Sl where
 | u | v (d:D) | z (o:Ob) | y (o:Ob) | w (i:Nat) (o:Ob) | q (P:(Nat->Option Ob)->D->Prop)
noncomputable def Sl.ok(S0:Sto)(F:Fz)(S:Sto):Sl->Option D->Prop
 | .u,_=>True
 | .v d,x=>x=some d
 | .z o,x=>∃n,x=some (.ref n)/\F n=.fz o
 | .y o,x=>∃n,x=some (.ref n)/\F n=.fz o/\S0.length<=n
 | .w i o,x=>∃n,x=some (.ref n)/\F n=.ow i/\S[n]?=some o
 | .q P,x=>∃d,x=some d/\∀L:Nat->Option Ob,(∀n o,F n=.fz o->L n=some o)->P L d
structure Vs(S0:Sto)(A:List Sl)(e:Lo)(F:Fz)(S:Sto):Prop where
 kp:Keeps S0 S
 fz:∀n o,F n=.fz o->S[n]?=some o
 ow:∀n i,F n=.ow i->S0.length<=n/\n < S.length
 hi:∀n,S.length<=n->F n=.no
 sl:∀(i:Nat) (a:Sl),A[i]?=some a->∃x,e[i]?=some x/\a.ok S0 F S x
noncomputable def Fle(F g:Fz):Prop:=∀n o,F n=.fz o->g n=.fz o
theorem Fle.refl(F:Fz):Fle F F:=λ_ _ h=>h
theorem Fle.trans(a:Fle F G)(b:Fle G H):Fle F H:=λn o h=>b n o (a n o h)
noncomputable def Sg(F:Fz)(S g:Sto):Fz:=λn=>if n < S.length then F n else match g[n]? with
 | some o=>.fz o
 | none=>.no
section
variable{S0 S S':Sto}{A B:List Sl}{e:Lo}{F:Fz}{α β γ ρ σ τ:Type}
theorem Fe(h:n < S.length):Sg F S S' n=F n:=qX h
theorem Mx(h:S.length<=n)(ho:S'[n]?=some o):Sg F S S' n=.fz o:=by
 unfold Sg;rw[qY (KM.mpr h),ho]
theorem B9(h:S[n]?=some o):n < S.length:=(AF.mp h).1
theorem Sl.mono{S0:Sto}{F l:Fz}{S S':Sto}{a:Sl}{x:Option D}(h:a.ok S0 F S x)(m:∀n o,F n=.fz o->l n=.fz o)(C:∀n i o,F n=.ow i->S[n]?=some o->l n=.ow i/\S'[n]?=some o):a.ok S0 l S' x:=by
 cases a with
 | u=>trivial
 | v d=>exact h
 | z o=>obtain⟨n,g,j⟩:=h;exact⟨n,g,m _ _ j⟩
 | y o=>obtain⟨n,g,j,s⟩:=h;exact⟨n,g,m _ _ j,s⟩
 | w i o=>obtain⟨n,g,j,s⟩:=h;exact⟨n,g,C _ _ _ j s⟩
 | q P=>obtain⟨d,g,j⟩:=h;exact⟨d,g,λL E=>j L λn o q=>E n o (m n o q)⟩
theorem Vs.fle(h:Vs S0 A e F S)(S':Sto):Fle F (Sg F S S'):=λn o q=>by rw[Fe (B9 (h.fz n o q))];exact q
theorem Vs.grow(h:Vs S0 A e F S)(k:Keeps S S'):Vs S0 A e (Sg F S S') S':=by
 refine⟨h.kp.trans k,λn o q=>?_,λn i q=>?_,λn j=>?_,λi a m=>?_⟩
 ·unfold Sg at q
  split at q
  ·rename_i j
   rw[k.2 n j];exact h.fz n o q
  ·cases g:S'[n]? with
   | none=>rw[g]at q;cases q
   | some s=>rw[g]at q;cases q;rfl
 ·unfold Sg at q
  split at q
  ·exact⟨(h.ow n i q).1,AW (h.ow n i q).2 k.1⟩
  ·cases g:S'[n]? with
   | none=>rw[g]at q;cases q
   | some s=>rw[g]at q;cases q
 ·unfold Sg
  rw[qY (KM.mpr (Au k.1 j)),DL j]
 ·obtain⟨x,C,E⟩:=h.sl i a m
  exact⟨x,C,Sl.mono E (h.fle S') λn i o G l=>⟨by rw[Fe (B9 l)];exact G,by rw[k.2 n (B9 l)];exact l⟩⟩
theorem Vs.cons(h:Vs S0 A e F S)(g:a.ok S0 F S x):Vs S0 (a :: A) (x :: e) F S:=
 ⟨h.kp,h.fz,h.ow,h.hi,λi b hb=>by
  cases i with
  | zero=>cases hb;exact⟨x,rfl,g⟩
  | succ i=>exact h.sl i b hb⟩
theorem Vs.set(h:Vs S0 A e F S)(i:Nat)(g:a.ok S0 F S x):Vs S0 (A.set i a) (e.set i x) F S:=
 ⟨h.kp,h.fz,h.ow,h.hi,λj b hb=>by
  by_cases c:i=j
  ·subst c
   rw[EM]at hb;rw[qX rfl]at hb;split at hb
   ·rename_i l
    cases hb;obtain⟨y,m,_⟩:=h.sl i (A[i]) (Ax l);exact⟨x,by rw[EM];rw[qX rfl,qX (AF.mp m).1],g⟩
   ·cases hb
  ·rw[Af c]at hb ⊢
   exact h.sl j b hb⟩
inductive Wk:List Sl->List Sl->Prop where
 | nil:Wk [] []
 | same {a:Sl} {A B:List Sl}:Wk A B->Wk (a :: A) (a :: B)
 | drop {a:Sl} {A B:List Sl}:Wk A B->Wk (a :: A) (.u :: B)
 | less {o:Ob} {A B:List Sl}:Wk A B->Wk (.y o :: A) (.z o :: B)
theorem Wk.at:∀{A B:List Sl},Wk A B->∀(i:Nat) (b:Sl),B[i]?=some b->∃a,A[i]?=some a/\(b=.u∨b=a∨∃o,a=.y o/\b=.z o)
 | _,_,.nil,i,b,h=>by simp at h
 | _,_,.same w,0,b,h=>by cases h;exact⟨_,rfl,.inr (.inl rfl)⟩
 | _,_,.less w,0,b,h=>by cases h;exact⟨_,rfl,.inr (.inr ⟨_,rfl,rfl⟩)⟩
 | _,_,.less w,i+1,b,h=>Wk.at w i b h
 | _,_,.drop w,0,b,h=>by cases h;exact⟨_,rfl,.inl rfl⟩
 | _,_,.same w,i+1,b,h=>Wk.at w i b h
 | _,_,.drop w,i+1,b,h=>Wk.at w i b h
theorem Wk.refl:∀A:List Sl,Wk A A
 | []=>.nil
 | _ :: A=>.same (Wk.refl A)
theorem Vs.weak(h:Vs S0 A e F S)(w:Wk A B):Vs S0 B e F S:=⟨h.kp,h.fz,h.ow,h.hi,λi b hb=>by
 obtain⟨a,l,m⟩:=w.at i b hb;obtain⟨x,g,j⟩:=h.sl i a l
 rcases m with rfl | rfl | ⟨o,rfl,rfl⟩
 ·exact⟨x,g,trivial⟩
 ·exact⟨x,g,j⟩
 ·obtain⟨n,s,C,_⟩:=j
  exact⟨x,g,n,s,C⟩⟩
noncomputable def Sl.oth(i:Nat):Sl->Bool
 | .w k _=>!(qq k i)
 | _=>true
theorem fG(h:((A.set i .u).all (Sl.oth i))=true)(l:j≠i)(m:A[j]?=some (.w k o)):k≠i:=by
 have s:(A.set i .u)[j]?=some (.w k o):=by rw[Af (BW l)];exact m
 have:=Dz.mp h _ (Ca s);intro e;subst e;have g:(!(qq k k))=true:=this;rw[Nat.beq_refl]at g;cases g
theorem Vs.put(h:Vs S0 A e F S)(I:((A.set i .u).all (Sl.oth i))=true)(Q:A[i]?=some (.w i o))(J:e[i]?=some (some (.ref n)))(l:F n=.ow i):Vs S0 (A.set i (.w i o')) e F (S.set n o'):=by
 have E:=h.ow n i l;refine⟨h.kp.set E.1 o',λk q s=>?_,λk j q=>by rw[Cw];exact h.ow k j q,λk G=>h.hi k (by rw[Cw]at G;exact G),λj b hb=>?_⟩
 ·have:n≠k:=λc=>by subst c;rw[l]at s;cases s
  rw[Af this];exact h.fz k q s
 ·by_cases c:i=j
  ·subst c
   rw[EM]at hb;rw[qX rfl]at hb;split at hb
   ·cases hb
    exact⟨_,J,n,rfl,l,by rw[EM];rw[qX rfl,qX E.2]⟩
   ·cases hb
  ·rw[Af c]at hb
   obtain⟨x,L,g⟩:=h.sl j b hb;refine⟨x,L,?_⟩
   cases b with
   | u=>trivial
   | v d=>exact g
   | z q=>exact g
   | y q=>exact g
   | q P=>exact g
   | w k q=>
    obtain⟨m,N,C,O⟩:=g;refine⟨m,N,C,?_⟩
    have:n≠m:=λz=>by
     subst z;rw[l]at C;cases C;exact fG I (λz=>c z.symm) hb rfl
    rw[Af this];exact O
theorem Vs.freeze(h:Vs S0 A e F S)(Q:((A.set i .u).all (Sl.oth i))=true)(R:A[i]?=some (.w i o)):∃F',Vs S0 (A.set i (.y o)) e F' S/\Fle F F':=by
 obtain⟨x,U,n,rfl,J,O⟩:=h.sl i _ R
 have g:∀k,k≠n->(if k=n then Cel.fz o else F k)=F k:=λk G=>qY G
 have I:Fle F (λk=>if k=n then Cel.fz o else F k):=λk q s=>by
  have:k≠n:=λc=>by subst c;rw[J]at s;cases s
  show(if k=n then Cel.fz o else F k)=_;rw[qY this];exact s
 refine⟨λk=>if k=n then .fz o else F k,⟨h.kp,λk q s=>?_,λk j q=>?_,λk G=>?_,λj b hb=>?_⟩,I⟩
 ·split at s
  ·rename_i c;cases s;subst c;exact O
  ·exact h.fz k q s
 ·split at q
  ·cases q
  ·exact h.ow k j q
 ·have:k≠n:=λc=>by subst c;exact zX (B9 O) (KM.mpr G)
  show(if k=n then Cel.fz o else F k)=_;rw[qY this];exact h.hi k G
 ·by_cases c:i=j
  ·subst c
   rw[EM]at hb;rw[qX rfl]at hb;split at hb
   ·cases hb
    exact⟨_,U,n,rfl,qX rfl,(h.ow n i J).1⟩
   ·cases hb
  ·rw[Af c]at hb
   obtain⟨x,X,E⟩:=h.sl j b hb;refine⟨x,X,?_⟩
   cases b with
   | u=>trivial
   | v d=>exact E
   | z q=>obtain⟨m,C,l⟩:=E;exact⟨m,C,I _ _ l⟩
   | y q=>obtain⟨m,C,l,N⟩:=E;exact⟨m,C,I _ _ l,N⟩
   | q P=>obtain⟨d,C,l⟩:=E;exact⟨d,C,λL Y=>l L λn o q=>Y n o (I n o q)⟩
   | w k q=>
    obtain⟨m,C,l,N⟩:=E;refine⟨m,C,?_,N⟩
    have:m≠n:=λz=>by
     subst z;rw[J]at l;cases l;exact fG Q (λz=>c z.symm) hb rfl
    show(if m=n then Cel.fz o else F m)=_;rw[qY this];exact l
theorem Vs.own(h:Vs S0 A e F S)(k:Keeps S S'){i n:Nat}{o:Ob}(s:S.length<=n)(ho:S'[n]?=some o):∃F',Vs S0 (A.set i (.w i o)) (e.set i (some (.ref n))) F' S'/\Fle F F':=by
 have g:=h.grow k;have E:=B9 ho
 have G:Fle F (λj=>if j=n then Cel.ow i else Sg F S S' j):=λj q l=>by
  have:j≠n:=λc=>by subst c;exact zX (B9 (h.fz _ _ l)) (KM.mpr s)
  show(if j=n then Cel.ow i else _)=_;rw[qY this];exact h.fle S' _ _ l
 refine⟨λj=>if j=n then .ow i else Sg F S S' j,(Vs.set (a:=.w i o) (x:=some (.ref n)) ⟨g.kp,λj q l=>?_,λj q l=>?_,λj I=>?_,λj b hb=>?_⟩ i ⟨n,rfl,qX rfl,ho⟩),G⟩
 ·split at l
  ·cases l
  ·exact g.fz j q l
 ·split at l
  ·rename_i c;subst c;exact⟨Au h.kp.1 s,E⟩
  ·exact g.ow j q l
 ·have:j≠n:=λc=>by subst c;exact zX E (KM.mpr I)
  show(if j=n then Cel.ow i else _)=_;rw[qY this];exact g.hi j I
 ·obtain⟨x,L,N⟩:=h.sl j b hb
  refine⟨x,L,Sl.mono N G λm j q O J=>?_⟩;have C:=B9 J
  have:m≠n:=λc=>by subst c;exact zX C (KM.mpr s)
  refine⟨?_,by rw[k.2 m C];exact J⟩;show(if m=n then Cel.ow i else _)=_;rw[qY this,Fe C];exact O
noncomputable abbrev Rk(α:Type):=α->Sto->D->Sto->Prop
noncomputable def rV(enc:α->D):Rk α:=λv _ d _=>d=enc v
noncomputable def rO(g:α->Ob):Rk α:=λv _ d S=>∃n,d=.ref n/\S[n]?=some (g v)
noncomputable def rN(g:α->Ob):Rk α:=λv S0 d S=>∃n,d=.ref n/\S0.length<=n/\S[n]?=some (g v)
noncomputable def VE(A:List Sl)(m:ME)(R:Rk α)(p:Option α):Prop:=∀v,p=some v->∀S0 e F S,Vs S0 A e F S->∃d S',m e S=.ok d S'/\Keeps S S'/\R v S d S'
noncomputable def VB(A:List Sl)(t:MT)(p:Option Bool):Prop:=∀v,p=some v->∀S0 e F S,Vs S0 A e F S->∃S',t e S=.ok v S'/\Keeps S S'
noncomputable def VL(A:List Sl)(ml:ML)(enc:α->D)(p:Option (List α)):Prop:=∀v,p=some v->∀S0 e F S,Vs S0 A e F S->∃S',ml e S=.ok (v.map enc) S'/\Keeps S S'
noncomputable def VK(A:List Sl)(mi:MI)(enc:α->D)(p:Option (List α)):Prop:=∀v,p=some v->∀S0 e F S,Vs S0 A e F S->∃w S',mi e S=.ok w S'/\Keeps S S'/\∀g,Keeps S' g->w g=some (v.map enc)
noncomputable def VI(A:List Sl)(mi:MI)(enc:α->D)(p:Option (List α)):Prop:=∀v,p=some v->∀S0 e F S,Vs S0 A e F S->∃w S',mi e S=.ok w S'/\Keeps S S'/\∀g j,Fle (Sg F S S') g->(∀n o,g n=.fz o->j[n]?=some o)->w j=some (v.map enc)
theorem VI.k(h:VI A mi enc p):VK A mi enc p:=λv o S0 e F S j=>by
 obtain⟨w,S',s,l,C⟩:=h v o S0 e F S j;have g:=j.grow l;exact⟨w,S',s,l,λm k=>C _ m (g.fle m) (g.grow k).fz⟩
noncomputable def eT(enc:α->D)(l:List α):D:=.tup (l.map enc)
noncomputable def eP(a:α->D)(b:β->D)(x:α×β):D:=.tup [a x.1,b x.2]
noncomputable def eU(_:Unit):D:=.non
noncomputable def eF(l:ZLi):D:=.fro (l.map D.int)
noncomputable def oL(enc:α->D)(l:List α):Ob:=.lst (l.map enc)
theorem mn(h:VE A m R p)(i:∀v S d S',R v S d S'->R' v S d S'):VE A m R' p:=λv g S0 e F S j=>by
 obtain⟨d,S',l,o,s⟩:=h v g S0 e F S j;exact⟨d,S',l,o,i _ _ _ _ s⟩
theorem IX(h:VE A m (rN g) p):VE A m (rO g) p:=mn h λv S d S' ⟨n,j,_,l⟩=>⟨n,j,l⟩
theorem AU(h:A[i]?=some (.v (enc v))):VE A (AH i) (rV enc) (some v):=λ_ g S0 e F S j=>by
 cases g;obtain⟨x,l,m⟩:=j.sl i _ h;cases m;exact⟨_,S,by unfold AH;rw[l],Keeps.refl S,rfl⟩
theorem DN(h:A[i]?=some (.z (j v))):VE A (AH i) (rO j) (some v):=λ_ l S0 e F S g=>by
 cases l;obtain⟨x,m,n,rfl,o⟩:=g.sl i _ h;exact⟨_,S,by unfold AH;rw[m],Keeps.refl S,n,rfl,g.fz _ _ o⟩
theorem Hn(h:A[i]?=some (.y (j v))):VE A (AH i) (rO j) (some v):=λ_ l S0 e F S g=>by
 cases l;obtain⟨x,m,n,rfl,o,_⟩:=g.sl i _ h;exact⟨_,S,by unfold AH;rw[m],Keeps.refl S,n,rfl,g.fz _ _ o⟩
theorem K9(h:A[i]?=some (.w k (g v))):VE A (AH i) (rO g) (some v):=λ_ j S0 e F S l=>by
 cases j;obtain⟨x,m,n,rfl,s,o⟩:=l.sl i _ h;exact⟨_,S,by unfold AH;rw[m],Keeps.refl S,n,rfl,o⟩
theorem CZ(h:d=enc v):VE A (mC d) (rV enc) (some v):=λ_ g S0 e F S j=>by
 cases g;exact⟨d,S,rfl,Keeps.refl S,h⟩
theorem BC(h:p.bind q=some v):∃x,p=some x/\q x=some v:=Ul.mp h
theorem IW{f:D->D->Sto->Res D}{a b:ME}{l:α->D}{m:β->D}{o:γ->D}{s:Option α}{C:Option β}{g:α->β->Option γ}(J:VE A a (rV l) s)(hb:VE A b (rV m) C)
  (L:∀x y z S,g x y=some z->f (l x) (m y) S=.ok (o z) S):VE A (m2 f a b) (rV o) (s.bind λx=>C.bind λy=>g x y):=λv j S0 e F S E=>by
 obtain⟨x,N,j⟩:=BC j;obtain⟨y,O,P⟩:=BC j;obtain⟨d1,Q,R,G,rfl⟩:=J x N S0 e F S E;obtain⟨d2,I,U,X,rfl⟩:=hb y O S0 e _ Q (E.grow G);exact⟨_,I,FZ R U (L x y v I P),G.trans X,rfl⟩
theorem dh{f:D->D->Sto->Res D}{a b:ME}{l:α->Ob}{m:β->D}{o:γ->D}{s:Option α}{C:Option β}{g:α->β->Option γ}(L:VE A a (rO l) s)(hb:VE A b (rV m) C)
  (N:∀x y z S (n:Nat),S[n]?=some (l x)->g x y=some z->f (.ref n) (m y) S=.ok (o z) S):VE A (m2 f a b) (rV o) (s.bind λx=>C.bind λy=>g x y):=λv j S0 e F S E=>by
 obtain⟨x,O,j⟩:=BC j;obtain⟨y,P,Q⟩:=BC j;obtain⟨d1,R,U,G,n,rfl,X⟩:=L x O S0 e F S E;obtain⟨d2,I,Y,J,rfl⟩:=hb y P S0 e _ R (E.grow G);exact⟨_,I,FZ U Y (N x y v I n (J.at X) Q),G.trans J,rfl⟩
theorem LA(h:VE A m (rV D.bl) p):VB A (mB m) p:=λv g S0 e F S j=>by
 obtain⟨d,S',l,o,rfl⟩:=h v g S0 e F S j;exact⟨S',WG l,o⟩
theorem Jo:VB A IZ (some true):=λv g S0 e F S j=>by cases g;exact⟨S,rfl,Keeps.refl S⟩
theorem YQ(h:VB A t p):VB A (Qu t) (p.bind λb=>some (!b)):=λv g S0 e F S j=>by
 obtain⟨x,l,m⟩:=BC g;cases m;obtain⟨S',o,s⟩:=h x l S0 e F S j;exact⟨S',fP o,s⟩
theorem Uz(I:VB A t pt)(J:VE A a R L)(hb:VE A b R N)(C:∀v S S1 d S',S.length<=S1.length->R v S1 d S'->R v S d S'):VE A (Vl t a b) R (pt.bind λc=>if c=true then L else N):=λv O S0 e F S j=>by
 obtain⟨x,P,E⟩:=BC O;obtain⟨S1,G,g⟩:=I x P S0 e F S j
 cases x with
 | true=>
  obtain⟨d,l,m,o,s⟩:=J v E S0 e _ S1 (j.grow g);exact⟨d,l,(gV G).trans m,g.trans o,C _ _ _ _ _ g.1 s⟩
 | false=>
  obtain⟨d,l,m,o,s⟩:=hb v E S0 e _ S1 (j.grow g);exact⟨d,l,(gV G).trans m,g.trans o,C _ _ _ _ _ g.1 s⟩
theorem Do:∀(v:α) (S S1:Sto) (d:D) (S':Sto),S.length<=S1.length->rV enc v S1 d S'->rV enc v S d S':=λ_ _ _ _ _ _ h=>h
theorem Nn:∀(v:α) (S S1:Sto) (d:D) (S':Sto),S.length<=S1.length->rN g v S1 d S'->rN g v S d S':=λ_ _ _ _ _ l ⟨n,j,m,o⟩=>⟨n,j,Au l m,o⟩
inductive Fw(ρ σ:Type) where
 | rt (r:ρ) | nx (s:σ) | bk (s:σ) | ct (s:σ)
noncomputable def VG(S0:Sto)(F:Fz)(S':Sto)(R:Rk ρ)(B:σ->List Sl)(g:Fl):Fw ρ σ->Prop
 | .nx s=>∃j l,g=.nx j/\Vs S0 (B s) j l S'/\Fle F l
 | .ct s=>∃j l,g=.ct j/\Vs S0 (B s) j l S'/\Fle F l
 | .bk s=>∃j l,g=.bk j/\Vs S0 (B s) j l S'/\Fle F l
 | .rt r=>∃d,g=.rt d/\R r S0 d S'/\Keeps S0 S'
noncomputable def VS(A:List Sl)(b:MS)(R:Rk ρ)(p:Option (Fw ρ σ))(B:σ->List Sl):Prop:=∀f,p=some f->∀S0 e F S,Vs S0 A e F S->∃g S',b e S=.ok g S'/\VG S0 F S' R B g f
noncomputable def BH(p:Option (Fw ρ σ))(q:σ->Option (Fw ρ τ)):Option (Fw ρ τ):=match p with
 | some (.nx s)=>q s
 | some (.rt r)=>some (.rt r)
 | _=>none
theorem VG.up{S0:Sto}{F G:Fz}{S':Sto}{R:Rk ρ}{B:σ->List Sl}{g:Fl}{f:Fw ρ σ}(l:Fle F G)(h:VG S0 G S' R B g f):VG S0 F S' R B g f:=by
 cases f with
 | rt r=>exact h
 | nx s=>obtain⟨j,m,o,C,E⟩:=h;exact⟨j,m,o,C,l.trans E⟩
 | bk s=>obtain⟨j,m,o,C,E⟩:=h;exact⟨j,m,o,C,l.trans E⟩
 | ct s=>obtain⟨j,m,o,C,E⟩:=h;exact⟨j,m,o,C,l.trans E⟩
theorem A9{a b:MS}{R:Rk ρ}{p:Option (Fw ρ σ)}{q:σ->Option (Fw ρ τ)}{B:σ->List Sl}{C:τ->List Sl}(G:VS A a R p B)(hb:∀s,VS (B s) b R (q s) C):VS A (BO a b) R (BH p q) C:=λf l S0 e F S I=>by
 cases p with
 | none=>cases l
 | some w=>
  obtain⟨g,o,E,j⟩:=G _ rfl S0 e F S I
  cases w with
  | nx s=>
   obtain⟨J,L,rfl,j,m⟩:=j;obtain⟨N,O,P,Q⟩:=hb s f l S0 J L o j;exact⟨N,O,(Ck E).trans P,Q.up m⟩
  | rt r=>
   cases l;obtain⟨d,rfl,j,m⟩:=j;exact⟨_,o,eI E,d,rfl,j,m⟩
  | bk s=>cases l
  | ct s=>cases l
theorem Jn{R:Rk ρ}{B:σ->List Sl}{s:σ}(w:Wk A (B s)):VS A sNx R (some (.nx s)) B:=λf g S0 e F S j=>by
 cases g;exact⟨_,S,rfl,e,F,rfl,j.weak w,Fle.refl F⟩
theorem rB{R:Rk ρ}{B:σ->List Sl}{s:σ}(w:Wk A (B s)):VS A sBk R (some (.bk s)) B:=λf g S0 e F S j=>by
 cases g;exact⟨_,S,rfl,e,F,rfl,j.weak w,Fle.refl F⟩
noncomputable def Ds(g:σ->τ)(p:Option (Fw ρ σ)):Option (Fw ρ τ):=match p with
 | some (.nx s)=>some (.nx (g s))
 | some (.rt r)=>some (.rt r)
 | some (.bk s)=>some (.bk (g s))
 | some (.ct s)=>some (.ct (g s))
 | none=>none
theorem DB{b:MS}{R:Rk ρ}{p:Option (Fw ρ σ)}{g:σ->τ}{B:σ->List Sl}{C:τ->List Sl}(h:VS A b R p B)(w:∀s,Wk (B s) (C (g s))):VS A b R (Ds g p) C:=λf l S0 e F S J=>by
 cases p with
 | none=>cases l
 | some x=>
  obtain⟨g,G,I,j⟩:=h _ rfl S0 e F S J
  cases x with
  | nx s=>cases l;obtain⟨m,o,rfl,j,E⟩:=j;exact⟨_,G,I,m,o,rfl,j.weak (w s),E⟩
  | rt r=>cases l;exact⟨_,G,I,j⟩
  | bk s=>cases l;obtain⟨m,o,rfl,j,E⟩:=j;exact⟨_,G,I,m,o,rfl,j.weak (w s),E⟩
  | ct s=>cases l;obtain⟨m,o,rfl,j,E⟩:=j;exact⟨_,G,I,m,o,rfl,j.weak (w s),E⟩
theorem Db(h:VE A m (rV enc) p):VS A (Ci i m) R (p.bind λv=>some (.nx v)) (λv=>A.set i (.v (enc v))):=λf j S0 e F S g=>by
 obtain⟨v,l,o⟩:=BC j;cases o;obtain⟨d,S',s,C,rfl⟩:=h v l S0 e F S g;exact⟨_,S',Mf s,_,_,rfl,(g.grow C).set i rfl,g.fle S'⟩
theorem NE(h:VE A m (rN j) p):VS A (Ci i m) R (p.bind λv=>some (.nx v)) (λv=>A.set i (.y (j v))):=λf o S0 e F S g=>by
 obtain⟨v,s,C⟩:=BC o;cases C;obtain⟨d,S',E,G,n,rfl,l,I⟩:=h v s S0 e F S g;exact⟨_,S',Mf E,_,_,rfl,(g.grow G).set (a:=.y (j v)) i ⟨n,rfl,Mx l I,Au g.kp.1 l⟩,g.fle S'⟩
theorem Hm(h:VE A m (rN j) p):VS A (Ci i m) R (p.bind λv=>some (.nx v)) (λv=>A.set i (.w i (j v))):=λf l S0 e F S g=>by
 obtain⟨v,o,s⟩:=BC l;cases s;obtain⟨d,S',C,E,n,rfl,G,I⟩:=h v o S0 e F S g;obtain⟨J,L,N⟩:=g.own E (i:=i) G I;exact⟨_,S',Mf C,_,J,rfl,L,N⟩
theorem bL(h:A[j]?=some (.y o)):VS A (Ci i (AH j)) R (some (.nx ())) (λ_:Unit=>A.set i (.y o)):=λf l S0 e F S g=>by
 cases l;obtain⟨x,m,n,rfl,s,C⟩:=g.sl j _ h;exact⟨_,S,Mf (d:=.ref n) (by unfold AH;rw[m]),_,F,rfl,g.set (a:=.y o) i ⟨n,rfl,s,C⟩,Fle.refl F⟩
theorem mZ{b:MS}{R:Rk ρ}{p:Option (Fw ρ σ)}{B:σ->List Sl}{o:Ob}(i:Nat)(j:A[i]?=some (.w i o))(l:((A.set i .u).all (Sl.oth i))=true)(h:VS (A.set i (.y o)) b R p B):VS A b R p B:=λf m S0 e F S s=>by
 obtain⟨C,E,G⟩:=s.freeze l j;obtain⟨g,S',I,J⟩:=h f m S0 e C S E;exact⟨g,S',I,J.up G⟩
theorem Gm{m:ME}{enc:ρ->D}{p:Option ρ}{B:σ->List Sl}(h:VE A m (rV enc) p):VS A (EQ m) (rV enc) (p.bind λv=>some (.rt v)) B:=λf j S0 e F S g=>by
 obtain⟨v,l,o⟩:=BC j;cases o;obtain⟨d,S',s,C,rfl⟩:=h v l S0 e F S g;exact⟨_,S',JJ s,_,rfl,rfl,g.kp.trans C⟩
theorem Zh{m:ME}{j:ρ->Ob}{p:Option ρ}{B:σ->List Sl}(h:VE A m (rN j) p):VS A (EQ m) (rN j) (p.bind λv=>some (.rt v)) B:=λf l S0 e F S g=>by
 obtain⟨v,o,s⟩:=BC l;cases s;obtain⟨d,S',C,E,n,rfl,G,I⟩:=h v o S0 e F S g;exact⟨_,S',JJ C,_,rfl,⟨n,rfl,Au g.kp.1 G,I⟩,g.kp.trans E⟩
theorem NF{i:Nat}{j:ρ->Ob}{v:ρ}{B:σ->List Sl}{k:Nat}(h:A[i]?=some (.w k (j v))):VS A (EQ (AH i)) (rN j) (some (.rt v)) B:=λf l S0 e F S g=>by
 cases l;obtain⟨x,m,n,rfl,o,s⟩:=g.sl i _ h;exact⟨_,S,JJ (d:=.ref n) (by unfold AH;rw[m]),_,rfl,⟨n,rfl,(g.ow _ _ o).1,s⟩,g.kp⟩
theorem jA{i:Nat}{j:ρ->Ob}{v:ρ}{B:σ->List Sl}(h:A[i]?=some (.y (j v))):VS A (EQ (AH i)) (rN j) (some (.rt v)) B:=λf l S0 e F S g=>by
 cases l;obtain⟨x,m,n,rfl,o,s⟩:=g.sl i _ h;exact⟨_,S,JJ (d:=.ref n) (by unfold AH;rw[m]),_,rfl,⟨n,rfl,s,g.fz _ _ o⟩,g.kp⟩
theorem QN{t:MT}{a b:MS}{R:Rk ρ}{pt:Option Bool}{p q:Option (Fw ρ σ)}{B:σ->List Sl}(I:VB A t pt)(J:VS A a R p B)(hb:VS A b R q B):VS A (sIf t a b) R (pt.bind λc=>if c=true then p else q) B:=λf L S0 e F S j=>by
 obtain⟨c,N,C⟩:=BC L;obtain⟨l,E,G⟩:=I c N S0 e F S j
 cases c with
 | true=>
  obtain⟨g,m,o,s⟩:=J f C S0 e _ l (j.grow G);exact⟨g,m,(Nq E).trans o,s.up (j.fle l)⟩
 | false=>
  obtain⟨g,m,o,s⟩:=hb f C S0 e _ l (j.grow G);exact⟨g,m,(Nq E).trans o,s.up (j.fle l)⟩
noncomputable def Nh(l:List α)(x:α):Option (List α):=if l.length < 1000000 then some (l++[x])else none
noncomputable def Ti(l k:List α):Option (List α):=if l.length+k.length<=1000000 then some (l++k)else none
theorem fu(h:n < 1000000):n < sizeLine:=AW h (by decide)
theorem kU(h:n<=1000000):n<=sizeLine:=Au h (by decide)
theorem MZ(hi:A[i]?=some (.w i (oL enc l)))(h:VE A m (rV enc) p)(I:((A.set i .u).all (Sl.oth i))=true) :
  VS A (Eb (MD (AH i) m)) R (p.bind λv=>(Nh l v).bind λj=>some (.nx j)) (λj=>A.set i (.w i (oL enc j))):=λf J S0 e F S o=>by
 obtain⟨v,L,g⟩:=BC J;obtain⟨j,g,N⟩:=BC g;cases N;unfold Nh at g;split at g
 ·rename_i O
  cases g;obtain⟨x,C,n,rfl,P,s⟩:=o.sl i _ hi;obtain⟨d,S',Q,E,rfl⟩:=h v L S0 e F S o;have U:=o.grow E;have G:=WC (mo:=AH i) (e:=e) (S:=S) (S1:=S) (n:=n) (by unfold AH;rw[C]) s Q (E.at s) (by rw[AJ];exact fu O);rw[show l.map enc++[enc v]=(l++[v]).map enc by simp]at G;exact⟨_,_,KB G,e,_,rfl,U.put I hi C (by rw[Fe (B9 s)];exact P),o.fle S'⟩
 ·cases g
theorem Zj(h:VE A m Rm p):VS A (Eb m) R (p.bind λ_=>some (.nx ())) (λ_:Unit=>A):=λf j S0 e F S g=>by
 obtain⟨v,l,o⟩:=BC j;cases o;obtain⟨d,S',s,C,_⟩:=h v l S0 e F S g;exact⟨_,S',KB s,e,_,rfl,g.grow C,g.fle S'⟩
theorem RZ(hi:A[i]?=some (.v (D.int x)))(h:VE A m (rV D.int) p):VS A (R6 i g m) R (p.bind λy=>some (.nx (g x y))) (λz=>A.set i (.v (D.int z))):=λf l S0 e F S j=>by
 obtain⟨v,o,s⟩:=BC l;cases s;obtain⟨d,S',C,E,rfl⟩:=h v o S0 e F S j;obtain⟨y,G,I⟩:=j.sl i _ hi;cases I;refine⟨_,S',?_,_,_,rfl,(j.grow E).set (a:=.v (D.int (g x v))) i rfl,j.fle S'⟩;unfold R6;rw[G];dsimp only;rw[C];rfl
noncomputable def VT(g:MG)(enc:α->D)(t:α->List Sl->List Sl):Prop:=∀x S0 A e F S,Vs S0 A e F S->∃j,g (enc x) e S=.ok j S/\Vs S0 (t x A) j F S
theorem D0:VT (tgN i) enc (λx A=>A.set i (.v (enc x))):=λx S0 A e F S g=>⟨_,rfl,g.set (a:=.v (enc x)) i rfl⟩
theorem Zg:VT (Jp 2 (Dd (tgN i) (Dd (tgN j) Km))) (eP a b) (λx A=>(A.set i (.v (a x.1))).set j (.v (b x.2))):=λx S0 A e F S g=>⟨_,rfl,(g.set (a:=.v (a x.1)) i rfl).set (a:=.v (b x.2)) j rfl⟩
noncomputable def DG:List α->σ->(σ->α->Option (Fw ρ σ))->Option (Fw ρ σ)
 | [],s,_=>some (.nx s)
 | x :: l,s,q=>match q s x with
  | some (.nx g)=>DG l g q
  | some (.ct g)=>DG l g q
  | some (.bk g)=>some (.nx g)
  | some (.rt r)=>some (.rt r)
  | none=>none
theorem jC{enc:α->D}{g:MG}{t:α->List Sl->List Sl}{b:MS}{R:Rk ρ}{q:σ->α->Option (Fw ρ σ)}{B:σ->List Sl}(hg:VT g enc t)(hb:∀s x,VS (t x (B s)) b R (q s x) B){w:OM}{S0:Sto}{Z:Fz}{j:List α}
  (hw:∀yT vw,Fle Z yT->(∀n o,yT n=.fz o->vw[n]?=some o)->w vw=some (j.map enc)):∀(l:List α) (k:Nat),j.drop k=l->∀(s:σ) (f:Fw ρ σ),DG l s q=some f->∀e F S,Vs S0 (B s) e F S->Fle Z F->∃h S',MF w g b (l.length) k e S=.ok h S'/\VG S0 Z S' R B h f:=by
 intro l
 induction l with
 | nil=>
  intro k U s f C e F S P E;cases C
  have:j.length<=k:=by
   have:=congrArg RV U;rw[ID,Dj]at this
   lia
  refine⟨_,S,?_,e,F,rfl,P,E⟩;unfold MF;rw[hw F S E P.fz];dsimp only;rw[DL (by rw[AJ];exact this)]
 | cons x l ih=>
  intro k U s f C e F S P E
  have hx:j[k]?=some x:=by
   have:=congrArg (λz=>z[0]?) U;rw[O8]at this;simpa using this
  have uA:j.drop (k+1)=l:=by
   have G:j.drop (k+1)=(j.drop k).drop 1:=by rw[lT]
   exact G.trans (congrArg (List.drop 1) U)
  obtain⟨G,g1,X⟩:=hg x S0 _ e F S P
  have run:∀h S',b G S=.ok h S'->MF w g b ((x :: l).length) k e S=(match h with
    | .nx m=>MF w g b l.length (k+1) m S'
    | .ct m=>MF w g b l.length (k+1) m S'
    | .bk m=>.ok (.nx m) S'
    | .rt d=>.ok (.rt d) S'
    | .ex c m=>.ok (.ex c m) S'):=λh S' ux=>by
   show MF w g b (l.length+1) k e S=_
   conv=>lhs;unfold MF
   rw[hw F S E P.fz];dsimp only;rw[Ae,hx];dsimp only[Zb];rw[g1];dsimp only[Res.bind];rw[ux]
   all_goals (cases h <;> rfl)
  unfold DG at C;split at C
  ·rename_i Y I
   obtain⟨h,J,L,m,Q,rfl,N,O⟩:=hb s x _ I S0 G F S X;rw[run _ _ L];exact ih (k+1) uA Y f C m Q J N (E.trans O)
  ·rename_i Y I
   obtain⟨h,J,L,m,Q,rfl,N,O⟩:=hb s x _ I S0 G F S X;rw[run _ _ L];exact ih (k+1) uA Y f C m Q J N (E.trans O)
  ·rename_i Y I
   cases C;obtain⟨h,J,L,m,Q,rfl,N,O⟩:=hb s x _ I S0 G F S X;rw[run _ _ L];exact⟨_,J,rfl,m,Q,rfl,N,E.trans O⟩
  ·rename_i r I
   cases C;obtain⟨h,J,L,d,rfl,N,O⟩:=hb s x _ I S0 G F S X;rw[run _ _ L];exact⟨_,J,rfl,d,rfl,N,O⟩
  ·cases C
theorem Ek{enc:α->D}{mi:MI}{g:MG}{t:α->List Sl->List Sl}{b:MS}{R:Rk ρ}{p:Option (List α)}{q:σ->α->Option (Fw ρ σ)}{B:σ->List Sl}{s0:σ}(hi:VI A mi enc p)(E:VT g enc t)(w0:Wk A (B s0))(hb:∀s x,VS (t x (B s)) b R (q s x) B) :
  VS A (Fy mi g b) R (p.bind λl=>DG l s0 q) B:=λf G S0 e F S m=>by
 obtain⟨l,I,J⟩:=BC G;obtain⟨w,j,L,N,o⟩:=hi l I S0 e F S m;have C:=m.grow N
 have O:D1 w j=l.length:=by unfold D1;rw[o _ j (Fle.refl _) C.fz];exact AJ _
 obtain⟨h,P,Q,U⟩:=jC E hb o l 0 rfl s0 f J e _ j (C.weak w0) (Fle.refl _);refine⟨h,P,?_,U.up (m.fle j)⟩;rw[OF L,O];exact Q
noncomputable def Sr(c:α->Option Bool)(m:α->Option β):List α->Option (List β)
 | []=>some []
 | x :: l=>(c x).bind λb=>if b=true then(m x).bind λy=>(Sr c m l).bind λg=>some (y :: g)else Sr c m l
noncomputable def IB(l:List α)(c:α->Option Bool)(m:α->Option β):Option (List β):=if l.length<=1000000 then Sr c m l else none
theorem dY{enc:α->D}{I:β->D}{g:MG}{P:List (Option D)->Prop}{T:α->List Sl}{c:MT}{m:ME}{pc:α->Option Bool}{pm:α->Option β}
  (hg:∀x S0 e F S o,P o->Vs S0 A e F S->∃C,g (enc x) (o++e) S=.ok (C++e) S/\P C/\Vs S0 (T x) (C++e) F S)
  (hc:∀x,VB (T x) c (pc x)) (hm:∀x,VE (T x) m (rV I) (pm x)) {w:OM} {S0:Sto} {e:Lo} {j:List α} {S1:Sto} (hf:j.length<=1000000) (hw:∀vw,Keeps S1 vw->w vw=some (j.map enc)) :
  ∀(l:List α) (k:Nat),j.drop k=l->∀(r:List β),Sr pc pm l=some r->∀o F S s,P o->Vs S0 A e F S->Keeps S1 S->s.length<=k->∃S',Gw w g c m l.length k (o++e) S s=.ok (s++r.map I) S'/\Keeps S S':=by
 intro l
 induction l with
 | nil=>
  intro k J r L o F S s hp O G ha;cases L
  have:j.length<=k:=by
   have:=congrArg RV J;rw[ID,Dj]at this
   lia
  refine⟨S,?_,Keeps.refl S⟩;unfold Gw;rw[hw S G];dsimp only;rw[DL (by rw[AJ];exact this),Jb,Ba]
 | cons x l ih=>
  intro k J r L o F S s hp O G ha
  have hx:j[k]?=some x:=by
   have:=congrArg (λz=>z[0]?) J;rw[O8]at this;simpa using this
  have uA:j.drop (k+1)=l:=by
   have e1:j.drop (k+1)=(j.drop k).drop 1:=by rw[lT]
   exact e1.trans (congrArg (List.drop 1) J)
  have Q:k < j.length:=(AF.mp hx).1;obtain⟨C,g1,g2,g3⟩:=hg x S0 e F S o hp O;unfold Sr at L;obtain⟨b,h1,N⟩:=BC L;obtain⟨S2,h3,E⟩:=hc x b h1 S0 _ F S g3;have uu:=O.grow E
  show ∃S',Gw w g c m (l.length+1) k (o++e) S s=_/\_
  conv=>arg 1;ext S';arg 1;lhs;unfold Gw
  rw[hw S G];dsimp only;rw[Ae,hx];dsimp only[Zb];rw[qX (BR ha (fu (AW Q hf))),g1];dsimp only[okR,Res.bind];rw[h3];dsimp only[okR,Res.bind]
  cases b with
  | true=>
   rw[qX rfl]at N ⊢;obtain⟨y,h5,h6⟩:=BC N;obtain⟨ys,R,h7⟩:=BC h6;cases h7;obtain⟨d,S3,h8,U,rfl⟩:=hm x y h5 S0 _ _ S2 (g3.grow E);rw[h8];obtain⟨X,Y,Z⟩:=ih (k+1) uA ys R C _ S3 (s++[I y]) g2 (uu.grow U) (G.trans (E.trans U)) (by rw[AV,Ac];lia);refine⟨X,?_,(E.trans U).trans Z⟩;show Gw w g c m l.length (k+1) (C++e) S3 (s++[I y])=_;rw[Y,EN];rfl
  | false=>
   rw[qY AT]at N ⊢;obtain⟨X,Y,Z⟩:=ih (k+1) uA r N C _ S2 s g2 uu (G.trans E) (by lia);exact⟨X,Y,E.trans Z⟩
theorem jD{enc:α->D}{E:β->D}{n:Nat}{mi:MI}{g:MG}{P:List (Option D)->Prop}{T:α->List Sl}{c:MT}{m:ME}{p:Option (List α)}{G:α->Option Bool}{I:α->Option β}(hi:VK A mi enc p)(h0:P (BM n none))
  (O:∀x S0 e F S j,P j->Vs S0 A e F S->∃s,g (enc x) (j++e) S=.ok (s++e) S/\P s/\Vs S0 (T x) (s++e) F S)
  (Q:∀x,VB (T x) c (G x)) (R:∀x,VE (T x) m (rV E) (I x)):VL A (HZ n mi g c m) E (p.bind λl=>IB l G I):=λr U S0 e F S J=>by
 obtain⟨l,X,o⟩:=BC U;obtain⟨w,C,Y,L,N⟩:=hi l X S0 e F S J;unfold IB at o;split at o
 ·rename_i Z
  have wm:=J.grow L;obtain⟨S2,h6,h7⟩:=dY O Q R Z N l 0 rfl r o _ _ C [] h0 wm (Keeps.refl _) (AO _);refine⟨S2,?_,L.trans h7⟩;rw[V5 Y,show D1 w C=l.length by unfold D1;rw[N C (Keeps.refl _)];exact AJ _];exact h6
 ·cases o
theorem Hy{enc:α->D}{j:β->D}{mi:MI}{c:MT}{m:ME}{p:Option (List α)}{o:α->Option Bool}{s:α->Option β}(hi:VK A mi enc p)(C:∀x,VB (.v (enc x) :: A) c (o x))(E:∀x,VE (.v (enc x) :: A) m (rV j) (s x)) :
  VL A (HZ 1 mi (tgN 0) c m) j (p.bind λl=>IB l o s):=
 jD (P:=λg=>∃z,g=[z]) hi ⟨none,rfl⟩ (λx S0 e F S g G I=>by
  obtain⟨z,rfl⟩:=G
  exact⟨[some (enc x)],rfl,⟨_,rfl⟩,I.cons (a:=.v (enc x)) rfl⟩) C E
theorem D4(h:VL A ml enc p):VE A (Ga ml) (rN (oL enc)) p:=λv j S0 e F S l=>by
 obtain⟨S',m,g⟩:=h v j S0 e F S l;exact⟨_,_,Yp m,g.trans (Keeps.app _ _),_,rfl,g.1,GD _ _⟩
inductive Ar where
 | v (d:D) | z (o:Ob) | q (P:(Nat->Option Ob)->D->Prop)
noncomputable def Ar.ok(S:Sto):Ar->D->Prop
 | .v d,x=>x=d
 | .z o,x=>∃n,x=.ref n/\S[n]?=some o
 | .q P,x=>∀L:Nat->Option Ob,(∀n o,S[n]?=some o->L n=some o)->P L x
noncomputable def Ar.sl:Ar->Sl
 | .v d=>.v d
 | .z o=>.z o
 | .q P=>.q P
noncomputable def JX(S:Sto):List Ar->List D->Prop
 | [],[]=>True
 | a :: as,d :: g=>a.ok S d/\JX S as g
 | _,_=>False
theorem JX.len:∀{as:List Ar} {ds:List D},JX S as ds->ds.length=as.length
 | [],[],_=>rfl
 | _ :: as,_ :: ds,h=>by rw[Aj,Aj,JX.len h.2]
 | [],_ :: _,h=>h.elim
 | _ :: _,[],h=>h.elim
theorem JX.at:∀{as:List Ar} {ds:List D},JX S as ds->∀(i:Nat) (a:Ar),as[i]?=some a->∃d,ds[i]?=some d/\a.ok S d
 | [],[],_,i,a,h=>by simp at h
 | b :: as,d :: ds,h,0,a,q=>by cases q;exact⟨d,rfl,h.1⟩
 | b :: as,d :: ds,h,i+1,a,q=>JX.at h.2 i a q
 | [],_ :: _,h,_,_,_=>h.elim
 | _ :: _,[],h,_,_,_=>h.elim
noncomputable def VF(f:List D->Sto->Res D)(as:List Ar)(R:Rk α)(p:Option α):Prop:=∀v,p=some v->∀S g,JX S as g->∃d S',f g S=.ok d S'/\Keeps S S'/\R v S d S'
noncomputable def VA(A:List Sl)(ml:ML)(p:Option γ)(j:γ->List Ar):Prop:=∀v,p=some v->∀S0 e F S,Vs S0 A e F S->∃g S',ml e S=.ok g S'/\Keeps S S'/\JX S' (j v) g
theorem CD:VA A BE (some ()) (λ_=>[]):=λv g S0 e F S j=>⟨[],S,rfl,Keeps.refl S,trivial⟩
theorem Cq(h:VE A m (rV enc) p)(l:VA A ml q o):VA A (AR m ml) (p.bind λx=>q.bind λy=>some (x,y)) (λz=>.v (enc z.1) :: o z.2):=λv s S0 e F S g=>by
 obtain⟨x,C,E⟩:=BC s;obtain⟨y,G,I⟩:=BC E;cases I;obtain⟨d,J,L,j,rfl⟩:=h x C S0 e F S g;obtain⟨R,N,O,P,Q⟩:=l y G S0 e _ J (g.grow j);exact⟨_,N,CP L O,j.trans P,rfl,Q⟩
theorem PX(h:VE A m (rO o) p)(s:VA A ml q C):VA A (AR m ml) (p.bind λx=>q.bind λy=>some (x,y)) (λz=>.z (o z.1) :: C z.2):=λv E S0 e F S g=>by
 obtain⟨x,G,I⟩:=BC E;obtain⟨y,J,L⟩:=BC I;cases L;obtain⟨d,N,O,j,n,rfl,P⟩:=h x G S0 e F S g;obtain⟨X,Q,R,l,U⟩:=s y J S0 e _ N (g.grow j);exact⟨_,Q,CP O R,j.trans l,⟨n,rfl,l.at P⟩,U⟩
theorem Bx(m:VA A ml p g)(o:∀z,VF f (g z) R (q z))(s:∀z,(g z).length=n)(C:∀v S S1 d S',S.length<=S1.length->R v S1 d S'->R v S d S'):VE A (B2 n f ml) R (p.bind q):=λv E S0 e F S G=>by
 obtain⟨z,I,J⟩:=BC E;obtain⟨L,S1,N,j,l⟩:=m z I S0 e F S G;obtain⟨d,O,P,Q,U⟩:=o z v J S1 L l;exact⟨d,O,(Hw N (l.len.trans (s z))).trans P,j.trans Q,C _ _ _ _ _ j.1 U⟩
noncomputable def Kt(S:Sto):Fz:=λn=>match S[n]? with
 | some o=>.fz o
 | none=>.no
theorem Vs.start(h:JX S as ds):Vs S (as.map Ar.sl++BM (n - as.length) .u) (FS n ds) (Kt S) S:=by
 refine⟨Keeps.refl S,λn o q=>?_,λn i q=>?_,λn s=>by unfold Kt;rw[DL s],λi a g=>?_⟩
 ·unfold Kt at q
  split at q
  ·rename_i O C;cases q;exact C
  ·cases q
 ·unfold Kt at q
  split at q <;> cases q
 ·unfold FS
  by_cases c:i < as.length
  ·rw[Al (by rw[AJ];exact c),Ae]at g
   rw[Al (by rw[AJ,h.len];exact c),Ae]
   cases j:as[i]? with
   | none=>rw[j]at g;cases g
   | some b=>
    rw[j]at g;cases g;obtain⟨d,E,l⟩:=h.at i b j;refine⟨some d,by rw[E];rfl,?_⟩
    cases b with
    | v x=>exact congrArg some l
    | z o=>obtain⟨m,G,I⟩:=l;exact⟨m,congrArg some G,by unfold Kt;rw[I]⟩
    | q P=>exact⟨d,rfl,λL J=>l L λn o q=>J n o (by unfold Kt;rw[q])⟩
  ·rw[BV (by rw[AJ];lia)]at g
   rw[AJ,Dh]at g;split at g
   ·rename_i N
    cases g;refine⟨none,?_,trivial⟩;rw[BV (by rw[AJ,h.len];lia),AJ,h.len,Dh,qX N]
   ·cases g
noncomputable def HN(p:Option (Fw ρ σ)):Option ρ:=match p with
 | some (.rt r)=>some r
 | _=>none
noncomputable def kE(p:Option (Fw Unit σ)):Option Unit:=match p with
 | some (.rt r)=>some ()
 | some (.nx _)=>some ()
 | _=>none
end
section
variable{S0 S S':Sto}{A:List Sl}{α β:Type}
section
variable{a b c:ME}{pa pb pc:Option Int}
theorem FQ(g:VE A a (rV D.int) pa)(hb:VE A b (rV D.int) pb):VE A (m2 Ge a b) (rV D.int) (pa.bind λx=>pb.bind λy=>some (x+y)):=IW g hb λx y z S h=>by cases h;rfl
theorem PU(g:VE A a (rV D.int) pa)(hb:VE A b (rV D.int) pb):VE A (m2 Wj a b) (rV D.int) (pa.bind λx=>pb.bind λy=>some (x - y)):=IW g hb λx y z S h=>by cases h;rfl
noncomputable def Vh(x y:Int):Option Int:=if Xm x y then some (x * y)else none
noncomputable def XQ(x y:Int):Option Int:=if iY x y then some (x / y)else none
noncomputable def Ys(x y:Int):Option Int:=if 0 < y then some (x % y)else none
theorem Rj(g:VE A a (rV D.int) pa)(hb:VE A b (rV D.int) pb):VE A (m2 Pt a b) (rV D.int) (pa.bind λx=>pb.bind λy=>Vh x y):=IW g hb λx y z S h=>by
 unfold Vh at h;split at h
 ·rename_i j;cases h;exact qX j
 ·cases h
theorem Zq(g:VE A a (rV D.int) pa)(hb:VE A b (rV D.int) pb):VE A (m2 IY a b) (rV D.int) (pa.bind λx=>pb.bind λy=>XQ x y):=IW g hb λx y z S h=>by
 unfold XQ at h;split at h
 ·rename_i j;cases h;exact qX j
 ·cases h
theorem Uy(g:VE A a (rV D.int) pa)(hb:VE A b (rV D.int) pb):VE A (m2 Kr a b) (rV D.int) (pa.bind λx=>pb.bind λy=>Ys x y):=IW g hb λx y z S h=>by
 unfold Ys at h;split at h
 ·rename_i j;cases h;exact aA j
 ·cases h
theorem GX(j:(decide (0 < k)&&decide (k<=1000000))=true)(l:VE A a (rV D.int) pa):VE A (m2 IY a (mC (.int k))) (rV D.int) (pa.bind λx=>some (x / k)):=λv m S0 e F S o=>by
 obtain⟨x,s,B⟩:=BC m;cases B;obtain⟨d,S',C,E,rfl⟩:=l x s S0 e F S o;have g:=B0 _ _▸j;exact⟨_,S',FZ C rfl (hG (of_decide_eq_true g.1) (of_decide_eq_true g.2)),E,rfl⟩
theorem Gf(g:decide (0 < k)=true)(j:VE A a (rV D.int) pa):VE A (m2 Kr a (mC (.int k))) (rV D.int) (pa.bind λx=>some (x % k)):=λv l S0 e F S m=>by
 obtain⟨x,o,s⟩:=BC l;cases s;obtain⟨d,S',B,C,rfl⟩:=j x o S0 e F S m;exact⟨_,S',FZ B rfl (aA (of_decide_eq_true g)),C,rfl⟩
theorem Zm(j:(decide (-1000000<=k)&&decide (k<=1000000))=true)(l:VE A a (rV D.int) pa):VE A (m2 Pt a (mC (.int k))) (rV D.int) (pa.bind λx=>some (x * k)):=λv m S0 e F S o=>by
 obtain⟨x,s,B⟩:=BC m;cases B;obtain⟨d,S',C,E,rfl⟩:=l x s S0 e F S o;have g:=B0 _ _▸j;exact⟨_,S',FZ C rfl (Vi (of_decide_eq_true g.1) (of_decide_eq_true g.2)),E,rfl⟩
theorem KO(g:VE A a (rV D.int) pa):VE A (Pu a) (rV D.int) (pa.bind λx=>some (-x)):=λv j S0 e F S l=>by
 obtain⟨x,m,o⟩:=BC j;cases o;obtain⟨d,S',s,B,rfl⟩:=g x m S0 e F S l;exact⟨_,S',by unfold Pu;rw[s];rfl,B,rfl⟩
theorem rE(g:VE A a (rV D.int) pa)(hb:VE A b (rV D.int) pb):VE A (m2 ltD a b) (rV D.bl) (pa.bind λx=>pb.bind λy=>some (decide (x < y))):=IW g hb λx y z S h=>by cases h;rfl
theorem de(g:VE A a (rV D.int) pa)(hb:VE A b (rV D.int) pb):VE A (m2 gtD a b) (rV D.bl) (pa.bind λx=>pb.bind λy=>some (decide (y < x))):=IW g hb λx y z S h=>by cases h;rfl
theorem Rp{f g:D->D->Sto->Res D}{P Q:Int->Int->Bool}(L:∀x y S,f (.int x) (.int y) S=.ok (.bl (P x y)) S)(N:∀x y S,g (.int x) (.int y) S=.ok (.bl (Q x y)) S)(O:VE A a (rV D.int) pa)(hb:VE A b (rV D.int) pb)(R:VE A c (rV D.int) pc) :
  VE A (m3 f g a b c) (rV D.bl) (pa.bind λx=>pb.bind λy=>if P x y=true then pc.bind λz=>some (Q y z)else some false):=λv o S0 e F S s=>by
 obtain⟨x,U,o⟩:=BC o;obtain⟨y,X,j⟩:=BC o;obtain⟨d1,Y,E,l,rfl⟩:=O x U S0 e F S s;obtain⟨d2,B,G,C,rfl⟩:=hb y X S0 e _ Y (s.grow l);have m:=L x y B
 cases I:P x y with
 | false=>
  rw[I]at j m;cases j;exact⟨_,B,sX E G m,l.trans C,rfl⟩
 | true=>
  rw[I]at j m;rw[qX rfl]at j;obtain⟨w,Z,h5⟩:=BC j;cases h5;obtain⟨d3,J,q3,k3,rfl⟩:=R w Z S0 e _ B ((s.grow l).grow C);exact⟨_,J,lm E G m q3 (N y w J),(l.trans C).trans k3,rfl⟩
theorem l8(x y:Int)(S:Sto):ltD (.int x) (.int y) S=.ok (.bl (decide (x < y))) S:=rfl
theorem am(x y:Int)(S:Sto):leD (.int x) (.int y) S=.ok (.bl (decide (x<=y))) S:=rfl
theorem Zn(m:VE A a (rV D.int) pa)(hb:VE A b (rV D.int) pb):VE A (mQ Oo (AR a (AR b BE))) (rV D.int) (pa.bind λx=>pb.bind λy=>some (if y < x then y else x)):=λv g S0 e F S j=>by
 obtain⟨x,o,g⟩:=BC g;obtain⟨y,s,B⟩:=BC g;cases B;obtain⟨d1,C,E,l,rfl⟩:=m x o S0 e F S j;obtain⟨d2,G,I,J,rfl⟩:=hb y s S0 e _ C (j.grow l);exact⟨_,G,jm (CP E (CP I rfl)) rfl,l.trans J,rfl⟩
end
noncomputable def EqN(n:Nat)(enc:α->D)[DecidableEq α]:Prop:=∀x y,eqP n (enc x) (enc y)=some (decide (x=y))
noncomputable def NL(enc:α->D):Prop:=∀x S,Nf (enc x) S=none
theorem Hu:EqN n D.int:=λx y=>by
 have:M0 (.int x) (.int y)=some (decide (x=y)):=rfl
 cases n <;> exact this
theorem aa:EqN n D.str:=λx y=>by
 have:M0 (.str x) (.str y)=some (decide (x=y)):=rfl
 cases n <;> exact this
theorem Pp:NL D.int:=λ_ _=>rfl
theorem fQ:NL D.str:=λ_ _=>rfl
section
variable{a b:ME}{enc:α->D}[DecidableEq α]
theorem hW(h:EqN 8 enc)(n:NL enc)(neg:Bool)(x y:α)(S:Sto):eqD neg (enc x) (enc y) S=.ok (.bl (if neg then !decide (x=y)else decide (x=y))) S:=by
 unfold eqD eqB;rw[n x S,n y S];dsimp only;rw[h x y]
theorem Rn(h:EqN 8 enc)(n:NL enc)(g:VE A a (rV enc) j)(hb:VE A b (rV enc) l):VE A (m2 (eqD false) a b) (rV D.bl) (j.bind λx=>l.bind λy=>some (decide (x=y))):=IW g hb λx y z S q=>by cases q;exact hW h n false x y S
theorem rC(h:EqN 8 enc)(n:NL enc)(g:VE A a (rV enc) j)(hb:VE A b (rV enc) l):VE A (m2 (eqD true) a b) (rV D.bl) (j.bind λx=>l.bind λy=>some (!decide (x=y))):=IW g hb λx y z S q=>by cases q;exact hW h n true x y S
theorem Xg(h:EqN 8 enc)(x:α):∀l:List α,Nu (enc x) (l.map enc)=some (decide (x∈l))
 | []=>by simp[Nu]
 | y :: l=>by
  rw[As];unfold Nu;rw[h y x,Xg h x l]
  by_cases c:y=x
  ·subst c;simp
  ·have:¬x=y:=λz=>c z.symm
   simp[c,this]
theorem gY(h:EqN 8 enc)(neg:Bool)(x:α){l:List α}{d:D}{S:Sto}(g:IA d S=some (l.map enc)):inA neg (enc x) d S=.ok (.bl (if neg then !decide (x∈l)else decide (x∈l))) S:=by
 show KR (inD neg (enc x) d S) _=_
 have e:inD neg (enc x) d S=.ok (.bl (if neg then !decide (x∈l)else decide (x∈l))) S:=by
  unfold inD;rw[g];dsimp only;rw[Xg h]
 rw[e];rfl
theorem YO{pl:Option (List α)}(h:EqN 8 enc)(g:VE A a (rV enc) j)(hb:VE A b (rV (eT enc)) pl):VE A (m2 (inA false) a b) (rV D.bl) (j.bind λx=>pl.bind λl=>some (decide (x∈l))):=IW g hb λx l z S q=>by cases q;exact gY h false x rfl
theorem jL{pl:Option (List α)}(h:EqN 8 enc)(g:VE A a (rV enc) j)(hb:VE A b (rV (eT enc)) pl):VE A (m2 (inA true) a b) (rV D.bl) (j.bind λx=>pl.bind λl=>some (!decide (x∈l))):=IW g hb λx l z S q=>by cases q;exact gY h true x rfl
end
section
variable{a b m mo:ME}
theorem lE(l:List α)(i:Int)(f:α->β):atI (l.map f) i=(atI l i).map f:=by
 unfold atI;rw[AJ]
 cases ixN l.length i with
 | none=>rfl
 | some j=>show(l.map f)[j]?=(l[j]?).map f;rw[Ae]
theorem Y5(g:IA d S=some (l.map enc))(h:atI l i=some x):ixA d (.int i) S=.ok (enc x) S:=by
 show KR (ixD d (.int i) S) _=_
 have:ixD d (.int i) S=.ok (enc x) S:=by
  unfold ixD;rw[g];dsimp only;rw[lE,h];rfl
 rw[this];rfl
theorem dc(g:VE A a (rV (eT enc)) pl)(hb:VE A b (rV D.int) j):VE A (m2 ixA a b) (rV enc) (pl.bind λl=>j.bind λi=>atI l i):=IW g hb λl i z S q=>Y5 rfl q
theorem mm{pl}(g:VE A a (rV eF) pl)(hb:VE A b (rV D.int) j):VE A (m2 ixA a b) (rV D.int) (pl.bind λl=>j.bind λi=>atI l i):=IW g hb λl i z S q=>Y5 rfl q
theorem FP(g:VE A a (rO (oL enc)) pl)(hb:VE A b (rV D.int) j):VE A (m2 ixA a b) (rV enc) (pl.bind λl=>j.bind λi=>atI l i):=dh g hb λl i z S n o q=>Y5 (Hz o) q
theorem jN(g:VE A a (rV (eT enc)) pl):VE A (Nd a) (rV D.int) (pl.bind λl=>some (l.length:Int)):=λv j S0 e F S o=>by
 obtain⟨l,s,B⟩:=BC j;cases B;obtain⟨d,S',C,E,rfl⟩:=g l s S0 e F S o;exact⟨_,S',(Y4 (ds:=l.map enc) C rfl).trans (by rw[AJ]),E,rfl⟩
theorem Zo{pl}(g:VE A a (rV eF) pl):VE A (Nd a) (rV D.int) (pl.bind λl=>some (l.length:Int)):=λv j S0 e F S o=>by
 obtain⟨l,s,B⟩:=BC j;cases B;obtain⟨d,S',C,E,rfl⟩:=g l s S0 e F S o;exact⟨_,S',(Y4 (ds:=l.map D.int) C rfl).trans (by rw[AJ]),E,rfl⟩
theorem Q4(g:VE A a (rO (oL enc)) pl):VE A (Nd a) (rV D.int) (pl.bind λl=>some (l.length:Int)):=λv j S0 e F S o=>by
 obtain⟨l,s,B⟩:=BC j;cases B;obtain⟨d,S',C,E,n,rfl,G⟩:=g l s S0 e F S o;exact⟨_,S',(Y4 (ds:=l.map enc) C (Hz G)).trans (by rw[AJ]),E,rfl⟩
theorem Ou:∀ns:ZLi,J9 (ns.map D.int)=some ns
 | []=>rfl
 | x :: ns=>by rw[As];unfold J9;rw[Ou ns];rfl
theorem Io(g:VE A a (rO (oL enc)) pl):VE A (Gq a) (rV (eT enc)) pl:=λl j S0 e F S o=>by
 obtain⟨d,S',s,B,n,rfl,C⟩:=g l j S0 e F S o;exact⟨_,S',Oe s (Hz C),B,rfl⟩
theorem Fx:VL A BE enc (some []):=λv g S0 e F S j=>by cases g;exact⟨S,rfl,Keeps.refl S⟩
theorem Fo(h:VE A m (rV enc) p)(o:VL A ml enc pl):VL A (AR m ml) enc (p.bind λx=>pl.bind λl=>some (x :: l)):=λv s S0 e F S g=>by
 obtain⟨x,B,C⟩:=BC s;obtain⟨l,E,G⟩:=BC C;cases G;obtain⟨d,I,J,j,rfl⟩:=h x B S0 e F S g;obtain⟨L,N,O⟩:=o l E S0 e _ I (g.grow j);exact⟨L,CP J N,j.trans O⟩
noncomputable def Ii(l:List α):Option (List α):=if l.length<=1000000 then some l else none
theorem EY(h:VL A ml enc pl):VL A (En ml) enc (pl.bind Ii):=λv j S0 e F S o=>by
 obtain⟨l,s,g⟩:=BC j;unfold Ii at g;split at g
 ·rename_i B
  cases g;obtain⟨S',C,E⟩:=h _ s S0 e F S o;refine⟨S',?_,E⟩;unfold En;rw[C];dsimp only[Res.bind];rw[qX (by rw[AJ];exact kU B)]
 ·cases g
theorem YM(h:VL A ml enc pl):VE A (Nc ml) (rV (eT enc)) (pl.bind Ii):=λv j S0 e F S o=>by
 obtain⟨l,s,g⟩:=BC j;unfold Ii at g;split at g
 ·rename_i B
  cases g;obtain⟨S',C,E⟩:=h _ s S0 e F S o;refine⟨_,S',?_,E,rfl⟩;unfold Nc;rw[C];dsimp only[Res.bind];rw[qX (by rw[AJ];exact kU B)];rfl
 ·cases g
theorem jJ(B:VE A a (rV j) C)(hb:VE A b (rV l) E):VE A (Nc (AR a (AR b BE))) (rV (eP j l)) (C.bind λx=>E.bind λy=>some (x,y)):=λv g S0 e F S o=>by
 obtain⟨x,G,g⟩:=BC g;obtain⟨y,I,J⟩:=BC g;cases J;obtain⟨d1,L,N,s,rfl⟩:=B x G S0 e F S o;obtain⟨d2,O,P,Q,rfl⟩:=hb y I S0 e _ L (o.grow s);exact⟨_,O,YX (ds:=[j x,l y]) (CP N (CP P rfl)) (by simp),s.trans Q,rfl⟩
theorem Zr(g:VE A a (rV (eT enc)) pl)(hb:VE A b (rV (eT enc)) j):VE A (m2 Ge a b) (rV (eT enc)) (pl.bind λl=>j.bind λk=>Ti l k):=IW g hb λl k z S q=>by
 unfold Ti at q;split at q
 ·rename_i o
  cases q;unfold eT;rw[BZ];exact jS (by rw[AJ,AJ];exact kU o)
 ·cases q
theorem U0(E:VE A a (rO (oL enc)) pl)(hb:VE A b (rO (oL enc)) G):VE A (m2 Ge a b) (rN (oL enc)) (pl.bind λl=>G.bind λk=>Ti l k):=λv j S0 e F S B=>by
 obtain⟨x,I,j⟩:=BC j;obtain⟨y,J,g⟩:=BC j;obtain⟨d1,L,N,o,n,rfl,O⟩:=E x I S0 e F S B;obtain⟨d2,C,P,s,m,rfl,Q⟩:=hb y J S0 e _ L (B.grow o);unfold Ti at g;split at g
 ·rename_i R
  cases g;refine⟨_,_,FZ N P (d:=.ref C.length) (S3:=C++[oL enc (x++y)]) ?_,(o.trans s).trans (Keeps.app _ _),_,rfl,(o.trans s).1,GD _ _⟩;unfold Ge;dsimp only;rw[s.at O,Q];unfold oL;dsimp only;rw[qX (by rw[AJ,AJ];exact kU R),BZ]
 ·cases g
noncomputable def VO(A:List Sl)(mo:MO)(p:Option (Option Int)):Prop:=∀v,p=some v->∀S0 e F S,Vs S0 A e F S->∃S',mo e S=.ok v S'/\Keeps S S'
theorem Q3:VO A UG (some none):=λv g S0 e F S j=>by cases g;exact⟨S,rfl,Keeps.refl S⟩
theorem Q2(h:VE A m (rV D.int) g):VO A (SI m) (g.bind λi=>some (some i)):=λv j S0 e F S l=>by
 obtain⟨x,o,s⟩:=BC j;cases s;obtain⟨d,S',B,C,rfl⟩:=h x o S0 e F S l;exact⟨S',by unfold SI;rw[B];rfl,C⟩
theorem iD(l:List α)(f:α->β)(lo hi:Option Int):Ji (l.map f) lo hi=(Ji l lo hi).map f:=by
 unfold Ji;rw[AJ,<-mO,<-WL]
theorem Q5(E:VE A a (rO (oL enc)) pl)(G:VO A mlo I)(J:VO A mhi ph):VE A (OC a mlo mhi) (rN (oL enc)) (pl.bind λl=>I.bind λx=>ph.bind λy=>some (Ji l x y)):=λv g S0 e F S s=>by
 obtain⟨l,L,g⟩:=BC g;obtain⟨x,N,g⟩:=BC g;obtain⟨y,O,P⟩:=BC g;cases P;obtain⟨d1,Q,R,j,n,rfl,U⟩:=E l L S0 e F S s;obtain⟨X,Y,o⟩:=G x N S0 e _ Q (s.grow j);obtain⟨B,Z,C⟩:=J y O S0 e _ X ((s.grow j).grow o);refine⟨.ref B.length,B++[oL enc (Ji l x y)],?_,((j.trans o).trans C).trans (Keeps.app _ _),_,rfl,((j.trans o).trans C).1,GD _ _⟩;unfold OC;rw[R];dsimp only[Res.bind];rw[Y];dsimp only;rw[Z];dsimp only;unfold VH;dsimp only;rw[Mr ((o.trans C).at U)];show Res.ok _ (B++[Ob.lst (Ji (l.map enc) x y)])=_;rw[iD];rfl
noncomputable def Nt{α β:Type}(l:List α)(v:β):Option β:=if l.length < 64 then some v else none
theorem O0{α β:Type}{l:List α}{v:β}(h:l.length < 64):Nt l v=some v:=qX h
theorem Sf{α β:Type}{l:List α}{v u:β}(h:Nt l v=some u):l.length < 64/\v=u:=by
 unfold Nt at h;split at h
 ·cases h
  exact⟨by assumption,rfl⟩
 ·cases h
theorem da{pl}(j:VE A a (rO (oL D.int)) pl):VE A (Ft a) (rN (oL D.int)) (pl.bind λl=>Nt l (Di l)):=λv o S0 e F S s=>by
 obtain⟨l,B,C⟩:=BC o;obtain⟨E,rfl⟩:=Sf C;obtain⟨d,S',G,g,n,rfl,I⟩:=j l B S0 e F S s;refine⟨_,_,NH G (SV I) (es:=(Di l).map D.int) ?_,g.trans (Keeps.app _ _),_,rfl,g.1,GD _ _⟩;unfold Kn;rw[qX (by rw[AJ];exact E)];rw[Ou]
theorem Rg(g:VE A a (rV (eT enc)) pl):VI A (GC a) enc pl:=λl j S0 e F S o=>by
 obtain⟨d,S',s,B,rfl⟩:=g l j S0 e F S o;exact⟨_,S',XJ (xs:=l.map enc) s,B,λ_ _ _ _=>rfl⟩
theorem Rh(j:VE A a (rN (oL enc)) pl):VI A (GC a) enc pl:=λl o S0 e F S s=>by
 obtain⟨d,S',B,C,n,rfl,E,g⟩:=j l o S0 e F S s;exact⟨_,S',JO B g,C,λI J G h=>EZ (h n _ (G _ _ (Mx E g)))⟩
theorem dZ(h:A[i]?=some (.z (oL enc l))):VI A (GC (AH i)) enc (some l):=λ_ s S0 e F S g=>by
 cases s;obtain⟨x,B,n,rfl,j⟩:=g.sl i _ h;have o:=g.fz _ _ j;exact⟨_,S,JO (n:=n) (by unfold AH;rw[B]) o,Keeps.refl S,λE G C h=>EZ (h n _ (C _ _ (by rw[Fe (B9 o)];exact j)))⟩
theorem jG(h:A[i]?=some (.y (oL enc l))):VI A (GC (AH i)) enc (some l):=λ_ s S0 e F S g=>by
 cases s;obtain⟨x,B,n,rfl,j,_⟩:=g.sl i _ h;have o:=g.fz _ _ j;exact⟨_,S,JO (n:=n) (by unfold AH;rw[B]) o,Keeps.refl S,λE G C h=>EZ (h n _ (C _ _ (by rw[Fe (B9 o)];exact j)))⟩
noncomputable def GZ(lo:Int)(n:Nat):ZLi:=(Bl n).map λi:Nat=>lo+i
noncomputable def MA(j:Int):Option ZLi:=if -1000000<=j/\j<=1000000 then some (GZ 0 j.toNat)else none
noncomputable def ji(i j:Int):Option ZLi:=if -1000000<=i/\i<=1000000/\-1000000<=j/\j<=1000000 then some (GZ i (j - i).toNat)else none
theorem Yj(lo:Int)(n:Nat):HY lo n=(GZ lo n).map D.int:=by
 unfold HY GZ;rw[BX];rfl
theorem Ea(s:VE A a (rV D.int) B):VI A (iR1 (AR a BE)) D.int (B.bind MA):=λl C S0 e F S E=>by
 obtain⟨j,G,g⟩:=BC C;obtain⟨d,S',I,J,rfl⟩:=s j G S0 e F S E;unfold MA at g;split at g
 ·rename_i o
  cases g;exact⟨_,S',gZ (j:=j) (CP I rfl) o.1 o.2,J,λ_ _ _ _=>congrArg some (Yj _ _)⟩
 ·cases g
theorem bN(E:VE A a (rV D.int) G)(hb:VE A b (rV D.int) pj):VI A (iR2 (AR a (AR b BE))) D.int (G.bind λi=>pj.bind λj=>ji i j):=λl s S0 e F S B=>by
 obtain⟨i,I,s⟩:=BC s;obtain⟨j,J,g⟩:=BC s;obtain⟨d,L,N,C,rfl⟩:=E i I S0 e F S B;obtain⟨d,O,P,Q,rfl⟩:=hb j J S0 e _ L (B.grow C);unfold ji at g;split at g
 ·rename_i o
  cases g;exact⟨_,O,pB (i:=i) (j:=j) (CP N (CP P rfl)) o.1 o.2.1 o.2.2.1 o.2.2.2,C.trans Q,λ_ _ _ _=>congrArg some (Yj _ _)⟩
 ·cases g
noncomputable def EE(l:List α):List (Int×α):=l.zipIdx.map λx=>((x.2:Int),x.1)
theorem cQ(l:List α):Sk (l.map enc)=(EE l).map (eP D.int enc):=by
 unfold Sk EE;rw[List.zipIdx_map,BX,BX];rfl
end
end
section
variable{α β ρ σ κ κ':Type}
theorem dk[DecidableEq κ][DecidableEq κ']{g:κ->κ'}(j:∀x y,g x=g y->x=y)(f:α->β)(l:List (κ×α))(k:κ):Dc (l.map λx=>(g x.1,f x.2)) (g k)=(Dc l k).map f:=by
 unfold Dc
 induction l with
 | nil=>rfl
 | cons x l m=>
  rw[As,CL,CL]
  by_cases c:x.1=k
  ·rw[wX c,wX (show g x.1=g k by rw[c])]
   rfl
  ·rw[wY c,wY λz=>c (j _ _ z)]
   exact m
theorem eV[DecidableEq κ][DecidableEq κ']{g:κ->κ'}(m:∀x y,g x=g y->x=y)(f:α->β)(l:List (κ×α))(k:κ)(v:α):Go (l.map λx=>(g x.1,f x.2)) (g k) (f v)=(Go l k v).map λx=>(g x.1,f x.2):=by
 have any:((l.map λx=>(g x.1,f x.2)).any λj=>decide (j.1=g k))=l.any λj=>decide (j.1=k):=by
  rw[List.any_map]
  congr 1
  funext x
  exact decide_eq_decide.mpr ⟨m _ _,λz=>congrArg g z⟩
 unfold Go;rw[any];split
 ·rw[BX,BX]
  refine CN λx _=>?_
  show(if g x.1=g k then(g x.1,f v)else(g x.1,f x.2))=_
  by_cases c:x.1=k
  ·show _=(λx:κ×α=>(g x.1,f x.2)) (if x.1=k then(x.1,v)else x)
   rw[qX c,qX (show g x.1=g k by rw[c])]
  ·show _=(λx:κ×α=>(g x.1,f x.2)) (if x.1=k then(x.1,v)else x)
   rw[qY c,qY λz=>c (m _ _ z)]
 ·rw[BZ]
  rfl
theorem pw(g:IA (.ref n) S=none)(h:Qx (.ref n) y S=some o)(neg:Bool):inA neg y (.ref n) S=.ok (.bl (if neg then !o.isSome else o.isSome)) S:=by
 show KR (inD neg y (.ref n) S) (OG neg y (.ref n) S)=_;rw[show inD neg y (.ref n) S=.bad by unfold inD;rw[g]];show OG neg y (.ref n) S=_;unfold OG;rw[h]
theorem ZH(g:IA (.ref n) S=none)(h:Qx (.ref n) y S=some (some d)):ixA (.ref n) y S=.ok d S:=by
 show KR (ixD (.ref n) y S) (Sm (.ref n) y S)=_;rw[show ixD (.ref n) y S=.bad by unfold ixD;rw[g]];show Sm (.ref n) y S=_;unfold Sm;rw[h]
section
theorem jP(h:VE A m (rV (eT enc)) pl):VB A (Vk m) (pl.bind λl=>some (!l.isEmpty)):=λv g j e F S o=>by
 obtain⟨l,s,B⟩:=BC g;cases B;obtain⟨d,C,E,G,rfl⟩:=h l s j e F S o;refine⟨C,?_,G⟩;unfold Vk;rw[E]
 cases l <;> rfl
theorem Ux{b:MS}{R:Rk ρ}{B:σ->List Sl}:VS A b R none B:=λf g=>by cases g
end
end
section
variable{α ρ σ:Type}
theorem BF:BH (some (.nx s)) q=q s:=rfl
theorem NQ:Ds (ρ:=ρ) g (some (.nx s))=some (.nx (g s)):=rfl
theorem kD:kE (some (.nx s))=some ():=rfl
theorem ko{l:List α}{q:σ->α->Option (Fw ρ σ)}{s0:σ}(I:List α->σ->Prop)(h0:I [] s0)(h:∀g x s,x∈l->g++[x] <+: l->I g s->∃s',q s x=some (.nx s')/\I (g++[x]) s'):∃s,DG l s0 q=some (.nx s)/\I l s:=by
 have j:∀(r g:List α) (s:σ),l=g++r->I g s->∃s',DG r s q=some (.nx s')/\I l s':=by
  intro r
  induction r with
  | nil=>intro g s e m;rw[Ba]at e;subst e;exact⟨s,rfl,m⟩
  | cons x r o=>
   intro g s e m;obtain⟨s',A,B⟩:=h g x s (by rw[e];simp) ⟨r,by rw[e];simp⟩ m;obtain⟨C,E,G⟩:=o (g++[x]) s' (by rw[e];simp) B;refine⟨C,?_,G⟩;unfold DG;rw[A];exact E
 exact j l [] s0 rfl h0
theorem gy(I:List α->σ->Prop)(R:ρ->Prop)(h0:I [] s0)(h:∀g x s,x∈l->g++[x] <+: l->I g s->(∃s',q s x=some (.nx s')/\I (g++[x]) s')∨∃r,q s x=some (.rt r)/\R r):(∃s,DG l s0 q=some (.nx s)/\I l s)∨∃r,DG l s0 q=some (.rt r)/\R r:=by
 have j:∀(r g:List α) (s:σ),l=g++r->I g s->(∃s',DG r s q=some (.nx s')/\I l s')∨∃y,DG r s q=some (.rt y)/\R y:=by
  intro r
  induction r with
  | nil=>intro g s e m;rw[Ba]at e;subst e;exact .inl ⟨s,rfl,m⟩
  | cons x r B=>
   intro g s e m
   rcases h g x s (by rw[e];simp) ⟨r,by rw[e];simp⟩ m with⟨s',o,A⟩ | ⟨y,o,A⟩
   ·have C:DG (x :: r) s q=DG r s' q:=by
     conv=>lhs;unfold DG
     rw[o]
    rw[C];exact B (g++[x]) s' (by rw[e];simp) A
   ·refine .inr ⟨y,?_,A⟩
    unfold DG;rw[o]
 exact j l [] s0 rfl h0
theorem iG(s:∀x∈l,c x=some (P x))(A:∀x∈l,P x=true->m x=some (f x)):Sr c m l=some ((l.filter P).map f):=by
 induction l with
 | nil=>rfl
 | cons x l g=>
  have g:=g (λy j=>s y (AS _ j)) λy j=>A y (AS _ j)
  unfold Sr;rw[s x Ah];show(if P x=true then _ else _)=_
  cases o:P x with
  | true=>
   rw[qX rfl,A x Ah o,g,List.filter_cons_of_pos o];rfl
  | false=>
   rw[qY AT,g,List.filter_cons_of_neg (by rw[o];exact AT)]
theorem iH(g:l.length<=1000000)(j:∀x∈l,c x=some (P x))(o:∀x∈l,P x=true->m x=some (f x)):IB l c m=some ((l.filter P).map f):=by
 unfold IB;rw[qX g,iG j o]
theorem Gx(g:l.length<=1000000)(j:∀x∈l,m x=some (f x)):IB l (λ_=>some true) m=some (l.map f):=by
 rw[iH (P:=λ_=>true) g (λ_ _=>rfl) λx o _=>j x o,List.filter_eq_self.mpr λ_ _=>rfl]
theorem KD(h:l.length < 1000000):Nh l x=some (l++[x]):=qX h
theorem O2(h:l.length+k.length<=1000000):Ti l k=some (l++k):=qX h
theorem cK:Ii ([]:List α)=some []:=rfl
theorem ZC(a:α):Ii [a]=some [a]:=qX (by simp)
theorem G6(h0:-1000000<=j)(g:j<=1000000):MA j=some (GZ 0 j.toNat):=qX ⟨h0,g⟩
theorem jh(h0:-1000000<=i)(g:i<=1000000)(l:-1000000<=j)(m:j<=1000000):ji i j=some (GZ i (j - i).toNat):=qX ⟨h0,g,l,m⟩
theorem FY{lo:Int}{n:Nat}{x:Int}:x∈GZ lo n↔lo<=x/\x < lo+n:=by
 unfold GZ;rw[BS]
 constructor
 ·rintro⟨k,g,rfl⟩
  have:=Jj.mp g
  lia
 ·rintro⟨j,l⟩
  exact⟨(x - lo).toNat,Jj.mpr (by lia),by lia⟩
theorem CV(lo:Int)(n:Nat):(GZ lo n).length=n:=by unfold GZ;rw[AJ,dL]
theorem RB(lo:Int)(n:Nat):(GZ lo n).Pairwise (· < ·):=by
 unfold GZ;rw[DD]
 exact List.pairwise_lt_range.imp λh=>by lia
theorem atI_nn(h0:0<=i)(j:i < l.length):∃x,atI l i=some x/\l[i.toNat]?=some x:=by
 have g:i.toNat < l.length:=by lia
 exact⟨l[i.toNat],OK h0 (Ax g),Ax g⟩
theorem RD(h:0 < y):Ys x y=some (x % y):=qX h
theorem XW(l:List α)(lo hi:Option Int):(Ji l lo hi).length<=l.length:=by
 unfold Ji;rw[Dy,ID]
 lia
theorem R9{lo:Int}{n:Nat}{g:ZLi}{x:Int}(h:g++[x] <+: GZ lo n):x=lo+g.length/\g.length < n:=by
 have j:=h.length_le;rw[AV,Ac,CV]at j;obtain⟨r,l⟩:=h;have:=congrArg (λz=>z[g.length]?) l;simp only[EN,BV (AO _),qo]at this;rw[show([x]++r)[0]?=some x from rfl]at this;unfold GZ at this;rw[Ae,Dm (by lia)]at this;simp only[Option.map_some,Option.some.injEq]at this;exact⟨this,by lia⟩
theorem Ps[DecidableEq α]:∀{l k:List α},l.Nodup->(∀x∈l,x∈k)->l.length<=k.length
 | [],_,_,_=>Dx _
 | x :: l,k,m,h=>by
  have g:=h x Ah;obtain⟨o,s⟩:=Bz.mp m
  have:=Ps (l:=l) (k:=k.erase x) s λy j=>(List.mem_erase_of_ne (λz:y=x=>o (by rw[<-z];exact j))).mpr (h y (AS _ j))
  rw[List.length_erase_of_mem g]at this;have:=List.length_pos_of_mem g;rw[Aj]
  lia
noncomputable def Ok(p:Option α)(P:α->Prop):Prop:=∃v,p=some v/\P v
theorem Ok.is(h:Ok p λr=>r=v):p=some v:=by
 obtain⟨_,g,rfl⟩:=h;exact g
noncomputable def OkF(p:Option (Fw ρ σ))(N:σ->Prop)(R:ρ->Prop):Prop:=(∃s,p=some (.nx s)/\N s)∨∃r,p=some (.rt r)/\R r
theorem OkF.nx(h:N s):OkF (some (.nx s)) N R:=.inl ⟨s,rfl,h⟩
theorem OkF.rt(h:R r):OkF (some (.rt r)) N R:=.inr ⟨r,rfl,h⟩
theorem OkF.seq(h:OkF p N R)(g:∀s,N s->OkF (q s) N' R):OkF (BH p q) N' R:=by
 rcases h with⟨s,rfl,h⟩ | ⟨r,rfl,h⟩
 ·exact g s h
 ·exact .inr ⟨r,rfl,h⟩
theorem OkF.map(h:OkF p N R)(j:∀s,N s->N' (g s)):OkF (Ds g p) N' R:=by
 rcases h with⟨s,rfl,h⟩ | ⟨r,rfl,h⟩
 ·exact .inl ⟨_,rfl,j s h⟩
 ·exact .inr ⟨r,rfl,h⟩
theorem OkF.ite(g:c=true->OkF a N R)(hb:c=false->OkF b N R):OkF (if c=true then a else b) N R:=by
 cases c with
 | true=>exact g rfl
 | false=>exact hb rfl
theorem OkF.for(I:List α->σ->Prop)(h0:I [] s0)(h:∀g x s,x∈l->g++[x] <+: l->I g s->OkF (q s x) (I (g++[x])) R):OkF (DG l s0 q) (I l) R:=gy I R h0 h
theorem OkF.out(h:OkF p (λ_=>False) R):Ok (HN p) R:=by
 rcases h with⟨s,rfl,h⟩ | ⟨r,rfl,h⟩
 ·exact h.elim
 ·exact⟨r,rfl,h⟩
theorem OkF.imp(h:OkF p N R)(g:∀s,N s->N' s)(j:∀r,R r->R' r):OkF p N' R':=by
 rcases h with⟨s,rfl,h⟩ | ⟨r,rfl,h⟩
 ·exact .inl ⟨s,rfl,g s h⟩
 ·exact .inr ⟨r,rfl,j r h⟩
end
section
noncomputable def R1(x y:Int):Option Int:=if iX x y then some (x * 2 ^ y.toNat)else none
theorem Ri(g:VE A a (rV D.int) j)(hb:VE A b (rV D.int) l):VE A (m2 Qe a b) (rV D.int) (j.bind λx=>l.bind λy=>R1 x y):=IW g hb λx y z S h=>by
 unfold R1 at h;split at h
 ·rename_i m;cases h;exact qX m
 ·cases h
theorem Q6(g:VE A a (rV D.int) j)(hb:VE A b (rV D.int) l):VE A (m2 cf a b) (rV D.int) (j.bind λx=>l.bind λy=>some (BL x y)):=IW g hb λx y z S h=>by cases h;rfl
theorem Zs(h:VE A m (rV D.int) g):VB A (Vk m) (g.bind λx=>some (x != 0)):=λv j o e F S s=>by
 obtain⟨l,B,C⟩:=BC j;cases C;obtain⟨d,E,G,I,rfl⟩:=h l B o e F S s;refine⟨E,?_,I⟩;unfold Vk;rw[G];rfl
end
section
theorem PV(j:VE A a (rV (eT D.int)) pl):VE A (Ft a) (rN (oL D.int)) (pl.bind λl=>Nt l (Di l)):=λv m o e F S s=>by
 obtain⟨l,B,C⟩:=BC m;obtain⟨E,rfl⟩:=Sf C;obtain⟨d,I,G,g,rfl⟩:=j l B o e F S s;refine⟨_,_,NH G (ds:=l.map D.int) rfl (es:=(Di l).map D.int) ?_,g.trans (Keeps.app _ _),_,rfl,g.1,GD _ _⟩;unfold Kn;rw[qX (by rw[AJ];exact E)];rw[Ou]
theorem mY(hi:A[i]?=some (.w i (oL enc l)))(m:((A.set i .u).all (Sl.oth i))=true) :
  VS A (Eb (fg (AH i))) R (some (.nx l.reverse)) (λo=>A.set i (.w i (oL enc o))):=λf s G e F S g=>by
 cases s;obtain⟨x,j,n,rfl,B,C⟩:=g.sl i _ hi
 have E:fg (AH i) e S=.ok .non (S.set n (oL enc l.reverse)):=by
  unfold fg;rw[show AH i e S=.ok (.ref n) S by unfold AH;rw[j]];dsimp only[Res.bind];rw[show atL (.ref n) S=some (n,l.map enc) by unfold atL;dsimp only;rw[C];rfl];show Res.ok D.non (S.set n (Ob.lst (l.map enc).reverse))=_;rw[<-ig];rfl
 exact⟨_,_,KB E,e,F,rfl,g.put m hi j B,Fle.refl F⟩
end
section
variable{ρ σ:Type}
theorem FO{n:Nat}{b:MS}{as:List Ar}{R:Rk ρ}{p:Option (Fw ρ σ)}{B:σ->List Sl}(h:VS (as.map Ar.sl++BM (n - as.length) .u) b R p B):VF (ER n b) as R (HN p):=λv j S E m=>by
 cases p with
 | none=>cases j
 | some x=>
  obtain⟨g,o,A,l⟩:=h _ rfl S _ _ S (Vs.start m)
  cases x with
  | rt r=>cases j;obtain⟨d,rfl,l,C⟩:=l;exact⟨d,o,L2.Mm A,C,l⟩
  | nx s=>cases j
  | bk s=>cases j
  | ct s=>cases j
theorem me{n:Nat}{b:MS}{as:List Ar}{p:Option (Fw Unit σ)}{B:σ->List Sl}(h:VS (as.map Ar.sl++BM (n - as.length) .u) b (rV eU) p B):VF (ER n b) as (rV eU) (kE p):=λv l S E C=>by
 cases p with
 | none=>cases l
 | some x=>
  obtain⟨g,m,o,j⟩:=h _ rfl S _ _ S (Vs.start C)
  cases x with
  | rt r=>obtain⟨d,rfl,j,A⟩:=j;exact⟨d,m,L2.Mm o,A,j⟩
  | nx s=>obtain⟨G,I,rfl,j,A⟩:=j;exact⟨.non,m,L2.Yi o,j.kp,rfl⟩
  | bk s=>cases l
  | ct s=>cases l
end
section
variable{κ α:Type}[DecidableEq κ]
theorem Wb(l:List (κ×α))(k:κ)(v:α)(k':κ):Dc (Go l k v) k'=if k'=k then some v else Dc l k':=by
 have m:∀l:List (κ×α),Dc (l.map λg=>if g.1=k then(g.1,v)else g) k'=if k'=k then(Dc l k').map (λ_=>v)else Dc l k':=by
  intro l
  induction l with
  | nil=>unfold Dc;simp
  | cons x l o=>
   unfold Dc at o ⊢;rw[As,CL,CL]
   by_cases c:x.1=k
   ·rw[qX c]
    by_cases d:x.1=k'
    ·rw[wX d,qX (show k'=k from d▸c)]
     rfl
    ·rw[wY d]
     exact o
   ·rw[qY c]
    by_cases d:x.1=k'
    ·rw[wX d,qY (λz:k'=k=>c (d.trans z))]
    ·rw[wY d]
     exact o
 unfold Go;split
 ·rename_i h
  rw[m]
  by_cases c:k'=k
  ·rw[qX c,qX c]
   subst c
   have:(Dc l k').isSome=true:=by
    unfold Dc;rw[HK,dM];obtain⟨x,j,s⟩:=IE.mp h;exact⟨x,j,s⟩
   obtain⟨b,hb⟩:=Ke.mp this;rw[hb];rfl
  ·rw[qY c,qY c]
 ·rename_i h
  unfold Dc;rw[List.find?_append]
  by_cases c:k'=k
  ·subst c
   rw[qX rfl]
   have:l.find? (λg=>decide (g.1=k'))=none:=by
    rw[c9];intro x j s;exact h (IE.mpr ⟨x,j,s⟩)
   rw[this];simp
  ·rw[qY c]
   have:[(k,v)].find? (λg=>decide (g.1=k'))=none:=by
    rw[c9];intro x j;rw[Ab.mp j];simp
    exact λz=>c z.symm
   rw[this];simp
theorem dj(l:List (κ×α))(k:κ):(Dc l k).isSome=true↔k∈l.map (·.1):=by
 unfold Dc;rw[HK,dM,BS];exact⟨λ⟨x,g,e⟩=>⟨x,g,of_decide_eq_true e⟩,λ⟨x,g,e⟩=>⟨x,g,wX e⟩⟩
end
noncomputable def hb(g x:Int):Bool:=BL (g / 2 ^ x.toNat) 1 != 0
noncomputable abbrev HL:=List ZPi
noncomputable abbrev QL:=List (Int×Bool)
section
noncomputable abbrev w0(T:Int->ZLi)(j g:Int):ZLi:=(T g).filter (hb j)
noncomputable def MOn(T:Int->ZLi)(g:Int)(P:Int->Prop)(H:HL):Prop:=(∀x,P x->∀a,Dc H x=some a->x∈w0 T g a)/\∀x y a,P x->P y->Dc H x=some a->Dc H y=some a->x=y
noncomputable abbrev sn(Q:QL)(x:Int):Prop:=(Dc Q x).isSome=true
noncomputable def Good(T:Int->ZLi)(j:Int)(H:HL)(g:Int)(Q:QL)(l:HL):Prop:=
 (∀x,sn Q x->Dc l x=Dc H x)/\(MOn T j (λx=>¬sn Q x) H->(∀x,¬sn Q x->Dc H x≠some g)->MOn T j (λx=>¬sn Q x) l/\∀a,(∃x,¬sn Q x/\Dc l x=some a)↔a=g∨∃x,¬sn Q x/\Dc H x=some a)
end
noncomputable def Xc(rs:List ZLi):Option ZLi:=rs[GH (λi j=>HT.lexLt (rs.getD i []) (rs.getD j [])) (rs.length - 1)]?
theorem UB:∀rs:List ZLi,UC (rs.map (eT D.int))=some rs
 | []=>rfl
 | r :: rs=>by
  rw[As];show(match J9 (r.map D.int),UC (rs.map (eT D.int))with | some r,some rs=>some (r :: rs) | _,_=>none)=_;rw[Ou,UB rs]
theorem jM(j:VE A a (rO (oL (eT D.int))) pl):VE A (mQ Yt (XC a)) (rV (eT D.int)) (pl.bind Xc):=λv m o e F S s=>by
 obtain⟨l,B,g⟩:=BC m;obtain⟨d,C,E,G,n,rfl,I⟩:=j l B o e F S s;refine⟨_,C,jm (f:=Yt) (rY E (Hz I)) ?_,G,rfl⟩;unfold Yt;rw[UB];dsimp only;unfold Xc at g;rw[Ae,g];rfl
section
theorem Ma(h:e[i]?=some (some d)):AH i e S=.ok d S:=by unfold AH;rw[h]
end
section
theorem bM(h:VE A a (rV D.int) l):VL A (RF (AR a BE)) D.int (l.bind MA):=λv m o e F S s=>by
 obtain⟨j,B,g⟩:=BC m;obtain⟨d,C,E,G,rfl⟩:=h j B o e F S s;unfold MA at g;split at g
 ·rename_i I
  cases g;refine⟨C,?_,G⟩;unfold RF;rw[CP E rfl];dsimp only[Res.bind];rw[qX I,Int.sub_zero,Yj]
 ·cases g
end
section
variable{F:Fz}
noncomputable def loF(F:Fz):Nat->Option Ob:=λn=>match F n with
 | .fz o=>some o
 | _=>none
theorem fv(h:F n=.fz o):loF F n=some o:=by unfold loF;rw[h]
theorem Pv(h:loF F n=some o):F n=.fz o:=by
 unfold loF at h;split at h
 ·rename_i j g;cases h;exact g
 ·cases h
end
section
variable{S0 S:Sto}{A:List Sl}{ρ σ:Type}
noncomputable def whF(c:σ->Option Bool)(q:σ->Option (Fw ρ σ)):Nat->σ->Option (Fw ρ σ)
 | 0,_=>none
 | n+1,s=>(c s).bind λt=>if t=true then match q s with
   | some (.nx g)=>whF c q n g
   | some (.ct g)=>whF c q n g
   | some (.bk g)=>some (.nx g)
   | some (.rt r)=>some (.rt r)
   | none=>none
  else some (.nx s)
theorem bJ(Y:∀s,VB (B s) t (c s))(hb:∀s,VS (B s) b R (q s) B):∀(n:Nat) (s:σ),VS (B s) (JG t b n) R (whF c q n s) B:=by
 intro n
 induction n with
 | zero=>intro s f L;cases L
 | succ n X=>
  intro s f L S0 e F S G;unfold whF at L;obtain⟨v,Z,l⟩:=BC L;obtain⟨S1,h3,h4⟩:=Y s v Z S0 e F S G;have I:=G.grow h4
  have run:JG t b (n+1) e S=if v=true then(b e S1).bind λf g=>match f with
   | .nx j=>JG t b n j g
   | .ct j=>JG t b n j g
   | .bk j=>.ok (.nx j) g
   | .rt d=>.ok (.rt d) g
   | .ex c j=>.ok (.ex c j) g
  else .ok (.nx e) S1:=by
   show(t e S).lift e _=_;rw[h3];rfl
  cases v with
  | false=>
   rw[qY AT]at l;cases l;exact⟨_,S1,run.trans (qY AT),e,_,rfl,I,G.fle S1⟩
  | true=>
   rw[qX rfl]at l;rw[run,qX rfl];split at l
   ·rename_i N m
    obtain⟨h,g,o,j,J,rfl,C,E⟩:=hb s _ m S0 e _ S1 I;rw[o];obtain⟨O,P,Q,U⟩:=X N f l S0 j J g C;exact⟨O,P,Q,U.up ((G.fle S1).trans E)⟩
   ·rename_i N m
    obtain⟨h,g,o,j,J,rfl,C,E⟩:=hb s _ m S0 e _ S1 I;rw[o];obtain⟨O,P,Q,U⟩:=X N f l S0 j J g C;exact⟨O,P,Q,U.up ((G.fle S1).trans E)⟩
   ·rename_i N m
    cases l;obtain⟨h,g,o,j,J,rfl,C,E⟩:=hb s _ m S0 e _ S1 I;rw[o];exact⟨_,g,rfl,j,J,rfl,C,(G.fle S1).trans E⟩
   ·rename_i r m
    cases l;obtain⟨h,g,o,d,rfl,C,E⟩:=hb s _ m S0 e _ S1 I;rw[o];exact⟨_,g,rfl,d,rfl,C,E⟩
   ·cases l
theorem dX(w0:Wk A (B s0))(g:∀s,VB (B s) t (c s))(hb:∀s,VS (B s) b R (q s) B):VS A (JG t b n) R (whF c q n s0) B:=λf j S0 e F S l=>
 bJ g hb n s0 f j S0 e F S (l.weak w0)
end
section
variable{α ρ:Type}
noncomputable def Z0(l:List α)(i:Int)(x:α):Option (List α):=if 0<=i/\i < l.length then some (l.set i.toNat x)else none
theorem oy{n:Nat}{i:Int}(h0:0<=i)(g:i < n):ixN n i=some i.toNat:=by
 unfold ixN;rw[qX h0,qX g]
theorem jB{mi o:ME}{R:Rk ρ}{B:Option Int}{C:Option α}{i:Nat}{l:List α}(hi:A[i]?=some (.w i (oL enc l)))(h:VE A mi (rV D.int) B)(P:VE A o (rV enc) C)(Q:((A.set i .u).all (Sl.oth i))=true) :
  VS A (Wt o (Pb (AH i) mi)) R (C.bind λv=>B.bind λk=>(Z0 l k v).bind λj=>some (.nx j)) (λj=>A.set i (.w i (oL enc j))):=λf U E e F S g=>by
 obtain⟨v,X,Y⟩:=BC U;obtain⟨k,Z,h2⟩:=BC Y;obtain⟨j,m,h6⟩:=BC h2;cases h6;unfold Z0 at m;split at m
 ·rename_i G
  cases m;obtain⟨x,I,n,rfl,g2,J⟩:=g.sl i _ hi;obtain⟨d2,L,c2,N,rfl⟩:=P v X E e F S g;obtain⟨d1,s,c1,k2,rfl⟩:=h k Z E e _ L (g.grow N);have O:=N.trans k2;have hg:=g.grow O
  have a2:atL (.ref n) s=some (n,l.map enc):=by unfold atL;dsimp only;rw[O.at J];rfl
  have vA:Wt o (Pb (AH i) mi) e S=.ok (.nx e) (s.set n (oL enc (l.set k.toNat v))):=by
   unfold Wt;rw[c2];show(Pb (AH i) mi (enc v) e L).bind _=_;unfold Pb;rw[Ma I];dsimp only[Res.bind];rw[c1];dsimp only[Res.bind];rw[a2];dsimp only;rw[AJ,oy G.1 G.2];dsimp only[Res.bind];rw[show(l.map enc).set k.toNat (enc v)=(l.set k.toNat v).map enc by rw[qR]];rfl
  exact⟨_,_,vA,e,_,rfl,hg.put Q hi I (by rw[Fe (B9 J)];exact g2),g.fle s⟩
 ·cases m
end
noncomputable abbrev Pq:=(Nat->Option Ob)->D->Prop
noncomputable def AtV(P:Pq)(C:AN)(x:Str)(g:D):Prop:=∀L d,P L d->∃q fs,d=.ref q/\L q=some (.ins C fs)/\fs.lookup x=some g
noncomputable def AtO(P:Pq)(C:AN)(x:Str)(o:Ob):Prop:=∀L d,P L d->∃q fs n,d=.ref q/\L q=some (.ins C fs)/\fs.lookup x=some (.ref n)/\L n=some o
noncomputable def AtN(P:Pq)(C:AN)(x:Str):Prop:=∀L d,P L d->∃q fs,d=.ref q/\L q=some (.ins C fs)/\fs.lookup x=none
noncomputable def rQ(P:β->Pq):Rk β:=λv g d S=>∀L:Nat->Option Ob,(∀n o,g.length<=n->S[n]?=some o->L n=some o)->P v L d
section
variable{S0 S S':Sto}{A:List Sl}{e:Lo}{F:Fz}{α β:Type}{enc:α->D}{ob:α->Ob}{i n:Nat}{P:Pq}{Pf Pg:β->Pq}{C:AN}{x:Str}{v:α}{f:β}
theorem Vs.qAt(g:Vs S0 A e F S)(h:A[i]?=some (.q P)):∃d,e[i]?=some (some d)/\P (loF F) d:=by
 obtain⟨x,j,d,rfl,l⟩:=g.sl i _ h;exact⟨d,j,l _ λn o q=>fv q⟩
theorem df(j:AtV P C x (enc v))(h:A[i]?=some (.q P)):VE A (DZ C x (AH i)) (rV enc) (some v):=λ_ l S0 e F S g=>by
 cases l;obtain⟨d,m,o⟩:=Vs.qAt g h;obtain⟨q,fs,rfl,s,B⟩:=j _ _ o;exact⟨_,S,Lc (Ma m) (g.fz _ _ (Pv s)) B,Keeps.refl S,rfl⟩
theorem Gg(j:AtO P C x (ob v))(h:A[i]?=some (.q P)):VE A (DZ C x (AH i)) (rO ob) (some v):=λ_ l S0 e F S g=>by
 cases l;obtain⟨d,m,o⟩:=Vs.qAt g h;obtain⟨q,fs,n,rfl,s,B,E⟩:=j _ _ o;exact⟨_,S,Lc (Ma m) (g.fz _ _ (Pv s)) B,Keeps.refl S,n,rfl,g.fz _ _ (Pv E)⟩
theorem md(o:AtO P C x (oL enc l))(h:A[i]?=some (.q P)):VI A (GC (DZ C x (AH i))) enc (some l):=λ_ s S0 e F S g=>by
 cases s;obtain⟨d,B,E⟩:=Vs.qAt g h;obtain⟨q,fs,n,rfl,G,I,J⟩:=o _ _ E;have j:=Pv J;have m:=g.fz _ _ j;exact⟨_,S,JO (n:=n) (Lc (Ma B) (g.fz _ _ (Pv G)) I) m,Keeps.refl S,λN O L h=>EZ (h n _ (L _ _ (by rw[Fe (B9 m)];exact j)))⟩
theorem dm(l:∀L d,Pf f L d->Pg f L d)(h:A[i]?=some (.q (Pf f)))(m:VA A ml q s):VA A (AR (AH i) ml) (q.bind λy=>some (f,y)) (λz=>.q (Pg z.1) :: s z.2):=λv B S0 e F S g=>by
 obtain⟨y,E,G⟩:=BC B;cases G;obtain⟨x,I,d,rfl,J⟩:=g.sl i _ h;obtain⟨U,N,O,j,Q⟩:=m y E S0 e F S g;exact⟨_,N,CP (Ma I) O,j,λL R=>l _ _ (J L λn o q=>R n o (j.at (g.fz _ _ q))),Q⟩
theorem Od(G:AtN (Pf f) C m)(I:∀L d,Pf f L d->Pg f L d)(h:A[i]?=some (.q (Pf f)))(J:VA A ml p s)(N:∀z,VF g (.q (Pg f) :: s z) R (q z))(O:∀z,(s z).length+1=n)
  (Q:∀v S S1 d S',S.length<=S1.length->R v S1 d S'->R v S d S'):VE A (L8 C m n g (AH i) ml) R (p.bind q):=λv U S0 e F S j=>by
 obtain⟨z,X,Y⟩:=BC U;obtain⟨x,Z,d,rfl,B⟩:=j.sl i _ h;obtain⟨k,fs,rfl,h6,h7⟩:=G _ _ (B (loF F) λn o q=>fv q);obtain⟨ds,S2,q1,l,E⟩:=J z X S0 e F S j;obtain⟨d,S3,r1,r2,r3⟩:=N z v Y S2 (.ref k :: ds) ⟨λL hL=>I _ _ (B L λn o q=>hL n o (l.at (j.fz _ _ q))),E⟩;refine⟨d,S3,?_,l.trans r2,Q _ _ _ _ _ l.1 r3⟩;unfold L8;rw[Ma Z];dsimp only[Res.bind];rw[j.fz _ _ (Pv h6)];dsimp only;rw[qX ⟨rfl,h7⟩,q1];dsimp only;rw[qX (by rw[E.len];exact O z)];exact r1
theorem i9(h:VE A m (rQ Pf) p):VS A (Ci i m) R (p.bind λv=>some (.nx v)) (λv=>A.set i (.q (Pf v))):=λf j S0 e F S g=>by
 obtain⟨v,l,s⟩:=BC j;cases s;obtain⟨d,S',B,E,G⟩:=h v l S0 e F S g;exact⟨_,S',Mf B,_,_,rfl,(g.grow E).set (a:=.q (Pf v)) (x:=some d) i ⟨d,rfl,λL I=>G L λn o J N=>I n o (Mx J N)⟩,g.fle S'⟩
end
noncomputable def kR(r:ZLi):List Key:=r.map IS
noncomputable def oDR(enc:g->D)(l:List (ZLi×g)):Ob:=.dT (l.map λx=>(kR x.1,enc x.2))
theorem gR(x y:ZLi)(h:kR x=kR y):x=y:=by
 have:∀r:ZLi,(kR r).map (λk:Key=>match k with | .inl i=>i | .inr _=>0)=r:=λr=>by
  unfold kR;rw[BX]
  conv=>rhs;rw[<-RU r]
  rfl
 rw[<-this x,h,this y]
theorem lp(r:ZLi):Np (r.map D.int)=some (kR r):=by
 induction r with
 | nil=>rfl
 | cons x r g=>
  rw[As];unfold Np;rw[g];rfl
section
variable{S0 S S':Sto}{A:List Sl}{e:Lo}{F:Fz}{α:Type}{enc:α->D}{a b:ME}
theorem tN(h:S[n]?=some (oDR enc l))(k:ZLi):Qx (.ref n) (eT D.int k) S=some ((Dc l k).map enc):=by
 unfold Qx;dsimp only;rw[h];show(match Np (k.map D.int)with | some g=>some (Dc (l.map λx:ZLi×α=>(kR x.1,enc x.2)) g) | none=>none)=_;rw[lp];dsimp only;rw[dk gR]
theorem seqR(h:S[n]?=some (oDR enc l)):IA (.ref n) S=none:=by unfold IA;dsimp only;rw[h];rfl
theorem Ro(j:VE A a (rO (oDR enc)) pl)(hb:VE A b (rV (eT D.int)) m):VE A (m2 ixA a b) (rV enc) (pl.bind λl=>m.bind λx=>Dc l x):=dh j hb λl x z S n g q=>ZH (seqR g) (by rw[tN g x,q];rfl)
theorem pf(l:List (ZLi×α))(k:ZLi)(v:α)(S:Sto)(n:Nat)(g:S[n]?=some (oDR enc l))(j:l.length < 1000000):XV (.ref n) (eT D.int k) (enc v) S=some (S.set n (oDR enc (Go l k v))):=by
 unfold XV;dsimp only;rw[g];show(match Np (k.map D.int)with | some m=>if (l.map _).length < sizeLine then some (S.set n (Ob.dT (Go (l.map λx:ZLi×α=>(kR x.1,enc x.2)) m (enc v))))else none | none=>none)=_;rw[lp];dsimp only;rw[qX (by rw[AJ];exact fu j),eV gR];rfl
theorem jO(g:VE A a (rV D.int) p):VE A (aE a) (rV D.int) (p.bind λx=>some (DY x:Int)):=λv j S0 e F S l=>by
 obtain⟨x,m,o⟩:=BC j;cases o;obtain⟨d,S',s,B,rfl⟩:=g x m S0 e F S l;refine⟨_,S',?_,B,rfl⟩;unfold aE;rw[s];rfl
end
end L4
namespace M
open PySem PySem.Spec PyProof.Rows L2
noncomputable abbrev oN(e:L2.Lo)(S:L2.Sto):L2.Res L2.Fl:=.ok (.nx e) S
noncomputable abbrev sR(n:Nat):Option L2.D:=some (.ref n)
noncomputable abbrev sI(i:Int):Option L2.D:=some (.int i)
noncomputable abbrev sF(l:ZLi):Option L2.D:=some (.fro (l.map L2.D.int))
noncomputable def top(i:Nat):Dg:=mN.main.body.getD i (.Pass ⟨0,0,0,0⟩)
structure Wd where
 GuardError:AN
 BadPlaces:AN
 NoPlace:AN
 TooLarge:AN
 BadGuards:AN
 NoCall:AN
 NoAnswer:AN
 NoStep:AN
 Web:AN
 Field:AN
noncomputable def Wd.excs(W:Wd):List AN:=[W.NoPlace,W.TooLarge]
noncomputable def BB(W:Wd)(C:AN):Option Bool:=if C∈([]:List AN)then some true else if C∈W.excs then some false else none
noncomputable def Gn(W:Wd)(C:AN):Option Bool:=if C∈[W.NoPlace]then some true else if C∈W.excs then some false else none
noncomputable def FR(W:Wd)(C:AN):Option Bool:=if C∈[W.TooLarge]then some true else if C∈W.excs then some false else none
noncomputable def GY(W:Wd)(C:AN):Option Bool:=if C∈[W.NoPlace,W.TooLarge]then some true else if C∈W.excs then some false else none
noncomputable abbrev JC:Dg:=top 13
noncomputable abbrev JA:Dg:=top 14
noncomputable abbrev OA:Dg:=La (top 12) 0
noncomputable abbrev G4:Dg:=top 15
noncomputable abbrev Yh:Dg:=top 16
noncomputable abbrev N8:Dg:=top 18
noncomputable abbrev Pk:Dg:=top 19
noncomputable abbrev Pj:Dg:=top 20
noncomputable abbrev Mg:Dg:=top 26
noncomputable abbrev Pi:Dg:=top 28
noncomputable abbrev Hf:Dg:=top 31
noncomputable abbrev N9:Dg:=top 32
noncomputable abbrev Mh:Dg:=top 33
noncomputable abbrev E2:Dg:=La (top 35) 3
noncomputable abbrev E3:Dg:=La (top 35) 4
noncomputable abbrev LN:Dg:=La (top 35) 0
noncomputable abbrev JE:Dg:=La (top 35) 2
noncomputable abbrev JF:Dg:=La (top 35) 5
noncomputable abbrev FT:Dg:=La (top 35) 6
noncomputable abbrev Mi:Dg:=top 38
noncomputable abbrev JB:Dg:=top 39
noncomputable abbrev IK:Dg:=top 41
noncomputable abbrev KP:Dg:=top 40
noncomputable abbrev Iz:Dg:=top 37
noncomputable abbrev LL:Dg:=top 44
noncomputable abbrev Mj:Dg:=top 45
noncomputable abbrev Ml:Dg:=top 46
noncomputable abbrev LK:Dg:=top 47
noncomputable abbrev JD:Dg:=top 48
noncomputable abbrev KQ:Dg:=top 49
noncomputable abbrev Z1:Dg:=top 50
noncomputable def Ss(W:Wd):MS:=
  (BO (Ci 2 Vn)
  (BO (Fy (GC (AH 1)) (Jp 2 (Dd (tgN 3) (Dd (tgN 4) Km)))
  (BO (Ci 5 (Nc (AR (mQ Oo (AR (AH 3) (AR (AH 4) BE))) (AR (mQ UK (AR (AH 3) (AR (AH 4) BE))) BE))))
  (BO (sIf (mB (m2 (eqD false) (m2 ixA (AH 5) (mC (.int 0))) (m2 ixA (AH 5) (mC (.int 1))))) VV sNx)
  (BO (sIf (mOr (mB (m2 ltD (m2 ixA (AH 5) (mC (.int 0))) (mC (.int 0)))) (mB (m2 geD (m2 ixA (AH 5) (mC (.int 1))) (AH 0)))) VV sNx)
  (BO (sIf (mB (m2 (inA false) (AH 5) (AH 2))) VV sNx)
  (IL (AH 2) (AH 5) (mC (.bl true))))))))
  (EQ (Gq (Ft (AH 2))))))
noncomputable def HG(W:Wd):List D->Sto->Res D:=ER 6 (Ss W)
noncomputable def M5(W:Wd):MS:=
  (BO (Ci 2 (Ga (HZ 1 (iR1 (AR (AH 0) BE)) (tgN 0) IZ (Ga (En BE)))))
  (BO (Fy (GC (AH 1)) (Jp 2 (Dd (tgN 3) (Dd (tgN 4) Km)))
  (BO (Eb (MD (m2 ixA (AH 2) (AH 3)) (AH 4)))
  (Eb (MD (m2 ixA (AH 2) (AH 4)) (AH 3)))))
  (EQ (Gq (Ga (HZ 1 (GC (AH 2)) (tgN 0) IZ (Gq (Ft (AH 0)))))))))
noncomputable def HF(W:Wd):List D->Sto->Res D:=ER 5 (M5 W)
noncomputable def Su(W:Wd):MS:=
  (BO (sIf (Qu (mB (m3 leD leD (mC (.int 1)) (AH 1) (mC (.int 60))))) VV sNx)
  (BO (JH W.Web "places" (AH 0) (AH 1))
  (BO (JH W.Web "ties" (AH 0) (B2 2 (HG W) (AR (AH 1) (AR (AH 2) BE))))
  (JH W.Web "near_sets" (AH 0) (B2 2 (HF W) (AR (AH 1) (AR (DZ W.Web "ties" (AH 0)) BE)))))))
noncomputable def Li(W:Wd):List D->Sto->Res D:=ER 3 (Su W)
noncomputable def FD(W:Wd):MS:=
  (sIf (Qu (mB (m3 leD ltD (mC (.int 0)) (AH 1) (DZ W.Web "places" (AH 0))))) (R5 W.NoPlace (AR (mC (.str "the web has no such place")) BE)) sNx)
noncomputable def Bp(W:Wd):List D->Sto->Res D:=ER 2 (FD W)
noncomputable def ZM(W:Wd):MS:=
  (BO (Eb (B2 2 (Bp W) (AR (AH 0) (AR (AH 1) BE))))
  (EQ (m2 ixA (DZ W.Web "near_sets" (AH 0)) (AH 1))))
noncomputable def ZD(W:Wd):List D->Sto->Res D:=ER 2 (ZM W)
noncomputable def OI(W:Wd):MS:=
  (EQ (Ga (HZ 1 (iR1 (AR (DZ W.Web "places" (AH 0)) BE)) (tgN 0) IZ (Gq (Ft (m2 Ge (Nc (AR (AH 0) BE)) (B2 2 (ZD W) (AR (AH 1) (AR (AH 0) BE)))))))))
noncomputable def Ld(W:Wd):List D->Sto->Res D:=ER 1 (OI W)
noncomputable def P8(W:Wd):MS:=
  (BO (Ci 1 (mC (.int 0)))
  (BO (Fy (GC (AH 0)) (tgN 2)
  (R6 1 (λa b=>Be a b) (m2 Qe (mC (.int 1)) (AH 2))))
  (EQ (AH 1))))
noncomputable def P4(W:Wd):List D->Sto->Res D:=ER 3 (P8 W)
noncomputable def P7(W:Wd):MS:=
  (BO (Ci 1 (Ga (En BE)))
  (BO (Ci 2 (AH 0))
  (BO (JG (Vk (AH 2)) (BO (Eb (MD (AH 1) (m2 Wj (aE (m2 cf (AH 2) (Pu (AH 2)))) (mC (.int 1)))))
  (R6 2 (λa b=>BL a b) (m2 Wj (AH 2) (mC (.int 1))))) wN)
  (EQ (AH 1)))))
noncomputable def Ir(W:Wd):List D->Sto->Res D:=ER 3 (P7 W)
noncomputable def M3(W:Wd):MS:=
  (EQ (Gq (Ga (HZ 1 (GC (AH 0)) (tgN 0) IZ (Vl (mB (m2 (eqD false) (AH 0) (AH 2))) (AH 3) (AH 0))))))
noncomputable def Mu(W:Wd):List D->Sto->Res D:=ER 3 (M3 W)
noncomputable def P6(W:Wd):MS:=
  (BO (Ci 2 (Ga (En (AR (Nc BE) BE))))
  (BO (Fy (iR1 (AR (AH 1) BE)) (tgN 3)
  (BO (Ci 4 (Ga (En BE)))
  (BO (Fy (GC (AH 2)) (tgN 5)
  (BO (Ci 6 (Vl (Vk (AH 5)) (m2 Ge (m2 ixA (AH 5) (Pu (mC (.int 1)))) (mC (.int 1))) (mC (.int 0))))
  (Fy (iR2 (AR (AH 6) (AR (m2 Ge (m2 Ge (m2 Wj (AH 0) (AH 1)) (AH 3)) (mC (.int 1))) BE))) (tgN 7)
  (Eb (MD (AH 4) (m2 Ge (AH 5) (Nc (AR (AH 7) BE))))))))
  (Ci 2 (AH 4)))))
  (EQ (AH 2))))
noncomputable def P3(W:Wd):List D->Sto->Res D:=ER 8 (P6 W)
noncomputable def Hj(W:Wd):MS:=
  (BO (Ci 2 (mC (.int 1)))
  (BO (Fy (iR1 (AR (AH 1) BE)) (tgN 3)
  (Ci 2 (m2 IY (m2 Pt (AH 2) (m2 Wj (AH 0) (AH 3))) (m2 Ge (AH 3) (mC (.int 1))))))
  (EQ (AH 2))))
noncomputable def Hi(W:Wd):List D->Sto->Res D:=ER 4 (Hj W)
noncomputable def OJ(W:Wd):MS:=
  (BO (sIf (Qu (mB (m3 leD leD (mC (.int 1)) (AH 1) (DZ W.Web "places" (AH 0))))) VV sNx)
  (EQ (B2 2 (Hi W) (AR (DZ W.Web "places" (AH 0)) (AR (AH 1) BE)))))
noncomputable def Lg(W:Wd):List D->Sto->Res D:=ER 2 (OJ W)
noncomputable def KC(W:Wd):MS:=
  (BO (sIf (mB (m2 gtD (B2 2 (Lg W) (AR (AH 0) (AR (AH 1) BE))) (mC (.int 400)))) (R5 W.TooLarge (AR (fj (SU (mC (.str "there are more than ")) (SU (oa (mC (.int 400))) (SU (mC (.str " standings")) kW)))) BE)) sNx)
  (EQ (B2 2 (P3 W) (AR (DZ W.Web "places" (AH 0)) (AR (AH 1) BE)))))
noncomputable def Gv(W:Wd):List D->Sto->Res D:=ER 2 (KC W)
noncomputable def E6(W:Wd):MS:=
  (BO (Ci 2 (m2 ixA (DZ W.Field "everything" (AH 0)) (AH 1)))
  (BO (Ci 3 (mC (.int 0)))
  (BO (Fy (GC (AH 2)) (tgN 4)
  (Fy (GC (m2 ixA (DZ W.Field "takes" (AH 0)) (AH 4))) (tgN 5)
  (sIf (mB (m2 (inA true) (AH 5) (AH 2))) (R6 3 (λa b=>Be a b) (m2 Qe (mC (.int 1)) (m2 ixA (DZ W.Field "numbers" (AH 0)) (Gq (Ft (B2 3 (Mu W) (AR (AH 2) (AR (AH 4) (AR (AH 5) BE))))))))) sNx)))
  (EQ (AH 3)))))
noncomputable def DH(W:Wd):List D->Sto->Res D:=ER 6 (E6 W)
noncomputable def MH(W:Wd):MS:=
  (BO (Ci 2 (m2 ixA (DZ W.Field "everything" (AH 0)) (AH 1)))
  (BO (Ci 3 (mC (.int 0)))
  (BO (Fy (Py (DZ W.Field "place_bits" (AH 0))) (Jp 2 (Dd (tgN 4) (Dd (tgN 5) Km)))
  (sIf (Vk og) (R6 3 (λa b=>Be a b) (m2 Qe (mC (.int 1)) (AH 4))) sNx))
  (EQ (AH 3)))))
noncomputable def E5(W:Wd):List D->Sto->Res D:=ER 6 (MH W)
noncomputable def Lm(W:Wd):MS:=
  (BO (JH W.Field "everything" (AH 0) (B2 2 (Gv W) (AR (AH 1) (AR (AH 2) BE))))
  (BO (JH W.Field "kind" (AH 0) (AH 3))
  (BO (JH W.Field "takes" (AH 0) (B2 1 (Ld W) (AR (AH 1) BE)))
  (BO (JH W.Field "numbers" (AH 0) Vn)
  (BO (JH W.Field "having" (AH 0) (Ga (HZ 1 (iR1 (AR (DZ W.Web "places" (AH 1)) BE)) (tgN 0) IZ (mC (.int 0)))))
  (BO (Fy (Py (DZ W.Field "everything" (AH 0))) (Jp 2 (Dd (tgN 4) (Dd (tgN 5) Km)))
  (BO (IL (DZ W.Field "numbers" (AH 0)) (AH 5) (AH 4))
  (Fy (GC (AH 5)) (tgN 6)
  (Ws (λa b=>Be a b) (DZ W.Field "having" (AH 0)) (AH 6) (m2 Qe (mC (.int 1)) (AH 4))))))
  (BO (JH W.Field "place_bits" (AH 0) (Ga (HZ 1 (GC (DZ W.Field "everything" (AH 0))) (tgN 0) IZ (B2 1 (P4 W) (AR (AH 0) BE)))))
  (JH W.Field "known" (AH 0) Y0))))))))
noncomputable def Ht(W:Wd):List D->Sto->Res D:=ER 7 (Lm W)
noncomputable def LM(W:Wd)(ds:List D)(S:Sto)(k:Key):Int:=match ds,k with
 | .ref q :: _,.inl n=>lmI (DH W [.ref q,.int n] S)
 | _,_=>0
noncomputable def Eo(W:Wd):List D->Sto->Res D:=XB "known" (LM W) (Ht W)
noncomputable def JU(W:Wd):MS:=
  (BO (sIf (mB (m2 (inA true) (AH 1) (DZ W.Field "known" (AH 0)))) (IL (DZ W.Field "known" (AH 0)) (AH 1) (Vl (mB (m2 (eqD false) (DZ W.Field "kind" (AH 0)) (mC (.str "one")))) (L8 W.Field "linked_by_one" 2 (DH W) (AH 0) (AR (AH 1) BE)) (L8 W.Field "linked_by_all" 2 (E5 W) (AH 0) (AR (AH 1) BE)))) sNx)
  (EQ (m2 ixA (DZ W.Field "known" (AH 0)) (AH 1))))
noncomputable def IQ(W:Wd):List D->Sto->Res D:=ER 2 (JU W)
noncomputable def HH(W:Wd):List D->Sto->Res D:=lH "known" (IQ W)
noncomputable def JV(W:Wd):MS:=
  (EQ (m2 cf (L8 W.Field "linked" 2 (HH W) (AH 0) (AR (AH 1) BE)) (m2 ixA (DZ W.Field "having" (AH 0)) (AH 2))))
noncomputable def HI(W:Wd):List D->Sto->Res D:=ER 3 (JV W)
noncomputable def Fg(W:Wd):MS:=
  (BO (Ci 4 (m2 ixA (DZ W.Field "everything" (AH 0)) (AH 1)))
  (BO (sIf (mB (m2 (eqD false) (DZ W.Field "kind" (AH 0)) (mC (.str "all")))) (EQ og) sNx)
  (BO (Ci 5 (Ga (En BE)))
  (BO (Fy (GC (B2 1 (Ir W) (AR (AH 3) BE))) (tgN 6)
  (Eb (MD (AH 5) (Gq (Ga (HZ 1 (GC (AH 4)) (tgN 0) IZ (Vl (mB (m2 (inA false) (AH 0) (m2 ixA (DZ W.Field "everything" (AH 1)) (AH 7)))) (AH 0) (AH 3))))))))
  (EQ (mQ Yt (XC (AH 5))))))))
noncomputable def Fd(W:Wd):List D->Sto->Res D:=ER 7 (Fg W)
noncomputable def M4(W:Wd):MS:=
  (BO (sIf (mB (m2 (inA false) (AH 2) (m2 ixA (DZ W.Field "everything" (AH 0)) (AH 1)))) (EQ (m2 Qe (mC (.int 1)) (AH 1))) sNx)
  (EQ (L8 W.Field "behind" 3 (HI W) (AH 0) (AR (AH 1) (AR (AH 2) BE)))))
noncomputable def KA(W:Wd):List D->Sto->Res D:=ER 3 (M4 W)
noncomputable def JS(W:Wd):MS:=
  (BO (Ci 3 (Ga (En (AR (m2 Qe (mC (.int 1)) (AH 1)) BE))))
  (BO (Fy (GC (AH 2)) (tgN 4)
  (BO (Ci 5 (mC (.int 0)))
  (BO (Fy (GC (B2 1 (Ir W) (AR (m2 ixA (AH 3) (Pu (mC (.int 1)))) BE))) (tgN 6)
  (R6 5 (λa b=>Be a b) (B2 3 (KA W) (AR (AH 0) (AR (AH 6) (AR (AH 4) BE))))))
  (BO (Eb (MD (AH 3) (AH 5)))
  (sIf (mB (m2 (eqD false) (AH 5) (mC (.int 0)))) sBk sNx)))))
  (EQ (AH 3))))
noncomputable def JQ(W:Wd):List D->Sto->Res D:=ER 7 (JS W)
noncomputable def IR(W:Wd):MS:=
  (BO (Ci 4 (Ga (En BE)))
  (BO (Ci 5 (AH 1))
  (BO (Fy (Vr (AR (AH 2) (AR (OC (AH 3) (SI (mC (.int 1))) UG) BE))) (Jp 2 (Dd (tgN 6) (Dd (tgN 7) Km)))
  (sIf (mB (m2 (inA false) (AH 6) (m2 ixA (DZ W.Field "everything" (AH 0)) (AH 5)))) (Eb (MD (AH 4) (m2 ixA (DZ W.Field "everything" (AH 0)) (AH 5)))) (BO (Eb (MD (AH 4) (L8 W.Field "first_answer" 4 (Fd W) (AH 0) (AR (AH 5) (AR (AH 6) (AR (m2 cf (L8 W.Field "behind" 3 (HI W) (AH 0) (AR (AH 5) (AR (AH 6) BE))) (AH 7)) BE))))))
  (Ci 5 (m2 ixA (DZ W.Field "numbers" (AH 0)) (Gq (Ft (m2 ixA (AH 4) (Pu (mC (.int 1)))))))))))
  (EQ (AH 4)))))
noncomputable def IP(W:Wd):List D->Sto->Res D:=ER 8 (IR W)
noncomputable def Ka(W:Wd):MS:=
  (BO (Ci 3 (Ga (En (AR (m2 ixA (AH 1) (Pu (mC (.int 1)))) BE))))
  (BO (Fy (aK (Op (AR (AH 2) (AR (AH 1) BE)))) (Jp 2 (Dd (tgN 4) (Dd (tgN 5) Km)))
  (BO (Ci 6 (mC (.int 0)))
  (BO (Fy (GC (B2 1 (Ir W) (AR (AH 5) BE))) (tgN 7)
  (sIf (Vk (m2 cf (B2 3 (KA W) (AR (AH 0) (AR (AH 7) (AR (AH 4) BE)))) (m2 ixA (AH 3) (Pu (mC (.int 1)))))) (R6 6 (λa b=>Be a b) (m2 Qe (mC (.int 1)) (AH 7))) sNx))
  (Eb (MD (AH 3) (AH 6))))))
  (BO (Eb (fg (AH 3)))
  (EQ (AH 3)))))
noncomputable def KW(W:Wd):List D->Sto->Res D:=ER 8 (Ka W)
noncomputable def Ff(W:Wd):MS:=
  (BO (Fy (GC (AH 2)) (tgN 4)
  (Eb (B2 2 (Bp W) (AR (AH 0) (AR (AH 4) BE)))))
  (BO (Ci 5 (No W.Field 4 (Eo W) (AR (AH 0) (AR (Nd (AH 1)) (AR (AH 3) BE)))))
  (BO (Ci 6 (m2 ixA (DZ W.Field "numbers" (AH 5)) (AH 1)))
  (BO (Ci 7 (B2 3 (JQ W) (AR (AH 5) (AR (AH 6) (AR (AH 2) BE)))))
  (BO (sIf (mB (m2 (eqD false) (m2 ixA (AH 7) (Pu (mC (.int 1)))) (mC (.int 0)))) (EQ (Nc (AR (m2 Wj (Nd (AH 7)) (mC (.int 2))) (AR (Ga (HZ 1 (GC (B2 1 (Ir W) (AR (m2 ixA (AH 7) (Pu (mC (.int 2)))) BE))) (tgN 0) IZ (m2 ixA (DZ W.Field "everything" (AH 6)) (AH 0)))) BE)))) sNx)
  (EQ (Nc (AR (B2 4 (IP W) (AR (AH 5) (AR (AH 6) (AR (AH 2) (AR (B2 3 (KW W) (AR (AH 5) (AR (AH 7) (AR (AH 2) BE)))) BE))))) (AR (mC .non) BE)))))))))
noncomputable def DC(W:Wd):List D->Sto->Res D:=ER 8 (Ff W)
noncomputable def Ll(W:Wd):MS:=
  (BO (Ci 2 (m2 Kr (m2 Pt (m2 Ge (m2 Kr (AH 0) (mC (.int 2147483647))) (AH 1)) (mC (.int 48271))) (mC (.int 2147483647))))
  (BO (Ci 2 (m2 Kr (m2 Pt (AH 2) (AH 2)) (mC (.int 2147483629))))
  (EQ (m2 Kr (m2 Pt (m2 Ge (AH 2) (m2 Pt (mC (.int 7919)) (AH 1))) (mC (.int 69621))) (mC (.int 2147483629))))))
noncomputable def Co(W:Wd):List D->Sto->Res D:=ER 3 (Ll W)
noncomputable def M6(W:Wd):MS:=
  (BO (Ci 2 (m2 Ge (mC (.int 1)) (m2 Kr (m2 IY (B2 2 (Co W) (AR (AH 0) (AR (mC (.int 3)) BE))) (mC (.int 8))) (mC (.int 3)))))
  (BO (Ci 3 (Ga (En BE)))
  (BO (Fy (iR1 (AR (AH 1) BE)) (tgN 4)
  (Fy (iR1 (AR (AH 4) BE)) (tgN 5)
  (sIf (mB (m2 ltD (m2 Kr (m2 IY (B2 2 (Co W) (AR (AH 0) (AR (m2 Ge (m2 Ge (mC (.int 11)) (m2 Pt (mC (.int 64)) (AH 5))) (AH 4)) BE))) (mC (.int 8))) (mC (.int 4))) (AH 2))) (Eb (MD (AH 3) (Nc (AR (AH 5) (AR (AH 4) BE))))) sNx)))
  (EQ (AH 3)))))
noncomputable def Mv(W:Wd):List D->Sto->Res D:=ER 6 (M6 W)
noncomputable def M9(W:Wd):MS:=
  (BO (Ci 3 (Ga (RF (AR (AH 1) BE))))
  (BO (Ci 4 (Ga (En BE)))
  (BO (Fy (iR1 (AR (AH 2) BE)) (tgN 5)
  (Eb (MD (AH 4) (UL (AH 3) (m2 Kr (m2 IY (B2 2 (Co W) (AR (AH 0) (AR (m2 Ge (mC (.int 5000)) (AH 5)) BE))) (mC (.int 8))) (Nd (AH 3)))))))
  (EQ (Gq (Ft (AH 4)))))))
noncomputable def Mw(W:Wd):List D->Sto->Res D:=ER 6 (M9 W)
noncomputable def Lk(W:Wd):MS:=
  (BO (Ci 1 (Ga (HZ 1 (iR1 (AR (mQ Oo (AR (Nd (AH 0)) (AR (mC (.int 16)) BE))) BE)) (tgN 0) IZ (mC (.int 0)))))
  (BO (Fy (iR1 (AR (Nd (AH 0)) BE)) (tgN 2)
  (Wt (m2 Ge (m2 ixA (AH 1) (m2 Kr (AH 2) (mC (.int 16)))) (m2 ixA (AH 0) (AH 2))) (Pb (AH 1) (m2 Kr (AH 2) (mC (.int 16))))))
  (EQ (AH 1))))
noncomputable def Lh(W:Wd):List D->Sto->Res D:=ER 3 (Lk W)
noncomputable def JT(W:Wd):MS:=
  (BO (Ci 2 (mC (.int 1)))
  (BO (Fy (iR1 (AR (AH 1) BE)) (tgN 3)
  (Ci 2 (m2 IY (m2 Pt (AH 2) (m2 Wj (AH 0) (AH 3))) (m2 Ge (AH 3) (mC (.int 1))))))
  (EQ (AH 2))))
noncomputable def JR(W:Wd):List D->Sto->Res D:=ER 4 (JT W)
noncomputable def Kb(W:Wd):MS:=
  (BO (Ci 3 (mC .non))
  (BO (Ci 4 (mC .non))
  (BO (bZ W.excs 5 (Ci 4 (B2 4 (DC W) (AR (AH 0) (AR (AH 1) (AR (AH 2) (AR (mC (.str "one")) BE)))))) (Ci 3 (AH 5)))
  (BO (sIf (mB (m2 (sj false) (AH 3) (mC .non))) (EQ (Vm (fq (L2.mIs (isB "tuple") (λ_=>none) (AH 4)) (m2 (eqD false) (Nd (AH 4)) (mC (.int 2)))))) sNx)
  (BO (sIf (mOr (Qu (mB (L2.mIs isV (GY W) (AH 3)))) (mB (fm (BB W) (AH 3)))) (EQ (mC (.int 0))) sNx)
  (EQ (m2 Ge (m2 Pt (mC (.int 2)) (Vm (L2.mIs isN (Gn W) (AH 3)))) (m2 Pt (mC (.int 3)) (Vm (L2.mIs isN (FR W) (AH 3)))))))))))
noncomputable def Gc(W:Wd):List D->Sto->Res D:=ER 6 (Kb W)
noncomputable def iQ(W:Wd):MS:=
  (BO (Fy (GC (m2 Ge (Ga (En (AR (mC (.int 1)) BE))) (B2 1 (Lh W) (AR (AH 0) BE)))) (tgN 1)
  (BO (Ci 2 (m2 Ge (mC (.int 2)) (m2 Kr (m2 IY (B2 2 (Co W) (AR (AH 1) (AR (mC (.int 71)) BE))) (mC (.int 8))) (mC (.int 29)))))
  (BO (Ci 3 (m2 Ge (mC (.int 1)) (m2 Kr (m2 IY (B2 2 (Co W) (AR (AH 1) (AR (mC (.int 73)) BE))) (mC (.int 8))) (mQ Oo (AR (mC (.int 4)) (AR (AH 2) BE))))))
  (BO (Ci 4 (No W.Web 3 (Li W) (AR (AH 2) (AR (OC (B2 2 (Mv W) (AR (AH 1) (AR (AH 2) BE))) UG (SI (mC (.int 40)))) BE))))
  (BO (Ci 5 (Ga (HZ 1 (iR1 (AR (m2 Kr (m2 IY (B2 2 (Co W) (AR (AH 1) (AR (mC (.int 77)) BE))) (mC (.int 8))) (mC (.int 5))) BE)) (tgN 0) IZ (m2 Kr (m2 IY (B2 2 (Co W) (AR (AH 2) (AR (m2 Ge (mC (.int 79)) (AH 0)) BE))) (mC (.int 8))) (AH 3)))))
  (BO (Ci 6 (mC (.int 1)))
  (BO (sIf (mB (m2 gtD (B2 2 (JR W) (AR (AH 2) (AR (AH 3) BE))) (mC (.int 400)))) (Ci 6 (mC (.int 3))) sNx)
  (BO (sIf (mB (m2 (eqD false) (m2 Kr (m2 IY (B2 2 (Co W) (AR (AH 1) (AR (mC (.int 91)) BE))) (mC (.int 8))) (mC (.int 2))) (mC (.int 1)))) (BO (Ci 7 (m2 Kr (m2 IY (B2 2 (Co W) (AR (AH 1) (AR (mC (.int 93)) BE))) (mC (.int 8))) (m2 Ge (Nd (AH 5)) (mC (.int 1)))))
  (BO (Ci 8 (m2 ixA (Ga (En (AR (Pu (mC (.int 1))) (AR (AH 2) (AR (m2 Ge (AH 2) (mC (.int 1))) (AR (mC (.int 60)) (AR (Pu (AH 2)) BE))))))) (m2 Kr (m2 IY (B2 2 (Co W) (AR (AH 1) (AR (mC (.int 95)) BE))) (mC (.int 8))) (mC (.int 5)))))
  (BO (Ci 5 (m2 Ge (m2 Ge (OC (AH 5) UG (SI (AH 7))) (Ga (En (AR (AH 8) BE)))) (OC (AH 5) (SI (AH 7)) UG)))
  (Ci 6 (mC (.int 2)))))) sNx)
  (BO (sIf (mB (m2 (eqD false) (Nd (AH 5)) (mC (.int 0)))) (Ci 5 (Ga (En (AR (mC (.int 0)) BE)))) sNx)
  (sIf (mB (m2 (eqD true) (B2 3 (Gc W) (AR (AH 4) (AR (B2 3 (Mw W) (AR (AH 1) (AR (AH 2) (AR (AH 3) BE)))) (AR (AH 5) BE)))) (AH 6))) (EQ (mC (.bl false))) sNx))))))))))
  (EQ (mC (.bl true))))
noncomputable def aV(W:Wd):List D->Sto->Res D:=ER 9 (iQ W)
set_option genInjectivity false in
structure Txt(K:AD)(mg:Str->Option AE)(W:Wd) where
 d_checked_ties:Dfn K mg "checked_ties" "checked_ties" JC ["places", "ties"]
 d_near_sets_of:Dfn K mg "near_sets_of" "near_sets_of" JA ["places", "ties"]
 d_Web_init:Mtd K "__init__" "Web.__init__" OA ["self", "places", "ties"]
 d_refuse_no_place:Dfn K mg "refuse_no_place" "refuse_no_place" G4 ["web", "place"]
 d_near:Dfn K mg "near" "near" Yh ["web", "place"]
 d_takes_of:Dfn K mg "takes_of" "takes_of" N8 ["web"]
 d_bits_of:Dfn K mg "bits_of" "bits_of" Pk ["some"]
 d_members:Dfn K mg "members" "members" Pj ["bits"]
 d_with_step:Dfn K mg "with_step" "with_step" Mg ["standing", "guard", "place"]
 d_sets_of:Dfn K mg "sets_of" "sets_of" Pi ["places", "size"]
 d_ways_to_choose:Dfn K mg "ways_to_choose" "ways_to_choose" Hf ["places", "size"]
 d_how_many:Dfn K mg "how_many" "how_many" N9 ["web", "guards"]
 d_standings:Dfn K mg "standings" "standings" Mh ["web", "guards"]
 d_Field_linked_by_one:Mtd K "linked_by_one" "Field.linked_by_one" E2 ["self", "number"]
 d_Field_linked_by_all:Mtd K "linked_by_all" "Field.linked_by_all" E3 ["self", "number"]
 d_Field_init:Mtd K "__init__" "Field.__init__" LN ["self", "web", "guards", "kind"]
 d_Field_linked:Mtd K "linked" "Field.linked" JE ["self", "number"]
 d_Field_behind:Mtd K "behind" "Field.behind" JF ["self", "number", "call"]
 d_Field_first_answer:Mtd K "first_answer" "Field.first_answer" FT ["self", "number", "call", "wanted"]
 d_next_ones:Dfn K mg "next_ones" "next_ones" Mi ["field", "number", "call"]
 d_layers_along:Dfn K mg "layers_along" "layers_along" JB ["field", "start", "calls"]
 d_answers_along:Dfn K mg "answers_along" "answers_along" IK ["field", "start", "calls", "kept"]
 d_kept_layers:Dfn K mg "kept_layers" "kept_layers" KP ["field", "layers", "calls"]
 d_row_answered:Dfn K mg "row_answered" "row_answered" Iz ["web", "standing", "calls", "kind"]
 d__law_mixed:Dfn K mg "_law_mixed" "_law_mixed" LL ["cell", "salt"]
 d__law_ties:Dfn K mg "_law_ties" "_law_ties" Mj ["cell", "many"]
 d__law_some:Dfn K mg "_law_some" "_law_some" Ml ["cell", "many", "count"]
 d__law_turns:Dfn K mg "_law_turns" "_law_turns" LK ["script"]
 d__law_choices:Dfn K mg "_law_choices" "_law_choices" JD ["many", "guards"]
 d__law_caught:Dfn K mg "_law_caught" "_law_caught" KQ ["web", "here", "calls"]
 d_law:Dfn K mg "law" "law" Z1 ["script"]
 c_Web:Own K mg "Web" W.Web d_Web_init.f
 n_Web_places:E7 K W.Web "places"
 n_Web_ties:E7 K W.Web "ties"
 n_Web_near_sets:E7 K W.Web "near_sets"
 c_Field:Own K mg "Field" W.Field d_Field_init.f
 n_Field_everything:E7 K W.Field "everything"
 n_Field_kind:E7 K W.Field "kind"
 n_Field_takes:E7 K W.Field "takes"
 n_Field_numbers:E7 K W.Field "numbers"
 n_Field_having:E7 K W.Field "having"
 n_Field_place_bits:E7 K W.Field "place_bits"
 n_Field_known:E7 K W.Field "known"
 m_Field_linked_by_one:WF K W.Field "linked_by_one" d_Field_linked_by_one.f
 m_Field_linked_by_all:WF K W.Field "linked_by_all" d_Field_linked_by_all.f
 m_Field_linked:WF K W.Field "linked" d_Field_linked.f
 m_Field_behind:WF K W.Field "behind" d_Field_behind.f
 m_Field_first_answer:WF K W.Field "first_answer" d_Field_first_answer.f
 xm_GuardError:mg "GuardError" = some (.ref W.GuardError)
 xm_BadPlaces:mg "BadPlaces" = some (.ref W.BadPlaces)
 x_NoPlace:Xcl K mg "NoPlace" W.NoPlace
 x_TooLarge:Xcl K mg "TooLarge" W.TooLarge
 xm_BadGuards:mg "BadGuards" = some (.ref W.BadGuards)
 xm_NoCall:mg "NoCall" = some (.ref W.NoCall)
 xm_NoAnswer:mg "NoAnswer" = some (.ref W.NoAnswer)
 xm_NoStep:mg "NoStep" = some (.ref W.NoStep)
 nd:W.excs.Nodup
 caught_GuardError:∀c∈W.excs,ZW K c W.GuardError
 is_NoPlace:∀C b,Gn W C=some b->XIs K C/\Bb K (.ref C) (.ref W.NoPlace)=some b
 i_NoPlace:(EK K W.NoPlace).isSome=true/\Iu K (.ref W.NoPlace)=some (.type "type")
 is_TooLarge:∀C b,FR W C=some b->XIs K C/\Bb K (.ref C) (.ref W.TooLarge)=some b
 i_TooLarge:(EK K W.TooLarge).isSome=true/\Iu K (.ref W.TooLarge)=some (.type "type")
 is_ValueError:∀C b,GY W C=some b->XIs K C/\Bb K (.ref C) (.type "ValueError")=some b
 isT_BadGuards_BadPlaces_NoAnswer_NoCall_NoStep:∀C b,BB W C=some b->XIs K C/\EX K (.ref C) (([W.BadGuards,W.BadPlaces,W.NoAnswer,W.NoCall,W.NoStep]:List AN).map Ai)=some b
 b_ValueError:mg "ValueError" = none
 b_enumerate:mg "enumerate" = none
 b_int:mg "int" = none
 b_isinstance:mg "isinstance" = none
 b_len:mg "len" = none
 b_list:mg "list" = none
 b_max:mg "max" = none
 b_min:mg "min" = none
 b_range:mg "range" = none
 b_reversed:mg "reversed" = none
 b_sorted:mg "sorted" = none
 b_tuple:mg "tuple" = none
 b_zip:mg "zip" = none
 g_MOST_PLACES:∃tk,mg "MOST_PLACES" = some (.int 60 tk)
 g_MOST_STANDINGS:∃tk,mg "MOST_STANDINGS" = some (.int 400 tk)
section
variable{P:BP}{w:Bu}{K:AD}{mg:Str->Option AE}{base:CS}{W:Wd}
theorem Qj:Bi ["places", "ties", "found", "one", "other", "tie"] ["places", "ties"] (Ay JC):=Gp
theorem Qr(T:Txt K mg W):DI P w K mg base (CXG P w) 1 T.d_checked_ties.f T.d_checked_ties.fd ["places", "ties"] (spM K 2 (HG W)):=by
 refine CF (k:=0) T.d_checked_ties.F Qj rfl λ_ _ _ _ _ _ l O g j m o=>?_
 exact(AX (CO 2 j XO)
  (AX (De (Az O).own rfl (E4 (AC (pv 1))) (Pz rfl (Er (Cy 3 j) (Er (Cy 4 j) NR)))
  (AX (CO 5 j (OE (AM (V0 rfl rfl T.b_min (AM (AC (pv 3)) (AM (AC (pv 4)) An))) (AM (kf rfl rfl T.b_max (AM (AC (pv 3)) (AM (AC (pv 4)) An))) An))))
  (AX (Fb (Fa (Om g) (Dw g (AC (pv 5)) ge_int) (Dw g (AC (pv 5)) ge_int) (GB _)) (Ag Ms) DF)
  (AX (Fb (tH (ls (Fa fJ (Dw g (AC (pv 5)) ge_int) ge_int (GB _)) (gi (Fa sS (Dw g (AC (pv 5)) ge_int) (AC (pv 0)) (GB _))))) (Ag Ms) DF)
  (AX (Fb (aL g (AC (pv 5)) (AC (pv 2))) (Ag Ms) DF)
  (Ag (Vw (BR (OY (by decide:1<=64) _) g) (AC (pv 2)) (AC (pv 5)) gu rfl)))))))
  (Ag (Cd (HE rfl T.b_tuple (Iq rfl rfl T.b_sorted (AC (pv 2))))))))
theorem Qh:Bi ["places", "ties", "rows", "one", "other"] ["places", "ties"] (Ay JA):=Gp
theorem Qp(T:Txt K mg W):DI P w K mg base (CXG P w) 1 T.d_near_sets_of.f T.d_near_sets_of.fd ["places", "ties"] (spM K 2 (HF W)):=by
 refine CF (k:=0) T.d_near_sets_of.F Qh rfl λ_ _ _ _ _ _ l O j g m o=>?_
 exact(AX (Vx (i:=2) (own:=["place"]) (N':=["place", "·1", "·2", "·3", "·4", "·5"]) rfl rfl g rfl (by first | exact Sy rfl | exact QE rfl) (Hv (by kernel_rfl)) (D8 rfl T.b_range (AM (AC (pv 0)) An)) (λ_ _ _ _ _ _=>(Cy 0 (by decide +kernel:(["place", "·1", "·2", "·3", "·4", "·5"]:List Str).Nodup))) (λ_ _ _ _ _ _=>Gb) (λ_ _ _ _ _ _=>(D5 (HD An))))
  (AX (De (Az O).own rfl (E4 (AC (pv 1))) (Pz rfl (Er (Cy 3 g) (Er (Cy 4 g) NR)))
  (AX (FC (Ef (Dw j (AC (pv 2)) (AC (pv 3))) (AC (pv 4))))
  (Ag (FC (Ef (Dw j (AC (pv 2)) (AC (pv 4))) (AC (pv 3)))))))
  (Ag (Cd (HE rfl T.b_tuple (D5 (Lb (own:=["row"]) (N':=["row", "·1", "·2", "·3", "·4", "·5"]) rfl (Hv (by kernel_rfl)) (E4 (AC (pv 2))) (λ_ _ _ _ _ _=>(Cy 0 (by decide +kernel:(["row", "·1", "·2", "·3", "·4", "·5"]:List Str).Nodup))) (λ_ _ _ _ _ _=>Gb) (λ_ _ _ _ _ _=>(HE rfl T.b_tuple (Iq rfl rfl T.b_sorted (AC (pv 0))))))))))))
theorem Wr:Bi ["self", "places", "ties"] ["self", "places", "ties"] (Ay OA):=Gp
theorem W5(T:Txt K mg W):DI P w K mg base (CXG P w) 2 T.d_Web_init.f T.d_Web_init.fd ["self", "places", "ties"] (spM K 3 (Li W)):=by
 refine CF (k:=1) T.d_Web_init.F Wr rfl λ_ _ _ _ _ _ g O j l o s=>?_
 exact(AX (Fb (Vv (SX W6 W6 ge_int (AC (pv 1)) (SY rfl T.g_MOST_PLACES.choose_spec))) (Ag Ms) DF)
  (AX (KS T.c_Web.cl T.n_Web_places (AC (pv 0)) (AC (pv 1)) rfl)
  (AX (KS T.c_Web.cl T.n_Web_ties (AC (pv 0)) (Bo (Qr T) (Az O).pass (g.mono (by decide)) rfl T.d_checked_ties.m T.d_checked_ties.kp T.d_checked_ties.b (AM (AC (pv 1)) (AM (AC (pv 2)) An))) rfl)
  (Ag (KS T.c_Web.cl T.n_Web_near_sets (AC (pv 0)) (Bo (Qp T) (Az O).pass (g.mono (by decide)) rfl T.d_near_sets_of.m T.d_near_sets_of.kp T.d_near_sets_of.b (AM (AC (pv 1)) (AM (Ct T.c_Web.cl T.n_Web_ties (AC (pv 0)) rfl) An))) rfl)))))
theorem N7:Bi ["web", "place"] ["web", "place"] (Ay G4):=Gp
theorem JM(T:Txt K mg W):DI P w K mg base (CXG P w) 1 T.d_refuse_no_place.f T.d_refuse_no_place.fd ["web", "place"] (spM K 2 (Bp W)):=by
 refine CF (k:=0) T.d_refuse_no_place.F N7 rfl λ_ _ _ _ _ _ g O j l o s=>?_
 exact(Ag (Fb (Vv (SX W6 fJ ge_int (AC (pv 1)) (Ct T.c_Web.cl T.n_Web_places (AC (pv 0)) rfl))) (Ag (XN (Az O) rfl T.x_NoPlace.xc rfl T.x_NoPlace.m (AM P0 An))) DF))
theorem jd:Bi ["web", "place"] ["web", "place"] (Ay Yh):=Gp
theorem kK(T:Txt K mg W):DI P w K mg base (CXG P w) 2 T.d_near.f T.d_near.fd ["web", "place"] (spM K 2 (ZD W)):=by
 refine CF (k:=1) T.d_near.F jd rfl λ_ _ _ _ _ _ g O j l o s=>?_
 exact(AX (FC (Bo (JM T) (Az O).pass (g.mono (by decide)) rfl T.d_refuse_no_place.m T.d_refuse_no_place.kp T.d_refuse_no_place.b (AM (AC (pv 0)) (AM (AC (pv 1)) An))))
  (Ag (Cd (Dw j (Ct T.c_Web.cl T.n_Web_near_sets (AC (pv 0)) rfl) (AC (pv 1))))))
theorem Wp:Bi ["web"] ["web"] (Ay N8):=Gp
theorem W3(T:Txt K mg W):DI P w K mg base (CXG P w) 3 T.d_takes_of.f T.d_takes_of.fd ["web"] (spM K 1 (Ld W)):=by
 refine CF (k:=2) T.d_takes_of.F Wp rfl λ_ _ _ _ _ _ g O j l m o=>?_
 exact(Ag (Cd (D5 (Lb (own:=["place"]) (N':=["place", "web"]) rfl (Hv (by kernel_rfl)) (D8 rfl T.b_range (AM (Ct T.c_Web.cl T.n_Web_places (AC (pv 0)) rfl) An)) (λ_ _ _ _ _ _=>(Cy 0 (by decide +kernel:(["place", "web"]:List Str).Nodup))) (λ_ _ _ _ _ _=>Gb) (λ_ _ _ _ _ _=>(HE rfl T.b_tuple (Iq rfl rfl T.b_sorted (Aw Dv (OE (AM (AC (pv 0)) An)) (gcl T.d_near (kK T) g (AM (AC (pv 1)) (AM (AC (pv 0)) An)))))))))))
theorem Yg:Bi ["some", "bits", "place"] ["some"] (Ay Pk):=Gp
theorem Yo(T:Txt K mg W):DI P w K mg base (CXG P w) 1 T.d_bits_of.f T.d_bits_of.fd ["some"] (spM K 1 (P4 W)):=by
 refine CF (k:=0) T.d_bits_of.F Yg rfl λ_ _ _ _ _ _ j O l g m o=>?_
 exact(AX (CO 1 g ge_int)
  (AX (De (Az O).own rfl (E4 (AC (pv 0))) (Cy 2 g)
  (Ag (US 1 g UQ (Aw OB ge_int (AC (pv 2))))))
  (Ag (Cd (AC (pv 1))))))
theorem Yf:Bi ["bits", "told", "left"] ["bits"] (Ay Pj):=Gp
theorem LU(T:Txt K mg W):DI P w K mg base (CXG P w) 1 T.d_members.f T.d_members.fd ["bits"] (spM K 1 (Ir W)):=by
 refine CF (k:=0) T.d_members.F Yf rfl λ_ _ _ _ _ _ j O l g m o=>?_
 exact(AX (CO 1 g (D5 (HD An)))
  (AX (CO 2 g (AC (pv 0)))
  (AX (gl wN (Az O).own (Ow (AC (pv 2))) (AX (FC (Ef (AC (pv 1)) (Aw Pn (kj (Aw Ve (AC (pv 2)) (KU (AC (pv 2))))) ge_int)))
  (Ag (US 2 g pA (Aw Pn (AC (pv 2)) ge_int)))))
  (Ag (Cd (AC (pv 1)))))))
theorem VN:Bi ["standing", "guard", "place"] ["standing", "guard", "place"] (Ay Mg):=Gp
theorem Va(T:Txt K mg W):DI P w K mg base (CXG P w) 1 T.d_with_step.f T.d_with_step.fd ["standing", "guard", "place"] (spM K 3 (Mu W)):=by
 refine CF (k:=0) T.d_with_step.F VN rfl λ_ _ _ _ _ _ j O g l m o=>?_
 exact(Ag (Cd (HE rfl T.b_tuple (D5 (Lb (own:=["other"]) (N':=["other", "·1", "guard", "place"]) rfl (Hv (by kernel_rfl)) (E4 (AC (pv 0))) (λ_ _ _ _ _ _=>(Cy 0 (by decide +kernel:(["other", "·1", "guard", "place"]:List Str).Nodup))) (λ_ _ _ _ _ _=>Gb) (λ_ _ _ _ _ _=>(Oz (Fa (Om g) (AC (pv 0)) (AC (pv 2)) (GB _)) (AC (pv 3)) (AC (pv 0)))))))))
theorem Ye:Bi ["places", "size", "told", "step", "longer", "some", "least", "place"] ["places", "size"] (Ay Pi):=Gp
theorem Yn(T:Txt K mg W):DI P w K mg base (CXG P w) 1 T.d_sets_of.f T.d_sets_of.fd ["places", "size"] (spM K 2 (P3 W)):=by
 refine CF (k:=0) T.d_sets_of.F Ye rfl λ_ _ _ _ _ _ l O j g m o=>?_
 exact(AX (CO 2 g (D5 (HD (AM (OE An) An))))
  (AX (De (Az O).own rfl (D8 rfl T.b_range (AM (AC (pv 1)) An)) (Cy 3 g)
  (AX (CO 4 g (D5 (HD An)))
  (AX (De (Az O).own rfl (E4 (AC (pv 2))) (Cy 5 g)
  (AX (CO 6 g (Oz (Ow (AC (pv 5))) (Aw Dv (Dw j (AC (pv 5)) (KU ge_int)) ge_int) ge_int))
  (Ag (De (Az O).own rfl (cG rfl T.b_range (AM (AC (pv 6)) (AM (Aw Dv (Aw Dv (Aw Pn (AC (pv 0)) (AC (pv 1))) (AC (pv 3))) ge_int) An))) (Cy 7 g)
  (Ag (FC (Ef (AC (pv 4)) (Aw Dv (AC (pv 5)) (OE (AM (AC (pv 7)) An))))))))))
  (Ag (CO 2 g (AC (pv 4)))))))
  (Ag (Cd (AC (pv 2))))))
theorem Og:Bi ["places", "size", "ways", "step"] ["places", "size"] (Ay Hf):=Gp
theorem Oj(T:Txt K mg W):DI P w K mg base (CXG P w) 1 T.d_ways_to_choose.f T.d_ways_to_choose.fd ["places", "size"] (spM K 2 (Hi W)):=by
 refine CF (k:=0) T.d_ways_to_choose.F Og rfl λ_ _ _ _ _ _ j O l g m o=>?_
 exact(AX (CO 2 g ge_int)
  (AX (De (Az O).own rfl (D8 rfl T.b_range (AM (AC (pv 1)) An)) (Cy 3 g)
  (Ag (CO 2 g (Aw Gj (Aw LX (AC (pv 2)) (Aw Pn (AC (pv 0)) (AC (pv 3)))) (Aw Dv (AC (pv 3)) ge_int)))))
  (Ag (Cd (AC (pv 2))))))
theorem Wq:Bi ["web", "guards"] ["web", "guards"] (Ay N9):=Gp
theorem W4(T:Txt K mg W):DI P w K mg base (CXG P w) 2 T.d_how_many.f T.d_how_many.fd ["web", "guards"] (spM K 2 (Lg W)):=by
 refine CF (k:=1) T.d_how_many.F Wq rfl λ_ _ _ _ _ _ g O j l o s=>?_
 exact(AX (Fb (Vv (SX W6 W6 ge_int (AC (pv 1)) (Ct T.c_Web.cl T.n_Web_places (AC (pv 0)) rfl))) (Ag Ms) DF)
  (Ag (Cd (Bo (Oj T) (Az O).pass (g.mono (by decide)) rfl T.d_ways_to_choose.m T.d_ways_to_choose.kp T.d_ways_to_choose.b (AM (Ct T.c_Web.cl T.n_Web_places (AC (pv 0)) rfl) (AM (AC (pv 1)) An))))))
theorem VP:Bi ["web", "guards"] ["web", "guards"] (Ay Mh):=Gp
theorem Vb(T:Txt K mg W):DI P w K mg base (CXG P w) 3 T.d_standings.f T.d_standings.fd ["web", "guards"] (spM K 2 (Gv W)):=by
 refine CF (k:=2) T.d_standings.F VP rfl λ_ _ _ _ _ _ g O j l o s=>?_
 exact(AX (Fb (Fa lg (Bo (W4 T) (Az O).pass (g.mono (by decide)) rfl T.d_how_many.m T.d_how_many.kp T.d_how_many.b (AM (AC (pv 0)) (AM (AC (pv 1)) An))) (SY rfl T.g_MOST_STANDINGS.choose_spec) (GB _)) (Ag (XN (Az O) rfl T.x_TooLarge.xc rfl T.x_TooLarge.m (AM (kg (Vy P0 (Vy (pQ (SY rfl T.g_MOST_STANDINGS.choose_spec)) (Vy P0 pI)))) An))) DF)
  (Ag (Cd (Bo (Yn T) (Az O).pass (g.mono (by decide)) rfl T.d_sets_of.m T.d_sets_of.kp T.d_sets_of.b (AM (Ct T.c_Web.cl T.n_Web_places (AC (pv 0)) rfl) (AM (AC (pv 1)) An))))))
theorem LH:Bi ["self", "number", "standing", "told", "guard", "place"] ["self", "number"] (Ay E2):=Gp
theorem LV(T:Txt K mg W):DI P w K mg base (CXG P w) 2 T.d_Field_linked_by_one.f T.d_Field_linked_by_one.fd ["self", "number"] (spM K 2 (DH W)):=by
 refine CF (k:=1) T.d_Field_linked_by_one.F LH rfl λ_ _ _ _ _ _ l O j g o s=>?_
 exact(AX (CO 2 g (Dw j (Ct T.c_Field.cl T.n_Field_everything (AC (pv 0)) rfl) (AC (pv 1))))
  (AX (CO 3 g ge_int)
  (AX (De (Az O).own rfl (E4 (AC (pv 2))) (Cy 4 g)
  (Ag (De (Az O).own rfl (E4 (Dw j (Ct T.c_Field.cl T.n_Field_takes (AC (pv 0)) rfl) (AC (pv 4)))) (Cy 5 g)
  (Ag (Fb (XM j (AC (pv 5)) (AC (pv 2))) (Ag (US 3 g UQ (Aw OB ge_int (Dw j (Ct T.c_Field.cl T.n_Field_numbers (AC (pv 0)) rfl) (HE rfl T.b_tuple (Iq rfl rfl T.b_sorted (Bo (Va T) (Az O).pass (l.mono (by decide)) rfl T.d_with_step.m T.d_with_step.kp T.d_with_step.b (AM (AC (pv 2)) (AM (AC (pv 4)) (AM (AC (pv 5)) An)))))))))) DF)))))
  (Ag (Cd (AC (pv 3)))))))
theorem LJ:Bi ["self", "number", "standing", "told", "other", "bits"] ["self", "number"] (Ay E3):=Gp
theorem LW(T:Txt K mg W):DI P w K mg base (CXG P w) 1 T.d_Field_linked_by_all.f T.d_Field_linked_by_all.fd ["self", "number"] (spM K 2 (E5 W)):=by
 refine CF (k:=0) T.d_Field_linked_by_all.F LJ rfl λ_ _ _ _ _ _ l O j g m o=>?_
 exact(AX (CO 2 g (Dw j (Ct T.c_Field.cl T.n_Field_everything (AC (pv 0)) rfl) (AC (pv 1))))
  (AX (CO 3 g ge_int)
  (AX (De (Az O).own rfl (aN rfl T.b_enumerate (Ct T.c_Field.cl T.n_Field_place_bits (AC (pv 0)) rfl)) (Pz rfl (Er (Cy 4 g) (Er (Cy 5 g) NR)))
  (Ag (Fb (Ow gv) (Ag (US 3 g UQ (Aw OB ge_int (AC (pv 4))))) DF)))
  (Ag (Cd (AC (pv 3)))))))
theorem TY:Bi ["self", "web", "guards", "kind", "number", "standing", "place"] ["self", "web", "guards", "kind"] (Ay LN):=Gp
theorem SG(T:Txt K mg W):DI P w K mg base (CXG P w) 4 T.d_Field_init.f T.d_Field_init.fd ["self", "web", "guards", "kind"] (spM K 4 (Ht W)):=by
 refine CF (k:=3) T.d_Field_init.F TY rfl λ_ _ _ _ _ _ g O l j o s=>?_
 exact(AX (KS T.c_Field.cl T.n_Field_everything (AC (pv 0)) (Bo (Vb T) (Az O).pass (g.mono (by decide)) rfl T.d_standings.m T.d_standings.kp T.d_standings.b (AM (AC (pv 1)) (AM (AC (pv 2)) An))) rfl)
  (AX (KS T.c_Field.cl T.n_Field_kind (AC (pv 0)) (AC (pv 3)) rfl)
  (AX (KS T.c_Field.cl T.n_Field_takes (AC (pv 0)) (Bo (W3 T) (Az O).pass (g.mono (by decide)) rfl T.d_takes_of.m T.d_takes_of.kp T.d_takes_of.b (AM (AC (pv 1)) An)) rfl)
  (AX (KS T.c_Field.cl T.n_Field_numbers (AC (pv 0)) XO rfl)
  (AX (KS T.c_Field.cl T.n_Field_having (AC (pv 0)) (D5 (Lb (own:=["place"]) (N':=["place", "·1", "·2", "·3", "·4", "·5", "·6", "·7"]) rfl (Hv (by kernel_rfl)) (D8 rfl T.b_range (AM (Ct T.c_Web.cl T.n_Web_places (AC (pv 1)) rfl) An)) (λ_ _ _ _ _ _=>(Cy 0 (by decide +kernel:(["place", "·1", "·2", "·3", "·4", "·5", "·6", "·7"]:List Str).Nodup))) (λ_ _ _ _ _ _=>Gb) (λ_ _ _ _ _ _=>ge_int))) rfl)
  (AX (De (Az O).own rfl (aN rfl T.b_enumerate (Ct T.c_Field.cl T.n_Field_everything (AC (pv 0)) rfl)) (Pz rfl (Er (Cy 4 j) (Er (Cy 5 j) NR)))
  (AX (Vw (BR (OY (by decide:1<=64) _) l) (Ct T.c_Field.cl T.n_Field_numbers (AC (pv 0)) rfl) (AC (pv 5)) (AC (pv 4)) rfl)
  (Ag (De (Az O).own rfl (E4 (AC (pv 5))) (Cy 6 j)
  (Ag (kY (Ct T.c_Field.cl T.n_Field_having (AC (pv 0)) rfl) (AC (pv 6)) (Aw OB ge_int (AC (pv 4))) UQ))))))
  (AX (KS T.c_Field.cl T.n_Field_place_bits (AC (pv 0)) (D5 (Lb (own:=["standing"]) (N':=["standing", "·1", "·2", "·3", "·4", "·5", "·6", "·7"]) rfl (Hv (by kernel_rfl)) (E4 (Ct T.c_Field.cl T.n_Field_everything (AC (pv 0)) rfl)) (λ_ _ _ _ _ _=>(Cy 0 (by decide +kernel:(["standing", "·1", "·2", "·3", "·4", "·5", "·6", "·7"]:List Str).Nodup))) (λ_ _ _ _ _ _=>Gb) (λ_ _ _ _ _ _=>(gcl T.d_bits_of (Yo T) g (AM (AC (pv 0)) An))))) rfl)
  (Ag (KS T.c_Field.cl T.n_Field_known (AC (pv 0)) gs rfl)))))))))
theorem Td(T:Txt K mg W):DI P w K mg base (CXG P w) 4 T.d_Field_init.f T.d_Field_init.fd ["self", "web", "guards", "kind"] (spM K 4 (Eo W)):=gz (SG T)
theorem Ql:Bi ["self", "number"] ["self", "number"] (Ay JE):=Gp
theorem Pm(T:Txt K mg W):DI P w K mg base (CXG P w) 3 T.d_Field_linked.f T.d_Field_linked.fd ["self", "number"] (spM K 2 (IQ W)):=by
 refine CF (k:=2) T.d_Field_linked.F Ql rfl λ_ _ _ _ _ _ j O g l m o=>?_
 exact(AX (Fb (XM g (AC (pv 1)) (Ct T.c_Field.cl T.n_Field_known (AC (pv 0)) rfl)) (Ag (Vw (BR (OY (by decide:1<=64) _) g) (Ct T.c_Field.cl T.n_Field_known (AC (pv 0)) rfl) (AC (pv 1)) (Oz (Fa (Om g) (Ct T.c_Field.cl T.n_Field_kind (AC (pv 0)) rfl) P0 (GB _)) (NS (AC (pv 0)) T.c_Field.cl T.m_Field_linked_by_one (LV T) (Az O).pass (j.mono (by decide)) T.d_Field_linked_by_one.b (AM (AC (pv 1)) An)) (NS (AC (pv 0)) T.c_Field.cl T.m_Field_linked_by_all (LW T) (Az O).pass (j.mono (by decide)) T.d_Field_linked_by_all.b (AM (AC (pv 1)) An))) rfl)) DF)
  (Ag (Cd (Dw g (Ct T.c_Field.cl T.n_Field_known (AC (pv 0)) rfl) (AC (pv 1))))))
theorem Qt(T:Txt K mg W):DI P w K mg base (CXG P w) 3 T.d_Field_linked.f T.d_Field_linked.fd ["self", "number"] (spM K 2 (HH W)):=pX (Pm T)
theorem Qm:Bi ["self", "number", "call"] ["self", "number", "call"] (Ay JF):=Gp
theorem L7(T:Txt K mg W):DI P w K mg base (CXG P w) 4 T.d_Field_behind.f T.d_Field_behind.fd ["self", "number", "call"] (spM K 3 (HI W)):=by
 refine CF (k:=3) T.d_Field_behind.F Qm rfl λ_ _ _ _ _ _ g O j l m o=>?_
 exact(Ag (Cd (Aw Ve (NS (AC (pv 0)) T.c_Field.cl T.m_Field_linked (Qt T) (Az O).pass (g.mono (by decide)) T.d_Field_linked.b (AM (AC (pv 1)) An)) (Dw j (Ct T.c_Field.cl T.n_Field_having (AC (pv 0)) rfl) (AC (pv 2))))))
theorem L9:Bi ["self", "number", "call", "wanted", "standing", "told", "other"] ["self", "number", "call", "wanted"] (Ay FT):=Gp
theorem MC(T:Txt K mg W):DI P w K mg base (CXG P w) 2 T.d_Field_first_answer.f T.d_Field_first_answer.fd ["self", "number", "call", "wanted"] (spM K 4 (Fd W)):=by
 refine CF (k:=1) T.d_Field_first_answer.F L9 rfl λ_ _ _ _ _ _ l O g j o s=>?_
 exact(AX (CO 4 j (Dw g (Ct T.c_Field.cl T.n_Field_everything (AC (pv 0)) rfl) (AC (pv 1))))
  (AX (Fb (Fa (Om g) (Ct T.c_Field.cl T.n_Field_kind (AC (pv 0)) rfl) P0 (GB _)) (Ag (Cd gv)) DF)
  (AX (CO 5 j (D5 (HD An)))
  (AX (De (Az O).own rfl (E4 (Bo (LU T) (Az O).pass (l.mono (by decide)) rfl T.d_members.m T.d_members.kp T.d_members.b (AM (AC (pv 3)) An))) (Cy 6 j)
  (Ag (FC (Ef (AC (pv 5)) (HE rfl T.b_tuple (D5 (Lb (own:=["guard"]) (N':=["guard", "self", "·2", "call", "·4", "·5", "·6", "other"]) rfl (Hv (by kernel_rfl)) (E4 (AC (pv 4))) (λ_ _ _ _ _ _=>(Cy 0 (by decide +kernel:(["guard", "self", "·2", "call", "·4", "·5", "·6", "other"]:List Str).Nodup))) (λ_ _ _ _ _ _=>Gb) (λ_ _ _ _ _ _=>(Oz (aL g (AC (pv 0)) (Dw g (Ct T.c_Field.cl T.n_Field_everything (AC (pv 1)) rfl) (AC (pv 7)))) (AC (pv 0)) (AC (pv 3)))))))))))
  (Ag (Cd (ke g rfl rfl T.b_min (AC (pv 5)))))))))
theorem VQ:Bi ["field", "number", "call"] ["field", "number", "call"] (Ay Mi):=Gp
theorem Ol(T:Txt K mg W):DI P w K mg base (CXG P w) 5 T.d_next_ones.f T.d_next_ones.fd ["field", "number", "call"] (spM K 3 (KA W)):=by
 refine CF (k:=4) T.d_next_ones.F VQ rfl λ_ _ _ _ _ _ j O g l m o=>?_
 exact(AX (Fb (aL g (AC (pv 2)) (Dw g (Ct T.c_Field.cl T.n_Field_everything (AC (pv 0)) rfl) (AC (pv 1)))) (Ag (Cd (Aw OB ge_int (AC (pv 1))))) DF)
  (Ag (Cd (NS (AC (pv 0)) T.c_Field.cl T.m_Field_behind (L7 T) (Az O).pass (j.mono (by decide)) T.d_Field_behind.b (AM (AC (pv 1)) (AM (AC (pv 2)) An))))))
theorem Qi:Bi ["field", "start", "calls", "layers", "call", "reached", "number"] ["field", "start", "calls"] (Ay JB):=Gp
theorem Qq(T:Txt K mg W):DI P w K mg base (CXG P w) 6 T.d_layers_along.f T.d_layers_along.fd ["field", "start", "calls"] (spM K 3 (JQ W)):=by
 refine CF (k:=5) T.d_layers_along.F Qi rfl λ_ _ _ _ _ _ j O l g o s=>?_
 exact(AX (CO 3 g (D5 (HD (AM (Aw OB ge_int (AC (pv 1))) An))))
  (AX (De (Az O).own rfl (E4 (AC (pv 2))) (Cy 4 g)
  (AX (CO 5 g ge_int)
  (AX (De (Az O).own rfl (E4 (Bo (LU T) (Az O).pass (j.mono (by decide)) rfl T.d_members.m T.d_members.kp T.d_members.b (AM (Dw l (AC (pv 3)) (KU ge_int)) An))) (Cy 6 g)
  (Ag (US 5 g UQ (Bo (Ol T) (Az O).pass (j.mono (by decide)) rfl T.d_next_ones.m T.d_next_ones.kp T.d_next_ones.b (AM (AC (pv 0)) (AM (AC (pv 6)) (AM (AC (pv 4)) An)))))))
  (AX (FC (Ef (AC (pv 3)) (AC (pv 5))))
  (Ag (Fb (Fa (Om l) (AC (pv 5)) ge_int (GB _)) (Ag gm) DF))))))
  (Ag (Cd (AC (pv 3))))))
theorem Ph:Bi ["field", "start", "calls", "kept", "told", "here", "call", "layer"] ["field", "start", "calls", "kept"] (Ay IK):=Gp
theorem Pl(T:Txt K mg W):DI P w K mg base (CXG P w) 5 T.d_answers_along.f T.d_answers_along.fd ["field", "start", "calls", "kept"] (spM K 4 (IP W)):=by
 refine CF (k:=4) T.d_answers_along.F Ph rfl λ_ _ _ _ _ _ l O g j m o=>?_
 exact(AX (CO 4 j (D5 (HD An)))
  (AX (CO 5 j (AC (pv 1)))
  (AX (De (Az O).own rfl (kZ rfl T.b_zip (AM (AC (pv 2)) (AM (Oy (AC (pv 3)) (RJ ge_int) RK) An))) (Pz rfl (Er (Cy 6 j) (Er (Cy 7 j) NR)))
  (Ag (Fb (aL g (AC (pv 6)) (Dw g (Ct T.c_Field.cl T.n_Field_everything (AC (pv 0)) rfl) (AC (pv 5)))) (Ag (FC (Ef (AC (pv 4)) (Dw g (Ct T.c_Field.cl T.n_Field_everything (AC (pv 0)) rfl) (AC (pv 5)))))) (AX (FC (Ef (AC (pv 4)) (NS (AC (pv 0)) T.c_Field.cl T.m_Field_first_answer (MC T) (Az O).pass (l.mono (by decide)) T.d_Field_first_answer.b (AM (AC (pv 5)) (AM (AC (pv 6)) (AM (Aw Ve (NS (AC (pv 0)) T.c_Field.cl T.m_Field_behind (L7 T) (Az O).pass (l.mono (by decide)) T.d_Field_behind.b (AM (AC (pv 5)) (AM (AC (pv 6)) An))) (AC (pv 7))) An))))))
  (Ag (CO 5 j (Dw g (Ct T.c_Field.cl T.n_Field_numbers (AC (pv 0)) rfl) (HE rfl T.b_tuple (Iq rfl rfl T.b_sorted (Dw g (AC (pv 4)) (KU ge_int)))))))))))
  (Ag (Cd (AC (pv 4)))))))
theorem R3:Bi ["field", "layers", "calls", "kept", "call", "layer", "going_on", "number"] ["field", "layers", "calls"] (Ay KP):=Gp
theorem SD(T:Txt K mg W):DI P w K mg base (CXG P w) 6 T.d_kept_layers.f T.d_kept_layers.fd ["field", "layers", "calls"] (spM K 3 (KW W)):=by
 refine CF (k:=5) T.d_kept_layers.F R3 rfl λ_ _ _ _ _ _ j O l g o s=>?_
 exact(AX (CO 3 g (D5 (HD (AM (Dw l (AC (pv 1)) (KU ge_int)) An))))
  (AX (De (Az O).own rfl (pK rfl T.b_reversed (ZB rfl rfl T.b_list rfl T.b_zip (AM (AC (pv 2)) (AM (AC (pv 1)) An)))) (Pz rfl (Er (Cy 4 g) (Er (Cy 5 g) NR)))
  (AX (CO 6 g ge_int)
  (AX (De (Az O).own rfl (E4 (Bo (LU T) (Az O).pass (j.mono (by decide)) rfl T.d_members.m T.d_members.kp T.d_members.b (AM (AC (pv 5)) An))) (Cy 7 g)
  (Ag (Fb (Ow (Aw Ve (Bo (Ol T) (Az O).pass (j.mono (by decide)) rfl T.d_next_ones.m T.d_next_ones.kp T.d_next_ones.b (AM (AC (pv 0)) (AM (AC (pv 7)) (AM (AC (pv 4)) An)))) (Dw l (AC (pv 3)) (KU ge_int)))) (Ag (US 6 g UQ (Aw OB ge_int (AC (pv 7))))) DF)))
  (Ag (FC (Ef (AC (pv 3)) (AC (pv 6))))))))
  (AX (FC (ZA (AC (pv 3))))
  (Ag (Cd (AC (pv 3)))))))
theorem Qg:Bi ["web", "standing", "calls", "kind", "call", "field", "start", "layers"] ["web", "standing", "calls", "kind"] (Ay Iz):=Gp
theorem Qo(T:Txt K mg W):DI P w K mg base (CXG P w) 7 T.d_row_answered.f T.d_row_answered.fd ["web", "standing", "calls", "kind"] (spM K 4 (DC W)):=by
 refine CF (k:=6) T.d_row_answered.F Qg rfl λ_ _ _ _ _ _ g O j l o s=>?_
 exact(AX (De (Az O).own rfl (E4 (AC (pv 2))) (Cy 4 l)
  (Ag (FC (Bo (JM T) (Az O).pass (g.mono (by decide)) rfl T.d_refuse_no_place.m T.d_refuse_no_place.kp T.d_refuse_no_place.b (AM (AC (pv 0)) (AM (AC (pv 4)) An))))))
  (AX (CO 5 l (aP T.c_Field.mk' (Td T) (Az O).pass (g.mono (by decide)) rfl T.c_Field.m T.d_Field_init.b (AM (AC (pv 0)) (AM (Mt rfl T.b_len (AC (pv 1))) (AM (AC (pv 3)) An)))))
  (AX (CO 6 l (Dw j (Ct T.c_Field.cl T.n_Field_numbers (AC (pv 5)) rfl) (AC (pv 1))))
  (AX (CO 7 l (Bo (Qq T) (Az O).pass (g.mono (by decide)) rfl T.d_layers_along.m T.d_layers_along.kp T.d_layers_along.b (AM (AC (pv 5)) (AM (AC (pv 6)) (AM (AC (pv 2)) An)))))
  (AX (Fb (Fa (Om j) (Dw j (AC (pv 7)) (KU ge_int)) ge_int (GB _)) (Ag (Cd (OE (AM (Aw Pn (Mt rfl T.b_len (AC (pv 7))) ge_int) (AM (D5 (Lb (own:=["number"]) (N':=["number", "·1", "·2", "·3", "·4", "·5", "field", "·7", "·8"]) rfl (Hv (by kernel_rfl)) (E4 (Bo (LU T) (Az O).pass (g.mono (by decide)) rfl T.d_members.m T.d_members.kp T.d_members.b (AM (Dw j (AC (pv 7)) (KU ge_int)) An))) (λ_ _ _ _ _ _=>(Cy 0 (by decide +kernel:(["number", "·1", "·2", "·3", "·4", "·5", "field", "·7", "·8"]:List Str).Nodup))) (λ_ _ _ _ _ _=>Gb) (λ_ _ _ _ _ _=>(Dw j (Ct T.c_Field.cl T.n_Field_everything (AC (pv 6)) rfl) (AC (pv 0)))))) An))))) DF)
  (Ag (Cd (OE (AM (Bo (Pl T) (Az O).pass (g.mono (by decide)) rfl T.d_answers_along.m T.d_answers_along.kp T.d_answers_along.b (AM (AC (pv 5)) (AM (AC (pv 6)) (AM (AC (pv 2)) (AM (Bo (SD T) (Az O).pass (g.mono (by decide)) rfl T.d_kept_layers.m T.d_kept_layers.kp T.d_kept_layers.b (AM (AC (pv 5)) (AM (AC (pv 7)) (AM (AC (pv 2)) An)))) An))))) (AM Vz An))))))))))
theorem TX:Bi ["cell", "salt", "mixed"] ["cell", "salt"] (Ay LL):=Gp
theorem C9(T:Txt K mg W):DI P w K mg base (CXG P w) 1 T.d__law_mixed.f T.d__law_mixed.fd ["cell", "salt"] (spM K 2 (Co W)):=by
 refine CF (k:=0) T.d__law_mixed.F TX rfl λ_ _ _ _ _ _ j O l g m o=>?_
 exact(AX (CO 2 g (Aw F9 (Aw LX (Aw Dv (Aw F9 (AC (pv 0)) ge_int) (AC (pv 1))) ge_int) ge_int))
  (AX (CO 2 g (Aw F9 (Aw LX (AC (pv 2)) (AC (pv 2))) ge_int))
  (Ag (Cd (Aw F9 (Aw LX (Aw Dv (AC (pv 2)) (Aw LX ge_int (AC (pv 1)))) ge_int) ge_int)))))
theorem VR:Bi ["cell", "many", "dense", "ties", "j", "i"] ["cell", "many"] (Ay Mj):=Gp
theorem Vc(T:Txt K mg W):DI P w K mg base (CXG P w) 2 T.d__law_ties.f T.d__law_ties.fd ["cell", "many"] (spM K 2 (Mv W)):=by
 refine CF (k:=1) T.d__law_ties.F VR rfl λ_ _ _ _ _ _ j O l g o s=>?_
 exact(AX (CO 2 g (Aw Dv ge_int (Aw F9 (Aw Gj (Bo (C9 T) (Az O).pass (j.mono (by decide)) rfl T.d__law_mixed.m T.d__law_mixed.kp T.d__law_mixed.b (AM (AC (pv 0)) (AM ge_int An))) ge_int) ge_int)))
  (AX (CO 3 g (D5 (HD An)))
  (AX (De (Az O).own rfl (D8 rfl T.b_range (AM (AC (pv 1)) An)) (Cy 4 g)
  (Ag (De (Az O).own rfl (D8 rfl T.b_range (AM (AC (pv 4)) An)) (Cy 5 g)
  (Ag (Fb (Fa fJ (Aw F9 (Aw Gj (Bo (C9 T) (Az O).pass (j.mono (by decide)) rfl T.d__law_mixed.m T.d__law_mixed.kp T.d__law_mixed.b (AM (AC (pv 0)) (AM (Aw Dv (Aw Dv ge_int (Aw LX ge_int (AC (pv 5)))) (AC (pv 4))) An))) ge_int) ge_int) (AC (pv 2)) (GB _)) (Ag (FC (Ef (AC (pv 3)) (OE (AM (AC (pv 5)) (AM (AC (pv 4)) An)))))) DF)))))
  (Ag (Cd (AC (pv 3)))))))
theorem VU:Bi ["cell", "many", "count", "rest", "found", "k"] ["cell", "many", "count"] (Ay Ml):=Gp
theorem Vd(T:Txt K mg W):DI P w K mg base (CXG P w) 2 T.d__law_some.f T.d__law_some.fd ["cell", "many", "count"] (spM K 3 (Mw W)):=by
 refine CF (k:=1) T.d__law_some.F VU rfl λ_ _ _ _ _ _ j O l g o s=>?_
 exact(AX (CO 3 g (D5 (cF rfl rfl T.b_list rfl T.b_range (AM (AC (pv 1)) An))))
  (AX (CO 4 g (D5 (HD An)))
  (AX (De (Az O).own rfl (D8 rfl T.b_range (AM (AC (pv 2)) An)) (Cy 5 g)
  (Ag (FC (Ef (AC (pv 4)) (kc (AC (pv 3)) (Aw F9 (Aw Gj (Bo (C9 T) (Az O).pass (j.mono (by decide)) rfl T.d__law_mixed.m T.d__law_mixed.kp T.d__law_mixed.b (AM (AC (pv 0)) (AM (Aw Dv ge_int (AC (pv 5))) An))) ge_int) (Mt rfl T.b_len (AC (pv 3)))))))))
  (Ag (Cd (HE rfl T.b_tuple (Iq rfl rfl T.b_sorted (AC (pv 4)))))))))
theorem TW:Bi ["script", "turns", "k"] ["script"] (Ay LK):=Gp
theorem Tb(T:Txt K mg W):DI P w K mg base (CXG P w) 1 T.d__law_turns.f T.d__law_turns.fd ["script"] (spM K 1 (Lh W)):=by
 refine CF (k:=0) T.d__law_turns.F TW rfl λ_ _ _ _ _ _ l O g j m o=>?_
 exact(AX (Vx (i:=1) (own:=["k"]) (N':=["k", "·1", "·2", "·3"]) rfl rfl j rfl (by first | exact Sy rfl | exact QE rfl) (Hv (by kernel_rfl)) (D8 rfl T.b_range (AM (V0 rfl rfl T.b_min (AM (Mt rfl T.b_len (AC (pv 0))) (AM ge_int An))) An)) (λ_ _ _ _ _ _=>(Cy 0 (by decide +kernel:(["k", "·1", "·2", "·3"]:List Str).Nodup))) (λ_ _ _ _ _ _=>Gb) (λ_ _ _ _ _ _=>ge_int))
  (AX (De (Az O).own rfl (D8 rfl T.b_range (AM (Mt rfl T.b_len (AC (pv 0))) An)) (Cy 2 j)
  (Ag (pG (Aw Dv (Dw g (AC (pv 1)) (Aw F9 (AC (pv 2)) ge_int)) (Dw g (AC (pv 0)) (AC (pv 2)))) (pN (AC (pv 1)) (Aw F9 (AC (pv 2)) ge_int)))))
  (Ag (Cd (AC (pv 1))))))
theorem Qk:Bi ["many", "guards", "found", "k"] ["many", "guards"] (Ay JD):=Gp
theorem Qs(T:Txt K mg W):DI P w K mg base (CXG P w) 1 T.d__law_choices.f T.d__law_choices.fd ["many", "guards"] (spM K 2 (JR W)):=by
 refine CF (k:=0) T.d__law_choices.F Qk rfl λ_ _ _ _ _ _ j O l g m o=>?_
 exact(AX (CO 2 g ge_int)
  (AX (De (Az O).own rfl (D8 rfl T.b_range (AM (AC (pv 1)) An)) (Cy 3 g)
  (Ag (CO 2 g (Aw Gj (Aw LX (AC (pv 2)) (Aw Pn (AC (pv 0)) (AC (pv 3)))) (Aw Dv (AC (pv 3)) ge_int)))))
  (Ag (Cd (AC (pv 2))))))
theorem R4:Bi ["web", "here", "calls", "caught", "found", "e"] ["web", "here", "calls"] (Ay KQ):=Gp
theorem SE(T:Txt K mg W):DI P w K mg base (CXG P w) 8 T.d__law_caught.f T.d__law_caught.fd ["web", "here", "calls"] (spM K 3 (Gc W)):=by
 refine CF (k:=7) T.d__law_caught.F R4 rfl λ_ _ _ _ _ _ j O l g A o=>?_
 exact(AX (CO 3 g Vz)
  (AX (CO 4 g Vz)
  (AX (pD (i:=5) O g rfl rfl rfl T.xm_GuardError T.caught_GuardError (λs o=>(Ag (CO 4 g (Bo (Qo T) (Az O).pass (j.mono (by decide)) rfl T.d_row_answered.m T.d_row_answered.kp T.d_row_answered.b (AM (AC (pv 0)) (AM (AC (pv 1)) (AM (AC (pv 2)) (AM P0 An)))))))) (λs B=>(Ag (CO 3 g (AC (pv 5))))))
  (AX (Fb (Fa oV (AC (pv 3)) Vz (GB _)) (Ag (Cd (V1 rfl T.b_int (L2.pS (aQ (tabC:=λ_=>none) (c:=.ty "tuple") (cv:=.type "tuple") (λ_ r=>r) b9 (λ_ _ z=>nomatch z) rfl T.b_isinstance (AC (pv 4)) (Z6 rfl T.b_tuple QZ rfl)) (pO (pR (Om l) (Mt rfl T.b_len (AC (pv 4))) ge_int (GB _))))))) DF)
  (AX (Fb (tH (ls (Vv (gj (aQ (c:=.ty "ValueError") (cv:=.type "ValueError") (λ_ r=>r) oz T.is_ValueError rfl T.b_isinstance (AC (pv 3)) (Z6 rfl T.b_ValueError PyProof.Rows.Boot.«ValueError» rfl)))) (gi (gj (pP (Cs:=[W.BadGuards,W.BadPlaces,W.NoAnswer,W.NoCall,W.NoStep]) T.isT_BadGuards_BadPlaces_NoAnswer_NoCall_NoStep (Nat.le_of_ble_eq_true rfl) rfl T.b_isinstance (AC (pv 3)) (fE (c:=.ref W.BadGuards) (Jw rfl T.xm_BadGuards rfl) (fE (c:=.ref W.BadPlaces) (Jw rfl T.xm_BadPlaces rfl) (fE (c:=.ref W.NoAnswer) (Jw rfl T.xm_NoAnswer rfl) (fE (c:=.ref W.NoCall) (Jw rfl T.xm_NoCall rfl) (fE (c:=.ref W.NoStep) (Jw rfl T.xm_NoStep rfl) sG)))))))))) (Ag (Cd ge_int)) DF)
  (Ag (Cd (Aw Dv (Aw LX ge_int (V1 rfl T.b_int (aQ (c:=.ref W.NoPlace) (cv:=.ref W.NoPlace) (λ_ r=>r) (gW (aJ T.i_NoPlace.1 T.i_NoPlace.2)) T.is_NoPlace rfl T.b_isinstance (AC (pv 3)) (Jw rfl T.x_NoPlace.m rfl)))) (Aw LX ge_int (V1 rfl T.b_int (aQ (c:=.ref W.TooLarge) (cv:=.ref W.TooLarge) (λ_ r=>r) (gW (aJ T.i_TooLarge.1 T.i_TooLarge.2)) T.is_TooLarge rfl T.b_isinstance (AC (pv 3)) (Jw rfl T.x_TooLarge.m rfl))))))))))))
theorem nN:Bi ["script", "cell", "many", "guards", "web", "calls", "due", "at", "bad"] ["script"] (Ay Z1):=Gp
theorem oU(T:Txt K mg W):DI P w K mg base (CXG P w) 9 T.d_law.f T.d_law.fd ["script"] (spM K 1 (aV W)):=by
 refine CF (k:=8) T.d_law.F nN rfl λ_ _ _ _ _ _ g O l j o s=>?_
 exact(AX (De (Az O).own rfl (E4 (Aw Dv (D5 (HD (AM ge_int An))) (Bo (Tb T) (Az O).pass (g.mono (by decide)) rfl T.d__law_turns.m T.d__law_turns.kp T.d__law_turns.b (AM (AC (pv 0)) An)))) (Cy 1 j)
  (AX (CO 2 j (Aw Dv ge_int (Aw F9 (Aw Gj (Bo (C9 T) (Az O).pass (g.mono (by decide)) rfl T.d__law_mixed.m T.d__law_mixed.kp T.d__law_mixed.b (AM (AC (pv 1)) (AM ge_int An))) ge_int) ge_int)))
  (AX (CO 3 j (Aw Dv ge_int (Aw F9 (Aw Gj (Bo (C9 T) (Az O).pass (g.mono (by decide)) rfl T.d__law_mixed.m T.d__law_mixed.kp T.d__law_mixed.b (AM (AC (pv 1)) (AM ge_int An))) ge_int) (V0 rfl rfl T.b_min (AM ge_int (AM (AC (pv 2)) An))))))
  (AX (CO 4 j (aP T.c_Web.mk' (W5 T) (Az O).pass (g.mono (by decide)) rfl T.c_Web.m T.d_Web_init.b (AM (AC (pv 2)) (AM (Oy (Bo (Vc T) (Az O).pass (g.mono (by decide)) rfl T.d__law_ties.m T.d__law_ties.kp T.d__law_ties.b (AM (AC (pv 1)) (AM (AC (pv 2)) An))) RK (RJ ge_int)) An))))
  (AX (Vx (i:=5) (own:=["k"]) (N':=["k", "·1", "cell", "many", "·4", "·5", "·6", "·7", "·8", "·9"]) rfl rfl j rfl (by first | exact Sy rfl | exact QE rfl) (Hv (by kernel_rfl)) (D8 rfl T.b_range (AM (Aw F9 (Aw Gj (Bo (C9 T) (Az O).pass (g.mono (by decide)) rfl T.d__law_mixed.m T.d__law_mixed.kp T.d__law_mixed.b (AM (AC (pv 1)) (AM ge_int An))) ge_int) ge_int) An)) (λ_ _ _ _ _ _=>(Cy 0 (by decide +kernel:(["k", "·1", "cell", "many", "·4", "·5", "·6", "·7", "·8", "·9"]:List Str).Nodup))) (λ_ _ _ _ _ _=>Gb) (λ_ _ _ _ _ _=>(Aw F9 (Aw Gj (gcl T.d__law_mixed (C9 T) g (AM (AC (pv 2)) (AM (Aw Dv ge_int (AC (pv 0))) An))) ge_int) (AC (pv 3)))))
  (AX (CO 6 j ge_int)
  (AX (Fb (Fa lg (Bo (Qs T) (Az O).pass (g.mono (by decide)) rfl T.d__law_choices.m T.d__law_choices.kp T.d__law_choices.b (AM (AC (pv 2)) (AM (AC (pv 3)) An))) ge_int (GB _)) (Ag (CO 6 j ge_int)) DF)
  (AX (Fb (Fa (Om l) (Aw F9 (Aw Gj (Bo (C9 T) (Az O).pass (g.mono (by decide)) rfl T.d__law_mixed.m T.d__law_mixed.kp T.d__law_mixed.b (AM (AC (pv 1)) (AM ge_int An))) ge_int) ge_int) ge_int (GB _)) (AX (CO 7 j (Aw F9 (Aw Gj (Bo (C9 T) (Az O).pass (g.mono (by decide)) rfl T.d__law_mixed.m T.d__law_mixed.kp T.d__law_mixed.b (AM (AC (pv 1)) (AM ge_int An))) ge_int) (Aw Dv (Mt rfl T.b_len (AC (pv 5))) ge_int)))
  (AX (CO 8 j (Dw l (D5 (HD (AM (KU ge_int) (AM (AC (pv 2)) (AM (Aw Dv (AC (pv 2)) ge_int) (AM ge_int (AM (KU (AC (pv 2))) An))))))) (Aw F9 (Aw Gj (Bo (C9 T) (Az O).pass (g.mono (by decide)) rfl T.d__law_mixed.m T.d__law_mixed.kp T.d__law_mixed.b (AM (AC (pv 1)) (AM ge_int An))) ge_int) ge_int)))
  (AX (CO 5 j (Aw Dv (Aw Dv (Oy (AC (pv 5)) RK (RJ (AC (pv 7)))) (D5 (HD (AM (AC (pv 8)) An)))) (Oy (AC (pv 5)) (RJ (AC (pv 7))) RK)))
  (Ag (CO 6 j ge_int))))) DF)
  (AX (Fb (Fa (Om l) (Mt rfl T.b_len (AC (pv 5))) ge_int (GB _)) (Ag (CO 5 j (D5 (HD (AM ge_int An))))) DF)
  (Ag (Fb (Fa (sO l) (Bo (SE T) (Az O).pass (g.mono (by decide)) rfl T.d__law_caught.m T.d__law_caught.kp T.d__law_caught.b (AM (AC (pv 4)) (AM (Bo (Vd T) (Az O).pass (g.mono (by decide)) rfl T.d__law_some.m T.d__law_some.kp T.d__law_some.b (AM (AC (pv 1)) (AM (AC (pv 2)) (AM (AC (pv 3)) An)))) (AM (AC (pv 5)) An)))) (AC (pv 6)) (GB _)) (Ag (Cd gu)) DF)))))))))))
  (Ag (Cd gu)))
end
open PySem L2
open Srt (ltL)
noncomputable def pairD(x:Int×Int):D:=.tup [.int x.1,.int x.2]
noncomputable def nrm(x:Int×Int):Int×Int:=(if x.2 < x.1 then x.2 else x.1,if x.2 > x.1 then x.2 else x.1)
noncomputable def bf(x:Int×Int):ZLi:=[x.1,x.2]
noncomputable def Ot(x:Int×Int):List Key:=[.inl x.1,.inl x.2]
theorem XH(h:Ot x=Ot y):x=y:=by
 unfold Ot at h;simp at h;exact Prod.ext h.1 h.2
theorem OD:∀ns:ZLi,J9 (ns.map D.int)=some ns
 | []=>rfl
 | n :: ns=>by
  rw[As];unfold J9;rw[OD ns];rfl
theorem R8:∀rs:List ZLi,(∀r∈rs,r≠[])->UD (rs.map Qn)=some rs
 | [],_=>rfl
 | [] :: rs,h=>zX rfl (h [] Ah)
 | (n :: j) :: rs,h=>by
  rw[As];unfold Qn UD;rw[OD,show Jk (λr:ZLi=>D.tup (r.map D.int)) rs=rs.map Qn from rfl,R8 rs λr g=>h r (AS _ g)]
theorem Yb(rs:List ZLi)(h:∀r∈rs,r≠[])(g:rs.length < 64):Kn (rs.map Qn)=some ((Rz rs).map Qn):=by
 unfold Kn;rw[qX (by rw[AJ];exact g)]
 cases rs with
 | nil=>simp[J9,Rz]
 | cons r rs=>
  have:J9 ((r :: rs).map Qn)=none:=rfl;rw[this,R8 _ h]
theorem Yc(ns:ZLi)(g:ns.length < 64):Kn (ns.map D.int)=some ((Di ns).map D.int):=by
 unfold Kn;rw[qX (by rw[AJ];exact g)];rw[OD]
noncomputable def Mp(ps:List ZPi):List (List Key×D):=ps.map λx=>(Ot (nrm x),.bl true)
theorem fY(ps:List ZPi)(x:Int×Int):(Dc (Mp ps) (Ot (nrm x))).isSome=decide (nrm x∈ps.map nrm):=by
 unfold Dc Mp
 induction ps with
 | nil=>rfl
 | cons y ps g=>
  rw[As,CL]
  by_cases e:Ot (nrm y)=Ot (nrm x)
  ·rw[wX e]
   simp[XH e]
  ·rw[wY e]
   have j:nrm x≠nrm y:=λz=>e (by rw[z])
   simp only[As,Aq,j,false_or];exact g
theorem fX(ps:List ZPi)(x:Int×Int)(h:nrm x∉ps.map nrm):Go (Mp ps) (Ot (nrm x)) (.bl true)=Mp (ps++[x]):=by
 unfold Go;rw[qY]
 ·simp[Mp]
 ·intro z
  obtain⟨y,g,e⟩:=IE.mp z;obtain⟨a,j,rfl⟩:=BS.mp g;exact h (by rw[<-XH (of_decide_eq_true e)];exact List.mem_map_of_mem j)
theorem sk(h:S[n]?=some (.dT g))(neg:Bool):inA neg (pairD x) (.ref n) S=.ok (.bl (if neg then !(Dc g (Ot x)).isSome else(Dc g (Ot x)).isSome)) S:=by
 show KR (inD neg (pairD x) (.ref n) S) (OG neg (pairD x) (.ref n) S)=_
 have e:inD neg (pairD x) (.ref n) S=.bad:=by
  unfold inD IA;dsimp only;rw[h]
 have j:Qx (.ref n) (pairD x) S=some (Dc g (Ot x)):=by
  unfold Qx pairD;dsimp only;rw[h];rfl
 rw[e];show OG neg (pairD x) (.ref n) S=_;unfold OG;rw[j]
theorem iB(j:mv e S=.ok v S)(ho:mo e S=.ok (.ref d) S)(hi:mi e S=.ok (pairD x) S)(h:S[d]?=some (.dT g))(l:g.length < sizeLine) :
  IL mo mi mv e S=.ok (.nx e) (S.set d (.dT (Go g (Ot x) v))):=by
 unfold IL;rw[j];dsimp only[Res.lift];rw[ho];dsimp only[Res.lift];rw[hi];dsimp only[Res.lift]
 have:XV (.ref d) (pairD x) v S=some (S.set d (.dT (Go g (Ot x) v))):=by
  unfold XV pairD;dsimp only;rw[h];show(if g.length < sizeLine then some (S.set d (.dT (Go g (Ot x) v)))else none)=_;rw[qX l]
 rw[this]
theorem ix0(x:Int×Int)(S:Sto):ixA (pairD x) (.int 0) S=.ok (.int x.1) S:=rfl
theorem ix1(x:Int×Int)(S:Sto):ixA (pairD x) (.int 1) S=.ok (.int x.2) S:=rfl
noncomputable def Fit(p:Int)(x:Int×Int):Prop:=(nrm x).1≠(nrm x).2/\0<=(nrm x).1/\(nrm x).2 < p
noncomputable abbrev p6(W:Wd):MS:=BO (Ci 5 (Nc (AR (mQ Oo (AR (AH 3) (AR (AH 4) BE))) (AR (mQ UK (AR (AH 3) (AR (AH 4) BE))) BE))))
  (BO (sIf (mB (m2 (eqD false) (m2 ixA (AH 5) (mC (.int 0))) (m2 ixA (AH 5) (mC (.int 1))))) VV sNx)
  (BO (sIf (mOr (mB (m2 ltD (m2 ixA (AH 5) (mC (.int 0))) (mC (.int 0)))) (mB (m2 geD (m2 ixA (AH 5) (mC (.int 1))) (AH 0)))) VV sNx)
  (BO (sIf (mB (m2 (inA false) (AH 5) (AH 2))) VV sNx)
  (IL (AH 2) (AH 5) (mC (.bl true))))))
theorem Vg(h:t e S=.ok false S):sIf t a sNx e S=.ok (.nx e) S:=(Nq (a:=a) (b:=sNx) h).trans rfl
theorem du(g:S[n]?=some (.dT (Mp ps)))(l:ps.length<=100000)(m:Fit p x)(j:nrm x∉ps.map nrm) :
  p6 W [sI p,some t,sR n,sI x.1,sI x.2,z5] S=oN [sI p,some t,sR n,sI x.1,sI x.2,some (pairD (nrm x))] (S.set n (.dT (Mp (ps++[x])))):=by
 have o:Ci 5 (Nc (AR (mQ Oo (AR (AH 3) (AR (AH 4) BE))) (AR (mQ UK (AR (AH 3) (AR (AH 4) BE))) BE))) [sI p,some t,sR n,sI x.1,sI x.2,z5] S =
   oN [sI p,some t,sR n,sI x.1,sI x.2,some (pairD (nrm x))] S:=
  Mf (i:=5) (YX (ds:=[.int (nrm x).1,.int (nrm x).2]) (CP (jm (ds:=[.int x.1,.int x.2]) (S1:=S) rfl rfl) (CP (jm (ds:=[.int x.1,.int x.2]) (S1:=S) rfl rfl) rfl)) (by simp))
 obtain⟨s,A,B⟩:=m;refine(Ck o).trans ((Ck (Vg (WG (FZ (FZ rfl rfl (ix0 _ _)) (FZ rfl rfl (ix1 _ _)) (pd (wY s)))))).trans ((Ck (Vg ((oH (WG (FZ (FZ rfl rfl (ix0 _ _)) rfl (oh (wY (by lia)))))).trans (WG (FZ (FZ rfl rfl (ix1 _ _)) rfl (pU (wY (by lia)))))))).trans ((Ck (Vg (WG (FZ rfl rfl ?_)))).trans ?_)))
 ·rw[sk g,fY,wY j]
  rfl
 ·rw[iB (x:=nrm x) rfl rfl rfl g (by unfold Mp;rw[AJ];exact BR l (by decide)),fX _ _ j]
theorem cB(h:m e S=.ok d S1)(g:GU d S1=some xs):GC m e S=.ok (GU d) S1:=by
 unfold GC;rw[h];dsimp only[Res.bind];rw[g]
noncomputable def Hk(p:Int)(ps:List ZPi):Prop:=(∀x∈ps,Fit p x)/\(ps.map nrm).Nodup
theorem Hk.snoc:Hk p (ps++[x])↔Hk p ps/\Fit p x/\nrm x∉ps.map nrm:=by
 unfold Hk;rw[BZ,HU]
 constructor
 ·rintro⟨j,l,o,m⟩
  exact⟨⟨λy g=>j y (by simp[g]),l⟩,j x (by simp),λz=>m _ z _ (by simp) rfl⟩
 ·rintro⟨⟨j,l⟩,o,m⟩
  refine⟨λy g=>?_,l,by simp,λa s b hb e=>?_⟩
  ·rcases Bg.mp g with g | g
   ·exact j y g
   ·rw[Ab.mp g];exact o
  ·simp at hb
   subst hb;subst e;exact m s
theorem Hk.take(h:Hk p ps)(i:Nat):Hk p (ps.take i):=by
 refine⟨λx g=>h.1 x (List.mem_of_mem_take g),?_⟩;rw[WL];exact h.2.sublist (QG _ _)
theorem take_snoc{g:Type}{l:List g}{i:Nat}{x:g}(h:l[i]?=some x):l.take (i+1)=l.take i++[x]:=by
 rw[HQ,h];rfl
theorem V7(W:Wd){p:Int}{d:D}{S:Sto}{ps:List ZPi}(B:∀j,Keeps S j->GU d j=some (ps.map pairD))(J:ps.length<=50)(E:Hk p ps) :
  ∃l o z5,Fy (GC (AH 1)) (Jp 2 (Dd (tgN 3) (Dd (tgN 4) Km))) (p6 W) [sI p,some d,sR S.length,none,none,none] (S++[.dT []])=oN [sI p,some d,sR S.length,l,o,z5] (S++[.dT (Mp ps)]):=by
 rw[OF (cB (m:=AH 1) (d:=d) (S1:=S++[.dT []]) rfl (B _ (Keeps.app _ _)))]
 obtain⟨f,j,h,l,o,z5,rfl,rfl⟩:=P1 (v:=GU d) (g:=Jp 2 (Dd (tgN 3) (Dd (tgN 4) Km))) (b:=p6 W) (xs:=ps.map pairD) (e:=[sI p,some d,sR S.length,none,none,none]) (S:=S++[.dT []]) (λi e j=>(∃l o z5,e=[sI p,some d,sR S.length,l,o,z5])/\j=S++[.dT (Mp (ps.take i))]) (λf j=>∃l o z5,f=.nx [sI p,some d,sR S.length,l,o,z5]/\j=S++[.dT (Mp ps)]) ⟨⟨none,none,none,rfl⟩,by simp[Mp]⟩ (by rintro i e j ⟨_,rfl⟩;exact B _ (Keeps.app _ _))
  (by
   rintro i y e j s ⟨⟨l,o,z5,rfl⟩,rfl⟩;rw[Ae]at s
   cases A:ps[i]? with
   | none=>rw[A]at s;cases s
   | some x=>
    rw[A]at s;cases s;have L:=(AF.mp A).1;have C:=E.take (i+1);rw[take_snoc A]at C;obtain⟨_,G,I⟩:=Hk.snoc.mp C;refine⟨[sI p,some d,sR S.length,sI x.1,sI x.2,z5],_,rfl,_,_,du (W:=W) (p:=p) (t:=d) (z5:=z5) (x:=x) (GD S (.dT (Mp (ps.take i)))) (by rw[Dy];lia) G I,⟨_,_,_,rfl⟩,?_⟩;rw[take_snoc A]
    simp)
  (by
   rintro e j ⟨⟨l,o,z5,rfl⟩,rfl⟩;rw[AJ,IC]
   exact⟨_,_,_,rfl,rfl⟩)
 exact⟨l,o,z5,h⟩
noncomputable def Md(ps:List ZPi):List ZLi:=Rz (ps.map λx=>bf (nrm x))
theorem V8(W:Wd){p:Int}{d:D}{S:Sto}{ps:List ZPi}(g:∀S',Keeps S S'->GU d S'=some (ps.map pairD))(j:ps.length<=50)(l:Hk p ps) :
  ∃S',HG W [.int p,d] S=.ok (.tup ((Md ps).map Qn)) S'/\Keeps S S':=by
 obtain⟨o,s,A,B⟩:=V7 W g j l
 ·have C:LZ (.ref S.length) (S++[.dT (Mp ps)])=some ((ps.map λx=>bf (nrm x)).map Qn):=by
   unfold LZ;dsimp only;rw[GD];dsimp only;unfold Mp;rw[BX,BX];rfl
  have E:=NH (m:=AH 2) (e:=[sI p,some d,sR S.length,o,s,A]) (S:=S++[.dT (Mp ps)]) rfl C (Yb _ (by intro r G;obtain⟨x,_,rfl⟩:=BS.mp G;simp[bf]) (by rw[AJ];lia));refine⟨S++[.dT (Mp ps)]++[.lst ((Md ps).map Qn)],L2.Mm ?_,(Keeps.app S _).trans (Keeps.app _ _)⟩;refine ES (Ck (e:=[sI p,some d,none,none,none,none]) (e1:=[sI p,some d,sR S.length,none,none,none]) (S:=S) (S1:=S++[.dT []]) rfl) ?_;refine ES (Ck B) ?_;exact JJ (Oe E (Hz (GD _ _)))
open PySem L2
noncomputable def Cr(ts:List ZPi)(x:Nat):ZLi:=ts.flatMap λt=>(if t.1=(x:Int)then[t.2]else[])++(if t.2=(x:Int)then[t.1]else[])
theorem W8(ts:List ZPi)(t:Int×Int)(x:Nat):Cr (ts++[t]) x=Cr ts x++((if t.1=(x:Int)then[t.2]else[])++(if t.2=(x:Int)then[t.1]else[])):=by
 unfold Cr;rw[bD];simp
noncomputable def G5(p:Nat)(F:Nat->ZLi):Sto:=(Bl p).map λx=>Ob.lst ((F x).map D.int)
noncomputable def FU(k p:Nat):List D:=(Bl p).map λx=>D.ref (k+x)
noncomputable def stN(S:Sto)(p:Nat)(F:Nat->ZLi):Sto:=S++G5 p F++[.lst (FU S.length p)]
theorem JI(p:Nat)(F:Nat->ZLi):(G5 p F).length=p:=by simp[G5]
theorem VC(S:Sto)(p:Nat)(F:Nat->ZLi):(stN S p F).length=S.length+p+1:=by simp[stN,JI];lia
theorem Pc(S:Sto)(p:Nat)(F:Nat->ZLi):Keeps S (stN S p F):=(Keeps.app S _).trans (Keeps.app _ _)
theorem Me(S:Sto)(p:Nat)(F:Nat->ZLi):(stN S p F)[S.length+p]?=some (.lst (FU S.length p)):=by
 have:S.length+p=(S++G5 p F).length:=by simp[JI]
 unfold stN;rw[this];exact GD _ _
theorem LG(S:Sto)(F:Nat->ZLi)(h:a < p):(stN S p F)[S.length+a]?=some (.lst ((F a).map D.int)):=by
 unfold stN;rw[EN,BV (by lia),Al (by rw[JI];lia),show S.length+a - S.length=a by lia];unfold G5;rw[Ae,Dm h];rfl
theorem Zx(S:Sto)(F:Nat->ZLi)(ys:ZLi)(h:a < p):(stN S p F).set (S.length+a) (.lst (ys.map D.int))=stN S p (λx=>if x=a then ys else F x):=by
 apply QH
 intro j
 by_cases e:S.length+a=j
 ·subst e
  rw[A0 (by rw[VC];lia),LG _ _ h,qX rfl]
 ·rw[Af e]
  by_cases g:j < S.length
  ·rw[(Pc S p F).2 j g,(Pc S p _).2 j g]
  by_cases l:j - S.length < p
  ·have m:j=S.length+(j - S.length):=by lia
   rw[m,LG S F l,LG S _ l,qY (by lia)]
  by_cases o:j=S.length+p
  ·subst o
   rw[Me,Me]
  ·rw[DL (by rw[VC];lia),DL (by rw[VC];lia)]
theorem aI(F:Nat->ZLi)(h:a < p):ixA (.ref (S.length+p)) (.int a) (stN S p F)=.ok (.ref (S.length+a)) (stN S p F):=by
 show KR (ixD _ _ _) _=_;have g:IA (.ref (S.length+p)) (stN S p F)=some (FU S.length p):=Hz (Me S p F)
 have j:atI (FU S.length p) (a:Int)=some (.ref (S.length+a)):=by
  unfold atI ixN;rw[show(FU S.length p).length=p by simp[FU],qX (by lia),qX (by lia)];simp only[AB,Am];unfold FU;rw[Ae,Dm h];rfl
 have:ixD (.ref (S.length+p)) (.int a) (stN S p F)=.ok (.ref (S.length+a)) (stN S p F):=by
  unfold ixD;rw[g];dsimp only;rw[j]
 rw[this];rfl
theorem eB(S:Sto):∀p:Nat,S++G5 (p+1) (λ_=>[])=S++G5 p (λ_=>[])++[.lst []]:=λp=>by
 unfold G5;rw[Im,BZ,EN];rfl
theorem bd(E:p<=60)(h0:mp e S=.ok (.int p) S) :
  HZ 1 (iR1 (AR mp BE)) (tgN 0) IZ (Ga (En BE)) e S=.ok (FU S.length p) (S++G5 p λ_=>[]):=by
 have s:iR1 (AR mp BE) e S=.ok (L6 (HY 0 p)) S:=by
  have:=gZ (ml:=AR mp BE) (e:=e) (S:=S) (S1:=S) (j:=p) (CP h0 rfl) (by lia) (by lia);simpa using this
 obtain⟨r,S1,A,o,⟨z,_⟩,rfl,rfl⟩:=ah (v:=L6 (HY 0 p)) (g:=tgN 0) (c:=IZ) (m:=Ga (En BE)) (xs:=HY 0 p) (e:=none :: e) (S:=S)
  (λi o B l=>(∃z,o=z :: e)/\B=S++G5 i (λ_=>[])/\l=FU S.length i)
  ⟨⟨none,rfl⟩,by simp[G5],rfl⟩ (λ_ _ _ _ _=>rfl)
  (by
   rintro i d o B l C ⟨⟨z,rfl⟩,rfl,rfl⟩;obtain⟨s,rfl⟩:=eM C;refine⟨by simp[FU];exact BR (m:=60) (by lia) (by decide),some (.int (0+i)) :: e,_,rfl,true,_,rfl,.inl ⟨rfl,.ref (S++G5 i λ_=>[]).length,_,rfl,⟨_,rfl⟩,(eB S i).symm,?_⟩⟩;unfold FU;rw[Im,BZ,AV,JI]
   rfl)
 rw[bh]at A;exact(V5 s).trans A
noncomputable abbrev ap:MS:=BO (Eb (MD (m2 ixA (AH 2) (AH 3)) (AH 4))) (Eb (MD (m2 ixA (AH 2) (AH 4)) (AH 3)))
noncomputable def In(p:Nat)(t:Int×Int):Prop:=0<=t.1/\t.1 < p/\0<=t.2/\t.2 < p/\t.1≠t.2
theorem bb(g:In p t)(I:∀x,(F x).length < 200000) :
  ap [some j,some d1,sR (S.length+p),sI t.1,sI t.2] (stN S p F)=.ok (.nx [some j,some d1,sR (S.length+p),sI t.1,sI t.2])
   (stN S p λx=>F x++((if t.1=(x:Int)then[t.2]else[])++(if t.2=(x:Int)then[t.1]else[]))):=by
 obtain⟨a,o⟩:∃a:Nat,t.1=a:=⟨t.1.toNat,by have:=g.1;lia⟩
 obtain⟨b,hb⟩:∃b:Nat,t.2=b:=⟨t.2.toNat,by have:=g.2.2.1;lia⟩
 obtain⟨_,s,_,N,J⟩:=g
 have l:a≠b:=λe=>J (by rw[o,hb,e])
 rw[o,hb]
 have A:∀x,((F x).map D.int).length < sizeLine:=λx=>by rw[AJ];exact qp (I x) (by decide)
 have B:=WC (mo:=m2 ixA (AH 2) (AH 3)) (ma:=AH 4) (e:=[some j,some d1,sR (S.length+p),sI a,sI b]) (S:=stN S p F) (S1:=stN S p F) (S2:=stN S p F) (n:=S.length+a) (y:=.int b) (FZ rfl rfl (aI F (by lia))) (LG S F (by lia)) rfl (LG S F (by lia)) (A a);rw[show(F a).map D.int++[D.int b]=(F a++[(b:Int)]).map D.int by simp,Zx S F _ (by lia)]at B
 have C:(stN S p λx=>if x=a then F a++[(b:Int)]else F x)[S.length+b]?=some (.lst ((F b).map D.int)):=by
  rw[LG S _ (by lia),qY (BW l)]
 have E:=WC (mo:=m2 ixA (AH 2) (AH 4)) (ma:=AH 3) (e:=[some j,some d1,sR (S.length+p),sI a,sI b]) (S:=stN S p λx=>if x=a then F a++[(b:Int)]else F x) (S1:=stN S p λx=>if x=a then F a++[(b:Int)]else F x) (S2:=stN S p λx=>if x=a then F a++[(b:Int)]else F x) (n:=S.length+b) (y:=.int a) (FZ rfl rfl (aI _ (by lia))) C rfl C (A b);rw[show(F b).map D.int++[D.int a]=(F b++[(a:Int)]).map D.int by simp,Zx S _ _ (by lia)]at E;unfold ap;rw[Ck (KB B),KB E]
 congr 2
 funext x
 by_cases m:x=b
 ·subst m
  have:¬((a:Int)=(x:Int)):=by lia
  simp[this]
 ·by_cases G:x=a
  ·subst G
   have:¬((b:Int)=(x:Int)):=by lia
   simp[m,this]
  ·have L:¬((a:Int)=(x:Int)):=by lia
   have s:¬((b:Int)=(x:Int)):=by lia
   simp[m,G,L,s]
theorem Yq(ts:List ZPi)(x:Nat):(Cr ts x).length<=2 * ts.length:=by
 unfold Cr
 induction ts with
 | nil=>simp
 | cons t ts g=>
  rw[Kk,AV,Aj]
  have:((if t.1=(x:Int)then[t.2]else[])++(if t.2=(x:Int)then[t.1]else[])).length<=2:=by split <;> split <;> simp
  lia
noncomputable def Pe(p:Nat)(ts:List ZPi):List D:=(Bl p).map λx=>.tup ((Di (Cr ts x)).map D.int)
theorem Z8{p x:Nat}:∀{ts:List ZPi},(∀t∈ts,In p t)->(Cr ts x).length<=ts.length
 | [],_=>AO _
 | t :: ts,h=>by
  have j:=Z8 (x:=x) λu g=>h u (AS _ g)
  obtain⟨_,_,_,_,l⟩:=h t Ah;show(((if t.1=(x:Int)then[t.2]else[])++(if t.2=(x:Int)then[t.1]else[]))++Cr ts x).length<=_;rw[AV,AV,Aj]
  split <;> split <;> simp <;> lia
theorem kN(W:Wd)(N:p<=60)(G:∀t∈ts,In p t)(O:ts.length<=50)(S:Sto) :
  ∃S',HF W [.int p,.tup (ts.map pairD)] S=.ok (.tup (Pe p ts)) S'/\Keeps S S':=by
 have I:=Mf (i:=2) (Yp (bd N (mp:=AH 0) (e:=[sI p,some (.tup (ts.map pairD)),none,none,none]) (S:=S) rfl));have P:(S++G5 p λ_=>[])++[.lst (FU S.length p)]=stN S p (Cr []):=rfl
 have Q:(S++G5 p λ_=>[]).length=S.length+p:=by simp[JI]
 rw[P,Q]at I
 obtain⟨f,S1,R,⟨j,l,rfl⟩,rfl⟩:=P1 (v:=L6 (ts.map pairD)) (g:=Jp 2 (Dd (tgN 3) (Dd (tgN 4) Km))) (b:=ap) (xs:=ts.map pairD) (e:=[sI p,some (.tup (ts.map pairD)),sR (S.length+p),none,none]) (S:=stN S p (Cr []))
  (λi e S'=>(∃j l,e=[sI p,some (.tup (ts.map pairD)),sR (S.length+p),j,l])/\S'=stN S p (Cr (ts.take i)))
  (λf S'=>(∃j l,f=.nx [sI p,some (.tup (ts.map pairD)),sR (S.length+p),j,l])/\S'=stN S p (Cr ts))
  ⟨⟨none,none,rfl⟩,rfl⟩ (λ_ _ _ _=>rfl)
  (by
   rintro i y e S' s ⟨⟨j,l,rfl⟩,rfl⟩;rw[Ae]at s
   cases A:ts[i]? with
   | none=>rw[A]at s;cases s
   | some t=>
    rw[A]at s;cases s;refine⟨[sI p,some (.tup (ts.map pairD)),sR (S.length+p),sI t.1,sI t.2],_,rfl,_,_,bb (G t (Ca A)) (λx=>?_),⟨_,_,rfl⟩,?_⟩
    ·have:=Yq (ts.take i) x
     rw[Dy]at this;exact BR (Au this (Nat.mul_le_mul_left 2 (Au (iy _ _) O))) (by decide)
    ·rw[take_snoc A,show Cr (ts.take i++[t])=_ from funext λx=>W8 _ _ x])
  (by
   rintro e S' ⟨⟨j,l,rfl⟩,rfl⟩;rw[AJ,IC]
   exact⟨⟨_,_,rfl⟩,rfl⟩)
 have U:=(OF (g:=Jp 2 (Dd (tgN 3) (Dd (tgN 4) Km))) (b:=ap) (XJ (m:=AH 1) (e:=[sI p,some (.tup (ts.map pairD)),sR (S.length+p),none,none]) (S:=stN S p (Cr [])) (S1:=stN S p (Cr [])) (xs:=ts.map pairD) rfl)).trans R
 obtain⟨r,X,Y,B,⟨z,_⟩,K,rfl⟩:=ah (v:=GU (.ref (S.length+p))) (g:=tgN 0) (c:=IZ) (m:=Gq (Ft (AH 0))) (xs:=FU S.length p) (e:=[none,sI p,some (.tup (ts.map pairD)),sR (S.length+p),j,l]) (S:=stN S p (Cr ts))
  (λi B S' o=>(∃z,B=[z,sI p,some (.tup (ts.map pairD)),sR (S.length+p),j,l])/\Keeps (stN S p (Cr ts)) S'/\o=(Bl i).map λx=>.tup ((Di (Cr ts x)).map D.int))
  ⟨⟨none,rfl⟩,.refl _,rfl⟩ (λi B S' o h=>EZ (h.2.1.at (Me S p _)))
  (by
   rintro i d B S' o C ⟨⟨z,rfl⟩,K,rfl⟩
   have J:i < p:=by
    have:=(AF.mp C).1;simpa[FU]using this
   unfold FU at C;rw[Ae,Dm J]at C;cases C;have E:LZ (.ref (S.length+i)) S'=some ((Cr ts i).map D.int):=SV (K.at (LG S _ J));have Z:=NH (m:=AH 0) (e:=[sR (S.length+i),sI p,some (.tup (ts.map pairD)),sR (S.length+p),j,l]) (S:=S') (S1:=S') rfl E (Yc _ (by have:=Z8 (x:=i) G;lia));refine⟨by simp;exact BR (m:=60) (by lia) (by decide),[sR (S.length+i),sI p,some (.tup (ts.map pairD)),sR (S.length+p),j,l],_,rfl,true,_,rfl,.inl ⟨rfl,_,_,Oe Z (Hz (GD _ _)),⟨_,rfl⟩,K.trans (Keeps.app _ _),?_⟩⟩;rw[Im,BZ]
   rfl)
 have L:=(V5 (n:=1) (g:=tgN 0) (c:=IZ) (m:=Gq (Ft (AH 0))) (JO (m:=AH 2) (e:=[sI p,some (.tup (ts.map pairD)),sR (S.length+p),j,l]) (S:=stN S p (Cr ts)) (S1:=stN S p (Cr ts)) rfl (Me S p _))).trans Y;rw[show(FU S.length p).length=p by simp[FU]]at L;refine⟨X++[.lst (Pe p ts)],L2.Mm ?_,((Pc S p _).trans K).trans (Keeps.app _ _)⟩;unfold M5;refine ES (Ck I) ?_;refine ES (Ck U) ?_;exact JJ (Oe (Yp L) (Hz (GD _ _)))
open PySem L2
open Srt (ltL)
noncomputable def toP(r:ZLi):Int×Int:=(r.getD 0 0,r.getD 1 0)
noncomputable def LD(ps:List ZPi):List ZPi:=(Md ps).map toP
theorem Rx(h:r∈Md ps):∃x∈ps,r=bf (nrm x):=by
 have:=(N6 _).mem_iff.mp h;obtain⟨x,g,rfl⟩:=BS.mp this;exact⟨x,g,rfl⟩
theorem bS(ps:List ZPi):(LD ps).map bf=Md ps:=by
 unfold LD;rw[BX]
 conv=>rhs;rw[<-RU (Md ps)]
 refine CN λr g=>?_
 obtain⟨x,_,rfl⟩:=Rx g;rfl
theorem YY(ps:List ZPi):(Md ps).map Qn=(LD ps).map pairD:=by
 rw[<-bS,BX];rfl
theorem dr(h:t∈LD ps):∃x∈ps,t=nrm x:=by
 obtain⟨r,g,rfl⟩:=BS.mp h;obtain⟨x,j,rfl⟩:=Rx g;exact⟨x,j,rfl⟩
theorem Pa(ps:List ZPi):(LD ps).Perm (ps.map nrm):=by
 unfold LD Md;have:=(N6 (ps.map λx=>bf (nrm x))).map toP;refine this.trans ?_;rw[BX];exact List.Perm.of_eq rfl
theorem oW(x:Int×Int):(nrm x).1<=(nrm x).2:=by
 unfold nrm;dsimp only
 split <;> split <;> lia
theorem Fit.in{p:Nat}{x:Int×Int}(h:Fit p x):In p (nrm x):=by
 obtain⟨g,j,l⟩:=h;have:=oW x;exact⟨j,by lia,by lia,l,g⟩
theorem sU:¬(("places" : Str) = "ties"):=by decide +kernel
theorem sV:¬(("places" : Str) = "near_sets"):=by decide +kernel
theorem sT:¬(("ties" : Str) = "near_sets"):=by decide +kernel
theorem put2(a b:D):Jh "ties" b [(("places" : Str),a)]=([("places",a),("ties",b)]:List (Str×D)):=by
 show(if ("places" : Str) = "ties" then _ else _)=_;rw[qY sU];rfl
theorem put3(a b c:D):Jh "near_sets" c [(("places" : Str),a),("ties",b)]=([("places",a),("ties",b),("near_sets",c)]:List (Str×D)):=by
 show(if ("places" : Str) = "near_sets" then _ else _)=_;rw[qY sV]
 have:Jh "near_sets" c [(("ties" : Str),b)]=([("ties",b),("near_sets",c)]:List (Str×D)):=by
  show(if ("ties" : Str) = "near_sets" then _ else _)=_;rw[qY sT];rfl
 rw[this]
theorem sZ(a b c:D):([("places",a),("ties",b),("near_sets",c)]:List (Str×D)).lookup ("places" : Str)=some a:=by
 rw[BQ,show(("places" : Str)=="places")=true by decide +kernel]
theorem sY(a b c:D):([("places",a),("ties",b),("near_sets",c)]:List (Str×D)).lookup ("near_sets" : Str)=some c:=by
 rw[BQ,show(("near_sets" : Str)=="places")=false by decide +kernel];dsimp only;rw[BQ,show(("near_sets" : Str)=="ties")=false by decide +kernel];dsimp only;rw[BQ,show(("near_sets" : Str)=="near_sets")=true by decide +kernel]
theorem oi(a b:D):([("places",a),("ties",b)]:List (Str×D)).lookup ("ties" : Str)=some b:=by
 rw[BQ,show(("ties" : Str)=="places")=false by decide +kernel];dsimp only;rw[BQ,show(("ties" : Str)=="ties")=true by decide +kernel]
open PySem L2 L4
noncomputable def FX(W:Wd)(w:Nat×List ZPi):Ob:=.ins W.Web [("places",.int w.1),("ties",.tup (w.2.map pairD)),("near_sets",.tup (Pe w.1 w.2))]
noncomputable def Pr(p:Nat)(ts:List ZPi):List ZLi:=(Bl p).map λx=>Di (Cr ts x)
theorem fU(p:Nat)(ts:List ZPi):D.tup (Pe p ts)=eT (eT D.int) (Pr p ts):=by
 unfold Pe Pr eT;rw[BX];rfl
open Classical in
noncomputable def dU(x:Int)(l:List ZPi):Option (Nat×List ZPi):=if 1<=x/\x<=60/\Hk x l/\l.length<=50 then some (x.toNat,LD l)else none
section
variable{W:Wd}{A:List Sl}{a b m:ME}{p:Option (Nat×List ZPi)}
theorem Zp{j:Type}{f:Str}{enc:j->D}{g:Nat×List ZPi->j}(h:VE A m (rO (FX W)) p)(l:∀w,([("places",D.int w.1),("ties",.tup (w.2.map pairD)),("near_sets",.tup (Pe w.1 w.2))]:List (Str×D)).lookup f=some (enc (g w))):VE A (DZ W.Web f m) (rV enc) (p.bind λw=>some (g w)):=λv o s e F S B=>by
 obtain⟨w,C,E⟩:=BC o;cases E;obtain⟨d,G,I,J,n,rfl,L⟩:=h w C s e F S B;exact⟨_,G,Lc I L (l w),J,rfl⟩
theorem He(h:VE A m (rO (FX W)) p):VE A (DZ W.Web "places" m) (rV D.int) (p.bind λw=>some (w.1:Int)):=Zp h λw=>sZ _ _ _
theorem jI(h:VE A m (rO (FX W)) p):VE A (DZ W.Web "near_sets" m) (rV (eT (eT D.int))) (p.bind λw=>some (Pr w.1 w.2)):=Zp h λw=>by rw[<-fU];exact sY _ _ _
theorem mX(W:Wd){p:Nat}(h1:1<=p)(R:p<=60){d:D}{S:Sto}{ps:List ZPi}(U:∀g,Keeps S g->GU d g=some (ps.map pairD))(L:ps.length<=50)(N:Hk p ps){e:Lo}{ml:ML}{S0:Sto}(X:ml e S0=.ok [.int p,d] S) :
  ∃g,No W.Web 3 (Li W) ml e S0=.ok (.ref S.length) g/\Keeps S g/\g[S.length]?=some (FX W (p,LD ps)):=by
 have Y:Qu (mB (m3 leD leD (mC (.int 1)) (AH 1) (mC (.int 60)))) [sR S.length,sI p,some d] (S++[.ins W.Web []])=.ok false (S++[.ins W.Web []]):=
  fP (b:=true) (WG (lm (S3:=S++[.ins W.Web []]) rfl rfl (gC (wX (by lia))) rfl (gC (wX (by lia)))))
 have Z:(S++[Ob.ins W.Web []])[S.length]?=some (.ins W.Web []):=GD _ _;have e1:=Q9 (C:=W.Web) (f:="places") (mo:=AH 0) (mv:=AH 1) (e:=[sR S.length,sI p,some d]) (S:=S++[.ins W.Web []]) (v:=.int p) rfl rfl Z (by decide);have j:Keeps S ((S++[Ob.ins W.Web []]).set S.length (.ins W.Web (Jh "places" (.int p) []))):=(Keeps.app S _).set (AO _) _;generalize l:(S++[Ob.ins W.Web []]).set S.length (.ins W.Web (Jh "places" (.int p) []))=S1 at e1 j
 have O:S1[S.length]?=some (.ins W.Web [("places",.int p)]):=by rw[<-l];exact A0 (by simp)
 obtain⟨o,P,s⟩:=V8 W (p:=p) (d:=d) (S:=S1) (ps:=ps) (λg k=>U g (j.trans k)) L N;rw[YY]at P;have B:=Q9 (C:=W.Web) (f:="ties") (mo:=AH 0) (mv:=B2 2 (HG W) (AR (AH 1) (AR (AH 2) BE))) (e:=[sR S.length,sI p,some d]) (S:=S1) ((Hw rfl rfl).trans P) rfl (s.at O) (by simp);have E:Keeps S (o.set S.length (.ins W.Web (Jh "ties" (.tup ((LD ps).map pairD)) [("places",.int p)]))):=(j.trans s).set (AO _) _;rw[put2]at B E;have ν:S.length < o.length:=(AF.mp (s.at O)).1;generalize G:o.set S.length (.ins W.Web [("places",.int p),("ties",.tup ((LD ps).map pairD))])=S3 at B E
 have I:S3[S.length]?=some (.ins W.Web [("places",.int p),("ties",.tup ((LD ps).map pairD))]):=by rw[<-G];exact A0 ν
 obtain⟨S4,c4,J⟩:=kN W R (ts:=LD ps) (λt ht=>by
  obtain⟨x,hx,rfl⟩:=dr ht
  exact(N.1 x hx).in) (by rw[(Pa ps).length_eq,AJ];exact L) S3
 have Q:=Q9 (C:=W.Web) (f:="near_sets") (mo:=AH 0) (mv:=B2 2 (HF W) (AR (AH 1) (AR (DZ W.Web "ties" (AH 0)) BE))) (e:=[sR S.length,sI p,some d]) (S:=S3)
  ((Hw (CP (S1:=S3) rfl (CP (Lc rfl I (oi _ _)) rfl)) rfl).trans c4) rfl (J.at I) (by simp)
 have ξ:S.length < S4.length:=(AF.mp (J.at I)).1;rw[put3]at Q;refine⟨_,aC X rfl (L2.Yi (e:=[sR S.length,sI p,some d]) ?_),(E.trans J).set (AO _) _,A0 ξ⟩;unfold Su;refine ES (Ck (e:=[sR S.length,sI p,some d]) (e1:=[sR S.length,sI p,some d]) (S1:=S++[.ins W.Web []]) (ES (Nq Y) rfl)) ?_;rw[Ck e1,Ck B];exact Q
theorem mf{s:Option Int}{pl:Option (List ZPi)}(G:VE A a (rV D.int) s)(hb:VE A b (rO (oL (eP D.int D.int))) pl):VE A (No W.Web 3 (Li W) (AR a (AR b BE))) (rN (FX W)) (s.bind λx=>pl.bind λl=>dU x l):=λv j S0 e F S B=>by
 obtain⟨x,I,j⟩:=BC j;obtain⟨l,J,g⟩:=BC j;obtain⟨d1,L,N,o,rfl⟩:=G x I S0 e F S B;obtain⟨d2,O,P,C,n,rfl,Q⟩:=hb l J S0 e _ L (B.grow o);unfold dU at g;split at g
 ·rename_i R
  cases g;obtain⟨c1,c2,U,X⟩:=R;have E:((x.toNat:Nat):Int)=x:=Dr (by lia);obtain⟨Y,Z,h6,h7⟩:=mX W (p:=x.toNat) (d:=.ref n) (S:=O) (ps:=l) (by lia) (by lia) (λS' k=>EZ (k.at Q)) X (by rw[E];exact U) (ml:=AR a (AR b BE)) (e:=e) (S0:=S) (by rw[E];exact CP N (CP P rfl));exact⟨_,Y,Z,(o.trans C).trans h6,_,rfl,(o.trans C).1,h7⟩
 ·cases g
end
end M
namespace L4
open PySem L2
noncomputable def iR{g:Type}(l m:List g)(k:Int):Option (List g×List g):=if 0<=k/\k < 1000000 then match m[k.toNat]? with
 | some y=>if l.length < 1000000 then some (l++[y],m.eraseIdx k.toNat)else none
 | none=>none else none
noncomputable def rn:Rk Unit:=λ_ _ d _=>∃x y,d=.tup [x,y]
section
variable{α β ρ σ:Type}{A:List Sl}{enc:α->D}{a b:ME}{pl:Option (List α)}
theorem MY{t:MT}{a b:MS}{R:Rk ρ}{pt:Option Bool}{p q:Option (Fw ρ Unit)}(g:VB A t pt)(j:VS A a R p λ_=>A)(hb:VS A b R q λ_=>A):VS A (sIf t a b) R (pt.bind λc=>if c=true then p else q) λ_=>A:=QN g j hb
theorem Zi{mi:MI}{g:MG}{t:α->List Sl->List Sl}{b:MS}{R:Rk ρ}{p:Option (List α)}{q:Unit->α->Option (Fw ρ Unit)}(hi:VI A mi enc p)(j:VT g enc t)(hb:∀x,VS (t x A) b R (q () x) λ_=>A):VS A (Fy mi g b) R (p.bind λl=>DG l () q) λ_=>A:=Ek hi j (Wk.refl _) λ_=>hb
theorem WV{e2:β->D}(l:List α)(k:List β):QM (l.map enc) (k.map e2)=(l.zip k).map (eP enc e2):=by
 unfold QM;rw[List.zip_map,BX];rfl
theorem YN{e2:β->D}{s:Option (List β)}(G:VE A a (rO (oL enc)) pl)(hb:VE A b (rO (oL e2)) s):VE A (Op (AR a (AR b BE))) (rN (oL (eP enc e2))) (pl.bind λl=>s.bind λk=>some (l.zip k)):=λv g B e F S C=>by
 obtain⟨l,I,g⟩:=BC g;obtain⟨k,J,L⟩:=BC g;cases L;obtain⟨d,N,O,j,n,rfl,P⟩:=G l I B e F S C;obtain⟨d,E,Q,o,m,rfl,R⟩:=hb k J B e _ N (C.grow j);refine⟨.ref E.length,E++[oL (eP enc e2) (l.zip k)],?_,(j.trans o).trans (Keeps.app _ _),_,rfl,(j.trans o).1,GD _ _⟩;unfold Op;rw[CP O (CP Q rfl)];dsimp only[Res.bind];rw[Mr (o.at P)];dsimp only;rw[Mr R];dsimp only;rw[WV];rfl
theorem Zk{n:Nat}{S:Sto}{xs:List D}(h:S[n]?=some (.lst xs)):GV (.ref n) S=some xs:=by
 unfold GV;dsimp only;rw[h]
theorem jF{e2:β->D}{s:Option (List β)}{i:Nat}{l:List α}(h:A[i]?=some (.z (oL enc l)))(hb:VE A b (rN (oL e2)) s):VI A (Vr (AR (AH i) (AR b BE))) (eP enc e2) (s.bind λk=>some (l.zip k)):=λv I J e F S o=>by
 obtain⟨k,L,j⟩:=BC I;cases j;obtain⟨x,N,n,rfl,j⟩:=o.sl i _ h;have B:=o.fz _ _ j;obtain⟨d,O,P,C,m,rfl,Q,E⟩:=hb k L J e F S o;refine⟨Zl (GV (.ref n)) (GV (.ref m)),O,?_,C,λR U G g=>?_⟩
 ·unfold Vr
  rw[CP (show AH i e S=.ok (.ref n) S by unfold AH;rw[N]) (CP P rfl)];dsimp only[Res.bind];rw[Zk (C.at B)];dsimp only;rw[Zk E]
 ·unfold Zl
  rw[Zk (g n _ (G _ _ (by rw[Fe (B9 B)];exact j))),Zk (g m _ (G _ _ (Mx Q E)))];exact congrArg some (WV l k)
theorem jH(m:VE A a (rN (oL enc)) pl):VI A (aK a) enc (pl.bind λl=>some l.reverse):=λv o s e F S B=>by
 obtain⟨l,C,E⟩:=BC o;cases E;obtain⟨d,G,I,J,n,rfl,L,j⟩:=m l C s e F S B;refine⟨WZ (.ref n) (l.map enc).length,G,?_,J,λO P N g=>?_⟩
 ·unfold aK
  rw[I];dsimp only[Res.bind];rw[Mr j]
 ·unfold WZ
  rw[Mr (g n _ (N _ _ (Mx L j)))];dsimp only;rw[qX rfl,ig]
theorem bK{mi:ME}{R:Rk ρ}{N:Option Int}{i j:Nat}{l m:List α}(hi:A[i]?=some (.w i (oL enc l)))(O:A[j]?=some (.w j (oL enc m)))(h:VE A mi (rV D.int) N)(P:((A.set i .u).all (Sl.oth i))=true)(hu:((A.set j .u).all (Sl.oth j))=true)(B:i≠j) :
  VS A (Eb (MD (AH i) (UL (AH j) mi))) R (N.bind λk=>(iR l m k).bind λQ=>some (.nx Q)) (λv=>(A.set i (.w i (oL enc v.1))).set j (.w j (oL enc v.2))):=λf hf S0 e F S s=>by
 obtain⟨k,h1,h2⟩:=BC hf;obtain⟨Q,g,h6⟩:=BC h2;cases h6;unfold iR at g;split at g
 ·rename_i hl
  split at g
  ·rename_i y hy
   split at g
   ·rename_i ο
    cases g;obtain⟨x,U,n,rfl,X,C⟩:=s.sl i _ hi;obtain⟨x',Y,n',rfl,E,G⟩:=s.sl j _ O;obtain⟨d1,S1,I,J,rfl⟩:=h k h1 S0 e F S s;have hg:=s.grow J
    have nn:n≠n':=λc=>by subst c;rw[X]at E;cases E;exact B rfl
    have a0:atL (.ref n') S=some (n',m.map enc):=by unfold atL;dsimp only;rw[G];rfl
    have a2:atL (.ref n') S1=some (n',m.map enc):=by unfold atL;dsimp only;rw[J.at G];rfl
    have vA:UL (AH j) mi e S=.ok (enc y) (S1.set n' (oL enc (m.eraseIdx k.toNat))):=by
     unfold UL;rw[Ma Y];dsimp only[Res.bind];rw[a0];dsimp only;rw[I];dsimp only[Res.bind];rw[a2];dsimp only;rw[qX hl,Ae,hy];dsimp only[Zb];rw[show(m.map enc).eraseIdx k.toNat=(m.eraseIdx k.toNat).map enc by simp only[List.eraseIdx_eq_take_drop_succ,BZ,WL,mO]];rfl
    have xY:=hg.put (o':=oL enc (m.eraseIdx k.toNat)) hu O Y (by rw[Fe (B9 G)];exact E)
    have g4:(S1.set n' (oL enc (m.eraseIdx k.toNat)))[n]?=some (.lst (l.map enc)):=by rw[Af (BW nn)];exact J.at C
    have Z:=WC (mo:=AH i) (ma:=UL (AH j) mi) (e:=e) (S:=S) (S1:=S) (n:=n) (by unfold AH;rw[U]) C vA g4 (by rw[AJ];exact fu ο);rw[show l.map enc++[enc y]=(l++[y]).map enc by simp]at Z
    have L:(((A.set j (.w j (oL enc (m.eraseIdx k.toNat)))).set i .u).all (Sl.oth i))=true:=by
     rw[Dz]at P ⊢;intro z hz;obtain⟨q,hq,rfl⟩:=Zd.mp hz;rw[Cw,Cw]at hq;rw[Q0];split
     ·rfl
     ·rename_i I
      rw[Q0];split
      ·unfold Sl.oth
       dsimp only
       cases hb:qq j i with
       | false=>rfl
       | true=>exact zX (Nat.eq_of_beq_eq_true hb).symm B
      ·exact P _ (Zd.mpr ⟨q,by rw[Cw];exact hq,by rw[Q0,qY I]⟩)
    have vW:=xY.put (i:=i) (n:=n) (o:=oL enc l) (o':=oL enc (l++[y])) L (by rw[Af (BW B)];exact hi) U (by rw[Fe (B9 C)];exact X);rw[show(A.set j (.w j (oL enc (m.eraseIdx k.toNat)))).set i (.w i (oL enc (l++[y])))=(A.set i (.w i (oL enc (l++[y])))).set j (.w j (oL enc (m.eraseIdx k.toNat)))from List.set_comm _ _ (BW B)]at vW;exact⟨_,_,KB Z,e,_,rfl,vW,s.fle S1⟩
   ·cases g
  ·cases g
 ·cases g
theorem jK:VE A (mC .non) (λ(_:Unit) _ _ _=>True) (some ()):=λv g j e F S l=>⟨.non,S,rfl,Keeps.refl S,trivial⟩
theorem Tv{B:σ->List Sl}{m:Rk α}{o:Rk β}{p:Option α}{q:Option β}(s:VE A a m p)(hb:VE A b o q):VS A (EQ (Nc (AR a (AR b BE)))) rn (p.bind λ_=>q.bind λ_=>some (.rt ())) B:=λf C j e F S g=>by
 obtain⟨x,E,G⟩:=BC C;obtain⟨y,I,J⟩:=BC G;cases J;obtain⟨d1,L,N,l,_⟩:=s x E j e F S g;obtain⟨d2,O,P,Q,_⟩:=hb y I j e _ L (g.grow l);exact⟨_,O,JJ (YX (CP N (CP P rfl)) (by simp)),_,rfl,⟨_,_,rfl⟩,(g.kp.trans l).trans Q⟩
end
end L4
namespace M
open PySem L2 L4
structure Fp where
 ev:List ZLi
 kd:Str
 tk:List ZLi
 nu:List (ZLi×Int)
 hv:ZLi
 pb:ZLi
noncomputable abbrev fdF(a b c h k m:Nat)(kd:Str):List (Str×D):=[("everything",.ref a),("kind",.str kd),("takes",.ref b),("numbers",.ref c),("having",.ref h),("place_bits",.ref k),("known",.ref m)]
noncomputable def Xj(W:Wd)(f:Fp)(L:Nat->Option Ob)(q m:Nat):Prop:=∃a b c h k,L q=some (.ins W.Field (fdF a b c h k m f.kd))/\L a=some (oL (eT D.int) f.ev)/\L b=some (oL (eT D.int) f.tk)/\L c=some (oDR D.int f.nu)/\L h=some (oL D.int f.hv)/\L k=some (oL D.int f.pb)
noncomputable def NC(W:Wd)(f:Fp)(L:Nat->Option Ob)(d:D):Prop:=∃q m,d=.ref q/\Xj W f L q m
section
variable{W:Wd}{f:Fp}{P P':Pq}{C:AN}{x:Str}{d:D}{o:Ob}
theorem AtV.of(h:∀L d,P L d->P' L d)(z:AtV P' C x d):AtV P C x d:=λL d q=>z L d (h L d q)
theorem AtO.of(h:∀L d,P L d->P' L d)(z:AtO P' C x o):AtO P C x o:=λL d q=>z L d (h L d q)
theorem AtN.of(h:∀L d,P L d->P' L d)(z:AtN P' C x):AtN P C x:=λL d q=>z L d (h L d q)
theorem aT:AtV (NC W f) W.Field "kind" (D.str f.kd):=λL d ⟨q,m,e,a,b,c,h,k,g,_⟩=>⟨q,_,e,g,rfl⟩
theorem Nr:AtO (NC W f) W.Field "everything" (oL (eT D.int) f.ev):=λL d ⟨q,m,e,a,b,c,h,k,g,j,_⟩=>⟨q,_,a,e,g,rfl,j⟩
theorem gx:AtO (NC W f) W.Field "takes" (oL (eT D.int) f.tk):=λL d ⟨q,m,e,a,b,c,h,k,g,l,j,_⟩=>⟨q,_,b,e,g,rfl,j⟩
theorem SZ:AtO (NC W f) W.Field "numbers" (oDR D.int f.nu):=λL d ⟨q,m,e,a,b,c,h,k,g,l,s,j,_⟩=>⟨q,_,c,e,g,rfl,j⟩
theorem cH:AtO (NC W f) W.Field "having" (oL D.int f.hv):=λL d ⟨q,m,e,a,b,c,h,k,g,l,s,A,j,_⟩=>⟨q,_,h,e,g,rfl,j⟩
theorem lv(j:∀a b c h k m kd,(fdF a b c h k m kd).lookup x=none):AtN (NC W f) W.Field x:=λL d ⟨q,m,e,a,b,c,h,k,g,_⟩=>⟨q,_,e,g,j ..⟩
end
noncomputable def EA(j:(Nat×List ZPi))(g:Int):Option (Fw Unit Unit):=
 ((if decide ((0:Int)<=g)=true then some (decide (g < (j.1:Int)))else some false).bind λl=>some (!l)).bind λm=>if m=true then none else some (.nx ())
noncomputable def Cg(g:(Nat×List ZPi))(j:Int):Option Unit:=kE (EA g j)
theorem E9(W:Wd)(g:(Nat×List ZPi))(j:Int):VF (Bp W) [.z ((FX W) g),.v (D.int j)] (rV eU) (Cg g j):=by
 refine me (n:=2) (b:=FD W) (p:=EA g j) (B:=λ_=>[.z ((FX W) g),.v (D.int j)]) ?_;show VS [.z ((FX W) g),.v (D.int j)] _ _ _ _;unfold FD EA;exact(MY (YQ (LA (Rp am l8 (CZ rfl) (AU rfl) (He (DN rfl))))) Ux (Jn (.refl _)))
noncomputable def VW(g:(Nat×List ZPi))(j:Int):Option (Fw ZLi Unit):=
 BH ((Cg g j).bind λ_=>some (.nx ())) λ_=>(atI (Pr g.1 g.2) j).bind λl=>some (.rt l)
noncomputable def VX(g:(Nat×List ZPi))(j:Int):Option ZLi:=HN (VW g j)
theorem mq(W:Wd)(g:(Nat×List ZPi))(j:Int):VF (ZD W) [.z ((FX W) g),.v (D.int j)] (rV (eT D.int)) (VX g j):=by
 refine FO (n:=2) (b:=ZM W) (p:=VW g j) (B:=λ_=>[]) ?_;show VS [.z ((FX W) g),.v (D.int j)] _ _ _ _;unfold ZM VW;exact(A9 (Zj (Bx (PX (DN rfl) (Cq (AU rfl) CD)) (λl=>E9 W l.1 l.2.1) (λ_=>rfl) Do)) (λ_=>(Gm (dc (jI (DN rfl)) (AU rfl)))))
noncomputable def LO(j:(Nat×List ZPi)):Option (Fw (List ZLi) Unit):=
 (((some (j.1:Int)).bind MA).bind λm=>IB m (λg=>some true) (λg=>(((some (g :: [])).bind Ii).bind λo=>(VX j g).bind λs=>Ti o s).bind λl=>Nt l (Di l))).bind λA=>some (.rt A)
noncomputable def LQ(g:(Nat×List ZPi)):Option (List ZLi):=HN (LO g)
theorem YR(W:Wd)(g:(Nat×List ZPi)):VF (Ld W) [.z ((FX W) g)] (rN (oL (eT D.int))) (LQ g):=by
 refine FO (n:=1) (b:=OI W) (p:=LO g) (B:=λ_=>[]) ?_;show VS [.z ((FX W) g)] _ _ _ _;unfold OI LO;exact(Zh (D4 (Hy (VI.k (Ea (He (DN rfl)))) (λl=>Jo) (λl=>(Io (IX (PV (Zr (YM (Fo (AU rfl) Fx)) (Bx (PX (DN rfl) (Cq (AU rfl) CD)) (λj=>mq W j.1 j.2.1) (λ_=>rfl) Do)))))))))
noncomputable def NK(g:ZLi):Option (Fw Int Unit):=
 BH (some (.nx (0:Int))) λj=>BH (DG g j λ(l:Int) m=>Ds (λo=>o) ((R1 (1:Int) m).bind λs=>some (.nx (Be l s)))) λA=>some (.rt A)
noncomputable def Hh(g:ZLi):Option Int:=HN (NK g)
theorem bP(W:Wd)(g:ZLi):VF (P4 W) [.v ((eT D.int) g)] (rV D.int) (Hh g):=by
 refine FO (n:=3) (b:=P8 W) (p:=NK g) (B:=λ_=>[]) ?_;show VS [.v ((eT D.int) g),.u,.u] _ _ _ _;unfold P8 NK;exact(A9 (Db (CZ rfl)) (λj=>(A9 (Ek (s0:=j) (B:=(λ(l:Int)=>[.v ((eT D.int) g),.v (D.int l),.u])) (Rg (AU rfl)) D0 (.refl _) (λm o=>(DB (RZ rfl (Ri (CZ rfl) (AU rfl))) (λs=>(.same (.same (.drop .nil))))))) (λA=>(Gm (AU rfl))))))
noncomputable def NJ(l:Int):Option (Fw ZLi Unit):=
 BH (((some []).bind Ii).bind λm=>some (.nx m)) λo=>BH (some (.nx l)) λs=>BH (whF (λ(g:ZLi×Int)=>some (g.2 != 0)) (λ(g:ZLi×Int)=>BH ((Nh g.1 ((DY (BL g.2 (-g.2)):Int) - (1:Int))).bind λj=>some (.nx j)) λA=>Ds (λB=>(A,B)) (some (.nx (BL g.2 (g.2 - (1:Int)))))) wN (o,s)) λC=>some (.rt C.1)
noncomputable def Ev(g:Int):Option ZLi:=HN (NJ g)
theorem NG(W:Wd)(g:Int):VF (Ir W) [.v (D.int g)] (rN (oL D.int)) (Ev g):=by
 refine FO (n:=3) (b:=P7 W) (p:=NJ g) (B:=λ_=>[]) ?_;show VS [.v (D.int g),.u,.u] _ _ _ _;unfold P7 NJ;exact(A9 (Hm (D4 (EY Fx))) (λl=>(A9 (Db (AU rfl)) (λm=>(A9 (dX (s0:=(l,m)) (B:=(λ(j:ZLi×Int)=>[.v (D.int g),.w 1 ((oL D.int) j.1),.v (D.int j.2)])) (.refl _) (λo=>(Zs (AU rfl))) (λo=>(A9 (MZ rfl (PU (jO (Q6 (AU rfl) (KO (AU rfl)))) (CZ rfl)) rfl) (λs=>(DB (RZ rfl (PU (AU rfl) (CZ rfl))) (λA=>(.refl _))))))) (λC=>(NF rfl)))))))
noncomputable def Jr(j:ZLi)(l:Int)(m:Int):Option (Fw ZLi Unit):=
 (IB j (λg=>some true) (λg=>if (decide (g=l))=true then some m else some g)).bind λo=>some (.rt o)
noncomputable def Jx(g:ZLi)(j:Int)(l:Int):Option ZLi:=HN (Jr g j l)
theorem Wc(W:Wd)(g:ZLi)(j:Int)(l:Int):VF (Mu W) [.v ((eT D.int) g),.v (D.int j),.v (D.int l)] (rV (eT D.int)) (Jx g j l):=by
 refine FO (n:=3) (b:=M3 W) (p:=Jr g j l) (B:=λ_=>[]) ?_;show VS [.v ((eT D.int) g),.v (D.int j),.v (D.int l)] _ _ _ _;unfold M3 Jr;exact(Gm (Io (IX (D4 (Hy (VI.k (Rg (AU rfl))) (λm=>Jo) (λm=>(Uz (LA (Rn Hu Pp (AU rfl) (AU rfl))) (AU rfl) (AU rfl) Do)))))))
noncomputable def NI(A:Int)(s:Int):Option (Fw (List ZLi) Unit):=
 BH (((((some []).bind Ii).bind λB=>some (B :: [])).bind Ii).bind λC=>some (.nx C)) λE=>BH (((some s).bind MA).bind λG=>DG G E λ(I:(List ZLi)) J=>BH (((some []).bind Ii).bind λL=>some (.nx L)) λN=>BH (DG I N λ(O:(List ZLi)) g=>BH ((if (!g.isEmpty)=true then(atI g (-(1:Int))).bind λP=>some (P+(1:Int))else some (0:Int)).bind λQ=>some (.nx Q)) λj=>Ds (λR=>R) ((ji j (((A - s)+J)+(1:Int))).bind λl=>DG l O λ(S:(List ZLi)) U=>Ds (λm=>m) ((((some (U :: [])).bind Ii).bind λX=>Ti g X).bind λY=>(Nh S Y).bind λo=>some (.nx o)))) λZ=>Ds (λ_=>Z) (some (.nx ()))) λvG=>some (.rt vG)
noncomputable def Ko(g:Int)(j:Int):Option (List ZLi):=HN (NI g j)
theorem bO(W:Wd)(g:Int)(j:Int):VF (P3 W) [.v (D.int g),.v (D.int j)] (rN (oL (eT D.int))) (Ko g j):=by
 refine FO (n:=8) (b:=P6 W) (p:=NI g j) (B:=λ_=>[]) ?_;show VS [.v (D.int g),.v (D.int j),.u,.u,.u,.u,.u,.u] _ _ _ _;unfold P6 NI;exact(A9 (NE (D4 (EY (Fo (YM Fx) Fx)))) (λA=>(A9 (Ek (s0:=A) (B:=(λ(C:(List ZLi))=>[.v (D.int g),.v (D.int j),.y ((oL (eT D.int)) C),.u,.u,.u,.u,.u])) (Ea (AU rfl)) D0 (.refl _) (λo s=>(A9 (Hm (D4 (EY Fx))) (λE=>(A9 (Ek (s0:=E) (B:=(λ(l:(List ZLi))=>[.v (D.int g),.v (D.int j),.y ((oL (eT D.int)) o),.v (D.int s),.w 4 ((oL (eT D.int)) l),.u,.u,.u])) (jG rfl) D0 (.refl _) (λG I=>(A9 (Db (Uz (jP (AU rfl)) (FQ (dc (AU rfl) (KO (CZ rfl))) (CZ rfl)) (CZ rfl) Do)) (λm=>(DB (Ek (s0:=G) (B:=(λ(J:(List ZLi))=>[.v (D.int g),.v (D.int j),.y ((oL (eT D.int)) o),.v (D.int s),.w 4 ((oL (eT D.int)) J),.v ((eT D.int) I),.v (D.int m),.u])) (bN (AU rfl) (FQ (FQ (PU (AU rfl) (AU rfl)) (AU rfl)) (CZ rfl))) D0 (.refl _) (λN O=>(DB (MZ rfl (Zr (AU rfl) (YM (Fo (AU rfl) Fx))) rfl) (λL=>(.same (.same (.same (.same (.same (.same (.same (.drop .nil)))))))))))) (λP=>(.same (.same (.same (.same (.same (.drop (.drop (.same .nil)))))))))))))) (λQ=>(DB (mZ 4 rfl rfl (bL rfl)) (λ_=>(.same (.same (.same (.drop (.drop (.same (.same (.same .nil)))))))))))))))) (λR=>(jA rfl)))))
noncomputable def Fs(j:Int)(l:Int):Option (Fw Int Unit):=
 BH (some (.nx (1:Int))) λm=>BH (((some l).bind MA).bind λo=>DG o m λ(s:Int) g=>Ds (λA=>A) (((Vh s (j - g)).bind λB=>XQ B (g+(1:Int))).bind λC=>some (.nx C))) λE=>some (.rt E)
noncomputable def Ec(g:Int)(j:Int):Option Int:=HN (Fs g j)
theorem PY(W:Wd)(g:Int)(j:Int):VF (Hi W) [.v (D.int g),.v (D.int j)] (rV D.int) (Ec g j):=by
 refine FO (n:=4) (b:=Hj W) (p:=Fs g j) (B:=λ_=>[]) ?_;show VS [.v (D.int g),.v (D.int j),.u,.u] _ _ _ _;unfold Hj Fs;exact(A9 (Db (CZ rfl)) (λl=>(A9 (Ek (s0:=l) (B:=(λ(m:Int)=>[.v (D.int g),.v (D.int j),.v (D.int m),.u])) (Ea (AU rfl)) D0 (.refl _) (λo s=>(DB (Db (Zq (Rj (AU rfl) (PU (AU rfl) (AU rfl))) (FQ (AU rfl) (CZ rfl)))) (λA=>(.same (.same (.same (.drop .nil)))))))) (λC=>(Gm (AU rfl))))))
noncomputable def LP(j:(Nat×List ZPi))(g:Int):Option (Fw Int Unit):=
 BH (((if decide ((1:Int)<=g)=true then some (decide (g<=(j.1:Int)))else some false).bind λl=>some (!l)).bind λm=>if m=true then none else some (.nx ())) λ_=>(Ec (j.1:Int) g).bind λo=>some (.rt o)
noncomputable def FV(g:(Nat×List ZPi))(j:Int):Option Int:=HN (LP g j)
theorem Ru(W:Wd)(g:(Nat×List ZPi))(j:Int):VF (Lg W) [.z ((FX W) g),.v (D.int j)] (rV D.int) (FV g j):=by
 refine FO (n:=2) (b:=OJ W) (p:=LP g j) (B:=λ_=>[]) ?_;show VS [.z ((FX W) g),.v (D.int j)] _ _ _ _;unfold OJ LP;exact(A9 (MY (YQ (LA (Rp am am (CZ rfl) (AU rfl) (He (DN rfl))))) Ux (Jn (.refl _))) (λ_=>(Gm (Bx (Cq (He (DN rfl)) (Cq (AU rfl) CD)) (λl=>PY W l.1 l.2.1) (λ_=>rfl) Do))))
noncomputable def Js(g:(Nat×List ZPi))(j:Int):Option (Fw (List ZLi) Unit):=
 BH (((FV g j).bind λl=>some (decide ((400:Int) < l))).bind λm=>if m=true then none else some (.nx ())) λ_=>(Ko (g.1:Int) j).bind λo=>some (.rt o)
noncomputable def Jy(g:(Nat×List ZPi))(j:Int):Option (List ZLi):=HN (Js g j)
theorem We(W:Wd)(g:(Nat×List ZPi))(j:Int):VF (Gv W) [.z ((FX W) g),.v (D.int j)] (rN (oL (eT D.int))) (Jy g j):=by
 refine FO (n:=2) (b:=KC W) (p:=Js g j) (B:=λ_=>[]) ?_;show VS [.z ((FX W) g),.v (D.int j)] _ _ _ _;unfold KC Js;exact(A9 (MY (LA (de (Bx (PX (DN rfl) (Cq (AU rfl) CD)) (λl=>Ru W l.1 l.2.1) (λ_=>rfl) Do) (CZ rfl))) Ux (Jn (.refl _))) (λ_=>(Zh (Bx (Cq (He (DN rfl)) (Cq (AU rfl) CD)) (λm=>bO W m.1 m.2.1) (λ_=>rfl) Nn))))
noncomputable def D2(g:Fp)(I:Int):Option (Fw Int Unit):=
 BH ((atI g.ev I).bind λJ=>some (.nx J)) λj=>BH (some (.nx (0:Int))) λL=>BH (DG j L λ(N:Int) B=>Ds (λl=>l) ((atI g.tk B).bind λm=>DG m N λ(C:Int) E=>Ds (λO=>O) (if (!decide (E∈j))=true then Ds (λo=>o) (((((Jx j B E).bind λG=>Nt G (Di G)).bind λP=>Dc g.nu P).bind λQ=>R1 (1:Int) Q).bind λs=>some (.nx (Be C s)))else some (.nx C)))) λA=>some (.rt A)
noncomputable def D3(g:Fp)(j:Int):Option Int:=HN (D2 g j)
theorem HX(W:Wd)(g:Fp)(j:Int):VF (DH W) [.q (NC W g),.v (D.int j)] (rV D.int) (D3 g j):=by
 refine FO (n:=6) (b:=E6 W) (p:=D2 g j) (B:=λ_=>[]) ?_;show VS [.q (NC W g),.v (D.int j),.u,.u,.u,.u] _ _ _ _;unfold E6 D2;exact(A9 (Db (FP (Gg Nr rfl) (AU rfl))) (λl=>(A9 (Db (CZ rfl)) (λE=>(A9 (Ek (s0:=E) (B:=(λ(m:Int)=>[.q (NC W g),.v (D.int j),.v ((eT D.int) l),.v (D.int m),.u,.u])) (Rg (AU rfl)) D0 (.refl _) (λG C=>(DB (Ek (s0:=G) (B:=(λ(o:Int)=>[.q (NC W g),.v (D.int j),.v ((eT D.int) l),.v (D.int o),.v (D.int C),.u])) (Rg (FP (Gg gx rfl) (AU rfl))) D0 (.refl _) (λO I=>(DB (QN (B:=(λ(s:Int)=>[.q (NC W g),.v (D.int j),.v ((eT D.int) l),.v (D.int s),.v (D.int C),.v (D.int I)])) (LA (jL Hu (AU rfl) (AU rfl))) (DB (RZ rfl (Ri (CZ rfl) (Ro (Gg SZ rfl) (Io (IX (PV (Bx (Cq (AU rfl) (Cq (AU rfl) (Cq (AU rfl) CD))) (λA=>Wc W A.1 A.2.1 A.2.2.1) (λ_=>rfl) Do))))))) (λJ=>(.refl _))) (Jn (.refl _))) (λP=>(.same (.same (.same (.same (.same (.drop .nil)))))))))) (λL=>(.same (.same (.same (.same (.drop (.same .nil)))))))))) (λN=>(Gm (AU rfl))))))))
noncomputable def LR(f:Fp)(n:Int):Option Int:=if decide (f.kd = "one")=true then D3 f n else none
noncomputable def DU(W:Wd)(f:Fp)(L:Nat->Option Ob)(d:D):Prop:=∃q m g,d=.ref q/\Xj W f L q m/\L m=some (.mem g)/\∀n z:Int,0<=n->n < 1000->LR f n=some z->g (.inl n)=z
section
variable{W:Wd}{f:Fp}{x:Str}{L L':Nat->Option Ob}{qn m:Nat}
theorem DU.q:∀L d,DU W f L d->NC W f L d:=λL d ⟨q,m,g,e,h,_⟩=>⟨q,m,e,h⟩
theorem kl:AtV (DU W f) W.Field "kind" (D.str f.kd):=AtV.of DU.q aT
theorem Ew:AtO (DU W f) W.Field "everything" (oL (eT D.int) f.ev):=AtO.of DU.q Nr
theorem Sa:AtO (DU W f) W.Field "numbers" (oDR D.int f.nu):=AtO.of DU.q SZ
theorem cI:AtO (DU W f) W.Field "having" (oL D.int f.hv):=AtO.of DU.q cH
theorem aU(g:∀a b c h k m kd,(fdF a b c h k m kd).lookup x=none):AtN (DU W f) W.Field x:=AtN.of DU.q (lv g)
theorem Xj.mono(h:∀n o,L n=some o->L' n=some o):Xj W f L qn m->Xj W f L' qn m:=λ⟨a,b,c,d,k,g,j,l,s,A,B⟩=>⟨a,b,c,d,k,h _ _ g,h _ _ j,h _ _ l,h _ _ s,h _ _ A,h _ _ B⟩
end
noncomputable abbrev Yz(W:Wd):ME:=Vl (mB (m2 (eqD false) (DZ W.Field "kind" (AH 0)) (mC (.str "one")))) (L8 W.Field "linked_by_one" 2 (DH W) (AH 0) (AR (AH 1) BE)) (L8 W.Field "linked_by_all" 2 (E5 W) (AH 0) (AR (AH 1) BE))
theorem db(W:Wd)(f:Fp)(n:Int):VE [.q (NC W f),.v (D.int n)] (Yz W) (rV D.int) (LR f n):=
 Uz (LA (Rn aa fQ (df aT rfl) (CZ rfl)))
  (Od (Pf:=NC W) (Pg:=NC W) (lv λ_ _ _ _ _ _ _=>rfl) (λ_ _ h=>h) rfl (Cq (AU rfl) CD) (λz=>HX W f z.1) (λ_=>rfl) Do)
  (λ_ g=>nomatch g) Do
noncomputable def FW(f:Fp)(n:Int):Option Int:=if 0<=n/\n < 1000 then LR f n else none
theorem jQ{j m:Type}[DecidableEq j]{l:List (j×m)}{k:j}{v:m}(h:Dc l k=some v):(k,v)∈l:=by
 unfold Dc at h
 cases g:l.find? λo=>decide (o.1=k)with
 | none=>rw[g]at h;cases h
 | some x=>
  rw[g]at h;cases h
  have s:x.1=k:=by have:=List.find?_some g;exact of_decide_eq_true this
  subst s;exact List.mem_of_find?_eq_some g
theorem Y2{W:Wd}{f:Fp}{n z:Int}{S:Sto}{q m:Nat}{G:Key->Int}(yu:0<=n)(yH:n < 1000)(hz:LR f n=some z)(hl:G (.inl n)=z)(hC:Xj W f (λk=>S[k]?) q m)(hm:S[m]?=some (.mem G)):mF (IQ W) [.ref q,.int n] S m G z:=by
 intro g I;obtain⟨a,b,c,h,k,g0,g1,g2,g3,g4,g5⟩:=hC
 have ne:∀j o,S[j]?=some o->o≠Ob.mem G->j≠m:=λj o s A e=>by
  subst e;rw[hm]at s;cases s;exact A rfl
 have B:(S.set m (.dK g))[m]?=some (.dK g):=A0 (B9 hm)
 have J:∀j o,S[j]?=some o->o≠Ob.mem G->(S.set m (.dK g))[j]?=some o:=λj o s A=>by rw[Af (BW (ne j o s A))];exact s
 have C:=J q _ g0 (λz=>nomatch z);have C1:Xj W f (λk=>(S.set m (.dK g))[k]?) q m:=⟨a,b,c,h,k,C,J a _ g1 (λz=>nomatch z),J b _ g2 (λz=>nomatch z),J c _ g3 (λz=>nomatch z),J h _ g4 (λz=>nomatch z),J k _ g5 (λz=>nomatch z)⟩
 have st:∀j,j < S.length->j≠m->(S.set m (.dK g))[j]?=S[j]?:=λj _ R=>Af (BW R)
 generalize Y:S.set m (.dK g)=S1 at B C C1 st
 have U:∀S2:Sto,S2[q]?=some (.ins W.Field (fdF a b c h k m f.kd))->DZ W.Field "known" (AH 0) [sR q,sI n] S2=.ok (.ref m) S2:=λS2 A=>Lc (n:=q) (by rfl) A rfl
 have sq:∀(S2:Sto) l,S2[m]?=some (.dK l)->IA (.ref m) S2=none:=λS2 l A=>by unfold IA;dsimp only;rw[A];try rfl
 have Z:∀(S2:Sto) l,S2[m]?=some (.dK l)->Qx (.ref m) (.int n) S2=some (Dc l (.inl n)):=λS2 l A=>by unfold Qx;dsimp only;rw[A];try rfl
 have X:mB (m2 (inA true) (AH 1) (DZ W.Field "known" (AH 0))) [sR q,sI n] S1=.ok (!(Dc g (.inl n)).isSome) S1:=
  WG (FZ (x:=.int n) (S1:=S1) (by rfl) (U S1 C) (pw (sq S1 g B) (Z S1 g B) true))
 cases N:Dc g (.inl n)with
 | some d=>
  have hd:d=.int z:=by rw[<-hl];exact(I.2 _ (jQ N)).2
  subst hd;rw[N]at X;refine⟨S1,g,?_,B,I,st⟩;refine L2.Mm ?_;unfold JU;refine ES (Ck (e1:=[sR q,sI n]) (S1:=S1) (ES (Nq X) rfl)) ?_;exact JJ (FZ (U S1 C) (y:=.int n) (by rfl) (ZH (sq S1 g B) (by rw[Z S1 g B,N])))
 | none=>
  rw[N]at X;have hQ:JX S1 [.q (NC W f),.v (D.int n)] [.ref q,.int n]:=⟨λL hL=>⟨q,m,rfl,C1.mono hL⟩,rfl,trivial⟩;obtain⟨d,S2,hE,kS,rfl⟩:=db W f n z hz S1 _ _ S1 (Vs.start (n:=2) hQ);have tx:=kS.at B;have O:=kS.at C
  have P:g.length < sizeLine:=by
   have s:=Ps I.1 (k:=Vj) λx E=>by
    obtain⟨y,Q,rfl⟩:=BS.mp E;exact(I.2 y Q).1
   rw[AJ]at s
   have A:Vj.length=1000:=by unfold Vj;rw[AJ,dL]
   rw[A]at s;exact fu (BR s (by decide))
  have nk:IS n∉g.map (·.1):=λE=>by
   have:=(dj g (.inl n)).mpr E;rw[N]at this;cases this
  have pe:Go g (.inl n) (D.int z)=g++[(.inl n,D.int z)]:=by
   unfold Go;rw[qY];intro c;obtain⟨y,Q,A⟩:=IE.mp c;exact nk (BS.mpr ⟨y,Q,of_decide_eq_true A⟩)
  have hk2:lK G (g++[(.inl n,D.int z)]):=by
   refine⟨?_,λx E=>?_⟩
   ·rw[BZ]
    exact HU.mpr ⟨I.1,(Bz.mpr ⟨Bq,HS⟩),λx E y Q=>by
     rw[Ab.mp Q];intro e;subst e
     exact nk E⟩
   ·rcases Bg.mp E with s | s
    ·exact I.2 x s
    ·rw[Ab.mp s]
     refine⟨?_,by rw[hl]⟩;unfold Vj;exact BS.mpr ⟨n.toNat,Jj.mpr (by lia),by show IS ((n.toNat:Nat):Int)=_;rw[Dr yu]⟩
  have ϑ:IL (DZ W.Field "known" (AH 0)) (AH 1) (Yz W) [sR q,sI n] S1=oN [sR q,sI n] (S2.set m (.dK (g++[(.inl n,D.int z)]))):=by
   unfold IL;rw[show Yz W [sR q,sI n] S1=.ok (.int z) S2 from hE];dsimp only[Res.lift];rw[U S2 O];dsimp only;rw[show AH 1 [sR q,sI n] S2=.ok (.int n) S2 from rfl];dsimp only
   rw[show XV (.ref m) (.int n) (.int z) S2=some (S2.set m (.dK (g++[(.inl n,D.int z)]))) by
    unfold XV;dsimp only;rw[tx];show(if g.length < sizeLine then some (S2.set m (.dK (Go g (IS n) (D.int z))))else none)=_
    rw[qX P,pe]]
  have ϒ:(S2.set m (.dK (g++[(.inl n,D.int z)])))[m]?=some (.dK (g++[(.inl n,D.int z)])):=A0 (B9 tx)
  have xD:(S2.set m (.dK (g++[(.inl n,D.int z)])))[q]?=some (.ins W.Field (fdF a b c h k m f.kd)):=by
   rw[Af]
   ·exact O
   ·intro e
    subst e;rw[B]at C;cases C
  have uO:∀j,j < S.length->j≠m->(S2.set m (.dK (g++[(.inl n,D.int z)])))[j]?=S[j]?:=λj R uT=>by
   rw[Af (BW uT),kS.2 j (by rw[<-Y,Cw];exact R)];exact st j R uT
  refine⟨_,g++[(.inl n,D.int z)],?_,ϒ,hk2,uO⟩;refine L2.Mm ?_;unfold JU;refine ES (Ck (e1:=[sR q,sI n]) (ES (Nq X) ϑ)) ?_;refine JJ (FZ (U _ xD) (y:=.int n) (by rfl) (ZH (sq _ _ ϒ) ?_));rw[Z _ _ ϒ,<-pe,Wb,qX rfl]
theorem Rw(W:Wd)(f:Fp)(n:Int):VF (HH W) [.q (DU W f),.v (D.int n)] (rV D.int) (FW f n):=λz g S B C=>by
 match B,C with
 | [d,x],⟨E,G,_⟩=>
  cases G
  obtain⟨q,m,N,rfl,s,A,o⟩:=E (λk=>S[k]?) λ_ _ h=>h
  unfold FW at g;split at g
  ·rename_i l
   have j:=Y2 l.1 l.2 g (o n z l.1 l.2 g) s A;refine⟨.int z,S,?_,Keeps.refl S,rfl⟩;unfold HH lH
   rw[show UJ "known" [.ref q,.int n] S=some m by
    obtain⟨a,b,c,h,k,I,_⟩:=s;unfold UJ;dsimp only;rw[show S[q]?=_ from I]
    rfl]
   dsimp only;rw[show S[m]?=_ from A];dsimp only;obtain⟨O,P,J,_⟩:=j [] ⟨HS,λ_ L=>nomatch L⟩;rw[J];dsimp only;rw[qX j]
  ·cases g
noncomputable def nuS(l:List (ZLi×Int))(x:Int×ZLi):List (ZLi×Int):=Go l x.2 x.1
noncomputable def hvP(k:Int)(h:ZLi)(p:Int):ZLi:=h.set p.toNat (Be (h.getD p.toNat 0) (1 * 2 ^ k.toNat))
noncomputable def hvS(h:ZLi)(x:Int×ZLi):ZLi:=x.2.foldl (hvP x.1) h
noncomputable def nuF(ev:List ZLi):List (ZLi×Int):=(EE ev).foldl nuS []
noncomputable def hv0(n:Nat):ZLi:=(GZ 0 n).map λ_=>0
noncomputable def hvF(n:Nat)(ev:List ZLi):ZLi:=(EE ev).foldl hvS (hv0 n)
noncomputable def NM(w:Nat×List ZPi)(g:Int)(kd:Str):Option Fp:=
 (Jy w g).bind λj=>(LQ w).bind λtk=>(IB j (λ_=>some true) Hh).bind λl=>
  if j.length<=1000/\w.1<=1000/\∀r∈j,∀x∈r,0<=x/\x < (w.1:Int)then some ⟨j,kd,tk,nuF j,hvF w.1 j,l⟩else none
structure Fc(W:Wd)(S1:Sto)(fs:List (Str×D))(T:Sto):Prop where
 kp:Keeps S1 T
 at':T[S1.length]?=some (.ins W.Field fs)
section
variable{W:Wd}{S1 T T':Sto}{fs:List (Str×D)}{x:Str}{d:D}{e:Lo}{m:ME}{j:Nat}{o:Ob}
theorem Fc.put(h:Fc W S1 fs T)(k:Keeps T T'):Fc W S1 (Jh x d fs) (T'.set S1.length (.ins W.Field (Jh x d fs))):=⟨(h.kp.trans k).set (AO _) _,A0 (B9 (k.at h.at'))⟩
theorem Fc.set(h:Fc W S1 fs T)(g:S1.length < j):Fc W S1 fs (T.set j o):=⟨h.kp.set (MW g) _,by rw[Af (DX g)];exact h.at'⟩
theorem Fc.step(h:Fc W S1 fs T)(g:e[0]?=some (some (.ref S1.length)))(l:m e T=.ok d T')(k:Keeps T T')(s:fs.length < 1000):JH W.Field x (AH 0) m e T=.ok (.nx e) (T'.set S1.length (.ins W.Field (Jh x d fs))):=Q9 l (Ma g) (k.at h.at') s
theorem FA(h:T[j]?=some o)(g:q < j):(T.set q o')[j]?=some o:=by rw[Af (Ao g)];exact h
theorem Vs.all(h:∀(i:Nat) (a:Sl),A[i]?=some a->∃x,e[i]?=some x/\a.ok T (Kt T) T x):Vs T A e (Kt T) T:=by
 refine⟨Keeps.refl T,λn o q=>?_,λn i q=>?_,λn g=>by unfold Kt;rw[DL g],h⟩
 ·unfold Kt at q
  split at q
  ·rename_i s l;cases q;exact l
  ·cases q
 ·unfold Kt at q
  split at q <;> cases q
theorem ZP(h:T[j]?=some o):Kt T j=.fz o:=by unfold Kt;rw[h]
theorem lB(ho:mo e T=.ok (.ref n) T)(hi:mi e T=.ok (.int p) T)(A:mv e T=.ok (.int y) T)(B:T[n]?=some (.lst xs))(C:0<=p)(l:xs[p.toNat]?=some (.int z)):Ws g mo mi mv e T=.ok (.nx e) (T.set n (.lst (xs.set p.toNat (.int (g z y))))):=by
 have s:atL (.ref n) T=some (n,xs):=by unfold atL;dsimp only;rw[B]
 unfold Ws;rw[ho];dsimp only[Res.lift];rw[hi];dsimp only;rw[s];dsimp only;rw[qX C,l];dsimp only;rw[A];dsimp only;rw[s];dsimp only;rw[qX (AF.mp l).1]
end
theorem Vt(k:Int):∀(r h:ZLi),(r.foldl (hvP k) h).length=h.length
 | [],h=>rfl
 | p :: r,h=>by
  show(r.foldl (hvP k) (hvP k h p)).length=_;rw[Vt k r];exact Cw
theorem gb:∀(l:List (Int×ZLi)) (h:ZLi),(l.foldl hvS h).length=h.length
 | [],h=>rfl
 | x :: l,h=>by
  show(l.foldl hvS (hvS h x)).length=_;rw[gb l];exact Vt _ _ _
theorem fL:∀(l:List (Int×ZLi)) (h:List (ZLi×Int)),(l.foldl nuS h).length<=h.length+l.length
 | [],h=>AO _
 | x :: l,h=>by
  have g:=fL l (nuS h x)
  have j:(nuS h x).length<=h.length+1:=by
   unfold nuS Go;split
   ·rw[AJ];exact Ib _
   ·rw[AV];exact AO _
  show(l.foldl nuS (nuS h x)).length<=_;rw[Aj]
  lia
theorem cP(ev:List g)(i:Nat):(EE ev)[i]?=(ev[i]?).map λr=>((i:Int),r):=by
 unfold EE;rw[Ae,Nm]
 cases ev[i]? <;> simp
noncomputable abbrev eF7(q wn:Nat)(g:Int)(kd:Str)(a b c:Option D):Lo:=[sR q,sR wn,sI g,some (.str kd),a,b,c]
noncomputable abbrev nlA(W:Wd):MS:=Ws (λa b=>Be a b) (DZ W.Field "having" (AH 0)) (AH 6) (m2 Qe (mC (.int 1)) (AH 4))
noncomputable abbrev nlB(W:Wd):MS:=BO (IL (DZ W.Field "numbers" (AH 0)) (AH 5) (AH 4)) (Fy (GC (AH 5)) (tgN 6) (nlA W))
noncomputable abbrev nlG:MG:=Jp 2 (Dd (tgN 4) (Dd (tgN 5) Km))
noncomputable abbrev eF8(q wn:Nat)(g:Int)(kd:Str)(i:Nat)(r:ZLi)(z:Option D):Lo:=eF7 q wn g kd (some (.int (i:Int))) (some (eT D.int r)) z
theorem W7(W:Wd)(hF:Fc W S1 fs T)(fa:fs.lookup ("everything" : Str)=some (.ref a)) (fc:fs.lookup ("numbers" : Str)=some (.ref c)) (fh:fs.lookup ("having" : Str)=some (.ref h)) (ha:S1.length < a) (Ξ:a < c) (uW:c < h) (Ta:T[a]?=some (oL (eT D.int) ev)) (Tc:T[c]?=some (oDR D.int ([]:List (ZLi×Int)))) (Th:T[h]?=some (oL D.int (hv0 n))) (hev:ev.length<=1000) (hr:∀r∈ev,∀x∈r,0<=x/\x < (n:Int)) :
  ∃s A l E,Fy (Py (DZ W.Field "everything" (AH 0))) nlG (nlB W) (eF7 S1.length wn g kd none none none) T=.ok (.nx (eF7 S1.length wn g kd s A l)) E /\
   Fc W S1 fs E/\E[c]?=some (oDR D.int (nuF ev))/\E[h]?=some (oL D.int (hvF n ev))/\∀j,j≠c->j≠h->E[j]?=T[j]?:=by
 have hi:Py (DZ W.Field "everything" (AH 0)) (eF7 S1.length wn g kd none none none) T=.ok (Tw (GU (.ref a))) T:=by
  unfold Py;rw[Lc (C:=W.Field) (f:="everything") (m:=AH 0) (n:=S1.length) (by rfl) hF.at' fa];dsimp only[Res.bind];rw[EZ Ta]
 have yY:(hv0 n).length=n:=by unfold hv0;rw[AJ,CV]
 obtain⟨f,E,I,J⟩:=P1 (v:=Tw (GU (.ref a))) (g:=nlG) (b:=nlB W) (xs:=(EE ev).map (eP D.int (eT D.int))) (e:=eF7 S1.length wn g kd none none none) (S:=T)
  (λi e S=>(∃s A l,e=eF7 S1.length wn g kd s A l)/\Fc W S1 fs S/\S[c]?=some (oDR D.int (((EE ev).take i).foldl nuS []))/\S[h]?=some (oL D.int (((EE ev).take i).foldl hvS (hv0 n)))/\∀j,j≠c->j≠h->S[j]?=T[j]?)
  (λf S=>∃s A l,f=.nx (eF7 S1.length wn g kd s A l)/\Fc W S1 fs S/\S[c]?=some (oDR D.int (nuF ev))/\S[h]?=some (oL D.int (hvF n ev))/\∀j,j≠c->j≠h->S[j]?=T[j]?)
  ⟨⟨_,_,_,rfl⟩,hF,Tc,Th,λ_ _ _=>rfl⟩
  (λi e S L=>by
   obtain⟨_,_,_,_,h5⟩:=L;unfold Tw;rw[EZ (xs:=ev.map (eT D.int)) (show S[a]?=_ from(h5 a (by lia) (by lia)).trans Ta)]
   exact congrArg some (cQ ev))
  (λi d e S N L=>by
   obtain⟨⟨s,A,l,rfl⟩,Z,O,Sh,So⟩:=L;rw[Ae]at N;obtain⟨⟨k,r⟩,hx,rfl⟩:=Dl.mp N;have vA:=hx;rw[cP]at vA;obtain⟨r0,P,hr2⟩:=Dl.mp vA;cases hr2;have hrm:r∈ev:=Ca P;have w8:i < ev.length:=(AF.mp P).1
   have tk:(EE ev).take (i+1)=(EE ev).take i++[((i:Int),r)]:=by
    rw[HQ,hx];rfl
   refine⟨eF8 S1.length wn g kd i r l,S,rfl,?_⟩
   have Q:IL (DZ W.Field "numbers" (AH 0)) (AH 5) (AH 4) (eF8 S1.length wn g kd i r l) S=.ok (.nx (eF8 S1.length wn g kd i r l)) (S.set c (oDR D.int (Go (((EE ev).take i).foldl nuS []) r (i:Int)))):=by
    unfold IL;rw[show AH 4 (eF8 S1.length wn g kd i r l) S=.ok (.int (i:Int)) S from rfl];dsimp only[Res.lift];rw[Lc (C:=W.Field) (f:="numbers") (m:=AH 0) (n:=S1.length) (by rfl) Z.at' fc];dsimp only;rw[show AH 5 (eF8 S1.length wn g kd i r l) S=.ok (eT D.int r) S from rfl];dsimp only
    rw[pf (enc:=D.int) _ r (i:Int) S c O (by
     have:=fL ((EE ev).take i) [];rw[Dy]at this;show(((EE ev).take i).foldl nuS []).length < _;have h0:([]:List (ZLi×Int)).length=0:=rfl
     lia)]
   have R:Fc W S1 fs (S.set c (oDR D.int (Go (((EE ev).take i).foldl nuS []) r (i:Int)))):=Z.set (by lia);have ϓ:(S.set c (oDR D.int (Go (((EE ev).take i).foldl nuS []) r (i:Int))))[h]?=some (oL D.int (((EE ev).take i).foldl hvS (hv0 n))):=FA Sh uW;have U:(S.set c (oDR D.int (Go (((EE ev).take i).foldl nuS []) r (i:Int))))[c]?=some (oDR D.int (Go (((EE ev).take i).foldl nuS []) r (i:Int))):=A0 (B9 O)
   have X:∀j,j≠c->j≠h->(S.set c (oDR D.int (Go (((EE ev).take i).foldl nuS []) r (i:Int))))[j]?=T[j]?:=λj I J=>by rw[Af (BW I)];exact So j I J
   generalize S.set c (oDR D.int (Go (((EE ev).take i).foldl nuS []) r (i:Int)))=S2 at Q R ϓ U X;generalize hH:((EE ev).take i).foldl hvS (hv0 n)=H at ϓ
   have hHl:H.length=n:=by rw[<-hH,gb,yY]
   obtain⟨f,S3,q1,q2⟩:=P1 (v:=GU (eT D.int r)) (g:=tgN 6) (b:=nlA W) (xs:=r.map D.int) (e:=eF8 S1.length wn g kd i r l) (S:=S2)
    (λj e S=>(∃z,e=eF8 S1.length wn g kd i r z)/\Fc W S1 fs S/\S[h]?=some (oL D.int ((r.take j).foldl (hvP (i:Int)) H))/\∀j,j≠h->S[j]?=S2[j]?)
    (λf S=>∃z,f=.nx (eF8 S1.length wn g kd i r z)/\Fc W S1 fs S/\S[h]?=some (oL D.int (r.foldl (hvP (i:Int)) H))/\∀j,j≠h->S[j]?=S2[j]?)
    ⟨⟨_,rfl⟩,R,ϓ,λ_ _=>rfl⟩ (λ_ _ _ _=>rfl)
    (λj d e S N hJ=>by
     obtain⟨⟨z,rfl⟩,B,o,G⟩:=hJ;rw[Ae]at N;obtain⟨p,Q,rfl⟩:=Dl.mp N;have hpr:=hr r hrm p (Ca Q);refine⟨eF8 S1.length wn g kd i r (some (.int p)),S,rfl,?_⟩
     have hlp:p.toNat < ((r.take j).foldl (hvP (i:Int)) H).length:=by rw[Vt,hHl];lia
     have Α:m2 Qe (mC (.int 1)) (AH 4) (eF8 S1.length wn g kd i r (some (.int p))) S=.ok (.int (1 * 2 ^ (i:Int).toNat)) S:=by
      refine FZ (x:=.int 1) (y:=.int (i:Int)) rfl rfl ?_;unfold Qe L2.intOp;dsimp only;rw[qX (show iX 1 (i:Int)from⟨by lia,by lia,by decide⟩)]
     have ha:=lB (g:=λa b=>Be a b) (mo:=DZ W.Field "having" (AH 0)) (mi:=AH 6) (p:=p) (z:=((r.take j).foldl (hvP (i:Int)) H).getD p.toNat 0) (Lc (C:=W.Field) (f:="having") (m:=AH 0) (n:=S1.length) (e:=eF8 S1.length wn g kd i r (some (.int p))) (by rfl) B.at' fh) (by rfl) Α o hpr.1 (by
      rw[Ae,Jl,Ax hlp]
      rfl)
     refine⟨_,_,ha,⟨_,rfl⟩,B.set (by lia),?_,λk hk=>by rw[Af (BW hk)];exact G k hk⟩;rw[A0 (B9 o),HQ,Q];show some (Ob.lst _)=some (Ob.lst _);rw[show(some p).toList=[p]from rfl,HW,List.foldl_cons,Tr];unfold hvP
     rw[qR])
    (λe S hJ=>by
     obtain⟨⟨z,rfl⟩,B,o,G⟩:=hJ;rw[AJ,IC]at o
     exact⟨z,rfl,B,o,G⟩)
   obtain⟨z,rfl,hS4,Sh4,Y⟩:=q2;refine⟨_,S3,(Ck Q).trans (ES (OF (v:=GU (eT D.int r)) (S1:=S2) (by rfl)) q1),⟨_,_,_,rfl⟩,hS4,?_,?_,λj I J=>(Y j J).trans (X j I J)⟩
   ·rw[Y c (by lia),U,tk,HW]
    rfl
   ·rw[Sh4,tk,HW,hH]
    rfl)
  (λe S L=>by
   obtain⟨⟨s,A,l,rfl⟩,Z,O,Sh,So⟩:=L;rw[AJ,IC]at O Sh
   exact⟨s,A,l,rfl,Z,O,Sh,So⟩)
 obtain⟨s,A,l,rfl,h3⟩:=J;exact⟨s,A,l,E,(OF hi).trans I,h3⟩
noncomputable abbrev y1(a:Nat):List (Str×D):=Jh "everything" (.ref a) []
noncomputable abbrev y2(a:Nat)(kd:Str):List (Str×D):=Jh "kind" (.str kd) (y1 a)
noncomputable abbrev y3(a:Nat)(kd:Str)(b:Nat):List (Str×D):=Jh "takes" (.ref b) (y2 a kd)
noncomputable abbrev y4(a:Nat)(kd:Str)(b c:Nat):List (Str×D):=Jh "numbers" (.ref c) (y3 a kd b)
noncomputable abbrev y5(a:Nat)(kd:Str)(b c h:Nat):List (Str×D):=Jh "having" (.ref h) (y4 a kd b c)
noncomputable abbrev y6(a:Nat)(kd:Str)(b c h k:Nat):List (Str×D):=Jh "place_bits" (.ref k) (y5 a kd b c h)
noncomputable abbrev y7(a:Nat)(kd:Str)(b c h k m:Nat):List (Str×D):=Jh "known" (.ref m) (y6 a kd b c h k)
noncomputable abbrev eF9(S1:Sto)(wn:Nat)(g:Int)(kd:Str):Lo:=eF7 S1.length wn g kd none none none
theorem g8(W:Wd)(E:NM w g kd=some f)(hw:S1[wn]?=some (FX W w)) :
  ∃S',Eo W [.ref S1.length,.ref wn,.int g,.str kd] (S1++[.ins W.Field []])=.ok .non S'/\Keeps S1 S'/\∀L:Nat->Option Ob,(∀n o,S1.length<=n->S'[n]?=some o->L n=some o)->DU W f L (.ref S1.length):=by
 unfold NM at E;obtain⟨B,hev,E⟩:=BC E;obtain⟨tk,zt,E⟩:=BC E;obtain⟨pb,hpb,E⟩:=BC E;split at E
 case isFalse=>cases E
 rename_i hg;obtain⟨xY,vW,hg3⟩:=hg;cases E;have F0:Fc W S1 [] (S1++[.ins W.Field []]):=⟨Keeps.app _ _,GD _ _⟩
 have l0:(S1++[Ob.ins W.Field []]).length=S1.length+1:=by rw[AV];rfl
 generalize S1++[Ob.ins W.Field []]=T0 at F0 l0;obtain⟨d,U1,c1,k1,a,rfl,ha,hA⟩:=We W w g B hev T0 [.ref wn,.int g] ⟨⟨wn,rfl,F0.kp.at hw⟩,rfl,trivial⟩;have m1:B2 2 (Gv W) (AR (AH 1) (AR (AH 2) BE)) (eF9 S1 wn g kd) T0=.ok (.ref a) U1:=(Hw (ds:=[.ref wn,.int g]) (S1:=T0) rfl rfl).trans c1;have s1:=F0.step (x:="everything") (e:=eF9 S1 wn g kd) rfl m1 k1 (by decide);have F1:=F0.put (x:="everything") (d:=.ref a) k1
 have J:S1.length < a:=by lia
 have A1:(U1.set S1.length (.ins W.Field (y1 a)))[a]?=some (oL (eT D.int) B):=FA hA J;generalize U1.set S1.length (.ins W.Field (y1 a))=T1 at s1 F1 A1;have s2:=F1.step (x:="kind") (m:=AH 3) (e:=eF9 S1 wn g kd) (d:=.str kd) rfl rfl (Keeps.refl T1) (BR (AO 1) (by decide));have F2:=F1.put (x:="kind") (d:=.str kd) (Keeps.refl T1);have A2:(T1.set S1.length (.ins W.Field (y2 a kd)))[a]?=some (oL (eT D.int) B):=FA A1 J;generalize T1.set S1.length (.ins W.Field (y2 a kd))=T2 at s2 F2 A2;obtain⟨d,U3,c3,k3,b,rfl,hb,hB⟩:=YR W w tk zt T2 [.ref wn] ⟨⟨wn,rfl,F2.kp.at hw⟩,trivial⟩;have ab:a < b:=AW (B9 A2) hb;have m3:B2 1 (Ld W) (AR (AH 1) BE) (eF9 S1 wn g kd) T2=.ok (.ref b) U3:=(Hw (ds:=[.ref wn]) (S1:=T2) rfl rfl).trans c3;have s3:=F2.step (x:="takes") (e:=eF9 S1 wn g kd) rfl m3 k3 (BR (AO 2) (by decide));have F3:=F2.put (x:="takes") (d:=.ref b) k3;have A3:(U3.set S1.length (.ins W.Field (y3 a kd b)))[a]?=some (oL (eT D.int) B):=FA (k3.at A2) J;have B3:(U3.set S1.length (.ins W.Field (y3 a kd b)))[b]?=some (oL (eT D.int) tk):=FA hB (by lia);generalize U3.set S1.length (.ins W.Field (y3 a kd b))=G at s3 F3 A3 B3;have bc:b < G.length:=B9 B3;have m4:Vn (eF9 S1 wn g kd) G=.ok (.ref G.length) (G++[oDR D.int ([]:List (ZLi×Int))]):=rfl;have S:=Keeps.app G [oDR D.int ([]:List (ZLi×Int))];have s4:=F3.step (x:="numbers") (e:=eF9 S1 wn g kd) rfl m4 S (BR (AO 3) (by decide));have Q:=F3.put (x:="numbers") (d:=.ref G.length) S;have C3:(G++[oDR D.int ([]:List (ZLi×Int))])[G.length]?=some (oDR D.int ([]:List (ZLi×Int))):=GD _ _;generalize hc:G.length=c at bc s4 Q C3;generalize G++[oDR D.int ([]:List (ZLi×Int))]=U4 at S s4 Q C3;have A4:=FA (o':=.ins W.Field (y4 a kd b c)) (S.at A3) J;have B4:=FA (o':=.ins W.Field (y4 a kd b c)) (S.at B3) (show S1.length < b by lia);have C4:=FA (o':=.ins W.Field (y4 a kd b c)) C3 (show S1.length < c by lia);generalize U4.set S1.length (.ins W.Field (y4 a kd b c))=T4 at s4 Q A4 B4 C4
 have v5:((((some w).bind λx2=>some (x2.1:Int)).bind MA).bind λl=>IB l (λ_=>some true) (λ_=>some (0:Int)))=some (hv0 w.1):=by
  show((MA (w.1:Int)).bind λl=>IB l (λ_=>some true) (λ_=>some (0:Int)))=_;rw[G6 (by lia) (by lia)];show IB (GZ 0 (w.1:Int).toNat) _ _=_;rw[Am,Gx (f:=λ_=>(0:Int)) (by rw[CV];lia) λ_ _=>rfl];rfl
 obtain⟨d,U5,m5,U,h,rfl,hh,hH⟩:=(D4 (Hy (VI.k (Ea (He (DN (A:=[.u,.z (FX W w),.u,.u,.u,.u,.u]) (i:=1) rfl)))) (λ_=>Jo) (λ_=>CZ (enc:=D.int) (v:=0) (d:=.int 0) rfl))) _ v5 T4 (eF9 S1 wn g kd) _ T4 (Vs.all λi x s=>by
  match i,s with
  | 0,s=>cases s;exact⟨_,rfl,trivial⟩
  | 1,s=>cases s;exact⟨_,rfl,wn,rfl,ZP (Q.kp.at hw)⟩
  | 2,s=>cases s;exact⟨_,rfl,trivial⟩
  | 3,s=>cases s;exact⟨_,rfl,trivial⟩
  | 4,s=>cases s;exact⟨_,rfl,trivial⟩
  | 5,s=>cases s;exact⟨_,rfl,trivial⟩
  | 6,s=>cases s;exact⟨_,rfl,trivial⟩
  | n+7,s=>cases s)
 have s5:=Q.step (x:="having") (e:=eF9 S1 wn g kd) rfl m5 U (BR (AO 4) (by decide));have F5:=Q.put (x:="having") (d:=.ref h) U;have ch:c < h:=AW (B9 C4) hh;have A5:=FA (o':=.ins W.Field (y5 a kd b c h)) (U.at A4) J;have B5:=FA (o':=.ins W.Field (y5 a kd b c h)) (U.at B4) (show S1.length < b by lia);have C5:=FA (o':=.ins W.Field (y5 a kd b c h)) (U.at C4) (show S1.length < c by lia);have H5:=FA (o':=.ins W.Field (y5 a kd b c h)) hH (show S1.length < h by lia);generalize U5.set S1.length (.ins W.Field (y5 a kd b c h))=T5 at s5 F5 A5 B5 C5 H5;obtain⟨X,Y,Z,T6,s6,F6,C6,H6,O6⟩:=W7 W (wn:=wn) (g:=g) (kd:=kd) (n:=w.1) F5 rfl rfl rfl J (by lia) ch A5 C5 H5 xY hg3;have A6:=(O6 a (by lia) (by lia)).trans A5;have B6:=(O6 b (by lia) (by lia)).trans B5;have v7:((some B).bind λl=>IB l (λ_=>some true) (λx=>((some x).bind λx=>(some ()).bind λy=>some (x,y)).bind λz=>Hh z.1))=some pb:=hpb
 obtain⟨d,U7,m7,R,k,rfl,hk,hK⟩:=(D4 (Hy (VI.k (md (A:=[.q (λL d=>∃q fs n,d=.ref q/\L q=some (.ins W.Field fs)/\fs.lookup ("everything" : Str)=some (.ref n)/\L n=some (oL (eT D.int) B)),.u,.u,.u,.u,.u,.u]) (i:=0) (l:=B) (enc:=eT D.int) (C:=W.Field) (x:="everything") (λL d h=>h) rfl)) (λ_=>Jo) (λx=>Bx (Cq (AU (i:=0) rfl) CD) (λz=>bP W z.1) (λ_=>rfl) Do))) _ v7 T6 (eF7 S1.length wn g kd X Y Z) _ T6 (Vs.all λi x s=>by
  match i,s with
  | 0,s=>cases s;exact⟨_,rfl,.ref S1.length,rfl,λL O=>⟨S1.length,_,a,rfl,O _ _ (ZP F6.at'),rfl,O _ _ (ZP A6)⟩⟩
  | 1,s=>cases s;exact⟨_,rfl,trivial⟩
  | 2,s=>cases s;exact⟨_,rfl,trivial⟩
  | 3,s=>cases s;exact⟨_,rfl,trivial⟩
  | 4,s=>cases s;exact⟨_,rfl,trivial⟩
  | 5,s=>cases s;exact⟨_,rfl,trivial⟩
  | 6,s=>cases s;exact⟨_,rfl,trivial⟩
  | n+7,s=>cases s)
 have s7:=F6.step (x:="place_bits") (e:=eF7 S1.length wn g kd X Y Z) rfl m7 R (BR (AO 5) (by decide));have F7:=F6.put (x:="place_bits") (d:=.ref k) R;have uA:h < k:=AW (B9 H6) hk
 have cell:∀{j:Nat} {o:Ob},U7[j]?=some o->S1.length < j->(U7.set S1.length (.ins W.Field (y6 a kd b c h k)))[j]?=some o:=λP h2=>FA P h2
 have A7:=cell (R.at A6) J;have B7:=cell (R.at B6) (by lia);have C7:=cell (R.at C6) (by lia);have H7:=cell (R.at H6) (by lia);have K7:=cell hK (by lia);generalize U7.set S1.length (.ins W.Field (y6 a kd b c h k))=I at s7 F7 A7 B7 C7 H7 K7
 clear cell
 have m8:Y0 (eF7 S1.length wn g kd X Y Z) I=.ok (.ref I.length) (I++[.dK []]):=rfl;have N:=Keeps.app I [Ob.dK []];have s8:=F7.step (x:="known") (e:=eF7 S1.length wn g kd X Y Z) rfl m8 N (BR (AO 6) (by decide));have F8:=F7.put (x:="known") (d:=.ref I.length) N;have M7:(I++[Ob.dK []])[I.length]?=some (.dK []):=GD _ _;have km:k < I.length:=B9 K7;generalize I.length=m at s8 F8 M7 km;generalize I++[Ob.dK []]=U8 at N s8 F8 M7
 have cell:∀{j:Nat} {o:Ob},U8[j]?=some o->S1.length < j->(U8.set S1.length (.ins W.Field (y7 a kd b c h k m)))[j]?=some o:=λP h2=>FA P h2
 have A8:=cell (N.at A7) J;have B8:=cell (N.at B7) (by lia);have C8:=cell (N.at C7) (by lia);have H8:=cell (N.at H7) (by lia);have K8:=cell (N.at K7) (by lia);have M8:=cell M7 (by lia);generalize U8.set S1.length (.ins W.Field (y7 a kd b c h k m))=T8 at s8 F8 A8 B8 C8 H8 K8 M8
 clear cell
 have Q8:T8[S1.length]?=some (.ins W.Field (fdF a b c h k m kd)):=F8.at'
 have run:Ht W [.ref S1.length,.ref wn,.int g,.str kd] T0=.ok .non T8:=by
  refine L2.Yi (e:=eF7 S1.length wn g kd X Y Z) ?_;unfold Lm;show(BO _ _) (eF9 S1 wn g kd) T0=_;rw[Ck s1,Ck s2,Ck s3,Ck s4,Ck s5,Ck s6,Ck s7];exact s8
 have C:Xj W ⟨B,kd,tk,nuF B,hvF w.1 B,pb⟩ (λk=>T8[k]?) S1.length m:=⟨a,b,c,h,k,Q8,A8,B8,C8,H8,K8⟩
 have ϔ:∀n z:Int,0<=n->n < 1000->LR ⟨B,kd,tk,nuF B,hvF w.1 B,pb⟩ n=some z->LM W [.ref S1.length,.ref wn,.int g,.str kd] T8 (.inl n)=z:=λn z _ _ hz=>by
  have hQ:JX T8 [.q (NC W ⟨B,kd,tk,nuF B,hvF w.1 B,pb⟩),.v (D.int n)] [.ref S1.length,.int n]:=⟨λL O=>⟨_,m,rfl,C.mono O⟩,rfl,trivial⟩;unfold LM;dsimp only;unfold LR at hz;dsimp only at hz;split at hz
  case isFalse=>cases hz
  obtain⟨d,S',P,_,rfl⟩:=HX W _ n z hz T8 _ hQ;rw[P];rfl
 refine⟨T8.set m (.mem (LM W [.ref S1.length,.ref wn,.int g,.str kd] T8)),?_,F8.kp.set (by lia) _,λL O=>⟨S1.length,m,_,rfl,?_,O m _ (by lia) (A0 (B9 M8)),ϔ⟩⟩
 ·unfold Eo XB
  rw[run];dsimp only
  rw[show UJ "known" [.ref S1.length,.ref wn,.int g,.str kd] T8=some m by
   unfold UJ;dsimp only;rw[Q8]
   rfl]
  dsimp only;rw[M8]
 ·have up:∀{j:Nat} {o:Ob},T8[j]?=some o->S1.length<=j->j < m->L j=some o:=λP h2 h3=>O _ _ h2 (by rw[Af (DX h3)];exact P)
  exact⟨a,b,c,h,k,up Q8 (AO _) (by lia),up A8 (by lia) (by lia),up B8 (by lia) (by lia),up C8 (by lia) (by lia),up H8 (by lia) (by lia),up K8 (by lia) (by omega)⟩
theorem di{W:Wd}{A:List Sl}{ml:ML}{p:Option ((Nat×List ZPi)×Int×Str×Unit)}(j:VA A ml p (λz=>[.z (FX W z.1),.v (D.int z.2.1),.v (D.str z.2.2.1)])):VE A (No W.Field 4 (Eo W) ml) (rQ (DU W)) (p.bind λz=>NM z.1 z.2.1 z.2.2.1):=λf l m e F S s=>by
 obtain⟨z,B,C⟩:=BC l;obtain⟨E,Z,G,g,I⟩:=j z B m e F S s
 match E,I with
 | [d1,d2,d3],⟨⟨wn,J,hw⟩,N,O,_⟩=>
  cases J;cases N;cases O;obtain⟨P,Q,R,U⟩:=g8 W C hw;exact⟨_,P,aC G rfl Q,g.trans R,λL X=>U L λn o Y=>X n o (Au g.1 Y)⟩
noncomputable def G9(g:Fp)(j:Int)(l:Int):Option (Fw Int Unit):=
 ((FW g (j,()).1).bind λm=>(atI g.hv l).bind λo=>some (BL m o)).bind λs=>some (.rt s)
noncomputable def Ed(g:Fp)(j:Int)(l:Int):Option Int:=HN (G9 g j l)
theorem Mc(W:Wd)(g:Fp)(j:Int)(l:Int):VF (HI W) [.q (DU W g),.v (D.int j),.v (D.int l)] (rV D.int) (Ed g j l):=by
 refine FO (n:=3) (b:=JV W) (p:=G9 g j l) (B:=λ_=>[]) ?_;show VS [.q (DU W g),.v (D.int j),.v (D.int l)] _ _ _ _;unfold JV G9;exact(Gm (Q6 (Od (Pf:=DU W) (Pg:=DU W) (aU λ_ _ _ _ _ _ _=>rfl) (λ_ _ h=>h) rfl (Cq (AU rfl) CD) (λm=>Rw W g m.1) (λ_=>rfl) Do) (FP (Gg cI rfl) (AU rfl))))
noncomputable def EB(g:Fp)(o:Int)(s:Int)(A:Int):Option (Fw ZLi Unit):=
 BH ((atI g.ev o).bind λB=>some (.nx B)) λC=>BH (if (decide (g.kd=("all" : Str)))=true then none else some (.nx ())) λ_=>BH (((some []).bind Ii).bind λE=>some (.nx E)) λG=>BH ((Ev A).bind λj=>DG j G λ(I:(List ZLi)) J=>Ds (λL=>L) ((IB C (λl=>some true) (λl=>((atI g.ev J).bind λN=>some (decide (l∈N))).bind λO=>if O=true then some l else some s)).bind λP=>(Nh I P).bind λQ=>some (.nx Q))) λm=>((some m).bind Xc).bind λR=>some (.rt R)
noncomputable def DR(g:Fp)(j:Int)(l:Int)(m:Int):Option ZLi:=HN (EB g j l m)
theorem Mb(W:Wd)(g:Fp)(j:Int)(l:Int)(m:Int):VF (Fd W) [.q (DU W g),.v (D.int j),.v (D.int l),.v (D.int m)] (rV (eT D.int)) (DR g j l m):=by
 refine FO (n:=7) (b:=Fg W) (p:=EB g j l m) (B:=λ_=>[]) ?_;show VS [.q (DU W g),.v (D.int j),.v (D.int l),.v (D.int m),.u,.u,.u] _ _ _ _;unfold Fg EB;exact(A9 (Db (FP (Gg Ew rfl) (AU rfl))) (λs=>(A9 (MY (LA (Rn aa fQ (df kl rfl) (CZ rfl))) Ux (Jn (.refl _))) (λ_=>(A9 (Hm (D4 (EY Fx))) (λA=>(A9 (Ek (s0:=A) (B:=(λ(o:(List ZLi))=>[.q (DU W g),.v (D.int j),.v (D.int l),.v (D.int m),.v ((eT D.int) s),.w 5 ((oL (eT D.int)) o),.u])) (Rh (Bx (Cq (AU rfl) CD) (λC=>NG W C.1) (λ_=>rfl) Nn)) D0 (.refl _) (λI J=>(DB (MZ rfl (Io (IX (D4 (Hy (VI.k (Rg (AU rfl))) (λE=>Jo) (λE=>(Uz (LA (YO Hu (AU rfl) (FP (Gg Ew rfl) (AU rfl)))) (AU rfl) (AU rfl) Do)))))) rfl) (λL=>(.same (.same (.same (.same (.same (.same (.drop .nil))))))))))) (λG=>(Gm (jM (K9 rfl)))))))))))
noncomputable def Jt(j:Fp)(g:Int)(l:Int):Option (Fw Int Unit):=
 BH (((atI j.ev g).bind λo=>some (decide (l∈o))).bind λs=>if s=true then(R1 (1:Int) g).bind λA=>some (.rt A)else some (.nx ())) λ_=>((some (g,(l,()))).bind λm=>Ed j m.1 m.2.1).bind λB=>some (.rt B)
noncomputable def EC(g:Fp)(j:Int)(l:Int):Option Int:=HN (Jt g j l)
theorem QP(W:Wd)(g:Fp)(j:Int)(l:Int):VF (KA W) [.q (DU W g),.v (D.int j),.v (D.int l)] (rV D.int) (EC g j l):=by
 refine FO (n:=3) (b:=M4 W) (p:=Jt g j l) (B:=λ_=>[]) ?_;show VS [.q (DU W g),.v (D.int j),.v (D.int l)] _ _ _ _;unfold M4 Jt;exact(A9 (MY (LA (YO Hu (AU rfl) (FP (Gg Ew rfl) (AU rfl)))) (Gm (Ri (CZ rfl) (AU rfl))) (Jn (.refl _))) (λ_=>(Gm (Od (Pf:=DU W) (Pg:=DU W) (aU λ_ _ _ _ _ _ _=>rfl) (λ_ _ h=>h) rfl (Cq (AU rfl) (Cq (AU rfl) CD)) (λm=>Mc W g m.1 m.2.1) (λ_=>rfl) Do))))
noncomputable def G8(l:Fp)(m:Int)(o:ZLi):Option (Fw ZLi Unit):=
 BH ((((R1 (1:Int) m).bind λs=>some (s :: [])).bind Ii).bind λA=>some (.nx A)) λB=>BH (DG o B λ(g:ZLi) C=>BH (some (.nx (0:Int))) λE=>BH ((((atI g (-(1:Int))).bind λG=>some (G,())).bind λI=>Ev I.1).bind λJ=>DG J E λ(L:Int) N=>Ds (λO=>O) ((EC l N C).bind λP=>some (.nx (Be L P)))) λj=>BH ((Nh g j).bind λQ=>some (.nx Q)) λR=>Ds (λ_=>R) (if (decide (j=(0:Int)))=true then some (.bk ())else some (.nx ()))) λS=>some (.rt S)
noncomputable def HB(g:Fp)(j:Int)(l:ZLi):Option ZLi:=HN (G8 g j l)
theorem Rt(W:Wd)(g:Fp)(j:Int)(l:ZLi):VF (JQ W) [.q (DU W g),.v (D.int j),.z ((oL D.int) l)] (rN (oL D.int)) (HB g j l):=by
 refine FO (n:=7) (b:=JS W) (p:=G8 g j l) (B:=λ_=>[]) ?_;show VS [.q (DU W g),.v (D.int j),.z ((oL D.int) l),.u,.u,.u,.u] _ _ _ _;unfold JS G8;exact(A9 (Hm (D4 (EY (Fo (Ri (CZ rfl) (AU rfl)) Fx)))) (λo=>(A9 (Ek (s0:=o) (B:=(λ(s:ZLi)=>[.q (DU W g),.v (D.int j),.z ((oL D.int) l),.w 3 ((oL D.int) s),.u,.u,.u])) (dZ rfl) D0 (.refl _) (λA C=>(A9 (Db (CZ rfl)) (λE=>(A9 (Ek (s0:=E) (B:=(λ(G:Int)=>[.q (DU W g),.v (D.int j),.z ((oL D.int) l),.w 3 ((oL D.int) A),.v (D.int C),.v (D.int G),.u])) (Rh (Bx (Cq (FP (K9 rfl) (KO (CZ rfl))) CD) (λI=>NG W I.1) (λ_=>rfl) Nn)) D0 (.refl _) (λJ L=>(DB (RZ rfl (Bx (dm (Pf:=DU W) (Pg:=DU W) (λ_ _ h=>h) rfl (Cq (AU rfl) (Cq (AU rfl) CD))) (λm=>QP W m.1 m.2.1 m.2.2.1) (λ_=>rfl) Do)) (λN=>(.same (.same (.same (.same (.same (.same (.drop .nil))))))))))) (λO=>(A9 (MZ rfl (AU rfl) rfl) (λP=>(DB (MY (LA (Rn Hu Pp (AU rfl) (CZ rfl))) (rB (.refl _)) (Jn (.refl _))) (λ_=>(.same (.same (.same (.same (.drop (.drop (.same .nil))))))))))))))))) (λQ=>(NF rfl)))))
noncomputable def Hq(A:Fp)(j:ZLi)(B:ZLi):Option (Fw ZLi Unit):=
 BH ((((atI j (-(1:Int))).bind λC=>some (C :: [])).bind Ii).bind λE=>some (.nx E)) λG=>BH ((some (B.zip j).reverse).bind λI=>DG I G λ(l:ZLi) m=>BH (some (.nx (0:Int))) λJ=>BH ((Ev m.2).bind λL=>DG L J λ(o:Int) s=>Ds (λN=>N) ((((EC A s m.1).bind λO=>(atI l (-(1:Int))).bind λP=>some (BL O P)).bind λQ=>some (Q != 0)).bind λR=>if R=true then Ds (λS=>S) ((R1 (1:Int) s).bind λU=>some (.nx (Be o U)))else some (.nx o))) λX=>Ds (λY=>Y) ((Nh l X).bind λZ=>some (.nx Z))) λvG=>BH (some (.nx vG.reverse)) λg=>some (.rt g)
noncomputable def Hr(g:Fp)(j:ZLi)(l:ZLi):Option ZLi:=HN (Hq g j l)
theorem TQ(W:Wd)(g:Fp)(j:ZLi)(l:ZLi):VF (KW W) [.q (DU W g),.z ((oL D.int) j),.z ((oL D.int) l)] (rN (oL D.int)) (Hr g j l):=by
 refine FO (n:=8) (b:=Ka W) (p:=Hq g j l) (B:=λ_=>[]) ?_;show VS [.q (DU W g),.z ((oL D.int) j),.z ((oL D.int) l),.u,.u,.u,.u,.u] _ _ _ _;unfold Ka Hq;exact(A9 (Hm (D4 (EY (Fo (FP (DN rfl) (KO (CZ rfl))) Fx)))) (λC=>(A9 (Ek (s0:=C) (B:=(λ(E:ZLi)=>[.q (DU W g),.z ((oL D.int) j),.z ((oL D.int) l),.w 3 ((oL D.int) E),.u,.u,.u,.u])) (jH (YN (DN rfl) (DN rfl))) Zg (.refl _) (λA m=>(A9 (Db (CZ rfl)) (λG=>(A9 (Ek (s0:=G) (B:=(λ(I:Int)=>[.q (DU W g),.z ((oL D.int) j),.z ((oL D.int) l),.w 3 ((oL D.int) A),.v (D.int m.1),.v (D.int m.2),.v (D.int I),.u])) (Rh (Bx (Cq (AU rfl) CD) (λo=>NG W o.1) (λ_=>rfl) Nn)) D0 (.refl _) (λO J=>(DB (QN (B:=(λ(L:Int)=>[.q (DU W g),.z ((oL D.int) j),.z ((oL D.int) l),.w 3 ((oL D.int) A),.v (D.int m.1),.v (D.int m.2),.v (D.int L),.v (D.int J)])) (Zs (Q6 (Bx (dm (Pf:=DU W) (Pg:=DU W) (λ_ _ h=>h) rfl (Cq (AU rfl) (Cq (AU rfl) CD))) (λs=>QP W s.1 s.2.1 s.2.2.1) (λ_=>rfl) Do) (FP (K9 rfl) (KO (CZ rfl))))) (DB (RZ rfl (Ri (CZ rfl) (AU rfl))) (λP=>(.refl _))) (Jn (.refl _))) (λQ=>(.same (.same (.same (.same (.same (.same (.same (.drop .nil)))))))))))) (λR=>(DB (MZ rfl (AU rfl) rfl) (λS=>(.same (.same (.same (.same (.drop (.drop (.drop (.same .nil)))))))))))))))) (λU=>(A9 (mY rfl rfl) (λN=>(NF rfl)))))))
noncomputable def Gh(j:Fp)(E:Int)(G:ZLi)(I:ZLi):Option (Fw (List ZLi) Unit):=
 BH (((some []).bind Ii).bind λJ=>some (.nx J)) λL=>BH (some (.nx E)) λN=>BH (DG (G.zip (Ji I (some (1:Int)) none)) (L,N) λ(g:(List ZLi)×Int) l=>Ds (λs=>(s.1,s.2)) (((atI j.ev g.2).bind λO=>some (decide (l.1∈O))).bind λP=>if P=true then Ds (λQ=>(Q,g.2)) ((atI j.ev g.2).bind λR=>(Nh g.1 R).bind λS=>some (.nx S))else BH ((((((((some (g.2,(l.1,()))).bind λA=>Ed j A.1 A.2.1).bind λU=>some (BL U l.2)).bind λX=>some (X,())).bind λY=>some (l.1,Y)).bind λZ=>some (g.2,Z)).bind λm=>DR j m.1 m.2.1 m.2.2.1).bind λya=>(Nh g.1 ya).bind λzb=>some (.nx zb)) λB=>Ds (λzR=>(B,zR)) ((((atI B (-(1:Int))).bind λC=>Nt C (Di C)).bind λϝ=>Dc j.nu ϝ).bind λϞ=>some (.nx Ϟ)))) λo=>some (.rt o.1)
noncomputable def Gi(g:Fp)(j:Int)(l:ZLi)(m:ZLi):Option (List ZLi):=HN (Gh g j l m)
theorem Qd(W:Wd)(g:Fp)(j:Int)(l:ZLi)(m:ZLi):VF (IP W) [.q (DU W g),.v (D.int j),.z ((oL D.int) l),.z ((oL D.int) m)] (rN (oL (eT D.int))) (Gi g j l m):=by
 refine FO (n:=8) (b:=IR W) (p:=Gh g j l m) (B:=λ_=>[]) ?_;show VS [.q (DU W g),.v (D.int j),.z ((oL D.int) l),.z ((oL D.int) m),.u,.u,.u,.u] _ _ _ _;unfold IR Gh;exact(A9 (Hm (D4 (EY Fx))) (λG=>(A9 (Db (AU rfl)) (λI=>(A9 (Ek (s0:=(G,I)) (B:=(λ(o:(List ZLi)×Int)=>[.q (DU W g),.v (D.int j),.z ((oL D.int) l),.z ((oL D.int) m),.w 4 ((oL (eT D.int)) o.1),.v (D.int o.2),.u,.u])) (jF (i:=2) rfl (Q5 (DN rfl) (Q2 (CZ rfl)) Q3)) Zg (.refl _) (λL A=>(DB (QN (B:=(λ(C:(List ZLi)×Int)=>[.q (DU W g),.v (D.int j),.z ((oL D.int) l),.z ((oL D.int) m),.w 4 ((oL (eT D.int)) C.1),.v (D.int C.2),.v (D.int A.1),.v (D.int A.2)])) (LA (YO Hu (AU rfl) (FP (Gg Ew rfl) (AU rfl)))) (DB (MZ rfl (FP (Gg Ew rfl) (AU rfl)) rfl) (λN=>(.refl _))) (A9 (MZ rfl (Od (Pf:=DU W) (Pg:=DU W) (aU λ_ _ _ _ _ _ _=>rfl) (λ_ _ h=>h) rfl (Cq (AU rfl) (Cq (AU rfl) (Cq (Q6 (Od (Pf:=DU W) (Pg:=DU W) (aU λ_ _ _ _ _ _ _=>rfl) (λ_ _ h=>h) rfl (Cq (AU rfl) (Cq (AU rfl) CD)) (λE=>Mc W g E.1 E.2.1) (λ_=>rfl) Do) (AU rfl)) CD))) (λs=>Mb W g s.1 s.2.1 s.2.2.1) (λ_=>rfl) Do) rfl) (λO=>(DB (Db (Ro (Gg Sa rfl) (Io (IX (PV (FP (K9 rfl) (KO (CZ rfl)))))))) (λP=>(.refl _)))))) (λQ=>(.same (.same (.same (.same (.same (.same (.drop (.drop .nil)))))))))))) (λJ=>(NF rfl)))))))
noncomputable def G7(E:(Nat×List ZPi))(G:ZLi)(j:ZLi)(L:Str):Option (Fw Unit Unit):=
 BH (DG j () λ(_:Unit) N=>Ds (λ_=>()) ((Cg E N).bind λ_=>some (.nx ()))) λ_=>BH (((some (E,((G.length:Int),(L,())))).bind λo=>NM o.1 o.2.1 o.2.2.1).bind λO=>some (.nx O)) λg=>BH ((Dc g.nu G).bind λP=>some (.nx P)) λI=>BH ((HB g I j).bind λQ=>some (.nx Q)) λl=>BH (((atI l (-(1:Int))).bind λR=>some (decide (R=(0:Int)))).bind λs=>if s=true then(some ((l.length:Int) - (2:Int))).bind λ_=>((((atI l (-(2:Int))).bind λS=>some (S,())).bind λU=>Ev U.1).bind λA=>IB A (λJ=>some true) (λJ=>atI g.ev J)).bind λ_=>some (.rt ())else some (.nx ())) λ_=>((((((Hr g l j).bind λϢ=>some (Ϣ,())).bind λB=>some (j,B)).bind λϣ=>some (I,ϣ)).bind λC=>some (g,C)).bind λm=>Gi m.1 m.2.1 m.2.2.1 m.2.2.2.1).bind λ_=>(some ()).bind λ_=>some (.rt ())
noncomputable def HA(g:(Nat×List ZPi))(j:ZLi)(l:ZLi)(m:Str):Option Unit:=HN (G7 g j l m)
theorem Rs(W:Wd)(g:(Nat×List ZPi))(j:ZLi)(l:ZLi)(m:Str):VF (DC W) [.z ((FX W) g),.v ((eT D.int) j),.z ((oL D.int) l),.v (D.str m)] rn (HA g j l m):=by
 refine FO (n:=8) (b:=Ff W) (p:=G7 g j l m) (B:=λ_=>[]) ?_;show VS [.z ((FX W) g),.v ((eT D.int) j),.z ((oL D.int) l),.v (D.str m),.u,.u,.u,.u] _ _ _ _;unfold Ff G7;exact(A9 (Zi (dZ rfl) D0 (λG=>(DB (Zj (Bx (PX (DN rfl) (Cq (AU rfl) CD)) (λs=>E9 W s.1 s.2.1) (λ_=>rfl) Do)) (λ_=>(.same (.same (.same (.same (.drop (.same (.same (.same .nil)))))))))))) (λ_=>(A9 (i9 (di (PX (DN rfl) (Cq (jN (AU rfl)) (Cq (AU rfl) CD))))) (λA=>(A9 (Db (Ro (Gg Sa rfl) (AU rfl))) (λI=>(A9 (NE (Bx (dm (Pf:=DU W) (Pg:=DU W) (λ_ _ h=>h) rfl (Cq (AU rfl) (PX (DN rfl) CD))) (λϤ=>Rt W Ϥ.1 Ϥ.2.1 Ϥ.2.2.1) (λ_=>rfl) Nn)) (λJ=>(A9 (MY (LA (Rn Hu Pp (FP (Hn rfl) (KO (CZ rfl))) (CZ rfl))) (Tv (PU (Q4 (Hn rfl)) (CZ rfl)) (D4 (Hy (VI.k (Rh (Bx (Cq (FP (Hn rfl) (KO (CZ rfl))) CD) (λC=>NG W C.1) (λ_=>rfl) Nn))) (λE=>Jo) (λE=>(FP (Gg Ew rfl) (AU rfl)))))) (Jn (.refl _))) (λ_=>(Tv (Bx (dm (Pf:=DU W) (Pg:=DU W) (λ_ _ h=>h) rfl (Cq (AU rfl) (PX (DN rfl) (PX (IX (Bx (dm (Pf:=DU W) (Pg:=DU W) (λ_ _ h=>h) rfl (PX (Hn rfl) (PX (DN rfl) CD))) (λϥ=>TQ W ϥ.1 ϥ.2.1 ϥ.2.2.1) (λ_=>rfl) Nn)) CD)))) (λo=>Qd W o.1 o.2.1 o.2.2.1 o.2.2.2.1) (λ_=>rfl) Nn) jK)))))))))))
noncomputable def Ie(l:Int)(g:Int):Option (Fw Int Unit):=
 BH (some (.nx ((((l % 2147483647)+g) * 48271) % 2147483647))) λj=>BH (((Vh j j).bind λm=>some (m % 2147483629)).bind λo=>some (.nx o)) λs=>((((Vh (7919:Int) g).bind λA=>some (s+A)).bind λB=>some (B * 69621)).bind λC=>some (C % 2147483629)).bind λE=>some (.rt E)
noncomputable def Bn(g:Int)(j:Int):Option Int:=HN (Ie g j)
theorem DO(W:Wd)(g:Int)(j:Int):VF (Co W) [.v (D.int g),.v (D.int j)] (rV D.int) (Bn g j):=by
 refine FO (n:=3) (b:=Ll W) (p:=Ie g j) (B:=λ_=>[]) ?_;show VS [.v (D.int g),.v (D.int j),.u] _ _ _ _;unfold Ll Ie;exact(A9 (Db (Gf rfl (Zm rfl (FQ (Gf rfl (AU rfl)) (AU rfl))))) (λl=>(A9 (Db (Gf rfl (Rj (AU rfl) (AU rfl)))) (λm=>(Gm (Gf rfl (Zm rfl (FQ (AU rfl) (Rj (CZ rfl) (AU rfl))))))))))
noncomputable def Ju(B:Int)(G:Int):Option (Fw (List ZPi) Unit):=
 BH (((((Bn B (3:Int)).bind λI=>some (I / 8)).bind λJ=>some (J % 3)).bind λL=>some ((1:Int)+L)).bind λN=>some (.nx N)) λO=>BH (((some []).bind Ii).bind λP=>some (.nx P)) λϦ=>BH (((some G).bind MA).bind λg=>DG g Ϧ λ(Q:(List ZPi)) j=>Ds (λR=>R) (((some j).bind MA).bind λl=>DG l Q λ(ϧ:(List ZPi)) C=>Ds (λS=>S) ((((((((((Vh (64:Int) C).bind λm=>some ((11:Int)+m)).bind λU=>some (U+j)).bind λX=>some (X,())).bind λY=>some (B,Y)).bind λE=>Bn E.1 E.2.1).bind λZ=>some (Z / 8)).bind λza=>some (za % 4)).bind λvI=>some (decide (vI < O))).bind λχ=>if χ=true then Ds (λo=>o) ((Nh ϧ (C,j)).bind λs=>some (.nx s))else some (.nx ϧ)))) λA=>some (.rt A)
noncomputable def Jz(g:Int)(j:Int):Option (List ZPi):=HN (Ju g j)
theorem Wf(W:Wd)(g:Int)(j:Int):VF (Mv W) [.v (D.int g),.v (D.int j)] (rN (oL (eP D.int D.int))) (Jz g j):=by
 refine FO (n:=6) (b:=M6 W) (p:=Ju g j) (B:=λ_=>[]) ?_;show VS [.v (D.int g),.v (D.int j),.u,.u,.u,.u] _ _ _ _;unfold M6 Ju;exact(A9 (Db (FQ (CZ rfl) (Gf rfl (GX rfl (Bx (Cq (AU rfl) (Cq (CZ rfl) CD)) (λo=>DO W o.1 o.2.1) (λ_=>rfl) Do))))) (λl=>(A9 (Hm (D4 (EY Fx))) (λϦ=>(A9 (Ek (s0:=Ϧ) (B:=(λ(m:(List ZPi))=>[.v (D.int g),.v (D.int j),.v (D.int l),.w 3 ((oL (eP D.int D.int)) m),.u,.u])) (Ea (AU rfl)) D0 (.refl _) (λC s=>(DB (Ek (s0:=C) (B:=(λ(E:(List ZPi))=>[.v (D.int g),.v (D.int j),.v (D.int l),.w 3 ((oL (eP D.int D.int)) E),.v (D.int s),.u])) (Ea (AU rfl)) D0 (.refl _) (λϧ G=>(DB (QN (B:=(λ(I:(List ZPi))=>[.v (D.int g),.v (D.int j),.v (D.int l),.w 3 ((oL (eP D.int D.int)) I),.v (D.int s),.v (D.int G)])) (LA (rE (Gf rfl (GX rfl (Bx (Cq (AU rfl) (Cq (FQ (FQ (CZ rfl) (Rj (CZ rfl) (AU rfl))) (AU rfl)) CD)) (λA=>DO W A.1 A.2.1) (λ_=>rfl) Do))) (AU rfl))) (DB (MZ rfl (jJ (AU rfl) (AU rfl)) rfl) (λJ=>(.refl _))) (Jn (.refl _))) (λN=>(.same (.same (.same (.same (.same (.drop .nil)))))))))) (λO=>(.same (.same (.same (.same (.drop (.same .nil)))))))))) (λL=>(NF rfl)))))))
noncomputable def Jv(m:Int)(o:Int)(s:Int):Option (Fw ZLi Unit):=
 BH (((some o).bind MA).bind λA=>some (.nx A)) λB=>BH (((some []).bind Ii).bind λC=>some (.nx C)) λE=>BH (((some s).bind MA).bind λϨ=>DG Ϩ (E,B) λ(g:ZLi×ZLi) G=>Ds (λj=>(j.1,j.2)) ((((Bn m ((5000:Int)+G)).bind λI=>some (I / 8)).bind λJ=>Ys J (g.2.length:Int)).bind λL=>(iR g.1 g.2 L).bind λN=>some (.nx N))) λl=>(Nt l.1 (Di l.1)).bind λO=>some (.rt O)
noncomputable def J8(g:Int)(j:Int)(l:Int):Option ZLi:=HN (Jv g j l)
theorem Wg(W:Wd)(g:Int)(l:Int)(m:Int):VF (Mw W) [.v (D.int g),.v (D.int l),.v (D.int m)] (rV (eT D.int)) (J8 g l m):=by
 refine FO (n:=6) (b:=M9 W) (p:=Jv g l m) (B:=λ_=>[]) ?_;show VS [.v (D.int g),.v (D.int l),.v (D.int m),.u,.u,.u] _ _ _ _;unfold M9 Jv;exact(A9 (Hm (D4 (bM (AU rfl)))) (λA=>(A9 (Hm (D4 (EY Fx))) (λC=>(A9 (Ek (s0:=(C,A)) (B:=(λ(o:ZLi×ZLi)=>[.v (D.int g),.v (D.int l),.v (D.int m),.w 3 ((oL D.int) o.2),.w 4 ((oL D.int) o.1),.u])) (Ea (AU rfl)) D0 (.refl _) (λE G=>(DB (bK (i:=4) (j:=3) rfl rfl (Uy (GX rfl (Bx (Cq (AU rfl) (Cq (FQ (CZ rfl) (AU rfl)) CD)) (λs=>DO W s.1 s.2.1) (λ_=>rfl) Do)) (Q4 (K9 rfl))) rfl rfl (by decide)) (λI=>(.same (.same (.same (.same (.same (.drop .nil)))))))))) (λJ=>(Gm (Io (IX (da (K9 rfl)))))))))))
noncomputable def Ic(g:ZLi):Option (Fw ZLi Unit):=
 BH (((((some (g.length:Int)).bind λm=>some (if (16:Int) < m then(16:Int)else m)).bind MA).bind λs=>IB s (λA=>some true) (λA=>some (0:Int))).bind λB=>some (.nx B)) λC=>BH (((some (g.length:Int)).bind MA).bind λE=>DG E C λ(o:ZLi) j=>Ds (λl=>l) (((atI o (j % 16)).bind λG=>(atI g j).bind λI=>some (G+I)).bind λJ=>(Z0 o (j % 16) J).bind λϨ=>some (.nx Ϩ))) λL=>some (.rt L)
noncomputable def Ig(g:ZLi):Option ZLi:=HN (Ic g)
theorem U2(W:Wd)(g:ZLi):VF (Lh W) [.v (eF g)] (rN (oL D.int)) (Ig g):=by
 refine FO (n:=3) (b:=Lk W) (p:=Ic g) (B:=λ_=>[]) ?_;show VS [.v (eF g),.u,.u] _ _ _ _;unfold Lk Ic;exact(A9 (Hm (D4 (Hy (VI.k (Ea (Zn (Zo (AU rfl)) (CZ rfl)))) (λl=>Jo) (λl=>(CZ rfl))))) (λm=>(A9 (Ek (s0:=m) (B:=(λ(j:ZLi)=>[.v (eF g),.w 1 ((oL D.int) j),.u])) (Ea (Zo (AU rfl))) D0 (.refl _) (λs A=>(DB (jB rfl (Gf rfl (AU rfl)) (FQ (FP (K9 rfl) (Gf rfl (AU rfl))) (mm (AU rfl) (AU rfl))) rfl) (λo=>(.same (.same (.drop .nil))))))) (λC=>(NF rfl)))))
noncomputable def JK(j:Int)(l:Int):Option (Fw Int Unit):=
 BH (some (.nx (1:Int))) λm=>BH (((some l).bind MA).bind λo=>DG o m λ(s:Int) g=>Ds (λA=>A) (((Vh s (j - g)).bind λB=>XQ B (g+(1:Int))).bind λC=>some (.nx C))) λE=>some (.rt E)
noncomputable def JL(g:Int)(j:Int):Option Int:=HN (JK g j)
theorem Rv(W:Wd)(g:Int)(j:Int):VF (JR W) [.v (D.int g),.v (D.int j)] (rV D.int) (JL g j):=by
 refine FO (n:=4) (b:=JT W) (p:=JK g j) (B:=λ_=>[]) ?_;show VS [.v (D.int g),.v (D.int j),.u,.u] _ _ _ _;unfold JT JK;exact(A9 (Db (CZ rfl)) (λl=>(A9 (Ek (s0:=l) (B:=(λ(m:Int)=>[.v (D.int g),.v (D.int j),.v (D.int m),.u])) (Ea (AU rfl)) D0 (.refl _) (λo s=>(DB (Db (Zq (Rj (AU rfl) (PU (AU rfl) (AU rfl))) (FQ (AU rfl) (CZ rfl)))) (λA=>(.same (.same (.same (.drop .nil)))))))) (λC=>(Gm (AU rfl))))))
noncomputable def cnt(p:Int):Nat->Int
 | 0=>1
 | i+1=>cnt p i * (p - i) / (i+1)
theorem iI(p:Nat):∀i:Nat,cnt p i=ch p i
 | 0=>by rw[RL];rfl
 | i+1=>by
  show cnt p i * (p - i) / (i+1)=_;rw[iI p i];have:=V9 p i;rw[qt,<-this,qt];exact Int.mul_ediv_cancel _ (by omega)
noncomputable def Gs(s:ZLi):Int:=match s.getLast? with
 | some x=>x+1
 | none=>0
noncomputable def ext(w:Nat)(k:Nat)(s:ZLi):List ZLi:=(Bl (w+k+1 - Gs s:Int).toNat).map λ(j:Nat)=>s++[Gs s+j]
noncomputable def TT(w:Nat):Nat->List ZLi
 | 0=>[[]]
 | k+1=>(TT w k).flatMap (ext w k)
theorem JN(s:ZLi)(x:Int):Gs (s++[x])=x+1:=by simp[Gs]
theorem iV(w:Nat):∀k:Nat,∀s∈TT w k,0<=Gs s/\Gs s<=w+k/\s.length=k
 | 0,s,h=>by
  have:s=[]:=by simpa[TT]using h
  subst this;simp[Gs]
 | k+1,s,h=>by
  simp only[TT,Lx]at h;obtain⟨t,l,g⟩:=h;obtain⟨o,A,m⟩:=iV w k t l;simp only[ext,BS,Jj]at g;obtain⟨j,B,rfl⟩:=g;rw[JN];simp[m];omega
noncomputable def Jq(w k:Nat)(s:ZLi):Nat:=(w+k - Gs s:Int).toNat
theorem QQ{j m:Type}(f:m->Nat)(g:j->List m):∀l:List j,((l.flatMap g).map f).sum=(l.map λa=>((g a).map f).sum).sum
 | []=>rfl
 | a :: l=>by rw[Kk,BZ,S6,QQ f g l,As,OZ]
theorem Zw(f:Nat->Nat):∀n:Nat,((Bl n).map λj=>f (n - 1 - j)).sum=((Bl n).map f).sum
 | 0=>rfl
 | n+1=>by
  rw[HR,As,OZ,BX,<-HR,Im,BZ,S6,<-Zw f n];simp
  have:(Jk ((λj=>f (n - j))∘Nat.succ) (Bl n))=(Jk (λj=>f (n - 1 - j)) (Bl n)):=by
   apply CN
   intro a _;simp
   congr 1
   omega
  rw[this];omega
theorem iT(w g:Nat):∀k:Nat,k<=g->((TT w k).map λs=>ch (Jq w k s+(g - k)) (g - k)).sum=ch (w+g) g
 | 0,_=>by simp[TT,Jq,Gs]
 | k+1,h=>by
  rw[<-iT w g k (by omega)];show(((TT w k).flatMap (ext w k)).map _).sum=_;rw[QQ]
  congr 1
  apply CN
  intro s m;obtain⟨A,B,_⟩:=iV w k s m
  have e:(w+k+1 - Gs s:Int).toNat=Jq w k s+1:=by unfold Jq;omega
  unfold ext;rw[e,BX]
  have o:(Jk ((λs=>ch (Jq w (k+1) s+(g - (k+1))) (g - (k+1)))∘λ(j:Nat)=>s++[Gs s+j]) (Bl (Jq w k s+1)))=Jk (λj=>(λi=>ch (i+(g - (k+1))) (g - (k+1))) (Jq w k s+1 - 1 - j)) (Bl (Jq w k s+1)):=by
   apply CN
   intro j l
   have l:j < Jq w k s+1:=by simpa using l
   simp only[YI]
   have:Jq w (k+1) (s++[Gs s+(j:Int)])=Jq w k s+1 - 1 - j:=by
    unfold Jq at l ⊢;rw[JN];omega
   rw[this]
  rw[o,Zw (λi=>ch (i+(g - (k+1))) (g - (k+1))),gd]
  congr 1 <;> omega
theorem iU(w g k:Nat)(h:k<=g):(TT w k).length<=ch (w+g) g:=by
 rw[<-iT w g k h]
 have:∀l:List ZLi,l.length<=(l.map λs=>ch (Jq w k s+(g - k)) (g - k)).sum:=by
  intro l
  induction l with
  | nil=>simp
  | cons s l j=>
   rw[As,OZ,Aj];have:=iK (n:=Jq w k s+(g - k)) (k:=g - k) (by omega);omega
 exact this _
theorem JW{g:Type}{l:List g}{x:g}:atI (l++[x]) (-1)=some x:=by
 unfold atI ixN;simp;rw[qX (by omega),show(-1+((l.length:Int)+1)).toNat=l.length by omega];simp
theorem kO{x y:Int}(h:-1000000<=y)(g:y<=1000000):Vh x y=some (x * y):=qX (lh h g)
theorem g9{x y:Int}(h:0 < y)(g:y<=1000000):XQ x y=some (x / y):=qX ⟨h,by lia⟩
theorem dW{o g:Nat}(ho:o<=60)(m:g<=60):Ec o g=some (ch o g:Int):=by
 rw[<-iI];refine Ok.is ?_;unfold Ec Fs;simp only[AB,BF];rw[G6 (by lia) (by lia),Am];simp only[AB];refine OkF.out (OkF.seq (OkF.for (λj (s:Int)=>s=cnt o j.length) rfl ?_) ?_)
 ·rintro j x s A l rfl
  obtain⟨rfl,B⟩:=R9 l;rw[kO (by lia) (by lia)];simp only[AB];rw[g9 (by lia) (by lia)];refine .nx ?_;rw[AV,Ac];show _=cnt o j.length * (o - j.length) / (j.length+1);rw[Int.zero_add]
 ·rintro s rfl
  rw[CV];exact .rt rfl
theorem cU{o g:Nat}(ho:o<=60)(j:g<=60):JL o g=some (ch o g:Int):=dW ho j
theorem P5(w k:Nat)(s:ZLi):ext w k s=(GZ (Gs s) (w+k+1 - Gs s:Int).toNat).map λx=>s++[x]:=by
 unfold ext GZ;rw[BX];rfl
theorem nM{w g:Nat}(B:w+g<=60)(C:ch (w+g) g<=400):Ko ((w+g:Nat):Int) (g:Int)=some (TT w g):=by
 refine Ok.is ?_;unfold Ko NI;simp only[AB,cK,ZC,BF];rw[G6 (by lia) (by lia),Am];simp only[AB];refine OkF.out (OkF.seq (OkF.for (λj (s:List ZLi)=>s=TT w j.length) rfl ?_) ?_)
 ·rintro j x s X E rfl
  obtain⟨rfl,Y⟩:=R9 E;have hb:=iV w j.length;have o:(TT w (j.length+1)).length<=400:=Au (iU w g (j.length+1) (by lia)) C;refine OkF.seq (OkF.for (λm (s:List ZLi)=>s=m.flatMap (ext w j.length)) rfl ?_) ?_
  ·rintro m t s G I rfl
   obtain⟨Z,b2,J⟩:=hb t G
   have L:(if (!t.isEmpty)=true then(atI t (-(1:Int))).bind λO=>some (O+(1:Int))else some (0:Int))=some (Gs t):=by
    rcases FH t with rfl | ⟨P,y,rfl⟩
    ·rfl
    ·rw[FI,show(!(P++[y]).isEmpty)=true by simp,qX rfl,show(-(1:Int)) = -1 from rfl,JW,JN]
     rfl
   rw[L];simp only[AB,BF];rw[jh (by lia) (by lia) (by lia) (by lia)];simp only[AB]
   have l:(m.flatMap (ext w j.length)).length+(ext w j.length t).length<=400:=by
    obtain⟨r,Q⟩:=I;refine Au ?_ o;show _<=((TT w j.length).flatMap (ext w j.length)).length;rw[<-Q];simp
   have S:(((w+g:Nat):Int) - g+(0+(j.length:Int))+1 - Gs t).toNat=(w+j.length+1 - Gs t:Int).toNat:=by congr 1;lia
   rw[S];rw[P5,AJ]at l;refine OkF.map (N:=λs=>s=m.flatMap (ext w j.length)++ext w j.length t) (OkF.imp (R:=λ_=>False) (OkF.for (λA (s:List ZLi)=>s=m.flatMap (ext w j.length)++A.map λx=>t++[x]) (by simp) ?_) (λs h=>by rw[h,P5]) λ_ h=>h.elim) ?_
   ·rintro A y s hy U rfl
    obtain⟨rfl,Ρ⟩:=R9 U;rw[CV]at l;rw[O2 (by rw[J];simp;lia)];simp only[AB];rw[KD (by rw[AV,AJ];lia)];refine .nx ?_;simp
   ·rintro s rfl
    simp
  ·rintro s rfl
   refine .nx ?_;rw[AV,Ac];rfl
 ·rintro s rfl
  rw[CV];exact .rt rfl
noncomputable def Stg(o g:Nat)(r:ZLi):Prop:=r.length=g/\(∀x∈r,0<=x/\x < (o:Int))/\r.Pairwise (· < ·)
theorem gB{s:ZLi}(h:s.Pairwise (· < ·))(h0:∀x∈s,0<=x):0<=Gs s/\∀y∈s,y < Gs s:=by
 rcases FH s with rfl | ⟨t,y,rfl⟩
 ·exact⟨Int.le_refl _,λ_ h=>nomatch h⟩
 ·rw[FI]at h h0 ⊢
  rw[JN];have:=h0 y (by simp);refine⟨by lia,λz g=>?_⟩
  rcases Bg.mp g with q | q
  ·have:=(IT.mp h).2.2 z q y (by simp);lia
  ·rw[Ab.mp q];lia
theorem ZS(w:Nat):∀(k:Nat) (s:ZLi),s∈TT w k↔Stg (w+k) k s
 | 0,s=>by
  show s∈[[]]↔_;rw[Ab];exact⟨λe=>by subst e;exact⟨rfl,λ_ h=>(nomatch h),.nil⟩,λh=>IV h.1⟩
 | k+1,s=>by
  show s∈(TT w k).flatMap (ext w k)↔_;rw[Lx]
  constructor
  ·rintro⟨t,m,o⟩
   obtain⟨l,q,p⟩:=(ZS w k t).mp m;rw[P5]at o;obtain⟨x,j,rfl⟩:=BS.mp o;rw[FY]at j
   obtain⟨G,B⟩:=gB p λx j=>(q x j).1
   refine⟨by rw[AV,l];rfl,λy g=>?_,IT.mpr ⟨p,Lw _ _,λy g z C=>?_⟩⟩
   ·rcases Bg.mp g with c | c
    ·have:=q y c;lia
    ·rw[Ab.mp c];lia
   ·rw[Ab.mp C]
    have:=B y g
    lia
  ·rintro⟨l,q,p⟩
   rcases FH s with rfl | ⟨t,x,rfl⟩
   ·cases l
   ·rw[FI]at l q p ⊢
    obtain⟨E,-,A⟩:=IT.mp p;have j:=q x (by simp);rw[AV,Ac]at l
    have m:Stg (w+k) k t:=⟨by lia,λy g=>by
     have a:=q y (Br _ g);have b:=A y g x (by simp)
     lia,E⟩
    refine⟨t,(ZS w k t).mpr m,?_⟩;rw[P5];refine BS.mpr ⟨x,FY.mpr ?_,rfl⟩
    have:Gs t<=x:=by
     rcases FH t with rfl | ⟨I,z,rfl⟩
     ·exact j.1
     ·rw[FI,JN]
      have:=A z (by simp) x (by simp)
      lia
    lia
theorem mE(w:Nat):∀k:Nat,(TT w k).Nodup
 | 0=>by show([[]]:List ZLi).Nodup;simp
 | k+1=>by
  refine YG.mpr ⟨λs _=>?_,(mE w k).imp λ{a b} l x g y j e=>?_⟩
  ·rw[P5,DD]
   exact(RB _ _).imp λ{a b} h e=>by
    have:=List.append_cancel_left e;simp at this
    lia
  ·rw[P5]at g j
   obtain⟨u,-,rfl⟩:=BS.mp g;obtain⟨v,-,rfl⟩:=BS.mp j;exact l (List.append_inj_left' e rfl)
end M
namespace L4
theorem dS{ρ g:Type}{c:g->Option Bool}{q:g->Option (Fw ρ g)}(I:g->Prop)(j:g->Nat)(h:∀s,I s->c s=some false∨(c s=some true/\∃s',q s=some (.nx s')/\I s'/\j s' < j s)) :
  ∀(n:Nat) (s:g),I s->j s < n->∃s',whF c q n s=some (.nx s')/\I s'/\c s'=some false
 | 0,s,_,m=>zX m (TK _)
 | n+1,s,o,m=>by
  unfold whF
  rcases h s o with l | ⟨l,s',A,B,C⟩
  ·rw[l]
   exact⟨s,rfl,o,l⟩
  ·rw[l]
   simp only[AB,if_true];rw[A];exact dS I j h n s' B (by lia)
end L4
namespace M
open PySem L2 L4
theorem RM(a b:Nat):BL (a:Int) (b:Int)=((a &&& b:Nat):Int):=by
 unfold BL;rw[wX (PN a),wX (PN b)];rfl
theorem VY(a b:Nat):Be (a:Int) (b:Int)=((a ||| b:Nat):Int):=by
 unfold Be BL dP;rw[wY (show ¬0<=-(a:Int) - 1 by lia),wY (show ¬0<=-(b:Int) - 1 by lia)];show -(-((((-(-(a:Int) - 1) - 1).toNat ||| (-(-(b:Int) - 1) - 1).toNat:Nat):Nat):Int) - 1) - 1=_;rw[show(-(-(a:Int) - 1) - 1).toNat=a by lia,show(-(-(b:Int) - 1) - 1).toNat=b by lia]
 lia
theorem kT:∀b:Nat,0 < b->∃i:Nat,b.testBit i=true/\(∀j,j < i->b.testBit j=false)/\b=(b &&& (b - 1))+2 ^ i/\∀j,(b &&& (b - 1)).testBit j=(b.testBit j&&!decide (i=j)):=by
 intro b
 induction b using Nat.strongRecOn with
 | ind b l=>
  intro hb
  rcases Nat.mod_two_eq_zero_or_one b with h | h
  ·obtain⟨i,m,o,A,s⟩:=l (b / 2) (by lia) (by lia)
   have d:=lQ (a:=b) (b:=b - 1);rw[show(b - 1) / 2=b / 2 - 1 by lia]at d;have m3:(b &&& (b - 1)) % 2=(b % 2 &&& (b - 1) % 2):=c6 (a:=b) (b:=b - 1) (n:=1);rw[h]at m3;simp at m3;refine⟨i+1,by rw[GP];exact m,λj g=>?_,?_,λj=>?_⟩
   ·cases j with
    | zero=>rw[GN];exact wY (by lia)
    | succ j=>rw[GP];exact o j (by lia)
   ·rw[Nat.pow_succ];lia
   ·cases j with
    | zero=>
     rw[GN,GN,wY (show ¬(b &&& (b - 1)) % 2=1 by lia),wY (show ¬b % 2=1 by lia)];rfl
    | succ j=>
     rw[GP,GP,d,s j]
     congr 2
     exact decide_eq_decide.mpr (by lia)
  ·have d:=lQ (a:=b) (b:=b - 1)
   rw[show(b - 1) / 2=b / 2 by omega,Nat.and_self]at d;have m3:(b &&& (b - 1)) % 2=(b % 2 &&& (b - 1) % 2):=c6 (a:=b) (b:=b - 1) (n:=1);rw[h,show(b - 1) % 2=0 by lia]at m3;simp at m3;refine⟨0,by rw[GN];exact wX h,λj g=>zX g (TK _),by rw[Nat.pow_zero];lia,λj=>?_⟩
   cases j with
   | zero=>
    rw[GN,GN,wY (show ¬(b &&& (b - 1)) % 2=1 by lia),wX h];rfl
   | succ j=>
    rw[GP,GP,d];simp
theorem bx{b i:Nat}(h:b=(b &&& (b - 1))+2 ^ i)(hb:0 < b):BL (b:Int) (-(b:Int))=((2 ^ i:Nat):Int):=by
 unfold BL dP;rw[wX (PN b),wY (show ¬0<=-(b:Int) by lia)];show(b:Int) - ((((b:Int).toNat &&& (- -(b:Int) - 1).toNat:Nat)):Int)=_;rw[show(- -(b:Int) - 1).toNat=b - 1 by lia,Am]
 lia
theorem iO(i:Nat):DY ((2 ^ i:Nat):Int)=i+1:=by
 unfold DY;have h:(2 ^ i:Nat)≠0:=DX (TJ i);rw[qY (by rw[beq_iff_eq];lia),Int.natAbs_natCast,Nat.log2_two_pow]
noncomputable def Bm(b:Nat)(l:ZLi):Prop:=l.Pairwise (· < ·)/\∀x:Int,x∈l↔0<=x/\b.testBit x.toNat=true
theorem NP{b N:Nat}(hb:b < 2 ^ N)(hN:N<=1000):Ok (Ev (b:Int)) (Bm b):=by
 unfold Ev NJ;simp only[AB,cK,BF]
 obtain⟨⟨t,l⟩,e,R,o⟩:=dS (ρ:=ZLi) (c:=λs:ZLi×Int=>some (s.2 != 0)) (q:=λs:ZLi×Int=>BH ((Nh s.1 ((DY (BL s.2 (-s.2)):Int) - 1)).bind λl=>some (.nx l)) λv=>Ds (λw=>(v,w)) (some (.nx (BL s.2 (s.2 - 1)))))
  (λs=>∃c:Nat,s.2=c/\s.1.Pairwise (· < ·)/\(∀x∈s.1,0<=x/\x < N/\b.testBit x.toNat=true/\∀j:Nat,c.testBit j=true->x < j)/\(∀j:Nat,b.testBit j=true->(j:Int)∈s.1∨c.testBit j=true)/\(∀j:Nat,c.testBit j=true->b.testBit j=true))
  (λs=>N - s.1.length) (by
   rintro s ⟨c,o,B,A,I,C⟩
   by_cases J:c=0
   ·left
    rw[o,J];rfl
   ·right
    obtain⟨i,E,S,U,G⟩:=kT c (by lia)
    have hi:i < N:=by
     have:=C i E
     refine iz λL=>?_
     have X:b.testBit i=false:=YD (AW hb (a9 (by decide) L));rw[X]at this;cases this
    have Q:s.1.length < N:=by
     have O:(s.1++[(i:Int)]).Nodup:=by
      refine HU.mpr ⟨B.imp λh=>by lia,by simp,λx g y P=>?_⟩;rw[Ab.mp P];have:=(A x g).2.2.2 i E
      lia
     have:=Ps (k:=GZ 0 N) O λx g=>by
      rw[FY]
      rcases Bg.mp g with g | g
      ·have:=A x g;omega
      ·rw[Ab.mp g];omega
     rw[CV,AV,Ac]at this;exact this
    refine⟨by rw[o];exact congrArg some (bne_iff_ne.mpr (by lia)),(s.1++[(i:Int)],((c &&& (c - 1):Nat):Int)),?_,⟨_,rfl,?_,λx g=>?_,λj m=>?_,λj m=>?_⟩,?_⟩
    ·rw[o,bx U (by lia),iO,KD (by lia),show(c:Int) - 1=((c - 1:Nat):Int) by lia,RM]
     simp only[AB,BF,NQ];rw[show((i+1:Nat):Int) - 1=(i:Int) by lia]
    ·refine IT.mpr ⟨B,Lw _ _,λx g y P=>?_⟩
     rw[Ab.mp P];exact(A x g).2.2.2 i E
    ·rcases Bg.mp g with g | g
     ·obtain⟨Y,Z,a3,a4⟩:=A x g
      refine⟨Y,Z,a3,λj m=>a4 j ?_⟩;rw[G j,B0]at m;exact m.1
     ·rw[Ab.mp g]
      refine⟨by lia,by lia,by rw[Am];exact C i E,λj m=>?_⟩;rw[G j,B0]at m
      have uT:i≠j:=by simpa using m.2
      have:¬j < i:=λz=>by rw[S j z]at m;exact zX m.1 AT
      lia
    ·rcases I j m with h | h
     ·exact .inl (Br _ h)
     ·by_cases e:i=j
      ·subst e;exact .inl (by simp)
      ·right
       rw[G j,h,wY e];rfl
    ·rw[G j,B0]at m
     exact C j m.1
    ·show N - (s.1++[(i:Int)]).length < N - s.1.length
     rw[AV,Ac]
     omega) wN ([],(b:Int)) ⟨b,rfl,.nil,λ_ h=>(nomatch h),λj m=>.inr m,λ_ h=>h⟩ (by show N - 0 < wN;unfold wN;lia)
 refine⟨t,?_,?_⟩
 ·rw[e]
  rfl
 ·obtain⟨c,vD,B,A,I,C⟩:=R
  have J:c=0:=by
   have o:=CC o
   have:(c:Int)=0:=by rw[<-vD];simpa using o
   lia
  subst J;refine⟨B,λx=>⟨λg=>⟨(A x g).1,(A x g).2.2.1⟩,λ⟨x0,g⟩=>?_⟩⟩
  rcases I x.toNat g with h | h
  ·rwa [Dr x0]at h
  ·simp at h
open PySem L2 L4
open Srt (ltL)
noncomputable def nr(ts:List ZPi)(x:Nat):ZLi:=Di (Cr ts x)
theorem fO:z∈nr ts x↔((x:Int),z)∈ts∨(z,(x:Int))∈ts:=by
 unfold nr;rw[(El _).mem_iff];unfold Cr;rw[Lx]
 constructor
 ·rintro⟨t,g,h⟩
  rcases Bg.mp h with h | h
  ·split at h
   ·rename_i e
    rw[Ab.mp h,<-e];exact .inl g
   ·cases h
  ·split at h
   ·rename_i e
    rw[Ab.mp h,<-e];exact .inr g
   ·cases h
 ·rintro(h | h)
  ·exact⟨_,h,Br _ (by simp)⟩
  ·exact⟨_,h,BN _ (by simp)⟩
theorem fS{o:Nat}{us:List ZPi}{g:Int}(h0:0<=g)(j:g < o):atI (Pr o us) g=some (nr us g.toNat):=by
 refine OK h0 ?_;unfold Pr;rw[Ae,Dm (by lia)];rfl
theorem oX{o:Nat}{us:List ZPi}{g:Int}(h0:0<=g)(j:g < o):VX (o,us) g=some (nr us g.toNat):=by
 unfold VX VW Cg EA;simp only[AB];rw[wX h0,qX rfl,wX j];simp only[AB];show HN (BH (((kE (some (Fw.nx ()))).bind λ_=>some (.nx ()))) λ_=>_)=_;simp only[kD,AB,BF];rw[fS h0 j];rfl
theorem Ip:x∈Di l↔x∈l:=(El l).mem_iff
theorem p0{l:ZLi}(h:∀x∈l,0<=x/\x < 100):∃n:Int,Hh l=some n:=by
 have:Ok (Hh l) λ_=>True:=by
  unfold Hh NK;simp only[AB,BF];refine OkF.out (OkF.seq (OkF.for (λ_ _=>True) trivial ?_) λ_ _=>.rt trivial);intro g x s j m _;have:=h x j;rw[show R1 1 x=some (1 * 2 ^ x.toNat)from qX ⟨by lia,by lia,by decide⟩];exact .nx trivial
 obtain⟨v,e,-⟩:=this;exact⟨v,e⟩
noncomputable def Tg(us:List ZPi)(g:Int):ZLi:=Di ([g]++nr us g.toNat)
noncomputable def tkl(o:Nat)(us:List ZPi):List ZLi:=(GZ 0 o).map (Tg us)
theorem rH{o:Nat}{us:List ZPi}{g:Int}(h0:0<=g)(j:g < o):atI (tkl o us) g=some (Tg us g):=by
 refine OK h0 ?_;unfold tkl GZ;rw[Ae,Ae,Dm (by lia)];show some (Tg us (0+(g.toNat:Int)))=_;rw[show(0:Int)+(g.toNat:Int)=g by lia]
structure Lr(o:Nat)(us:List ZPi):Prop where
 sm:o<=30
 len:∀g:Int,0<=g->g < o->(nr us g.toNat).length<=40
 rg:∀g:Int,0<=g->g < o->∀x∈nr us g.toNat,0<=x/\x < o/\x≠g
 nd:∀g:Int,0<=g->g < o->(nr us g.toNat).Nodup
section
variable{o:Nat}{us:List ZPi}
theorem p9:x∈Tg us g↔x=g∨x∈nr us g.toNat:=by
 unfold Tg;rw[Ip];simp
theorem Lr.tg(h:Lr o us){g:Int}(h0:0<=g)(j:g < o):(Tg us g).length<=41/\(∀x∈Tg us g,0<=x/\x < o)/\(Tg us g).Pairwise (· < ·):=by
 refine⟨?_,λx l=>?_,?_⟩
 ·unfold Tg
  rw[(El _).length_eq,AV,Ac];have:=h.len g h0 j
  lia
 ·rcases p9.mp l with rfl | l
  ·exact⟨h0,j⟩
  ·exact⟨(h.rg g h0 j x l).1,(h.rg g h0 j x l).2.1⟩
 ·have m:(Tg us g).Nodup:=by
   unfold Tg;rw[(El _).nodup_iff];show(g :: nr us g.toNat).Nodup;rw[Bz];exact⟨λz=>(h.rg g h0 j g z).2.2 rfl,h.nd g h0 j⟩
  have:=(Ry ([g]++nr us g.toNat))
  exact(Tt this m).imp λ⟨a,b⟩=>by lia
theorem jU(h:Lr o us):LQ (o,us)=some (tkl o us):=by
 unfold LQ LO;simp only[AB];rw[G6 (by lia) (by have:=h.sm;lia),Am];simp only[AB]
 rw[Gx (f:=Tg us) (by rw[CV];have:=h.sm;lia) λx j=>by
  obtain⟨g,m⟩:=FY.mp j;rw[oX g (by lia),ZC];simp only[AB];have l:=h.len x g (by lia);rw[O2 (by rw[Ac];lia)];simp only[AB];rw[O0 (by rw[AV,Ac];lia)]
  rfl]
 rfl
end
structure Sz(o g:Nat):Prop where
 h1:1<=g
 le:g<=o
 sm:o<=30
 fw:ch o g<=400
noncomputable def sts(o g:Nat):List ZLi:=TT (o - g) g
section
variable{o g:Nat}{us:List ZPi}{r:ZLi}
theorem LF(z:Sz o g):r∈sts o g↔Stg o g r:=by
 have:=ZS (o - g) g r;rwa [KL z.le]at this
theorem U9(z:Sz o g):(sts o g).Nodup:=mE _ _
theorem Ho(z:Sz o g):(sts o g).length<=400:=by
 have:=iU (o - g) g g (AO _);rw[KL z.le]at this;exact Au this z.fw
theorem fZ(m:1<=g)(s:g<=o)(j:o<=60):FV (o,us) g=some (ch o g:Int):=by
 unfold FV LP;rw[wX (show(1:Int)<=(g:Int) by lia),qX rfl,wX (show(g:Int)<=(o:Int) by lia)];show HN (BH (some (.nx ())) λ_=>(Ec o g).bind λl=>some (.rt l))=_;rw[dW j (by lia)];rfl
theorem bU(z:Sz o g):Jy (o,us) g=some (sts o g):=by
 have l:=z.h1;have j:=z.le;have A:=z.sm;have m:=z.fw;unfold Jy Js;rw[fZ l j (by lia)];simp only[AB];rw[wY (show ¬(400:Int) < (ch o g:Int) by lia)];have:=nM (w:=o - g) (g:=g) (by lia) (by rw[KL j];exact m);rw[KL j]at this;show HN (BH (some (.nx ())) λ_=>(Ko o g).bind λs=>some (.rt s))=_;rw[this];rfl
end
theorem UT(h:ev[i]?=some r):(EE ev).take (i+1)=(EE ev).take i++[((i:Int),r)]:=by
 rw[HQ]
 congr 1
 unfold EE;rw[Ae,Nm,h];simp
theorem fM{ev:List ZLi}(A:ev.Nodup){i:Nat}{r:ZLi}(h:ev[i]?=some r):Dc (nuF ev) r=some (i:Int):=by
 have l:∀k:Nat,k<=ev.length->∀(j:Nat) (s:ZLi),j < k->ev[j]?=some s->Dc (((EE ev).take k).foldl nuS []) s=some (j:Int):=by
  intro k
  induction k with
  | zero=>intro _ j s m;exact zX m (TK _)
  | succ k B=>
   intro G j s m g;have o:ev[k]?=some (ev[k]'(by lia)):=Ax (by lia);rw[UT o,HW];show Dc (Go _ _ _) s=_;rw[Wb]
   by_cases e:j=k
   ·subst e
    rw[o]at g;cases g;rw[qX rfl]
   ·rw[qY,B (by lia) j s (by lia) g]
    intro c;obtain⟨C,E⟩:=AF.mp g;rw[<-E]at c;exact Uo.mp A j k C (by lia) (by lia) c
 have:=l ev.length (AO _) i r (AF.mp h).1 h;rwa [MP (by unfold EE;simp)]at this
noncomputable def Hb(H:ZLi)(n:Nat)(P:Nat->Nat->Prop):Prop:=H.length=n/\∀p:Nat,p < n->∃h:Nat,H[p]?=some (h:Int)/\∀j,h.testBit j=true↔P p j
theorem gc{n k:Nat}:∀(r:ZLi) {H:ZLi} {P:Nat->Nat->Prop},(∀x∈r,0<=x/\x < (n:Int))->Hb H n P->Hb (r.foldl (hvP (k:Int)) H) n (λp j=>P p j∨((p:Int)∈r/\j=k))
 | [],H,P,_,h=>⟨h.1,λp g=>by
  obtain⟨b,s,l⟩:=h.2 p g
  exact⟨b,s,λj=>by rw[l];simp⟩⟩
 | x :: r,H,P,A,h=>by
  obtain⟨C,E⟩:=A x (Ah ..)
  have s:Hb (hvP (k:Int) H x) n (λp j=>P p j∨((p:Int)=x/\j=k)):=by
   refine⟨by unfold hvP;rw[Cw];exact h.1,λp g=>?_⟩;obtain⟨b,m,o⟩:=h.2 p g;unfold hvP;rw[EM]
   by_cases c:x.toNat=p
   ·rw[qX c,qX (by rw[h.1];lia)]
    refine⟨b ||| 2 ^ k,?_,λj=>?_⟩
    ·rw[Jl,c,m,QF,Am,show(1:Int) * 2 ^ k=((2 ^ k:Nat):Int) by rw[tw];norm_cast,VY]
    ·rw[Um,MX,o,Ja]
     rw[decide_eq_true_eq]
     have:(p:Int)=x:=by lia
     exact or_congr_right ⟨λe=>⟨this,e.symm⟩,λe=>e.2.symm⟩
   ·rw[qY c]
    refine⟨b,m,λj=>?_⟩;rw[o]
    have:¬(p:Int)=x:=by lia
    exact⟨.inl,λz=>z.elim id λz=>zX z.1 this⟩
  have l:=gc (k:=k) r (λy B=>A y (AS _ B)) s;refine⟨l.1,λp g=>?_⟩;obtain⟨b,m,o⟩:=l.2 p g;refine⟨b,m,λj=>(o j).trans ?_⟩;dsimp only;rw[Aq]
  constructor
  ·rintro((a | ⟨a,e⟩) | ⟨a,e⟩)
   ·exact .inl a
   ·exact .inr ⟨.inl a,e⟩
   ·exact .inr ⟨.inr a,e⟩
  ·rintro(a | ⟨a | a,e⟩)
   ·exact .inl (.inl a)
   ·exact .inl (.inr ⟨a,e⟩)
   ·exact .inr ⟨a,e⟩
theorem tG{n:Nat}{ev:List ZLi}(E:∀r∈ev,∀x∈r,0<=x/\x < (n:Int)):Hb (hvF n ev) n (λp j=>∃r,ev[j]?=some r/\(p:Int)∈r):=by
 have m:∀k:Nat,k<=ev.length->Hb (((EE ev).take k).foldl hvS (hv0 n)) n (λp j=>j < k/\∃r,ev[j]?=some r/\(p:Int)∈r):=by
  intro k
  induction k with
  | zero=>
   intro _;refine⟨by unfold hv0;rw[lR,Tr,AJ,CV],λp g=>⟨0,?_,λj=>by simp⟩⟩;unfold hv0;rw[lR,Tr,Ae,Ax (by rw[CV];exact g)];rfl
  | succ k G=>
   intro J;have o:ev[k]?=some (ev[k]'(by lia)):=Ax (by lia);rw[UT o,HW];have l:=gc (k:=k) ev[k] (E _ (Q1 _)) (G (by lia));refine⟨l.1,λp g=>?_⟩;obtain⟨b,s,A⟩:=l.2 p g;refine⟨b,s,λj=>(A j).trans ?_⟩
   constructor
   ·rintro(⟨a,q⟩ | ⟨a,rfl⟩)
    ·exact⟨by lia,q⟩
    ·exact⟨by lia,_,o,a⟩
   ·rintro⟨a,r,B,C⟩
    by_cases e:j=k
    ·subst e
     rw[o]at B;cases B;exact .inr ⟨C,rfl⟩
    ·exact .inl ⟨by lia,r,B,C⟩
 have:=m ev.length (AO _);rw[MP (by unfold EE;simp)]at this;refine⟨this.1,λp g=>?_⟩;obtain⟨b,s,A⟩:=this.2 p g;refine⟨b,s,λj=>(A j).trans ?_⟩;exact⟨λh=>h.2,λ⟨r,l,I⟩=>⟨(AF.mp l).1,r,l,I⟩⟩
theorem Wn(h:l.Nodup):(Di l).Pairwise (· < ·):=(Tt (Ry l) ((El l).nodup_iff.mpr h)).imp λ⟨a,b⟩=>by lia
theorem Zu{s:ZLi}(h:s.Pairwise (· < ·)):s.Nodup:=h.imp λh=>by lia
noncomputable def wst(r:ZLi)(a b:Int):ZLi:=r.map λx=>if x=a then b else x
theorem rA(g:r.length<=1000)(a b:Int):Jx r a b=some (wst r a b):=by
 unfold Jx Jr
 rw[Gx (f:=λx=>if x=a then b else x) (by lia) λx _=>by
  by_cases c:x=a
  ·rw[wX c,qX rfl,qX c]
  ·rw[wY c,qY AT,qY c]]
 rfl
theorem Uw(g:a∈r):x∈wst r a b↔x=b∨(x∈r/\x≠a):=by
 unfold wst;rw[BS]
 constructor
 ·rintro⟨y,j,rfl⟩
  split
  ·exact .inl rfl
  ·rename_i c;exact .inr ⟨j,c⟩
 ·rintro(rfl | ⟨h,c⟩)
  ·exact⟨a,g,qX rfl⟩
  ·exact⟨x,h,qY c⟩
theorem mV(j:r.Nodup)(hb:b∉r):(wst r a b).Nodup:=by
 unfold wst List.Nodup;rw[DD]
 refine j.imp_of_mem λ{x y} l m g=>?_
 split <;> split
 ·rename_i c d;exact zX (c.trans d.symm) g
 ·intro e;exact hb (by rw[e];exact m)
 ·intro e;exact hb (by rw[<-e];exact l)
 ·exact g
structure Fk(o g:Nat)(us:List ZPi)(kd:Str)(f:Fp):Prop where
 ev:f.ev=sts o g
 kd:f.kd=kd
 tk:f.tk=tkl o us
 nu:f.nu=nuF (sts o g)
 hv:f.hv=hvF o (sts o g)
section
variable{o g:Nat}{us:List ZPi}{kd:Str}{f:Fp}{r r':ZLi}{i:Nat}
theorem kr(h:Lr o us)(z:Sz o g):Ok (NM (o,us) g kd) (Fk o g us kd):=by
 have s:=h.sm;have A:=Ho z;unfold NM;rw[bU z,jU h];simp only[AB]
 rw[Gx (f:=λr=>(Hh r).getD 0) (by lia) λr j=>by
  obtain⟨n,e⟩:=p0 (l:=r) λx m=>by have:=((LF z).mp j).2.1 x m;lia
  rw[e]
  rfl]
 simp only[AB];rw[qX ⟨by lia,by show o<=1000;lia,λr j x m=>((LF z).mp j).2.1 x m⟩];exact⟨_,rfl,rfl,rfl,rfl,rfl,rfl⟩
noncomputable def Lk1(us:List ZPi)(r r':ZLi):Prop:=∃a∈r,∃b∈Tg us a,b∉r/\Di (wst r a b)=r'
theorem i6(h:Lr o us){a b:Int}(A:Stg o g r)(m:a∈r)(hb:b∈Tg us a)(j:b∉r):Stg o g (Di (wst r a b)):=by
 obtain⟨l,q,p⟩:=A;have s:=q a m;have B:=(h.tg s.1 s.2).2.1 b hb;refine⟨by rw[(El _).length_eq];unfold wst;rw[AJ];exact l,λx C=>?_,Wn (mV (Zu p) j)⟩
 rcases(Uw m).mp (Ip.mp C)with rfl | ⟨h,_⟩
 ·exact B
 ·exact q x h
theorem NA(h:l[i]?=some x):atI l (i:Int)=some x:=OK (by lia) (by rw[Am];exact h)
theorem iP{b n:Nat}{P:Nat->Prop}(hb:∀j,b.testBit j=true↔P j)(j:Nat):(b ||| 2 ^ n).testBit j=true↔P j∨n=j:=by
 rw[Um,MX,hb,Ja,decide_eq_true_eq]
theorem Q7{n:Nat}(h:n<=1000000):R1 1 (n:Int)=some ((2 ^ n:Nat):Int):=by
 unfold R1;rw[qX ⟨by lia,by lia,by decide⟩,Am,tw]
 norm_cast
theorem sM(h:Lr o us)(z:Sz o g)(F:Fk o g us kd f)(O:(sts o g)[i]?=some r):Ok (D3 f i) λv=>∃l:Nat,v=l/\∀j,l.testBit j=true↔∃r',(sts o g)[j]?=some r'/\Lk1 us r r':=by
 have Y:=h.sm;have Z:=z.le;have A:=(LF z).mp (Ca O);have hl:=Ho z;unfold D3 D2;rw[F.ev,NA O];simp only[AB,BF];refine OkF.out (OkF.seq (OkF.for (λm (s:Int)=>∃l:Nat,s=l/\∀j,l.testBit j=true↔∃r',(sts o g)[j]?=some r'/\∃a∈m,∃b∈Tg us a,b∉r/\Di (wst r a b)=r') ⟨0,rfl,λj=>by simp⟩ ?_) ?_)
 ·rintro m a s P hp ⟨l,rfl,C⟩
  have Q:=A.2.1 a P;rw[F.tk,rH Q.1 Q.2];simp only[AB];refine OkF.map (N:=λs:Int=>∃l:Nat,s=l/\∀j,l.testBit j=true↔∃r',(sts o g)[j]?=some r'/\((∃a∈m,∃b∈Tg us a,b∉r/\Di (wst r a b)=r')∨∃b∈Tg us a,b∉r/\Di (wst r a b)=r')) (OkF.for (λR (s:Int)=>∃l:Nat,s=l/\∀j,l.testBit j=true↔∃r',(sts o g)[j]?=some r'/\((∃a∈m,∃b∈Tg us a,b∉r/\Di (wst r a b)=r')∨∃b∈R,b∉r/\Di (wst r a b)=r')) ⟨l,rfl,λj=>by rw[C];simp⟩ ?_) ?_
  ·rintro R b s hb w5 ⟨l,rfl,B⟩
   by_cases c:b∈r
   ·rw[wX c]
    refine .nx ⟨l,rfl,λj=>(B j).trans ⟨λ⟨r',e,z⟩=>⟨r',e,z.imp id λ⟨b,hb,z⟩=>⟨b,Br _ hb,z⟩⟩,λ⟨r',e,z⟩=>⟨r',e,z.imp id λ⟨E,G,z⟩=>?_⟩⟩⟩
    rcases Bg.mp G with q | q
    ·exact⟨E,q,z⟩
    ·rw[Ab.mp q]at z
     exact zX c z.1
   ·rw[wY c]
    have hw:=i6 h A P hb c;obtain⟨k,S,U⟩:=bC ((LF z).mpr hw)
    have ϩ:(sts o g)[k]?=some (Di (wst r a b)):=by rw[Ax S,U]
    simp only[Bool.not_false,if_true];rw[rA (by rw[A.1];lia)];simp only[AB];rw[O0 (by unfold wst;rw[AJ,A.1];lia)];simp only[AB];rw[F.nu,fM (U9 z) ϩ];simp only[AB];rw[Q7 (by lia)];simp only[AB];rw[VY];refine .nx ⟨_,rfl,λj=>(iP B j).trans ⟨?_,?_⟩⟩
    ·rintro(⟨r',e,z⟩ | rfl)
     ·exact⟨r',e,z.imp id λ⟨b,hb,z⟩=>⟨b,Br _ hb,z⟩⟩
     ·exact⟨_,ϩ,.inr ⟨b,by simp,c,rfl⟩⟩
    ·rintro⟨r',e,z | ⟨E,G,X,I⟩⟩
     ·exact .inl ⟨r',e,.inl z⟩
     ·rcases Bg.mp G with q | q
      ·exact .inl ⟨r',e,.inr ⟨E,q,X,I⟩⟩
      ·right
       rw[Ab.mp q]at I;rw[<-I,<-ϩ]at e;exact(List.getElem?_inj S (U9 z)).mp e.symm
  ·rintro s ⟨l,rfl,B⟩
   refine⟨l,rfl,λj=>(B j).trans ⟨λ⟨r',e,z⟩=>⟨r',e,?_⟩,λ⟨r',e,J,L,z⟩=>⟨r',e,?_⟩⟩⟩
   ·rcases z with⟨J,L,z⟩ | z
    ·exact⟨J,Br _ L,z⟩
    ·exact⟨a,by simp,z⟩
   ·rcases Bg.mp L with q | q
    ·exact .inl ⟨J,q,z⟩
    ·rw[Ab.mp q]at z
     exact .inr z
 ·rintro s ⟨l,rfl,C⟩
  exact .rt ⟨l,rfl,C⟩
theorem fy(h:Lr o us)(z:Sz o g)(F:Fk o g us "one" f) (m:(sts o g)[i]?=some r):Ok (FW f i) λv=>∃l:Nat,v=l/\∀j,l.testBit j=true↔∃r',(sts o g)[j]?=some r'/\Lk1 us r r':=by
 have s:=Ho z;have A:=(AF.mp m).1;unfold FW LR;rw[qX ⟨by lia,by lia⟩,F.kd,wX rfl,qX rfl];exact sM h z F m
theorem Xd(h:Lr o us)(z:Sz o g)(F:Fk o g us "one" f) (s:(sts o g)[i]?=some r) {c:Int} (C:0<=c/\c < o):Ok (Ed f i c) λv=>∃l:Nat,v=l/\∀j,l.testBit j=true↔∃r',(sts o g)[j]?=some r'/\Lk1 us r r'/\c∈r':=by
 obtain⟨v,e,l,rfl,G⟩:=fy h z F s
 obtain⟨-,I⟩:=tG (n:=o) (ev:=sts o g) λr s x J=>((LF z).mp s).2.1 x J
 obtain⟨b,L,N⟩:=I c.toNat (by lia);unfold Ed G9;dsimp only;rw[e,F.hv,OK C.1 L];simp only[AB];rw[RM];refine⟨_,rfl,_,rfl,λj=>?_⟩;rw[Iv,B0,G,N];dsimp only;rw[Dr C.1];exact⟨λ⟨⟨r',m,A⟩,r'',E,B⟩=>by rw[m]at E;cases E;exact⟨r',m,A,B⟩,λ⟨r',m,A,B⟩=>⟨⟨r',m,A⟩,r',m,B⟩⟩
end
open PySem L2 L4
theorem WB{b N i:Nat}(hb:b < 2 ^ N)(h:b.testBit i=true):i < N:=iz λg=>by
 have:=YD (AW hb (a9 (by decide) g));rw[this]at h;cases h
theorem Vo{b N:Nat}(h:∀j,b.testBit j=true->j < N):b < 2 ^ N:=Nat.lt_pow_two_of_testBit b λi g=>by
 cases e:b.testBit i with
 | false=>rfl
 | true=>exact zX (h i e) (by lia)
theorem V2{b:Nat}(h:b≠0):∃j,b.testBit j=true:=Nat.exists_testBit_of_ne_zero h
theorem lA{rs:List ZLi}(h:rs≠[]):∃b,Xc rs=some b/\b∈rs:=by
 have g:∀(f:Nat->Nat->Bool) k,GH f k<=k:=by
  intro f k
  induction k with
  | zero=>exact AO _
  | succ k m=>
   unfold GH;split
   ·exact AO _
   ·lia
 have o:0 < rs.length:=List.length_pos_iff.mpr h;unfold Xc;have a:=g (λi j=>HT.lexLt (rs.getD i []) (rs.getD j [])) (rs.length - 1);generalize GH (λi j=>HT.lexLt (rs.getD i []) (rs.getD j [])) (rs.length - 1)=n at a
 have l:n < rs.length:=by omega
 exact⟨rs[n],Ax l,Q1 l⟩
noncomputable def NX(o g:Nat)(us:List ZPi)(n:Nat)(c:Int)(j:Nat):Prop:=∃r,(sts o g)[n]?=some r/\((c∈r/\j=n)∨(c∉r/\∃l,(sts o g)[j]?=some l/\Lk1 us r l/\c∈l))
noncomputable def evN(o g:Nat)(x:Int):ZLi:=(sts o g).getD x.toNat []
theorem ZF{o g i:Nat}{r:ZLi}(h:(sts o g)[i]?=some r):evN o g (i:Int)=r:=by
 unfold evN;rw[Am,Jl,h];rfl
section
variable{o g:Nat}{us:List ZPi}{f:Fp}{n b:Nat}{r:ZLi}{c:Int}
theorem NX.lt(h:NX o g us n c j):j < (sts o g).length:=by
 obtain⟨r,l,⟨_,rfl⟩ | ⟨_,s,m,_⟩⟩:=h
 ·exact(AF.mp l).1
 ·exact(AF.mp m).1
theorem fR(h:Lr o us)(z:Sz o g)(F:Fk o g us "one" f) (B:n < (sts o g).length) (C:0<=c/\c < o):Ok (EC f n c) λv=>∃l:Nat,v=l/\l < 2 ^ (sts o g).length/\∀j,l.testBit j=true↔NX o g us n c j:=by
 have m:(sts o g)[n]?=some (sts o g)[n]:=Ax B;have I:=Ho z;generalize (sts o g)[n]=r at m
 suffices q:Ok (EC f n c) λv=>∃l:Nat,v=l/\∀j,l.testBit j=true↔NX o g us n c j by
  obtain⟨v,e,l,rfl,hb⟩:=q;exact⟨_,e,l,rfl,Vo λj E=>((hb j).mp E).lt,hb⟩
 unfold EC Jt;rw[F.ev,NA m];simp only[AB]
 by_cases q:c∈r
 ·rw[wX q,qX rfl,Q7 (by lia)]
  refine⟨_,rfl,_,rfl,λj=>?_⟩;rw[Ja,decide_eq_true_eq];refine⟨λe=>⟨r,m,.inl ⟨q,e.symm⟩⟩,?_⟩;rintro⟨G,s,⟨-,rfl⟩ | ⟨A,-⟩⟩
  ·rfl
  ·rw[m]at s;cases s;exact zX q A
 ·rw[wY q,qY AT]
  simp only[BF];obtain⟨v,e,l,rfl,hb⟩:=Xd h z F m C;rw[e];refine⟨_,rfl,l,rfl,λj=>(hb j).trans ⟨λe=>⟨r,m,.inr ⟨q,e⟩⟩,?_⟩⟩;rintro⟨G,s,⟨A,-⟩ | ⟨-,A⟩⟩
  ·rw[m]at s;cases s;exact zX A q
  ·rw[m]at s;cases s;exact A
theorem iS(h:Lr o us)(z:Sz o g)(F:Fk o g us "one" f) (Q:(sts o g)[n]?=some r) (R:c∉r) (hb:b < 2 ^ (sts o g).length) (J:b≠0) (S:∀j,b.testBit j=true->∃r',(sts o g)[j]?=some r'/\Lk1 us r r'/\c∈r') :
  Ok (DR f n c b) λs=>∃j,s.length=g/\b.testBit j=true/\(sts o g)[j]?=some (Di s):=by
 have sm:=h.sm;have zl:=z.le;have U:=(LF z).mp (Ca Q);have hl:=Ho z;obtain⟨l,el,l1,G⟩:=NP hb (by lia);obtain⟨j0,L⟩:=V2 J;have m:(j0:Int)∈l:=(G _).mpr ⟨by lia,by rw[Am];exact L⟩
 have ο:l.length<=400:=by
  have:=Ps (k:=GZ 0 (sts o g).length) (Zu l1) λx A=>by
   obtain⟨B,N⟩:=(G x).mp A;have:=WB hb N;rw[FY]
   lia
  rw[CV]at this
  lia
 unfold DR EB;rw[F.ev,NA Q,F.kd,el];simp only[AB,BF];rw[wY (show ¬(("one" : Str) = "all") by decide +kernel),qY AT];simp only[BF,cK,AB];refine OkF.out (OkF.seq (OkF.for (λC (s:List ZLi)=>s=C.map λx=>r.map λy=>if y∈evN o g x then y else c) rfl ?_) ?_)
 ·rintro C x s A hp rfl
  have ub:=hp.length_le;rw[AV,Ac]at ub;obtain⟨B,I⟩:=(G x).mp A;obtain⟨r',E,-⟩:=S _ I
  have ex:evN o g x=r':=by have:=ZF E;rwa [Dr B]at this
  rw[Gx (f:=λy=>if y∈evN o g x then y else c) (by rw[U.1];lia) λy _=>by
   rw[OK B E];simp only[AB];rw[ex]
   by_cases q:y∈r'
   ·rw[wX q,qX rfl,qX q]
   ·rw[wY q,qY AT,qY q]]
  simp only[AB];rw[KD (by rw[AJ];lia)];refine .nx ?_;rw[BZ];rfl
 ·rintro s rfl
  obtain⟨w,ew,hw⟩:=lA (rs:=l.map λx=>r.map λy=>if y∈evN o g x then y else c) (λz=>by rw[List.map_eq_nil_iff.mp z]at m;cases m);rw[ew];obtain⟨x,A,rfl⟩:=BS.mp hw;obtain⟨B,I⟩:=(G x).mp A;obtain⟨r',E,e3,X⟩:=S _ I
  have ex:evN o g x=r':=by have:=ZF E;rwa [Dr B]at this
  obtain⟨a,Y,d,hd,hdr,O⟩:=e3
  have cd:c=d:=by
   rw[<-O]at X
   rcases(Uw Y).mp (Ip.mp X)with q | q
   ·exact q
   ·exact zX q.1 R
  subst cd
  have P:(r.map λy=>if y∈evN o g x then y else c)=wst r a c:=by
   unfold wst
   refine CN λy Z=>?_
   have:y∈evN o g x↔¬y=a:=by
    rw[ex,<-O,Ip,Uw Y];exact⟨λq=>q.elim (λq=>zX Z (by rw[q];exact R)) (·.2),λq=>.inr ⟨Z,q⟩⟩
   by_cases q:y=a
   ·rw[qX q,qY (λz=>this.mp z q)]
   ·rw[qY q,qX (this.mpr q)]
  refine .rt ⟨x.toNat,by rw[AJ];exact U.1,I,?_⟩;rw[P,O];exact E
end
noncomputable abbrev cz(n:Nat):Int:=(n:Int)
noncomputable def Xi(N:Nat)(X:Nat->Int->Nat->Prop):ZLi->List Nat->Prop
 | [],[b]=>b < 2 ^ N/\b≠0
 | c :: l,b :: g :: L=>b < 2 ^ N/\(∀j,g.testBit j=true->∃n,b.testBit n=true/\X n c j)/\Xi N X l (g :: L)
 | _,_=>False
noncomputable def Kp(N:Nat)(X:Nat->Int->Nat->Prop):ZLi->List Nat->Prop
 | [],[k]=>k < 2 ^ N
 | c :: l,k :: g :: m=>k < 2 ^ N/\(∀n,k.testBit n=true->∃j,X n c j/\g.testBit j=true)/\Kp N X l (g :: m)
 | _,_=>False
theorem Sb{g j ρ:Type}{q:j->g->Option (Fw ρ j)}{x:g}:∀{l:List g} {s s':j},DG l s q=some (.nx s')->(∀s y t,y∈l->q s y≠some (.bk t))->DG (l++[x]) s q=DG [x] s' q
 | [],s,s',h,_=>by cases h;rfl
 | y :: l,s,s',h,hb=>by
  unfold DG at h;show DG (y :: (l++[x])) s q=_
  conv=>lhs;unfold DG
  cases e:q s y with
  | none=>rw[e]at h;cases h
  | some v=>
   rw[e]at h
   cases v with
   | nx t=>exact Sb h λs z t m=>hb s z t (AS _ m)
   | ct t=>exact Sb h λs z t m=>hb s z t (AS _ m)
   | bk t=>exact zX e (hb s y t Ah)
   | rt t=>cases h
theorem Z9{ρ g j:Type}{p:Option (Fw ρ g)}{k:g->Option (Fw ρ j)}(h:∀s t,k s≠some (.bk t)):∀t,BH p k≠some (.bk t):=λt e=>by
 match p,e with
 | some (.nx s),e=>exact h s t e
theorem oY{ρ g j:Type}{p:Option (Fw ρ g)}{k:g->j}(h:∀t,p≠some (.bk t)):∀t,Ds k p≠some (.bk t):=λt e=>by
 match p,h,e with
 | some (.bk s),h,_=>exact h s rfl
section
variable{o g:Nat}{us:List ZPi}{f:Fp}{n b:Nat}{c:Int}
theorem RE{l:ZLi}(hb:b < 2 ^ N)(m:Bm b l){x:Int}(s:x∈l):∃k:Nat,x=k/\k < N/\b.testBit k=true:=by
 obtain⟨A,j⟩:=(m.2 x).mp s;exact⟨x.toNat,by lia,WB hb j,j⟩
theorem jj(h:Lr o us)(z:Sz o g)(F:Fk o g us "one" f) (C:0<=c/\c < o) (hb:b < 2 ^ (sts o g).length):OkF (ρ:=ZLi) ((Ev (b:Int)).bind λE=>DG E (0:Int) λ(G:Int) I=>Ds (λJ=>J) ((EC f I c).bind λL=>some (.nx (Be G L))))
  (λs=>∃l:Nat,s=l/\l < 2 ^ (sts o g).length/\∀j,l.testBit j=true->∃n,b.testBit n=true/\NX o g us n c j) (λ_=>False):=by
 have Z:=Ho z;obtain⟨l,N,O⟩:=NP hb (by lia);rw[N];simp only[AB];refine OkF.for (λA (s:Int)=>∃l:Nat,s=l/\l < 2 ^ (sts o g).length/\∀j,l.testBit j=true->∃n,b.testBit n=true/\NX o g us n c j) ⟨0,rfl,TJ _,λj=>by simp⟩ ?_;rintro A x s P hp ⟨v,rfl,Q,B⟩;obtain⟨k,rfl,R,S⟩:=RE hb O P;obtain⟨w,U,v2,rfl,X,Y⟩:=fR h z F R C;rw[U];simp only[AB,NQ];rw[VY];refine .nx ⟨_,rfl,Nat.or_lt_two_pow Q X,λj m=>?_⟩;rw[Um,MX]at m
 rcases m with m | m
 ·exact B j m
 ·exact⟨k,S,(Y j).mp m⟩
theorem UN(h:Lr o us)(z:Sz o g)(F:Fk o g us "one" f) {q:ZLi->Int->Option (Fw ZLi ZLi)}
  (I:q=λ(J:ZLi) S=>BH (some (.nx (0:Int))) λU=>BH ((((atI J (-(1:Int))).bind λX=>some (X,())).bind λY=>Ev Y.1).bind λZ=>DG Z U λ(vH:Int) vI=>Ds (λyd=>yd) ((EC f vI S).bind λwy=>some (.nx (Be vH wy)))) λN=>BH ((Nh J N).bind λϗ=>some (.nx ϗ)) λzN=>Ds (λ_=>zN) (if (decide (N=(0:Int)))=true then some (.bk ())else some (.nx ()))) :
  ∀(m:ZLi) (l:ZLi) (b:Nat),(∀c∈m,0<=c/\c < (o:Int))->b < 2 ^ (sts o g).length->b≠0->l.length+m.length<=1000 ->
   ∃s,DG m (l++[(b:Int)]) q=some (.nx s)/\((∃L,s=l++(b :: L).map cz/\Xi (sts o g).length (NX o g us) m (b :: L))∨∃p O,s=p++[((O:Nat):Int)]++[0]/\O < 2 ^ (sts o g).length)
 | [],l,b,_,hb,P,_=>⟨_,rfl,.inl ⟨[],rfl,hb,P⟩⟩
 | c :: m,l,b,Q,hb,P,A=>by
  have B:=Q c Ah;rw[Aj]at A
  have e1:∃v:Nat,q (l++[(b:Int)]) c=(Ds (λ_=>l++[(b:Int)]++[(v:Int)]) (if (decide ((v:Int)=(0:Int)))=true then some (.bk ())else some (.nx ())))/\v < 2 ^ (sts o g).length/\∀j,v.testBit j=true->∃n,b.testBit n=true/\NX o g us n c j:=by
   rw[I];simp only[BF];rw[show(-(1:Int)) = -1 from rfl,JW];simp only[AB]
   rcases jj h z F B hb with⟨s,C,v,rfl,E,G⟩ | ⟨_,_,k⟩
   ·rw[C]
    simp only[BF];rw[KD (by rw[AV,Ac];lia)];simp only[AB,BF];exact⟨v,rfl,E,G⟩
   ·exact k.elim
  obtain⟨v,e,E,G⟩:=e1
  by_cases R:v=0
  ·subst R
   refine⟨l++[(b:Int)]++[0],?_,.inr ⟨l,b,rfl,hb⟩⟩;unfold DG;rw[e];rfl
  ·rw[wY (show ¬(v:Int)=0 by lia),qY AT,NQ]at e
   obtain⟨s,C,hs⟩:=UN h z F I m (l++[(b:Int)]) v (λc B=>Q c (AS _ B)) E R (by rw[AV,Ac];lia);refine⟨s,?_,hs.imp ?_ id⟩
   ·unfold DG
    rw[e];exact C
   ·rintro⟨L,rfl,hL⟩
    exact⟨v :: L,by simp,hb,G,hL⟩
theorem gD(h:Lr o us)(z:Sz o g)(F:Fk o g us "one" f) {j:ZLi} (A:∀c∈j,0<=c/\c < (o:Int)) (G:j.length<=100) (B:n < (sts o g).length) :
  Ok (HB f n j) λs=>(∃L,s=((2 ^ n) :: L).map cz/\Xi (sts o g).length (NX o g us) j (2 ^ n :: L))∨∃p m,s=p++[((m:Nat):Int)]++[0]/\m < 2 ^ (sts o g).length:=by
 have C:=Ho z;unfold HB G8;rw[Q7 (by lia)];simp only[AB,ZC,BF];obtain⟨s,l,E⟩:=UN h z F rfl j [] (2 ^ n) A (Nat.pow_lt_pow_right (by decide) B) (DX (TJ _)) (by rw[Dj];lia);rw[S8]at l;simp only[BF]at l;rw[l];exact⟨s,rfl,E⟩
theorem aH(h:Lr o us)(z:Sz o g)(F:Fk o g us "one" f) {q:ZLi->Int×Int->Option (Fw ZLi ZLi)}
  (R:q=λ(Z:ZLi) ve=>BH (some (.nx (0:Int))) λz8=>BH ((Ev ve.2).bind λϙ=>DG ϙ z8 λ(wc:Int) uQ=>Ds (λzO=>zO) ((((EC f uQ ve.1).bind λz9=>(atI Z (-(1:Int))).bind λwJ=>some (BL z9 wJ)).bind λza=>some (za != 0)).bind λϚ=>if Ϛ=true then Ds (λwd=>wd) ((R1 (1:Int) uQ).bind λxO=>some (.nx (Be wc xO)))else some (.nx wc))) λy9=>Ds (λzP=>zP) ((Nh Z y9).bind λϛ=>some (.nx ϛ))) :
  ∀(B:ZLi) (L:List Nat),(∀c∈B,0<=c/\c < (o:Int))->B.length<=100->Xi (sts o g).length (NX o g us) B L ->
   ∃b k M,L=b :: L.tail/\DG (B.zip (L.map cz)).reverse [cz (L.getLastD 0)] q=some (.nx ((k :: M).map cz).reverse)/\Kp (sts o g).length (NX o g us) B (k :: M)/\k≠0/\(∀j,k.testBit j=true->b.testBit j=true)/\M.length=B.length
 | [],[b],_,_,A=>⟨b,b,[],rfl,rfl,A.1,A.2,λ_ h=>h,rfl⟩
 | [],[],_,_,A=>A.elim
 | [],_ :: _ :: _,_,_,A=>A.elim
 | _ :: _,[],_,_,A=>A.elim
 | _ :: _,[_],_,_,A=>A.elim
 | c :: B,b :: I :: L,uC,J,A=>by
  have hl4:=Ho z;obtain⟨hb,w4,S⟩:=A;rw[Aj]at J;have U:=uC c Ah;obtain⟨b2,k,M,e0,e1,G,k0,xQ,hM⟩:=aH h z F R B (I :: L) (λc U=>uC c (AS _ U)) (by lia) S;cases e0
  have hk:k < 2 ^ (sts o g).length:=by
   match B,M,G with
   | [],[],G=>exact G
   | _ :: _,_ :: _,G=>exact G.1
  obtain⟨l,el,l2⟩:=NP hb (by lia)
  have step:OkF (ρ:=ZLi) (q ((k :: M).map cz).reverse (c,(b:Int))) (λs=>∃v:Nat,s=((v :: k :: M).map cz).reverse/\v < 2 ^ (sts o g).length/\(∀m,v.testBit m=true↔b.testBit m=true/\∃j,NX o g us m c j/\k.testBit j=true)) (λ_=>False):=by
   rw[R];dsimp only;rw[el];simp only[BF,AB];refine OkF.seq (OkF.for (λE (s:Int)=>∃v:Nat,s=v/\∀m:Nat,v.testBit m=true↔((m:Int)∈E/\∃j,NX o g us m c j/\k.testBit j=true)) ⟨0,rfl,λm=>by simp⟩ ?_) ?_
   ·rintro E x s hx hp ⟨v,rfl,O⟩
    obtain⟨m,rfl,hm,hmb⟩:=RE hb l2 hx;obtain⟨w,ew,u,rfl,h2,zT⟩:=fR h z F hm U;rw[ew];simp only[AB];rw[show((k :: M).map cz).reverse=(M.map cz).reverse++[(k:Int)] by simp,show(-(1:Int)) = -1 from rfl,JW];simp only[AB];rw[RM]
    have iff:∀w:Nat,(w:Int)∈E++[(m:Int)]↔(w:Int)∈E∨w=m:=λw=>by rw[Bg,Ab];exact or_congr_right (by lia)
    by_cases X:u &&& k=0
    ·rw[X,show((((0:Nat):Int)) != 0)=false from rfl,qY AT]
     refine .nx ⟨v,rfl,λw=>(O w).trans ⟨λ⟨a,b⟩=>⟨(iff w).mpr (.inl a),b⟩,λ⟨a,j,P,Q⟩=>?_⟩⟩
     rcases(iff w).mp a with a | rfl
     ·exact⟨a,j,P,Q⟩
     ·exfalso
      have:=congrArg (λx=>tt x j) X;simp only[Iv,(zT j).mpr P,Q,RS]at this;cases this
    ·rw[show(((u &&& k:Nat):Int) != 0)=true from bne_iff_ne.mpr (by lia),qX rfl,Q7 (by lia)]
     simp only[AB,NQ];rw[VY];obtain⟨j,C⟩:=V2 X;rw[Iv,B0]at C;refine .nx ⟨_,rfl,λw=>(iP O w).trans ⟨?_,?_⟩⟩
     ·rintro(⟨a,b⟩ | rfl)
      ·exact⟨(iff w).mpr (.inl a),b⟩
      ·exact⟨(iff _).mpr (.inr rfl),j,(zT j).mp C.1,C.2⟩
     ·rintro⟨a,b⟩
      rcases(iff w).mp a with a | rfl
      ·exact .inl ⟨a,b⟩
      ·exact .inr rfl
   ·rintro s ⟨v,rfl,O⟩
    rw[KD (by rw[OS,AJ,Aj];lia)];simp only[AB,NQ]
    have vN:∀m,v.testBit m=true↔b.testBit m=true/\∃j,NX o g us m c j/\k.testBit j=true:=λm=>(O m).trans (and_congr_left λ_=>by rw[l2.2];rw[Am];exact⟨λh=>h.2,λh=>⟨by lia,h⟩⟩)
    exact .nx ⟨v,by simp,Vo λj C=>WB hb ((vN j).mp C).1,vN⟩
  rcases step with⟨s,es,v,rfl,v1,Y⟩ | ⟨_,_,k⟩
  ·refine⟨b,v,k :: M,rfl,?_,⟨v1,λn hn=>((Y n).mp hn).2,G⟩,?_,λj C=>((Y j).mp C).1,by simp[hM]⟩
   ·rw[show((c :: B).zip ((b :: I :: L).map cz)).reverse=(B.zip ((I :: L).map cz)).reverse++[(c,(b:Int))] by simp]
    rw[show(b :: I :: L).getLastD 0=(I :: L).getLastD 0 by simp[List.getLastD]];rw[Sb e1 ?_]
    ·unfold DG
     rw[es];rfl
    ·intro s y t _ N
     rw[R]at N
     exact Z9 (λ_=>Z9 λ_=>oY (λt e=>by
      obtain⟨l,-,e⟩:=BC e
      cases e)) t N
   ·obtain⟨j,C⟩:=V2 k0
    obtain⟨n,P,Q⟩:=w4 j (xQ j C);intro e;have:=(Y n).mpr ⟨P,j,Q,C⟩;rw[e,RS]at this;cases this
  ·exact k.elim
end
theorem cut1{g:Type}(x:g)(l:List g):Ji (x :: l) (some 1) none=l:=by
 unfold Ji
 have j:HT.sIx (x :: l).length 0 (some 1)=1:=by
  unfold HT.sIx;dsimp only;rw[Aj]
  split <;> lia
 rw[j,show HT.sIx (x :: l).length (x :: l).length none=(x :: l).length from rfl];simp
theorem tQ{g:Type}{l:List g}{x y:g}:atI (l++[x]++[y]) (-2)=some x:=by
 unfold atI ixN;simp;rw[qX (by omega),show(-2+((l.length:Int)+2)).toNat=l.length by omega];simp
section
variable{o g:Nat}{us:List ZPi}{f:Fp}{n b:Nat}{r:ZLi}{c:Int}
theorem ot(h:Lr o us)(z:Sz o g)(F:Fk o g us "one" f) {l:ZLi} {L:List Nat} (B:∀c∈l,0<=c/\c < (o:Int)) (C:l.length<=100) (E:Xi (sts o g).length (NX o g us) l L) :
  Ok (Hr f (L.map cz) l) λs=>∃b k M,L=b :: L.tail/\s=(k :: M).map cz/\Kp (sts o g).length (NX o g us) l (k :: M)/\k≠0/\(∀j,k.testBit j=true->b.testBit j=true):=by
 obtain⟨b,k,M,m,A,G,I,J,-⟩:=aH h z F rfl l L B C E
 have N:atI (L.map cz) (-(1:Int))=some (cz (L.getLastD 0)):=by
  rcases FH L with rfl | ⟨O,y,rfl⟩
  ·cases m
  ·rw[FI,BZ,show(-(1:Int)) = -1 from rfl]
   show atI (O.map cz++[cz y]) (-1)=_;rw[JW];rw[List.getLastD_eq_getLast?];simp
 unfold Hr Hq;rw[N];simp only[AB,ZC,BF];simp only[BF]at A;rw[A];refine⟨_,rfl,b,k,M,m,?_,G,I,J⟩;rw[List.reverse_reverse]
theorem Sv(h:Lr o us)(z:Sz o g)(F:Fk o g us "one" f) {q:List ZLi×Int->Int×Int->Option (Fw (List ZLi) (List ZLi×Int))}
  (U:q=λ(G:(List ZLi)×Int) N=>Ds (λX=>(X.1,X.2)) (((atI f.ev G.2).bind λwx=>some (decide (N.1∈wx))).bind λxP=>if xP=true then Ds (λxK=>(xK,G.2)) ((atI f.ev G.2).bind λuG=>(Nh G.1 uG).bind λxF=>some (.nx xF))else BH ((((((((some (G.2,(N.1,()))).bind λY=>Ed f Y.1 Y.2.1).bind λxM=>some (BL xM N.2)).bind λwu=>some (wu,())).bind λϜ=>some (N.1,Ϝ)).bind λxO=>some (G.2,xO)).bind λO=>DR f O.1 O.2.1 O.2.2.1).bind λya=>(Nh G.1 ya).bind λzb=>some (.nx zb)) λZ=>Ds (λzR=>(Z,zR)) ((((atI Z (-(1:Int))).bind λzc=>Nt zc (Di zc)).bind λϝ=>Dc f.nu ϝ).bind λϞ=>some (.nx Ϟ)))) :
  ∀(C:ZLi) (k:Nat) (I:List Nat) (A:List ZLi) (n:Nat),(∀c∈C,0<=c/\c < (o:Int))->A.length+C.length<=1000->Kp (sts o g).length (NX o g us) C (k :: I)->k.testBit n=true->∃s,DG (C.zip (I.map cz)) (A,(n:Int)) q=some (.nx s)
 | [],k,I,A,n,_,_,_,_=>⟨_,rfl⟩
 | c :: C,k,[],A,n,_,_,P,_=>P.elim
 | c :: C,k,E :: I,A,n,uC,J,P,hn=>by
  obtain⟨hk,w4,Q⟩:=P;have R:=uC c Ah;have hl:=Ho z;have zs:=z.sm;have zl:=z.le;rw[Aj]at J;have zJ:=WB hk hn;have L:(sts o g)[n]?=some (sts o g)[n]:=Ax zJ;generalize (sts o g)[n]=r at L;obtain⟨j,⟨r2,e2,B⟩,hjk⟩:=w4 n hn;rw[L]at e2;cases e2
  have step:∃(t:ZLi) (m:Nat),q (A,(n:Int)) (c,(E:Int))=some (.nx (A++[t],(m:Int)))/\E.testBit m=true:=by
   rw[U];dsimp only;rw[F.ev,NA L];simp only[AB]
   by_cases q:c∈r
   ·rw[wX q,qX rfl,KD (by lia)]
    refine⟨r,n,rfl,?_⟩
    rcases B with⟨_,rfl⟩ | ⟨e,_⟩
    ·exact hjk
    ·exact zX q e
   ·rw[wY q,qY AT]
    obtain⟨v,e,l,rfl,hb⟩:=Xd h z F L R;rw[e];simp only[AB];rw[RM]
    rcases B with⟨e,_⟩ | ⟨_,B⟩
    ·exact zX e q
    ·have w0:(l &&& E)≠0:=λe0=>by
      have:=congrArg (λx=>tt x j) e0;simp only[Iv,(hb j).mpr B,hjk,RS]at this;cases this
     have S:∀j,(l &&& E).testBit j=true->l.testBit j=true/\E.testBit j=true:=λj B=>by
      rw[Iv,B0]at B;exact B
     obtain⟨t,et,m,t1,t2,t3⟩:=iS h z F L q (b:=l &&& E) (Vo λj B=>by
      obtain⟨r',e',_⟩:=(hb j).mp (S j B).1
      exact(AF.mp e').1) w0 λj B=>(hb j).mp (S j B).1
     rw[et];simp only[AB];rw[KD (by lia)];simp only[AB,BF];rw[show(-(1:Int)) = -1 from rfl,JW];simp only[AB];rw[O0 (by lia)];simp only[AB];rw[F.nu,fM (U9 z) t3];exact⟨t,m,rfl,(S m t2).2⟩
  obtain⟨t,m,e,hm⟩:=step;obtain⟨s,es⟩:=Sv h z F U C E I (A++[t]) m (λc R=>uC c (AS _ R)) (by rw[AV,Ac];lia) Q hm;refine⟨s,?_⟩;show DG ((c,(E:Int)) :: C.zip (I.map cz)) _ _=_;unfold DG;rw[e];exact es
theorem SA(j:0<=c/\c < (o:Int)):Cg (o,us) c=some ():=by
 unfold Cg EA;rw[wX j.1,qX rfl,wX j.2];rfl
theorem Xi.last{N:Nat}{X:Nat->Int->Nat->Prop}:∀{l:ZLi} {L:List Nat},Xi N X l L->∃j b,L=j++[b]/\b≠0
 | [],[b],h=>⟨[],b,rfl,h.2⟩
 | [],[],h=>h.elim
 | [],_ :: _ :: _,h=>h.elim
 | _ :: _,[],h=>h.elim
 | _ :: _,[_],h=>h.elim
 | c :: l,b :: s :: L,h=>by
  obtain⟨j,y,e,m⟩:=Xi.last h.2.2;exact⟨b :: j,y,by rw[e];rfl,m⟩
theorem rc(h:Lr o us)(z:Sz o g){st A:ZLi}(N:Stg o g st)(C:∀c∈A,0<=c/\c < (o:Int))(O:A.length<=100):HA (o,us) st A "one" = some ():=by
 have U:=Ho z;obtain⟨i,P,X⟩:=bC ((LF z).mpr N)
 have E:(sts o g)[i]?=some st:=by rw[Ax P,X]
 obtain⟨f,Y,F⟩:=kr (kd:="one") h z;unfold HA G7
 have Z:(DG A () λ(_:Unit) G=>Ds (λ_=>()) ((Cg (o,us) G).bind λ_=>some (.nx ())))=some (.nx ():Fw Unit Unit):=by
  obtain⟨s,m,-⟩:=ko (ρ:=Unit) (l:=A) (s0:=()) (q:=λ(_:Unit) G=>Ds (λ_=>()) ((Cg (o,us) G).bind λ_=>some (.nx ()))) (λ_ _=>True) trivial (λpre x s B _ _=>by
   rw[SA (C x B)]
   exact⟨(),rfl,trivial⟩)
  exact m
 rw[Z];simp only[BF,AB];rw[N.1,Y];simp only[BF,AB];rw[F.nu,fM (U9 z) E];simp only[BF,AB];obtain⟨s,m,hs⟩:=gD h z F C O P;rw[m];simp only[BF,AB];rw[show(-(1:Int)) = -1 from rfl,show(-(2:Int)) = -2 from rfl]
 rcases hs with⟨L,rfl,Q⟩ | ⟨p,b',rfl,I⟩
 ·obtain⟨L',y,e2,hy⟩:=Q.last
  rw[show atI (Jk cz (2 ^ i :: L)) (-1)=some (cz y) by rw[e2,BZ];exact JW];simp only[AB];rw[wY (show ¬cz y=0 by unfold cz;lia),qY AT];simp only[BF];obtain⟨s,m,b,k,M,e0,rfl,hK,k0,xQ⟩:=ot h z F C O Q;cases e0;rw[m];simp only[AB];obtain⟨j,R⟩:=V2 k0
  have xB:i=j:=by
   have:=xQ j R;rw[Ja,decide_eq_true_eq]at this;exact this
  subst xB;obtain⟨s,m⟩:=Sv h z F rfl A k M [] i C (by rw[Dj];lia) hK R
  have ea:Gi f (i:Int) A (Jk cz (k :: M))=some s.1:=by
   unfold Gi Gh;rw[As,cut1];simp only[AB,cK,BF]at m ⊢;rw[m];rfl
  rw[ea];rfl
 ·rw[show atI (p++[(b':Int)]++[0]) (-1)=some 0 from JW,tQ]
  simp only[AB];rw[qX (show decide True=true from rfl)];obtain⟨l,el,J⟩:=NP I (by lia);rw[el];simp only[AB]
  have ο:l.length<=400:=by
   have:=Ps (k:=GZ 0 (sts o g).length) (Zu J.1) λx B=>by
    obtain⟨k,rfl,S,-⟩:=RE I J B;rw[FY]
    lia
   rw[CV]at this
   lia
  rw[Gx (f:=evN o g) (by lia) λx B=>by
   obtain⟨k,rfl,S,-⟩:=RE I J B;have:=Ax S
   rw[F.ev,NA this,ZF this]]
  rfl
end
theorem oZ(e:Lo)(S:Sto):∃y,fj (SU (mC (.str "there are more than ")) (SU (oa (mC (.int 400))) (SU (mC (.str " standings")) kW))) e S=.ok (.str y) S:=⟨_,rfl⟩
section
variable{W:Wd}{w:Nat×List ZPi}{S:Sto}{wn cn:Nat}{c g:Int}{cs st:ZLi}{kd:Str}
theorem pZ(j:W.excs.Nodup):W.NoPlace≠W.TooLarge:=by
 intro e;unfold Wd.excs at j;rw[e]at j;simp at j
theorem bi(hw:S[wn]?=some (FX W w))(h:¬(0<=c/\c < (w.1:Int))):∃S',Bp W [.ref wn,.int c] S=.err W.NoPlace S'/\Keeps S S':=by
 have l:JX S [.z (FX W w),.v (D.int c)] [.ref wn,.int c]:=⟨⟨wn,rfl,hw⟩,rfl,trivial⟩;have t:VB [.z (FX W w),.v (D.int c)] (Qu (mB (m3 leD ltD (mC (.int 0)) (AH 1) (DZ W.Web "places" (AH 0))))) _:=YQ (LA (Rp am l8 (CZ rfl) (AU rfl) (He (DN rfl))))
 obtain⟨m,o,s⟩:=t true (by
  simp only[AB]
  by_cases j:(0:Int)<=c
  ·rw[wX j,qX rfl,wY (λq=>h ⟨j,q⟩)]
   rfl
  ·rw[wY j,qY AT]
   rfl) S _ _ S (Vs.start (n:=2) l)
 refine⟨m,L2.R7 (e:=FS 2 [.ref wn,.int c]) ?_,s⟩;unfold FD;rw[Nq o,qX rfl];exact W1 (ds:=[.str "the web has no such place"]) rfl (by decide)
theorem eA(hw:S[wn]?=some (FX W w))(m:FV w g=some n)(h:400 < n):∃S',Gv W [.ref wn,.int g] S=.err W.TooLarge S'/\Keeps S S':=by
 have o:JX S [.z (FX W w),.v (D.int g)] [.ref wn,.int g]:=⟨⟨wn,rfl,hw⟩,rfl,trivial⟩;have t:VB [.z (FX W w),.v (D.int g)] (mB (m2 gtD (B2 2 (Lg W) (AR (AH 0) (AR (AH 1) BE))) (mC (.int 400)))) _:=LA (de (Bx (PX (DN rfl) (Cq (AU rfl) CD)) (λj=>Ru W j.1 j.2.1) (λ_=>rfl) Do) (CZ rfl))
 obtain⟨l,s,A⟩:=t true (by
  simp only[AB];rw[m];simp only[AB]
  rw[wX h]) S _ _ S (Vs.start (n:=2) o)
 refine⟨l,L2.R7 (e:=FS 2 [.ref wn,.int g]) ?_,A⟩;unfold KC;obtain⟨y,B⟩:=oZ (FS 2 [.ref wn,.int g]) l;refine VJ ?_;rw[Nq s,qX rfl];exact W1 (ds:=[.str y]) (CP B rfl) (by simp)
theorem g7(hw:S[wn]?=some (FX W w))(j:FV w g=some n)(h:400 < n)(q:Nat):∃S',Eo W [.ref q,.ref wn,.int g,.str kd] S=.err W.TooLarge S'/\Keeps S S':=by
 obtain⟨S1,l,o⟩:=eA hw j h;refine⟨S1,?_,o⟩
 have s:Ht W [.ref q,.ref wn,.int g,.str kd] S=.err W.TooLarge S1:=by
  refine L2.R7 (e:=FS 7 [.ref q,.ref wn,.int g,.str kd]) ?_;unfold Lm;refine VJ ?_;unfold JH;rw[(Hw (n:=2) (f:=Gv W) (m:=AR (AH 1) (AR (AH 2) BE)) (e:=FS 7 [.ref q,.ref wn,.int g,.str kd]) (S:=S) (ds:=[.ref wn,.int g]) (S1:=S) rfl rfl).trans l];rfl
 unfold Eo XB;rw[s]
noncomputable abbrev eR(wn cn:Nat)(st:ZLi)(kd:Str)(z:Option D):Lo:=[sR wn,some (eT D.int st),sR cn,some (.str kd),z,none,none,none]
theorem nP(hw:S[wn]?=some (FX W w))(B:S[cn]?=some (oL D.int cs))(h:∃c∈cs,¬(0<=c/\c < (w.1:Int))):∃S',DC W [.ref wn,eT D.int st,.ref cn,.str kd] S=.err W.NoPlace S'/\Keeps S S':=by
 obtain⟨C,S',I,J⟩:=P1 (v:=GU (.ref cn)) (g:=tgN 4) (b:=Eb (B2 2 (Bp W) (AR (AH 0) (AR (AH 4) BE)))) (xs:=cs.map D.int) (e:=eR wn cn st kd none) (S:=S)
  (λi e T=>(∃z,e=eR wn cn st kd z)/\Keeps S T/\∀c∈cs.take i,0<=c/\c < (w.1:Int)) (λC T=>(∃e,C=.ex W.NoPlace e)/\Keeps S T)
  ⟨⟨_,rfl⟩,Keeps.refl S,λ_ h=>nomatch h⟩ (λi e T j=>EZ (j.2.1.at B))
  (λi d e T E j=>by
   obtain⟨⟨z,rfl⟩,m,j⟩:=j;rw[Ae]at E;obtain⟨c,L,rfl⟩:=Dl.mp E;refine⟨eR wn cn st kd (some (.int c)),T,rfl,?_⟩;have G:B2 2 (Bp W) (AR (AH 0) (AR (AH 4) BE)) (eR wn cn st kd (some (.int c))) T=Bp W [.ref wn,.int c] T:=Hw (ds:=[.ref wn,.int c]) (S1:=T) rfl rfl
   by_cases q:0<=c/\c < (w.1:Int)
   ·obtain⟨d,o,s,A,-⟩:=E9 W w c () (SA q) T [.ref wn,.int c] ⟨⟨wn,rfl,m.at hw⟩,rfl,trivial⟩
    refine⟨_,o,KB (G.trans s),⟨_,rfl⟩,m.trans A,λy l=>?_⟩;rw[HQ,L]at l
    rcases Bg.mp l with l | l
    ·exact j y l
    ·rw[Ab.mp l];exact q
   ·obtain⟨o,s,A⟩:=bi (m.at hw) q
    exact⟨_,o,cL (G.trans s),⟨_,rfl⟩,m.trans A⟩)
  (λe T j=>by
   obtain⟨_,_,j⟩:=j;rw[AJ,IC]at j;obtain⟨c,N,O⟩:=h
   exact zX (j c N) O)
 obtain⟨⟨e,rfl⟩,P⟩:=J;refine⟨S',L2.R7 (e:=e) ?_,P⟩;unfold Ff;exact VJ (ES (OF (JO rfl B)) I)
theorem jf(hw:S[wn]?=some (FX W w))(l:S[cn]?=some (oL D.int cs))(h:∀c∈cs,0<=c/\c < (w.1:Int))(E:FV w st.length=some n)(hb:400 < n):∃S',DC W [.ref wn,eT D.int st,.ref cn,.str kd] S=.err W.TooLarge S'/\Keeps S S':=by
 have Q:JX S [.z (FX W w),.v (eT D.int st),.z (oL D.int cs),.v (D.str kd)] [.ref wn,eT D.int st,.ref cn,.str kd]:=⟨⟨wn,rfl,hw⟩,rfl,⟨cn,rfl,l⟩,rfl,trivial⟩
 obtain⟨s,S',G,I⟩:=P1 (v:=GU (.ref cn)) (g:=tgN 4) (b:=Eb (B2 2 (Bp W) (AR (AH 0) (AR (AH 4) BE)))) (xs:=cs.map D.int) (e:=eR wn cn st kd none) (S:=S)
  (λi e T=>(∃z,e=eR wn cn st kd z)/\Keeps S T) (λs T=>(∃z,s=.nx (eR wn cn st kd z))/\Keeps S T)
  ⟨⟨_,rfl⟩,Keeps.refl S⟩ (λi e T j=>EZ (j.2.at l))
  (λi d e T A j=>by
   obtain⟨⟨z,rfl⟩,B⟩:=j;rw[Ae]at A;obtain⟨c,J,rfl⟩:=Dl.mp A;refine⟨eR wn cn st kd (some (.int c)),T,rfl,?_⟩;have L:B2 2 (Bp W) (AR (AH 0) (AR (AH 4) BE)) (eR wn cn st kd (some (.int c))) T=Bp W [.ref wn,.int c] T:=Hw (ds:=[.ref wn,.int c]) (S1:=T) rfl rfl;obtain⟨d,N,m,o,-⟩:=E9 W w c () (SA (h c (Ca J))) T [.ref wn,.int c] ⟨⟨wn,rfl,B.at hw⟩,rfl,trivial⟩
   exact⟨_,N,KB (L.trans m),⟨_,rfl⟩,B.trans o⟩)
  (λe T j=>⟨by obtain⟨⟨z,rfl⟩,_⟩:=j;exact⟨z,rfl⟩,j.2⟩)
 obtain⟨⟨z,rfl⟩,O⟩:=I;have C:Keeps S (S'++[.ins W.Field []]):=O.trans (Keeps.app _ _);obtain⟨P,m,o⟩:=g7 (kd:=kd) (C.at hw) E hb S'.length;refine⟨P,L2.R7 (e:=eR wn cn st kd z) ?_,C.trans o⟩;unfold Ff;refine ES (Ck (ES (OF (JO rfl l)) G)) ?_;refine VJ (Zy (ff (ds:=[.ref wn,.int (st.length:Int),.str kd]) (S1:=S') (CP rfl (CP ?_ (CP rfl rfl))) rfl m));show Res.ok (D.int (((st.map D.int).length:Nat):Int)) S'=_;rw[AJ]
theorem tabs(l:W.excs.Nodup):Gn W W.NoPlace=some true/\FR W W.NoPlace=some false/\Gn W W.TooLarge=some false/\FR W W.TooLarge=some true:=by
 have j:=pZ l;unfold Gn FR Wd.excs;refine⟨by simp,?_,?_,by simp⟩
 ·rw[qY (by simpa using j),qX (by simp)]
 ·rw[qY (by simpa using j.symm),qX (by simp)]
noncomputable abbrev eC(wn cn:Nat)(st:ZLi)(a b z:Option D):Lo:=[sR wn,some (eT D.int st),sR cn,a,b,z]
theorem UW{C:AN}{x y:Bool}(j:C∈W.excs)(l:Gn W C=some x)(m:FR W C=some y)(h:DC W [.ref wn,eT D.int st,.ref cn,.str "one"] S=.err C S'):Gc W [.ref wn,eT D.int st,.ref cn] S=.ok (.int (2 * (if x then 1 else 0)+3 * (if y then 1 else 0))) S':=by
 refine L2.Mm ?_;unfold Kb;rw[Ck (e:=FS 6 [.ref wn,eT D.int st,.ref cn]) (e1:=eC wn cn st (some .non) none none) (S1:=S) rfl];rw[Ck (e1:=eC wn cn st (some .non) (some .non) none) (S1:=S) rfl];have e1:B2 4 (DC W) (AR (AH 0) (AR (AH 1) (AR (AH 2) (AR (mC (.str "one")) BE)))) (eC wn cn st (some .non) (some .non) none) S=.err C S':=(Hw (ds:=[.ref wn,eT D.int st,.ref cn,.str "one"]) (S1:=S) rfl rfl).trans h;rw[Ck (e1:=eC wn cn st (some (.exc C)) (some .non) none) (S1:=S') (m6 (e2:=eC wn cn st (some (.exc C)) (some .non) (some (.exc C))) (Zy e1) j rfl)];rw[Ck (e1:=eC wn cn st (some (.exc C)) (some .non) none) (S1:=S') rfl]
 have o:GY W C=some true:=by
  unfold GY;exact qX j
 have s:BB W C=some false:=by
  unfold BB;rw[qY (by simp),qX j]
 have A:mOr (Qu (mB (L2.mIs isV (GY W) (AH 3)))) (mB (fm (BB W) (AH 3))) (eC wn cn st (some (.exc C)) (some .non) none) S'=.ok false S':=by
  unfold mOr Qu;rw[WG (Y6 (C:=C) rfl o)];show(mB (fm _ (AH 3)) _ _)=_;refine WG ?_;unfold fm;rw[show AH 3 (eC wn cn st (some (.exc C)) (some .non) none) S'=.ok (.exc C) S' from rfl];dsimp only[Res.bind];rw[s]
 rw[Ck (e1:=eC wn cn st (some (.exc C)) (some .non) none) (S1:=S') (ES (Nq A) rfl)]
 have B:Vm (L2.mIs isN (Gn W) (AH 3)) (eC wn cn st (some (.exc C)) (some .non) none) S'=.ok (.int (if x then 1 else 0)) S':=by
  unfold Vm;rw[Y6 (C:=C) rfl l];rfl
 have E:Vm (L2.mIs isN (FR W) (AH 3)) (eC wn cn st (some (.exc C)) (some .non) none) S'=.ok (.int (if y then 1 else 0)) S':=by
  unfold Vm;rw[Y6 (C:=C) rfl m];rfl
 exact JJ (FZ (FZ rfl B (Vi (by cases x <;> decide) (by cases x <;> decide))) (FZ rfl E (Vi (by cases y <;> decide) (by cases y <;> decide))) rfl)
theorem cV{x y:D}(h:DC W [.ref wn,eT D.int st,.ref cn,.str "one"] S=.ok (.tup [x,y]) S'):Gc W [.ref wn,eT D.int st,.ref cn] S=.ok (.int 1) S':=by
 refine L2.Mm ?_;unfold Kb;rw[Ck (e:=FS 6 [.ref wn,eT D.int st,.ref cn]) (e1:=eC wn cn st (some .non) none none) (S1:=S) rfl];rw[Ck (e1:=eC wn cn st (some .non) (some .non) none) (S1:=S) rfl];have e1:B2 4 (DC W) (AR (AH 0) (AR (AH 1) (AR (AH 2) (AR (mC (.str "one")) BE)))) (eC wn cn st (some .non) (some .non) none) S=.ok (.tup [x,y]) S':=(Hw (ds:=[.ref wn,eT D.int st,.ref cn,.str "one"]) (S1:=S) rfl rfl).trans h;rw[Ck (e1:=eC wn cn st (some .non) (some (.tup [x,y])) none) (S1:=S') (mz (Mf (i:=4) e1))];refine eI (ES (Nq (c:=true) rfl) ?_);rw[qX rfl];refine JJ ?_;unfold Vm fq;rw[L2.si (T:="tuple") (b:=true) (d:=.tup [x,y]) (S1:=S') rfl rfl (by decide +kernel)];rfl
noncomputable def Dp(w:Nat×List ZPi)(st cs:ZLi):Option Int:=if (cs.all λc=>decide (0<=c/\c < (w.1:Int)))=true then(FV w st.length).bind λn=>if 400 < n then some 3 else(HA w st cs "one").bind λ_=>some 1 else some 2
theorem TR(W:Wd)(B:W.excs.Nodup)(w:Nat×List ZPi)(st cs:ZLi):VF (Gc W) [.z (FX W w),.v (eT D.int st),.z (oL D.int cs)] (rV D.int) (Dp w st cs):=λv j S C m=>by
 match C,m with
 | [d1,d2,d3],⟨⟨wn,E,hw⟩,G,⟨cn,I,l⟩,_⟩=>
  cases E;cases G;cases I;obtain⟨J,L,N,O⟩:=tabs B;unfold Dp at j;split at j
  ·rename_i m
   have P:∀c∈cs,0<=c/\c < (w.1:Int):=λc l=>of_decide_eq_true (Dz.mp m c l)
   obtain⟨n,Q,j⟩:=BC j;split at j
   ·rename_i hb
    cases j;obtain⟨o,s,A⟩:=jf (st:=st) (kd:="one") hw l P Q hb;exact⟨_,o,UW (by simp[Wd.excs]) N O s,A,rfl⟩
   ·obtain⟨u,R,j⟩:=BC j
    cases j;obtain⟨d,o,s,A,x,y,rfl⟩:=Rs W w st cs "one" u R S [.ref wn,eT D.int st,.ref cn,.str "one"] ⟨⟨wn,rfl,hw⟩,rfl,⟨cn,rfl,l⟩,rfl,trivial⟩;exact⟨_,o,cV s,A,rfl⟩
  ·rename_i m
   cases j;obtain⟨o,s,A⟩:=nP (st:=st) (kd:="one") hw l (Iw λk=>m (Dz.mpr λc l=>wX (Iw λz=>k ⟨c,l,z⟩)));exact⟨_,o,UW (by simp[Wd.excs]) J L s,A,rfl⟩
end
noncomputable def Z5(CW:ZLi):Option (Fw Bool Unit):=
 BH ((((some ((1:Int) :: [])).bind Ii).bind λx6=>(Ig CW).bind λx7=>Ti x6 x7).bind λϪ=>DG Ϫ () λ(_:Unit) j=>BH (((((Bn j (71:Int)).bind λwt=>some (wt / 8)).bind λuG=>some (uG % 29)).bind λuQ=>some ((2:Int)+uQ)).bind λxG=>some (.nx xG)) λg=>BH (((((Bn j (73:Int)).bind λwy=>some (wy / 8)).bind λz9=>Ys z9 (if g < (4:Int)then g else(4:Int))).bind λwu=>some ((1:Int)+wu)).bind λϠ=>some (.nx Ϡ)) λuR=>BH ((((Jz j g).bind λJ=>some (Ji J none (some (40:Int)))).bind λxP=>dU g xP).bind λL=>some (.nx L)) λwd=>BH ((((((Bn j (77:Int)).bind λN=>some (N / 8)).bind λO=>some (O % 5)).bind MA).bind λP=>IB P (λzU=>some true) (λzU=>((Bn j ((79:Int)+zU)).bind λQ=>some (Q / 8)).bind λϢ=>Ys Ϣ g)).bind λϣ=>some (.nx ϣ)) λI=>BH (some (.nx (1:Int))) λR=>BH (((JL g uR).bind λS=>some (decide ((400:Int) < S))).bind λU=>if U=true then Ds (λzV=>zV) (some (.nx (3:Int)))else some (.nx R)) λX=>BH (((((Bn j (91:Int)).bind λY=>some (Y / 8)).bind λZ=>some (Z % 2)).bind λx83=>some (decide (x83=(1:Int)))).bind λϫ=>if ϫ=true then BH ((((Bn j (93:Int)).bind λx98=>some (x98 / 8)).bind λϬ=>Ys Ϭ ((I.length:Int)+(1:Int))).bind λϭ=>some (.nx ϭ)) λϮ=>BH ((((some ((-(1:Int)) :: (g :: ((g+(1:Int)) :: ((60:Int) :: ((-g) :: [])))))).bind Ii).bind λϯ=>(((Bn j (95:Int)).bind λϰ=>some (ϰ / 8)).bind λϱ=>some (ϱ % 5)).bind λl=>atI ϯ l).bind λm=>some (.nx m)) λzi=>BH (((((some (zi :: [])).bind Ii).bind λo=>Ti (Ji I none (some Ϯ)) o).bind λs=>Ti s (Ji I (some Ϯ) none)).bind λA=>some (.nx A)) λzj=>Ds (λzk=>(zj,zk)) (some (.nx (2:Int)))else some (.nx (I,X))) λvZ=>BH (if (decide ((vZ.1.length:Int)=(0:Int)))=true then Ds (λwA=>wA) (((some ((0:Int) :: [])).bind Ii).bind λxR=>some (.nx xR))else some (.nx vZ.1)) λzm=>Ds (λ_=>()) ((((((J8 j g uR).bind λB=>some (B,(zm,()))).bind λC=>some (wd,C)).bind λvm=>Dp vm.1 vm.2.1 vm.2.2.1).bind λE=>some (!decide (E=vZ.2))).bind λG=>if G=true then some (.rt false)else some (.nx ()))) λ_=>some (.rt true)
noncomputable def fF(g:ZLi):Option Bool:=HN (Z5 g)
theorem rF(W:Wd)(U:W.excs.Nodup)(g:ZLi):VF (aV W) [.v (eF g)] (rV D.bl) (fF g):=by
 refine FO (n:=9) (b:=iQ W) (p:=Z5 g) (B:=λ_=>[]) ?_;show VS [.v (eF g),.u,.u,.u,.u,.u,.u,.u,.u] _ _ _ _;unfold iQ Z5;exact(A9 (Zi (Rh (U0 (IX (D4 (EY (Fo (CZ rfl) Fx)))) (IX (Bx (Cq (AU rfl) CD) (λX=>U2 W X.1) (λ_=>rfl) Nn)))) D0 (λG=>(A9 (Db (FQ (CZ rfl) (Gf rfl (GX rfl (Bx (Cq (AU rfl) (Cq (CZ rfl) CD)) (λP=>DO W P.1 P.2.1) (λ_=>rfl) Do))))) (λj=>(A9 (Db (FQ (CZ rfl) (Uy (GX rfl (Bx (Cq (AU rfl) (Cq (CZ rfl) CD)) (λQ=>DO W Q.1 Q.2.1) (λ_=>rfl) Do)) (Zn (CZ rfl) (AU rfl))))) (λI=>(A9 (NE (mf (AU rfl) (IX (Q5 (IX (Bx (Cq (AU rfl) (Cq (AU rfl) CD)) (λl=>Wf W l.1 l.2.1) (λ_=>rfl) Nn)) Q3 (Q2 (CZ rfl)))))) (λJ=>(A9 (NE (D4 (Hy (VI.k (Ea (Gf rfl (GX rfl (Bx (Cq (AU rfl) (Cq (CZ rfl) CD)) (λm=>DO W m.1 m.2.1) (λ_=>rfl) Do))))) (λY=>Jo) (λY=>(Uy (GX rfl (Bx (Cq (AU rfl) (Cq (FQ (CZ rfl) (AU rfl)) CD)) (λo=>DO W o.1 o.2.1) (λ_=>rfl) Do)) (AU rfl)))))) (λZ=>(A9 (Db (CZ rfl)) (λv69=>(A9 (QN (B:=(λ(L:Int)=>[.v (eF g),.v (D.int G),.v (D.int j),.v (D.int I),.y ((FX W) J),.y ((oL D.int) Z),.v (D.int L),.u,.u])) (LA (de (Bx (Cq (AU rfl) (Cq (AU rfl) CD)) (λs=>Rv W s.1 s.2.1) (λ_=>rfl) Do) (CZ rfl))) (DB (Db (CZ rfl)) (λzV=>(.refl _))) (Jn (.refl _))) (λs81=>(A9 (QN (B:=(λ(R:ZLi×Int)=>[.v (eF g),.v (D.int G),.v (D.int j),.v (D.int I),.y ((FX W) J),.y ((oL D.int) R.1),.v (D.int R.2),.u,.u])) (LA (Rn Hu Pp (Gf rfl (GX rfl (Bx (Cq (AU rfl) (Cq (CZ rfl) CD)) (λA=>DO W A.1 A.2.1) (λ_=>rfl) Do))) (CZ rfl))) (A9 (Db (Uy (GX rfl (Bx (Cq (AU rfl) (Cq (CZ rfl) CD)) (λC=>DO W C.1 C.2.1) (λ_=>rfl) Do)) (FQ (Q4 (Hn rfl)) (CZ rfl)))) (λϮ=>(A9 (Db (FP (IX (D4 (EY (Fo (KO (CZ rfl)) (Fo (AU rfl) (Fo (FQ (AU rfl) (CZ rfl)) (Fo (CZ rfl) (Fo (KO (AU rfl)) Fx)))))))) (Gf rfl (GX rfl (Bx (Cq (AU rfl) (Cq (CZ rfl) CD)) (λS=>DO W S.1 S.2.1) (λ_=>rfl) Do))))) (λzi=>(A9 (NE (U0 (IX (U0 (IX (Q5 (Hn rfl) Q3 (Q2 (AU rfl)))) (IX (D4 (EY (Fo (AU rfl) Fx)))))) (IX (Q5 (Hn rfl) (Q2 (AU rfl)) Q3)))) (λzj=>(DB (Db (CZ rfl)) (λzk=>(.same (.same (.same (.same (.same (.same (.same (.drop (.drop .nil))))))))))))))))) (Jn (.refl _))) (λvZ=>(A9 (QN (B:=(λ(E:ZLi)=>[.v (eF g),.v (D.int G),.v (D.int j),.v (D.int I),.y ((FX W) J),.y ((oL D.int) E),.v (D.int vZ.2),.u,.u])) (LA (Rn Hu Pp (Q4 (Hn rfl)) (CZ rfl))) (DB (NE (D4 (EY (Fo (CZ rfl) Fx)))) (λwA=>(.refl _))) (Jn (.refl _))) (λzm=>(DB (MY (LA (rC Hu Pp (Bx (PX (Hn rfl) (Cq (Bx (Cq (AU rfl) (Cq (AU rfl) (Cq (AU rfl) CD))) (λN=>Wg W N.1 N.2.1 N.2.2.1) (λ_=>rfl) Do) (PX (Hn rfl) CD))) (λO=>TR W U O.1 O.2.1 O.2.2.1) (λ_=>rfl) Do) (AU rfl))) (Gm (CZ rfl)) (Jn (.refl _))) (λ_=>(.same (.drop (.drop (.drop (.drop (.drop (.drop (.same (.same .nil))))))))))))))))))))))))))))) (λ_=>(Gm (CZ rfl))))
theorem fN(h:x.1 < x.2):nrm x=x:=by
 unfold nrm;rw[qY (by lia),qX (by omega)]
theorem fV{x y:Int}(h:(-1000000000000<=x/\x<=1000000000000)∨(-1000000000000<=y/\y<=1000000000000)):Vh x y=some (x * y):=qX (h.imp (λh=>⟨PP (by decide) h.1,KN h.2 (by decide)⟩) λh=>⟨PP (by decide) h.1,KN h.2 (by decide)⟩)
theorem Hs(c s:Int):∃v,Bn c s=some v/\0<=v:=by
 have g:=FE ((c % 2147483647+s) * 48271) (show(2147483647:Int)≠0 by decide);have j:=G3 ((c % 2147483647+s) * 48271) (show(0:Int) < 2147483647 by decide);unfold Bn Ie;simp only[AB,BF];generalize (c % 2147483647+s) * 48271 % 2147483647=m at g j;rw[fV (.inl ⟨by omega,by omega⟩)];simp only[AB,BF];rw[fV (.inl ⟨by decide,by decide⟩)];exact⟨_,rfl,FE _ (by decide)⟩
theorem atI_nn{g:Type}{l:List g}{i:Int}(h0:0<=i)(j:i < (l.length:Int)):∃x,atI l i=some x/\x∈l:=⟨l[i.toNat]'(by lia),OK h0 (Ax _),Q1 _⟩
noncomputable def prU(l:ZLi):List ZPi:=l.flatMap λy=>(GZ 0 y.toNat).map λx=>(x,y)
theorem ng{o:Nat}{x:Int×Int}(h:x∈prU (GZ 0 o)):0<=x.1/\x.1 < x.2/\x.2 < (o:Int):=by
 unfold prU at h;obtain⟨y,g,h⟩:=Lx.mp h;obtain⟨z,j,rfl⟩:=BS.mp h;rw[FY]at g j;dsimp only
 lia
theorem nh(o:Nat):(prU (GZ 0 o)).Nodup:=by
 unfold prU;refine YG.mpr ⟨λy _=>?_,(RB 0 o).imp λ{a b} l x g y j e=>?_⟩
 ·rw[DD]
  exact(RB _ _).imp λ{a b} h e=>by
   have:=(lP e).1
   lia
 ·obtain⟨u,-,rfl⟩:=BS.mp g
  obtain⟨v,-,rfl⟩:=BS.mp j;have:=(lP e).2
  lia
structure Sw(o:Nat)(ts:List ZPi):Prop where
 rg:∀x∈ts,0<=x.1/\x.1 < x.2/\x.2 < o
 nd:ts.Nodup
 ln:ts.length<=40
theorem nA(c:Int){o:Nat}(ho:o<=30):Ok (Jz c o) λts=>ts.Sublist (prU (GZ 0 o)):=by
 unfold Jz Ju;obtain⟨v,C,-⟩:=Hs c 3;rw[C];simp only[AB,BF,cK];rw[G6 (by lia) (by lia),Am];simp only[AB];refine OkF.out (OkF.seq (OkF.for (λg (s:List ZPi)=>s.length<=30 * g.length/\s.Sublist (prU g)) ⟨AO _,List.nil_sublist _⟩ ?_) λs A=>.rt A.2);rintro g x s E G ⟨I,A⟩;obtain⟨P,Q⟩:=FY.mp E;have J:=G.length_le;rw[AV,Ac,CV]at J;rw[G6 (by lia) (by lia)];simp only[AB];refine OkF.map (OkF.for (λj (t:List ZPi)=>t.length<=30 * g.length+j.length/\t.Sublist (prU g++j.map λy=>(y,x))) ⟨I,by rw[Jb,Ba];exact A⟩ ?_) ?_
 ·rintro j y t R L ⟨B,l⟩
  have m:=L.length_le;rw[AV,Ac,CV]at m;rw[fV (.inl ⟨by decide,by decide⟩)];simp only[AB];obtain⟨u,O,-⟩:=Hs c (11+64 * y+x);rw[O];simp only[AB]
  refine OkF.map (N:=λt:List ZPi=>t.length<=30 * g.length+(j++[y]).length/\t.Sublist (prU g++(j++[y]).map λy=>(y,x))) (OkF.ite (λ_=>?_) λ_=>?_) λ_ h=>h
  ·rw[KD (by lia)]
   refine .nx ⟨?_,?_⟩
   ·rw[AV,AV,Ac,Ac];lia
   ·rw[BZ,<-EN]
    exact l.append (tu _)
  ·refine .nx ⟨?_,?_⟩
   ·rw[AV];lia
   ·rw[BZ,<-EN]
    exact l.trans (List.sublist_append_left _ _)
 ·rintro t ⟨B,l⟩
  rw[CV]at B;refine⟨?_,?_⟩
  ·rw[AV,Ac];lia
  ·unfold prU at l ⊢
   rw[bD,Kk,List.flatMap_nil,Ba];exact l
theorem tO{g:Type}(l:List g):∃k,k<=40/\Ji l none (some (40:Int))=l.take k:=by
 unfold Ji;rw[show(40:Int)=((40:Nat):Int)from rfl,HT.je,HT.eJ];exact⟨min 40 l.length,Nat.min_le_left _ _,by rw[lS,Nat.sub_zero]⟩
theorem Sw.nrm(h:Sw o ts):ts.map nrm=ts:=by
 conv=>rhs;rw[<-RU ts]
 exact CN λx g=>fN (h.rg x g).2.1
theorem Sw.fit(h:Sw o ts):Hk o ts:=by
 refine⟨λx g=>?_,by rw[h.nrm];exact h.nd⟩;have:=h.rg x g;unfold Fit;rw[fN this.2.1];omega
theorem Sw.mem(h:Sw o ts):t∈LD ts↔t∈ts:=by
 rw[(Pa ts).mem_iff,h.nrm]
theorem SK:z∈Cr us x↔((x:Int),z)∈us∨(z,(x:Int))∈us:=by
 rw[<-fO];exact Ip.symm
theorem UH:∀{us:List ZPi},us.Nodup->(∀t∈us,t.1 < t.2)->(Cr us x).Nodup
 | [],_,_=>HS
 | t :: us,h,g=>by
  have j:=UH (x:=x) (Bz.mp h).2 λs A=>g s (AS _ A)
  have o:=(Bz.mp h).1;have lt:=g t Ah
  have e:Cr (t :: us) x=((if t.1=(x:Int)then[t.2]else[])++(if t.2=(x:Int)then[t.1]else[]))++Cr us x:=by
   unfold Cr;rw[Kk]
  rw[e]
  have lt':∀a b:Int,(a,b)∈us->a < b:=λa b B=>g _ (AS _ B)
  by_cases l:t.1=(x:Int)
  ·rw[qX l,qY (by lia),Ba]
   show(t.2 :: Cr us x).Nodup;rw[Bz];refine⟨λz=>?_,j⟩
   rcases SK.mp z with z | z
   ·rw[<-l]at z;exact o z
   ·have:=lt' _ _ z;lia
  ·rw[qY l,S8]
   by_cases m:t.2=(x:Int)
   ·rw[qX m]
    show(t.1 :: Cr us x).Nodup;rw[Bz];refine⟨λz=>?_,j⟩
    rcases SK.mp z with z | z
    ·have:=lt' _ _ z;lia
    ·rw[<-m]at z;exact o z
   ·rw[qY m];exact j
section
variable{o:Nat}{ts:List ZPi}
theorem Sw.ties(h:Sw o ts)(ho:o<=30):Lr o (LD ts):=by
 have s:∀g:Int,0<=g->g < o->∀x∈nr (LD ts) g.toNat,0<=x/\x < o/\x≠g:=λg l m x j=>by
  rw[fO,h.mem,h.mem,Dr l]at j
  rcases j with j | j
  ·have:0<=g/\g < x/\x < o:=h.rg _ j;lia
  ·have:0<=x/\x < g/\g < o:=h.rg _ j;lia
 have A:∀g:Int,0<=g->g < o->(nr (LD ts) g.toNat).Nodup:=λg _ _=>by
  refine(El _).nodup_iff.mpr (UH ?_ λt B=>?_)
  ·rw[(Pa ts).nodup_iff,h.nrm];exact h.nd
  ·exact(h.rg t (h.mem.mp B)).2.1
 refine⟨ho,λg l m=>?_,s,A⟩;have C:(g :: nr (LD ts) g.toNat).Nodup:=Bz.mpr ⟨λz=>(s g l m g z).2.2 rfl,A g l m⟩
 have:=Ps (k:=GZ 0 o) C λx j=>by
  rw[FY]
  rcases Aq.mp j with rfl | j
  ·lia
  ·have:=s g l m x j;lia
 rw[CV,Aj]at this
 lia
end
theorem Sw.web(h:Sw o ts)(g:1<=o)(ho:o<=30):dU (o:Int) ts=some (o,LD ts):=by
 unfold dU;rw[qX ⟨by lia,by lia,h.fit,by have:=h.ln;lia⟩,Am]
theorem aW:∀{b:ZLi} {i:Nat} (h:i < b.length),(b[i] :: b.eraseIdx i).Perm b
 | x :: b,0,_=>bF _
 | x :: b,i+1,h=>(bE x (b[i]'(YE h)) (b.eraseIdx i)).trans ((aW (YE h)).cons x)
theorem nJ(c:Int){o g:Nat}(O:g<=o)(ho:o<=30):Ok (J8 c o g) (Stg o g):=by
 unfold J8 Jv;simp only[AB];rw[G6 (by lia) (by lia),G6 (by lia) (by lia),Am,Am];simp only[AB,BF,cK];refine OkF.out (OkF.seq (OkF.for (λm (s:ZLi×ZLi)=>s.1.length=m.length/\(s.1++s.2).Perm (GZ 0 o)) ⟨rfl,bF _⟩ ?_) ?_)
 ·rintro m x ⟨a,b⟩ A G ⟨l,j⟩
  have I:=G.length_le;rw[AV,Ac,CV]at I;have B:=j.length_eq;rw[AV,CV]at B;dsimp only at l j B ⊢;obtain⟨v,J,P⟩:=Hs c (5000+x);rw[J];simp only[AB];rw[RD (by lia)];simp only[AB];have C:=FE (v / 8) (show(b.length:Int)≠0 by lia);have L:=G3 (v / 8) (show(0:Int) < (b.length:Int) by lia);generalize v / 8 % (b.length:Int)=k at C L
  have E:k.toNat < b.length:=by lia
  have e:iR a b k=some (a++[b[k.toNat]],b.eraseIdx k.toNat):=by
   unfold iR;rw[qX ⟨C,by lia⟩,Ax E];exact qX (by lia)
  rw[e];refine .nx ⟨?_,?_⟩
  ·rw[AV,AV,Ac,Ac,l]
  ·refine List.Perm.trans ?_ j
   show(a++[b[k.toNat]]++b.eraseIdx k.toNat).Perm (a++b);rw[EN];exact List.Perm.append_left a (aW E)
 ·rintro⟨a,b⟩ ⟨l,j⟩
  rw[CV]at l;dsimp only at l j ⊢;rw[O0 (by lia)];have N:(a++b).Nodup:=j.nodup_iff.mpr (Zu (RB 0 o));refine .rt ⟨by rw[(El a).length_eq];exact l,λx A=>?_,Wn (HU.mp N).1⟩;have:=FY.mp (j.mem_iff.mp (Br b (Ip.mp A)))
  lia
theorem jR{ns:ZLi}(E:ns.length<=63):Ok (Ig ns) λl=>l.length<=16:=by
 unfold Ig Ic;simp only[AB]
 obtain⟨m,em,G,m2⟩:∃m:Nat,(if (16:Int) < (ns.length:Int)then(16:Int)else(ns.length:Int))=m/\m<=16/\(m=16∨m=ns.length):=by
  by_cases c:(16:Int) < (ns.length:Int)
  ·rw[qX c];exact⟨16,rfl,by lia,.inl rfl⟩
  ·rw[qY c];exact⟨ns.length,rfl,by lia,.inr rfl⟩
 rw[em,G6 (by lia) (by lia),Am];simp only[AB];rw[Gx (f:=λ_=>(0:Int)) (by rw[CV];lia) λ_ _=>rfl];simp only[AB,BF];rw[G6 (by lia) (by lia),Am];simp only[AB];refine OkF.out (OkF.seq (OkF.for (λ(_:ZLi) (s:ZLi)=>s.length=m) (by simp[CV]) ?_) λs g=>.rt (by lia));rintro o x s A I g;have:=FY.mp A;have j:=FE x (show(16:Int)≠0 by decide);have d1:=G3 x (show(0:Int) < 16 by decide)
 have d2:x % 16 < (m:Int):=by lia
 obtain⟨u,B,_⟩:=atI_nn (l:=s) (i:=x % 16) j (by lia);obtain⟨v,C,_⟩:=atI_nn (l:=ns) (i:=x) (by lia) (by lia);rw[B,C];simp only[AB];rw[show Z0 s (x % 16) (u+v)=some (s.set (x % 16).toNat (u+v))from qX ⟨j,by lia⟩];exact .nx (by rw[Cw];exact g)
theorem Xa{o g:Nat}{us:List ZPi}{st j:ZLi}(h:Lr o us)(l:1<=g)(m:g<=o)(s:Stg o g st)(A:∀c∈j,0<=c/\c < (o:Int))(B:j.length<=100) :
  Dp (o,us) st j=some (if 400 < ch o g then 3 else 1):=by
 have C:=h.sm;unfold Dp;rw[qX (Dz.mpr λc E=>wX (A c E)),s.1,fZ l m (by lia)];simp only[AB]
 by_cases k:400 < ch o g
 ·rw[qX (show(400:Int) < (ch o g:Int) by lia),qX k]
 ·rw[qY (show ¬(400:Int) < (ch o g:Int) by lia),qY k,rc h ⟨l,m,C,by lia⟩ s A B]
  rfl
theorem iL{w:Nat×List ZPi}{st g:ZLi}{c:Int}(j:c∈g)(h:¬(0<=c/\c < (w.1:Int))):Dp w st g=some 2:=by
 unfold Dp;rw[qY];intro k;exact h (of_decide_eq_true (Dz.mp k c j))
theorem sh(ns:ZLi)(vF:ns.length<=63):fF ns=some true:=by
 obtain⟨l,el,ll⟩:=jR vF;refine Ok.is ?_;unfold fF Z5;rw[el];simp only[AB,ZC];rw[O2 (by rw[Ac];lia)];simp only[AB];refine OkF.out (OkF.seq (N:=λ_=>True) (OkF.imp (R:=λ_=>False) (OkF.for (λ_ _=>True) trivial ?_) (λ_ h=>h) λ_ h=>h.elim) λ_ _=>.rt rfl);intro pre cell _ hx hp _;obtain⟨G,X,n71⟩:=Hs cell 71;obtain⟨S,Y,n73⟩:=Hs cell 73;obtain⟨I,Z,n77⟩:=Hs cell 77;obtain⟨v91,e91,n91⟩:=Hs cell 91;obtain⟨J,e93,n93⟩:=Hs cell 93;obtain⟨v95,e95,n95⟩:=Hs cell 95;rw[X];simp only[AB,BF]
 obtain⟨o,eo,o2,A⟩:∃o:Nat,(2:Int)+G / 8 % 29=o/\2<=o/\o<=30:=⟨((2:Int)+G / 8 % 29).toNat,by omega,by omega,by omega⟩
 rw[eo,Y];simp only[AB,BF]
 obtain⟨m,em,m1,m2,m3⟩:∃m:Nat,(if (o:Int) < (4:Int)then(o:Int)else(4:Int))=m/\1<=m/\m<=4/\m<=o:=by
  by_cases k:(o:Int) < 4
  ·rw[qX k];exact⟨o,rfl,by lia,by lia,by lia⟩
  ·rw[qY k];exact⟨4,rfl,by lia,by lia,by lia⟩
 rw[em,RD (by lia)];simp only[AB,BF];have d0:=FE (S / 8) (show(m:Int)≠0 by lia);have d1:=G3 (S / 8) (show(0:Int) < (m:Int) by lia)
 obtain⟨g,eg,g1,g2⟩:∃g:Nat,(1:Int)+S / 8 % (m:Int)=g/\1<=g/\g<=m:=⟨((1:Int)+S / 8 % (m:Int)).toNat,by lia,by lia,by lia⟩
 rw[eg];obtain⟨U,et,hts⟩:=nA cell A;rw[et];simp only[AB];obtain⟨B,hk40,L⟩:=tO U;rw[L]
 have hT:Sw o (U.take B):=by
  have s1:=(QG B U).trans hts;exact⟨λx hx=>ng (s1.subset hx),s1.nodup (nh o),by rw[Dy];lia⟩
 rw[hT.web (by lia) A];simp only[AB,BF];have C:=hT.ties A;generalize LD (U.take B)=us at C;rw[Z];simp only[AB];rw[G6 (by omega) (by omega)];simp only[AB]
 have vq:(I / 8 % 5).toNat<=4:=by omega
 generalize (I / 8 % 5).toNat=nc at vq
 rw[Gx (f:=λx=>((Bn cell (79+x)).getD 0) / 8 % (o:Int)) (by rw[CV];lia) λx _=>by
  obtain⟨v,ev,-⟩:=Hs cell (79+x);rw[ev];simp only[AB];rw[RD (by lia)]
  rfl]
 have uC:∀c∈(GZ 0 nc).map (λx=>((Bn cell (79+x)).getD 0) / 8 % (o:Int)),0<=c/\c < (o:Int):=λc E=>by
  obtain⟨x,-,rfl⟩:=BS.mp E;exact⟨FE _ (by lia),G3 _ (by lia)⟩
 have O:((GZ 0 nc).map (λx=>((Bn cell (79+x)).getD 0) / 8 % (o:Int))).length<=4:=by rw[AJ,CV];exact vq
 generalize (GZ 0 nc).map (λx=>((Bn cell (79+x)).getD 0) / 8 % (o:Int))=P at uC O;simp only[AB,BF];rw[cU (by lia) (by lia)];simp only[AB];obtain⟨st,est,uO⟩:=nJ cell (show g<=o by lia) A;rw[est];simp only[AB]
 have due:(if (decide ((400:Int) < (ch o g:Int)))=true then Ds (λzV=>zV) (some (.nx (3:Int)))else some (.nx (1:Int)))=some (.nx (if 400 < ch o g then(3:Int)else 1):Fw Bool Int):=by
  by_cases k:400 < ch o g
  ·rw[wX (show(400:Int) < (ch o g:Int) by lia),qX rfl,qX k]
   rfl
  ·rw[wY (show ¬(400:Int) < (ch o g:Int) by lia),qY AT,qY k]
 rw[due];simp only[BF];rw[e91];simp only[AB];refine OkF.seq (N:=λs:ZLi×Int=>∀Q:ZLi,(s.1=[]->Q=[0])->(s.1≠[]->Q=s.1)->Dp (o,us) st Q=some s.2) (OkF.ite (λ_=>?_) λ_=>?_) ?_
 ·rw[e93]
  simp only[AB];rw[RD (by lia)];simp only[AB,BF];have a0:=FE (J / 8) (show((P.length:Int)+1)≠0 by lia);generalize J / 8 % ((P.length:Int)+1)=at' at a0;rw[show Ii [-(1:Int),(o:Int),(o:Int)+1,60,-(o:Int)]=some [-(1:Int),(o:Int),(o:Int)+1,60,-(o:Int)]from qX (by simp),e95];simp only[AB];obtain⟨bad,eb,hb⟩:=atI_nn (l:=[-(1:Int),(o:Int),(o:Int)+1,60,-(o:Int)]) (i:=v95 / 8 % 5) (by omega) (by simp;omega);rw[eb];simp only[AB,BF,ZC];have c1:=XW P none (some at');have c2:=XW P (some at') none;rw[O2 (by rw[Ac];lia)];simp only[AB];rw[O2 (by rw[AV,Ac];lia)];simp only[AB,BF,NQ]
  refine .nx λQ _ h2=>?_
  rw[h2 (by simp)];refine iL (c:=bad) (by simp) ?_;show ¬(0<=bad/\bad < (o:Int));simp at hb
  lia
 ·refine .nx λQ h1 h2=>?_
  by_cases k:P=[]
  ·rw[h1 k]
   exact Xa C g1 (by lia) uO (λc E=>by rw[Ab.mp E];lia) (by simp)
  ·rw[h2 k]
   exact Xa C g1 (by lia) uO uC (by lia)
 ·rintro⟨j,due2⟩ E
  dsimp only at E ⊢
  have e2:(if (decide ((j.length:Int)=(0:Int)))=true then Ds (λwA=>wA) ((Ii ((0:Int) :: [])).bind λxR=>some (.nx xR))else some (.nx j))=some (.nx (if j=[]then[0]else j):Fw Bool ZLi):=by
   by_cases k:j=[]
   ·subst k
    rfl
   ·have:j.length≠0:=λe=>k (IV e)
    rw[wY (show ¬(j.length:Int)=0 by lia),qY AT,qY k]
  simp only[ZC]at e2 ⊢;simp only[AB]at e2 ⊢;rw[e2];simp only[BF];rw[E _ (λk=>qX k) (λk=>qY k)];simp only[AB];exact(OkF.nx trivial:OkF (some (.nx ())) (λ_=>True) _)
theorem pH(W:Wd)(g:W.excs.Nodup)(ns:ZLi)(j:ns.length<=63):∃S',aV W [.fro (ns.map D.int)] []=.ok (.bl true) S':=by
 obtain⟨d,S',l,m,rfl⟩:=rF W g ns true (sh ns j) [] [.fro (ns.map D.int)] ⟨rfl,trivial⟩;exact⟨S',l⟩
end M
namespace PySem.W.Fast
noncomputable def tw66846848142427149:Nat:=0
noncomputable def tw5609840323898642658:Nat:=0
noncomputable def tw4702160511679246614:Nat:=0
noncomputable def tw17492176979016208561:Nat:=0
noncomputable def tw557456484687158526:Nat:=0
noncomputable def tw1015738974666081991:Nat:=0
noncomputable def tw6114770888084042537:Nat:=0
noncomputable def tw1309798389933023822:Nat:=0
noncomputable def tw4817990822727845265:Nat:=0
noncomputable def tw13215769543456161476:Nat:=0
noncomputable def tw7134444533709827609:Nat:=0
noncomputable def tw6395457778042530298:Nat:=0
noncomputable def tw4731882511874693688:Nat:=0
noncomputable def tw9801648239130448829:Nat:=0
noncomputable def tw15995507171858327404:Nat:=0
noncomputable def tw8768815719868430052:Nat:=0
noncomputable def tw6123017230755736348:Nat:=0
noncomputable def tw1742435113413928832:Nat:=0
noncomputable def tw5884749180213339081:Nat:=0
noncomputable def tw8244870610859383622:Nat:=0
noncomputable def tw6807341269971075166:Nat:=0
noncomputable def tw8671797388019622845:Nat:=0
noncomputable def tw13745344365945364071:Nat:=0
noncomputable def tw5002438360029554050:Nat:=0
noncomputable def tw3789701396432604151:Nat:=0
noncomputable def tw4159509151046703722:Nat:=0
noncomputable def tw5462107697011236488:Nat:=0
noncomputable def tw16243951967142689392:Nat:=0
noncomputable def tw14769769620073089641:Nat:=0
noncomputable def tw9157761716501836753:Nat:=0
noncomputable def tw16734701065787706987:Nat:=0
noncomputable def tw518938773963063526:Nat:=0
noncomputable def tw10700276330670354614:Nat:=0
noncomputable def tw9127609985232257297:Nat:=0
noncomputable def tw16288766073585271784:Nat:=0
noncomputable def tw14284031055189207153:Nat:=0
noncomputable def tw2608832220260481535:Nat:=0
noncomputable def tw3420188608116803376:Nat:=0
noncomputable def tw10004892201388959819:Nat:=0
noncomputable def tw9292956299130279249:Nat:=0
noncomputable def tw8333619404748779531:Nat:=0
noncomputable def tw5898061316406722902:Nat:=0
noncomputable def tw17975629031187772770:Nat:=0
noncomputable def tw14191025567378181425:Nat:=0
noncomputable def tw14453151326727489605:Nat:=0
noncomputable def tw5886029928345508080:Nat:=0
noncomputable def tw15091666205617235842:Nat:=0
noncomputable def tw12238502788638997628:Nat:=0
noncomputable def tw4120108136974669534:Nat:=0
noncomputable def tw13724541096426559355:Nat:=0
noncomputable def tw891951076676759671:Nat:=0
noncomputable def tw9585313300766538871:Nat:=0
noncomputable def tw10213651747973403911:Nat:=0
noncomputable def tw6130718260066835567:Nat:=0
noncomputable def tw15869789272342578199:Nat:=0
noncomputable def tw7380280560535544824:Nat:=0
noncomputable def tw7858003852098083758:Nat:=0
noncomputable def tw4650499004455015637:Nat:=0
noncomputable def tw2017429110794391490:Nat:=0
noncomputable def tw5275503017587195413:Nat:=0
noncomputable def tw4733498579474162059:Nat:=0
noncomputable def tw1325400958128646603:Nat:=0
noncomputable def tw1608347190465085664:Nat:=0
noncomputable def tw1181384263310360934:Nat:=0
noncomputable def tw1056721178878237850:Nat:=0
noncomputable def tw7794450189071437520:Nat:=0
noncomputable def tw7454886581143189649:Nat:=0
noncomputable def tw667124353266935146:Nat:=0
noncomputable def tw9066425188500225648:Nat:=0
noncomputable def tw18009880796335816852:Nat:=0
noncomputable def tw6677121875791678113:Nat:=0
noncomputable def tw4881791218734272785:Nat:=0
noncomputable def tw17945115173656867168:Nat:=0
noncomputable def tw12459681855456792447:Nat:=0
noncomputable def tw7551325556361917819:Nat:=0
noncomputable def tw524887848324478037:Nat:=0
noncomputable def tw10301046990202120273:Nat:=0
noncomputable def tw17665250764869087197:Nat:=0
noncomputable def tw17705382787156725637:Nat:=0
noncomputable def tw15753651205968803831:Nat:=0
noncomputable def tw16245966036059131791:Nat:=0
noncomputable def tw2417372195336037455:Nat:=0
noncomputable def tw12286978556686212107:Nat:=0
noncomputable def tw12650591475072930520:Nat:=0
noncomputable def tw5974816500817164300:Nat:=0
noncomputable def tw730806624132690970:Nat:=0
noncomputable def tw3566693638614233870:Nat:=0
noncomputable def tw14887870793816834449:Nat:=0
noncomputable def tw12437334391728977805:Nat:=0
noncomputable def tw974456020459182987:Nat:=0
noncomputable def tw17121525485747890013:Nat:=0
noncomputable def tw9773182951324011622:Nat:=0
noncomputable def tw12753611054171080403:Nat:=0
noncomputable def tw2835349035573687886:Nat:=0
noncomputable def tw7536363495712925090:Nat:=0
noncomputable def tw3576908548411817780:Nat:=0
noncomputable def tw13799940525269540218:Nat:=0
noncomputable def tw12672859650398389449:Nat:=0
noncomputable def tw9841852261094679116:Nat:=0
noncomputable def tw2612961762697312975:Nat:=0
noncomputable def tw13534265946879952578:Nat:=0
noncomputable def tw16648306751581105677:Nat:=0
noncomputable def tw8188525917211450839:Nat:=0
noncomputable def tw15349411192869467486:Nat:=0
noncomputable def tw2366078607655981528:Nat:=0
noncomputable def tw14419239789670074982:Nat:=0
noncomputable def tw14760455885189141096:Nat:=0
noncomputable def tw1610190379593576242:Nat:=0
noncomputable def tw4377193868570441282:Nat:=0
noncomputable def tw2179142762290636722:Nat:=0
noncomputable def tw14330054780069930380:Nat:=0
noncomputable def tw12481041021693538231:Nat:=0
noncomputable def tw1347764780019702370:Nat:=0
noncomputable def tw17786191314287131569:Nat:=0
noncomputable def tw9410370035578916206:Nat:=0
noncomputable def tw5196726652946382446:Nat:=0
noncomputable def tw15910338138686477102:Nat:=0
noncomputable def tw15878971375785775231:Nat:=0
noncomputable def tw13905442239675229111:Nat:=0
noncomputable def tw13440284287139024712:Nat:=0
noncomputable def tw12071622320648755030:Nat:=0
noncomputable def tw6935589003173100385:Nat:=0
noncomputable def tw591394250210766427:Nat:=0
noncomputable def tw13230578425362460375:Nat:=0
noncomputable def tw10569433058059520635:Nat:=0
noncomputable def tw2124024399784829306:Nat:=0
noncomputable def tw7090255972641885974:Nat:=0
end PySem.W.Fast
namespace M
open PySem PySem.Spec PyProof.Rows L2 PySem.W
theorem p7{l:OpenLaw}{w:Bu}{K:Frag}{h:CS}{A:Str->Option AE}{fa:AN}(X:K.In h)(G:h.Ns Av A)(O:A "law" = some (.ref fa))
  {f1 f2 f3 f4 f5 f6 f7 f8 f9 Η P Q R S U Y Z f18 f19 f20 f21 f22 f23 f24 f25 f26 f27 f28 f29 f30 o j B sN j' C E I J m g:AN} {uj u9:Tok}
  (o_Web:ClsAt K "Web" m)
  (o_Field:ClsAt K "Field" g)
  (a_GuardError:nsIn K Av "GuardError" = some (some (.ref j)))
  (a_BadPlaces:nsIn K Av "BadPlaces" = some (some (.ref B)))
  (a_NoPlace:nsIn K Av "NoPlace" = some (some (.ref sN)))
  (a_TooLarge:nsIn K Av "TooLarge" = some (some (.ref j')))
  (a_BadGuards:nsIn K Av "BadGuards" = some (some (.ref C)))
  (a_NoCall:nsIn K Av "NoCall" = some (some (.ref E)))
  (a_NoAnswer:nsIn K Av "NoAnswer" = some (some (.ref I)))
  (a_NoStep:nsIn K Av "NoStep" = some (some (.ref J)))
  (d1:Et K "checked_ties" JC f1)
  (d2:Et K "near_sets_of" JA f2)
  (d4:Et K "refuse_no_place" G4 f4)
  (d5:Et K "near" Yh f5)
  (d6:Et K "takes_of" N8 f6)
  (d7:Et K "bits_of" Pk f7)
  (d8:Et K "members" Pj f8)
  (d9:Et K "with_step" Mg f9)
  (d10:Et K "sets_of" Pi Η)
  (d11:Et K "ways_to_choose" Hf P)
  (d12:Et K "how_many" N9 Q)
  (d13:Et K "standings" Mh R)
  (d20:Et K "next_ones" Mi f20)
  (d21:Et K "layers_along" JB f21)
  (d22:Et K "answers_along" IK f22)
  (d23:Et K "kept_layers" KP f23)
  (d24:Et K "row_answered" Iz f24)
  (d25:Et K "_law_mixed" LL f25)
  (d26:Et K "_law_ties" Mj f26)
  (d27:Et K "_law_some" Ml f27)
  (d28:Et K "_law_turns" LK f28)
  (d29:Et K "_law_choices" JD f29)
  (d30:Et K "_law_caught" KQ f30)
  (d31:Et K "law" Z1 o)
  (d3:Nv K m "__init__" "Web.__init__" OA f3)
  (d14:Nv K g "linked_by_one" "Field.linked_by_one" E2 S)
  (d15:Nv K g "linked_by_all" "Field.linked_by_all" E3 U)
  (d16:Nv K g "__init__" "Field.__init__" LN Y)
  (d17:Nv K g "linked" "Field.linked" JE Z)
  (d18:Nv K g "behind" "Field.behind" JF f18)
  (d19:Nv K g "first_answer" "Field.first_answer" FT f19)
  (n_Web_places:findIn K (.ref m) "places" = some none)
  (n_Web_ties:findIn K (.ref m) "ties" = some none)
  (n_Web_near_sets:findIn K (.ref m) "near_sets" = some none)
  (n_Field_everything:findIn K (.ref g) "everything" = some none)
  (n_Field_kind:findIn K (.ref g) "kind" = some none)
  (n_Field_takes:findIn K (.ref g) "takes" = some none)
  (n_Field_numbers:findIn K (.ref g) "numbers" = some none)
  (n_Field_having:findIn K (.ref g) "having" = some none)
  (n_Field_place_bits:findIn K (.ref g) "place_bits" = some none)
  (n_Field_known:findIn K (.ref g) "known" = some none)
  (sp:specialIn K (.builtin "object.__class__") "__get__" = some (some (.builtin "getset_descriptor.__get__")))
  (tk:takesIn K (.builtin "object.__class__")=some true)
  (xnd:([sN,j']:List AN).Nodup)
  (xo_GuardError:mroIn K j (.type "object")=some true)
  (xb_GuardError:mroIn K j (.type "BaseException")=some true)
  (xt_GuardError:typeIn K (.ref j)=some (.type "type"))
  (xo_NoPlace:mroIn K sN (.type "object")=some true)
  (xb_NoPlace:mroIn K sN (.type "BaseException")=some true)
  (xt_NoPlace:typeIn K (.ref sN)=some (.type "type"))
  (xo_TooLarge:mroIn K j' (.type "object")=some true)
  (xb_TooLarge:mroIn K j' (.type "BaseException")=some true)
  (xt_TooLarge:typeIn K (.ref j')=some (.type "type"))
  (xe_NoPlace:excIn K sN Xb "ValueError.__new__" = true)
  (xg_NoPlace:findIn K (.ref sN) "__getattribute__" = some (some (.builtin "BaseException.__getattribute__")))
  (xn_NoPlace:findIn K (.ref sN) "__getattr__" = some none)
  (xa_NoPlace:findIn K (.ref sN) "__class__" = some (some (.builtin "object.__class__")))
  (xs_NoPlace_GuardError:subIn K (.ref sN) (.ref j)=some true)
  (xi_NoPlace_NoPlace:kitOne K (.ref sN) (.ref sN)=some true)
  (xi_NoPlace_TooLarge:kitOne K (.ref sN) (.ref j')=some false)
  (xi_NoPlace_ValueError:kitOne K (.ref sN) (.type "ValueError")=some true)
  (xi_NoPlace_BadGuards:kitOne K (.ref sN) (.ref C)=some false)
  (xi_NoPlace_BadPlaces:kitOne K (.ref sN) (.ref B)=some false)
  (xi_NoPlace_NoAnswer:kitOne K (.ref sN) (.ref I)=some false)
  (xi_NoPlace_NoCall:kitOne K (.ref sN) (.ref E)=some false)
  (xi_NoPlace_NoStep:kitOne K (.ref sN) (.ref J)=some false)
  (xe_TooLarge:excIn K j' Xb "ValueError.__new__" = true)
  (xg_TooLarge:findIn K (.ref j') "__getattribute__" = some (some (.builtin "BaseException.__getattribute__")))
  (xn_TooLarge:findIn K (.ref j') "__getattr__" = some none)
  (xa_TooLarge:findIn K (.ref j') "__class__" = some (some (.builtin "object.__class__")))
  (xs_TooLarge_GuardError:subIn K (.ref j') (.ref j)=some true)
  (xi_TooLarge_NoPlace:kitOne K (.ref j') (.ref sN)=some false)
  (xi_TooLarge_TooLarge:kitOne K (.ref j') (.ref j')=some true)
  (xi_TooLarge_ValueError:kitOne K (.ref j') (.type "ValueError")=some true)
  (xi_TooLarge_BadGuards:kitOne K (.ref j') (.ref C)=some false)
  (xi_TooLarge_BadPlaces:kitOne K (.ref j') (.ref B)=some false)
  (xi_TooLarge_NoAnswer:kitOne K (.ref j') (.ref I)=some false)
  (xi_TooLarge_NoCall:kitOne K (.ref j') (.ref E)=some false)
  (xi_TooLarge_NoStep:kitOne K (.ref j') (.ref J)=some false)
  (z_ValueError:nsIn K Av "ValueError" = some none)
  (z_enumerate:nsIn K Av "enumerate" = some none)
  (z_int:nsIn K Av "int" = some none)
  (z_isinstance:nsIn K Av "isinstance" = some none)
  (z_len:nsIn K Av "len" = some none)
  (z_list:nsIn K Av "list" = some none)
  (z_max:nsIn K Av "max" = some none)
  (z_min:nsIn K Av "min" = some none)
  (z_range:nsIn K Av "range" = some none)
  (z_reversed:nsIn K Av "reversed" = some none)
  (z_sorted:nsIn K Av "sorted" = some none)
  (z_tuple:nsIn K Av "tuple" = some none)
  (z_zip:nsIn K Av "zip" = some none)
  (g_MOST_PLACES:nsIn K Av "MOST_PLACES" = some (some (.int 60 uj)))
  (g_MOST_STANDINGS:nsIn K Av "MOST_STANDINGS" = some (some (.int 400 u9)))
  : ∃(W:Wd) (T:Txt K A W),fa=T.d_law.f/\W.excs.Nodup/\∀(s:AK) (v:AE),Xw s T.d_law.fd ⟨[v],[]⟩ [("script",v)]:=by
 obtain⟨zl,_,_,_,_,_,_,_,_,_,l,c,k⟩:=d31;have F:=gw (st:=Z1) l c k
 let W:Wd:=⟨j,B,sN,j',C,E,I,J,m,g⟩
 have uv:(clsIn K j).isSome=true:=OH xo_GuardError;have uM:(clsIn K sN).isSome=true:=OH xo_NoPlace;have uF:(clsIn K j').isSome=true:=OH xo_TooLarge;have L:XIs K sN:=⟨uM,xg_NoPlace,xn_NoPlace,xa_NoPlace,sp,tk,xo_NoPlace,xb_NoPlace⟩;have N:XIs K j':=⟨uF,xg_TooLarge,xn_TooLarge,xa_TooLarge,sp,tk,xo_TooLarge,xb_TooLarge⟩
 let T:Txt K A W:={
  d_checked_ties:=mkD X G d1 (bd2 λ_ _ _ _ _ _ _ _ _ _=>rfl)
  d_near_sets_of:=mkD X G d2 (bd2 λ_ _ _ _ _ _ _ _ _ _=>rfl)
  d_Web_init:=mkM d3 (bd3 λ_ _ _ _ _ _ _ _ _ _ _=>rfl)
  d_refuse_no_place:=mkD X G d4 (bd2 λ_ _ _ _ _ _ _ _ _ _=>rfl)
  d_near:=mkD X G d5 (bd2 λ_ _ _ _ _ _ _ _ _ _=>rfl)
  d_takes_of:=mkD X G d6 (bd1 λ_ _ _ _ _ _ _ _ _=>rfl)
  d_bits_of:=mkD X G d7 (bd1 λ_ _ _ _ _ _ _ _ _=>rfl)
  d_members:=mkD X G d8 (bd1 λ_ _ _ _ _ _ _ _ _=>rfl)
  d_with_step:=mkD X G d9 (bd3 λ_ _ _ _ _ _ _ _ _ _ _=>rfl)
  d_sets_of:=mkD X G d10 (bd2 λ_ _ _ _ _ _ _ _ _ _=>rfl)
  d_ways_to_choose:=mkD X G d11 (bd2 λ_ _ _ _ _ _ _ _ _ _=>rfl)
  d_how_many:=mkD X G d12 (bd2 λ_ _ _ _ _ _ _ _ _ _=>rfl)
  d_standings:=mkD X G d13 (bd2 λ_ _ _ _ _ _ _ _ _ _=>rfl)
  d_Field_linked_by_one:=mkM d14 (bd2 λ_ _ _ _ _ _ _ _ _ _=>rfl)
  d_Field_linked_by_all:=mkM d15 (bd2 λ_ _ _ _ _ _ _ _ _ _=>rfl)
  d_Field_init:=mkM d16 (bd4 λ_ _ _ _ _ _ _ _ _ _ _ _=>rfl)
  d_Field_linked:=mkM d17 (bd2 λ_ _ _ _ _ _ _ _ _ _=>rfl)
  d_Field_behind:=mkM d18 (bd3 λ_ _ _ _ _ _ _ _ _ _ _=>rfl)
  d_Field_first_answer:=mkM d19 (bd4 λ_ _ _ _ _ _ _ _ _ _ _ _=>rfl)
  d_next_ones:=mkD X G d20 (bd3 λ_ _ _ _ _ _ _ _ _ _ _=>rfl)
  d_layers_along:=mkD X G d21 (bd3 λ_ _ _ _ _ _ _ _ _ _ _=>rfl)
  d_answers_along:=mkD X G d22 (bd4 λ_ _ _ _ _ _ _ _ _ _ _ _=>rfl)
  d_kept_layers:=mkD X G d23 (bd3 λ_ _ _ _ _ _ _ _ _ _ _=>rfl)
  d_row_answered:=mkD X G d24 (bd4 λ_ _ _ _ _ _ _ _ _ _ _ _=>rfl)
  d__law_mixed:=mkD X G d25 (bd2 λ_ _ _ _ _ _ _ _ _ _=>rfl)
  d__law_ties:=mkD X G d26 (bd2 λ_ _ _ _ _ _ _ _ _ _=>rfl)
  d__law_some:=mkD X G d27 (bd3 λ_ _ _ _ _ _ _ _ _ _ _=>rfl)
  d__law_turns:=mkD X G d28 (bd1 λ_ _ _ _ _ _ _ _ _=>rfl)
  d__law_choices:=mkD X G d29 (bd2 λ_ _ _ _ _ _ _ _ _ _=>rfl)
  d__law_caught:=mkD X G d30 (bd3 λ_ _ _ _ _ _ _ _ _ _ _=>rfl)
  d_law:=⟨o,_,F,F.binds ((bd1 λ_ _ _ _ _ _ _ _ _=>rfl) _ _),OO X G zl⟩
  c_Web:=mkO X G o_Web d3
  n_Web_places:=n_Web_places
  n_Web_ties:=n_Web_ties
  n_Web_near_sets:=n_Web_near_sets
  c_Field:=mkO X G o_Field d16
  n_Field_everything:=n_Field_everything
  n_Field_kind:=n_Field_kind
  n_Field_takes:=n_Field_takes
  n_Field_numbers:=n_Field_numbers
  n_Field_having:=n_Field_having
  n_Field_place_bits:=n_Field_place_bits
  n_Field_known:=n_Field_known
  m_Field_linked_by_one:=mkE d14
  m_Field_linked_by_all:=mkE d15
  m_Field_linked:=mkE d17
  m_Field_behind:=mkE d18
  m_Field_first_answer:=mkE d19
  xm_GuardError:=OO X G a_GuardError
  xm_BadPlaces:=OO X G a_BadPlaces
  x_NoPlace:=⟨⟨xe_NoPlace⟩,OO X G a_NoPlace⟩
  x_TooLarge:=⟨⟨xe_TooLarge⟩,OO X G a_TooLarge⟩
  xm_BadGuards:=OO X G a_BadGuards
  xm_NoCall:=OO X G a_NoCall
  xm_NoAnswer:=OO X G a_NoAnswer
  xm_NoStep:=OO X G a_NoStep
  nd:=xnd
  caught_GuardError:=(all_cons ⟨xt_GuardError,uv,xb_GuardError,xs_NoPlace_GuardError⟩ (all_cons ⟨xt_GuardError,uv,xb_GuardError,xs_TooLarge_GuardError⟩ Ik))
  is_NoPlace:=U6 (al:=[sN]) (ex:=[sN,j']) (all_cons ⟨L,xi_NoPlace_NoPlace⟩ Ik) (all_cons (λn=>zX (by simp) n) (all_cons (λ_=>⟨N,xi_TooLarge_NoPlace⟩) Ik))
  i_NoPlace:=⟨uM,xt_NoPlace⟩
  is_TooLarge:=U6 (al:=[j']) (ex:=[sN,j']) (all_cons ⟨N,xi_TooLarge_TooLarge⟩ Ik) (all_cons (λ_=>⟨L,xi_NoPlace_TooLarge⟩) (all_cons (λn=>zX (by simp) n) Ik))
  i_TooLarge:=⟨uF,xt_TooLarge⟩
  is_ValueError:=U6 (al:=[sN,j']) (ex:=[sN,j']) (all_cons ⟨L,xi_NoPlace_ValueError⟩ (all_cons ⟨N,xi_TooLarge_ValueError⟩ Ik)) (all_cons (λn=>zX (by simp) n) (all_cons (λn=>zX (by simp) n) Ik))
  isT_BadGuards_BadPlaces_NoAnswer_NoCall_NoStep:=U6 (al:=[]) (ex:=[sN,j']) Ik (all_cons (λ_=>⟨L,((Kc xi_NoPlace_BadGuards).trans ((Kc xi_NoPlace_BadPlaces).trans ((Kc xi_NoPlace_NoAnswer).trans ((Kc xi_NoPlace_NoCall).trans ((Kc xi_NoPlace_NoStep).trans Xf)))))⟩) (all_cons (λ_=>⟨N,((Kc xi_TooLarge_BadGuards).trans ((Kc xi_TooLarge_BadPlaces).trans ((Kc xi_TooLarge_NoAnswer).trans ((Kc xi_TooLarge_NoCall).trans ((Kc xi_TooLarge_NoStep).trans Xf)))))⟩) Ik))
  b_ValueError:=EJ X G z_ValueError
  b_enumerate:=EJ X G z_enumerate
  b_int:=EJ X G z_int
  b_isinstance:=EJ X G z_isinstance
  b_len:=EJ X G z_len
  b_list:=EJ X G z_list
  b_max:=EJ X G z_max
  b_min:=EJ X G z_min
  b_range:=EJ X G z_range
  b_reversed:=EJ X G z_reversed
  b_sorted:=EJ X G z_sorted
  b_tuple:=EJ X G z_tuple
  b_zip:=EJ X G z_zip
  g_MOST_PLACES:=⟨uj,OO X G g_MOST_PLACES⟩
  g_MOST_STANDINGS:=⟨u9,OO X G g_MOST_STANDINGS⟩ }
 refine⟨W,T,?_,xnd,λs v=>.of_eq rfl⟩;have e:=O.symm.trans (OO X G zl);cases e;rfl
theorem walk{l:OpenLaw}{q:BP}{g:List Str}{B:(Str->Option AE)->CS->Prop}{o:Bu->CS->Prop}{d:DefRec}{K:Params->Frag}(C:l.most=some 63)(E:d.params.defaults=[])
  (I:∀(w:Bu) (h:CS),o w h->(K w.params).In h)
  (F:∀(w:Bu) (j:Str->Option AE) (m:AN) (h:CS),(K w.params).In h->h.Ns Av j->j d.name=some (.ref m) ->
   ∃(W:Wd) (T:Txt (K w.params) j W),m=T.d_law.f/\W.excs.Nodup/\∀(s:AK) (v:AE),Xw s T.d_law.fd ⟨[v],[]⟩ [("script",v)])
  (pH:∀(W:Wd),W.excs.Nodup->∀ns:ZLi,ns.length<=63->∃J,aV W [.fro (ns.map D.int)] []=.ok (.bl true) J) :
  WalkO q g B o l.row.toRowW d [] (λf vs=>a7 f vs):=
 L2.i8 (n:=63) (k:=9) (x:="script") (CX:=λw=>CXG l.prog w) (sp:=λw=>eD (K w.params)) C (by decide) E ⟨rfl,by decide,by decide⟩ I
  (λw j m h L G N=>by
   obtain⟨W,T,e,O,hb⟩:=F w j m h L G N;subst e
   exact⟨T.d_law.fd,hb,λA _ _=>gF (oU T) (pH W O)⟩)
  (λ_ _ a ns P Q R=>⟨a,ns,rfl,pV Q R,P,λ_=>rfl⟩) (λw H s e S z=>pz z)
end M
open PySem PySem.W PyProof.Rows
set_option maxRecDepth 100000 in
set_option maxHeartbeats 0 in
theorem PySem.Challenge.cw_guardround_k34_rows_refused_holds : PySem.Challenge.rw_guardround_k34_rows_refused.Holds := by
 w_on;o_law;k_head;(case hw=>w_witness2)
 k_fill
 refine M.walk (l:=IG) rfl rfl (λw h Y=>by first | exact kIn_of Y | exact km_in_of Y) ?F M.pH
 case F=>
  intro w mg fa h KX G wV;refine' M.p7 (l:=IG) (w:=w) KX G wV ?o_Web ?o_Field ?a_GuardError ?a_BadPlaces ?a_NoPlace ?a_TooLarge ?a_BadGuards ?a_NoCall ?a_NoAnswer ?a_NoStep ?d1 ?d2 ?d4 ?d5 ?d6 ?d7 ?d8 ?d9 ?d10 ?d11 ?d12 ?d13 ?d20 ?d21 ?d22 ?d23 ?d24 ?d25 ?d26 ?d27 ?d28 ?d29 ?d30 ?d31 ?d3 ?d14 ?d15 ?d16 ?d17 ?d18 ?d19 ?n_Web_places ?n_Web_ties ?n_Web_near_sets ?n_Field_everything ?n_Field_kind ?n_Field_takes ?n_Field_numbers ?n_Field_having ?n_Field_place_bits ?n_Field_known ?sp ?tk ?xnd ?xo_GuardError ?xb_GuardError ?xt_GuardError ?xo_NoPlace ?xb_NoPlace ?xt_NoPlace ?xo_TooLarge ?xb_TooLarge ?xt_TooLarge ?xe_NoPlace ?xg_NoPlace ?xn_NoPlace ?xa_NoPlace ?xs_NoPlace_GuardError ?xi_NoPlace_NoPlace ?xi_NoPlace_TooLarge ?xi_NoPlace_ValueError ?xi_NoPlace_BadGuards ?xi_NoPlace_BadPlaces ?xi_NoPlace_NoAnswer ?xi_NoPlace_NoCall ?xi_NoPlace_NoStep ?xe_TooLarge ?xg_TooLarge ?xn_TooLarge ?xa_TooLarge ?xs_TooLarge_GuardError ?xi_TooLarge_NoPlace ?xi_TooLarge_TooLarge ?xi_TooLarge_ValueError ?xi_TooLarge_BadGuards ?xi_TooLarge_BadPlaces ?xi_TooLarge_NoAnswer ?xi_TooLarge_NoCall ?xi_TooLarge_NoStep ?z_ValueError ?z_enumerate ?z_int ?z_isinstance ?z_len ?z_list ?z_max ?z_min ?z_range ?z_reversed ?z_sorted ?z_tuple ?z_zip ?g_MOST_PLACES ?g_MOST_STANDINGS
  (case o_Web | o_Field=>exact⟨by k_is,by k_is,by k_is,by k_is,by k_is,by k_is,by k_is⟩)
  (case a_GuardError | a_BadPlaces | a_NoPlace | a_TooLarge | a_BadGuards | a_NoCall | a_NoAnswer | a_NoStep=>k_is)
  (case d1 | d2 | d4 | d5 | d6 | d7 | d8 | d9 | d10 | d11 | d12 | d13 | d20 | d21 | d22 | d23 | d24 | d25 | d26 | d27 | d28 | d29 | d30 | d31=>exact⟨by k_is,_,_,_,_,_,_,_,_,_,by k_is,by k_is,by k_is⟩)
  (case d3 | d14 | d15 | d16 | d17 | d18 | d19=>exact⟨by k_is,by k_is,_,_,_,_,_,_,_,_,_,by k_is,by k_is,by k_is⟩)
  (case n_Web_places | n_Web_ties | n_Web_near_sets | n_Field_everything | n_Field_kind | n_Field_takes | n_Field_numbers | n_Field_having | n_Field_place_bits | n_Field_known | sp | tk=>k_is)
  (case xnd=>decide)
  (case xo_GuardError | xb_GuardError | xt_GuardError | xo_NoPlace | xb_NoPlace | xt_NoPlace | xo_TooLarge | xb_TooLarge | xt_TooLarge=>k_is)
  (case xe_NoPlace=>k_exc)
  (case xg_NoPlace | xn_NoPlace | xa_NoPlace | xs_NoPlace_GuardError=>k_is)
  (case xi_NoPlace_NoPlace | xi_NoPlace_TooLarge | xi_NoPlace_ValueError | xi_NoPlace_BadGuards | xi_NoPlace_BadPlaces | xi_NoPlace_NoAnswer | xi_NoPlace_NoCall | xi_NoPlace_NoStep=>kit_is)
  (case xe_TooLarge=>k_exc)
  (case xg_TooLarge | xn_TooLarge | xa_TooLarge | xs_TooLarge_GuardError=>k_is)
  (case xi_TooLarge_NoPlace | xi_TooLarge_TooLarge | xi_TooLarge_ValueError | xi_TooLarge_BadGuards | xi_TooLarge_BadPlaces | xi_TooLarge_NoAnswer | xi_TooLarge_NoCall | xi_TooLarge_NoStep=>kit_is)
  (case z_ValueError | z_enumerate | z_int | z_isinstance | z_len | z_list | z_max | z_min | z_range | z_reversed | z_sorted | z_tuple | z_zip | g_MOST_PLACES | g_MOST_STANDINGS=>k_is)
#print axioms PySem.Challenge.cw_guardround_k34_rows_refused_holds
