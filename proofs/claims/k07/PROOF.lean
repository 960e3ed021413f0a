import PyProof.Rows.All
import Wide.All
import OpenK.AllK
import Wide.FinOn
import Lean
import PyProof.EqAt
import PyProof.EqKinds
import PyProof.TupleCall
import PyProof.ExcBaseAll.ValueError
import PyProof.NsDelKeeps
import PyProof.NeKinds
import PyProof.Rows.SortShell
import PyProof.Rows.FStr
import PyProof.FString
import PyProof.ExcAttrAll.ValueError
import PyProof.ExcArgsOwn
import PyProof.Rows.SortRuns
import PyProof.TupleIter
import PyProof.Dict
import KE.KDictSum
import PyProof.Rows.SetFrom
import PyProof.SetRoads
import PyProof.Rows.Range3
import PyProof.WalksMore
import PyProof.TupleOfSeq
import PyProof.EnumMake
import PyProof.SliceList
import PyProof.MinMaxWalk
import PyProof.Rows.EnumRows
import PyProof.WalkInts
import PyProof.Rows.SeqCalls
import KE.KRevIter
import PyProof.CollectIter
import PyProof.TupleOfGen
import PyProof.Rows.FactsT2
import PyProof.ListRange
import PyProof.Rows.CallKwBuiltin
import PyProof.ZipIter
import PyProof.Rows.ZipGen
import PyProof.Rows.RuleM_int
import PyProof.Rows.AssignMoreSeq
import PySem.Challenge.RW_guardround_k07_what_is_a_parting
set_option Elab.async false
set_option linter.all false
set_option maxRecDepth 100000
set_option maxHeartbeats 8000000
theorem qX{c:Prop}{h:Decidable c}(hc:c){α:Sort u}{t e:α}:ite c t e=t:=if_pos hc
theorem qY{c:Prop}{h:Decidable c}(hc:Not c){α:Sort u}{t e:α}:ite c t e=e:=if_neg hc
theorem wX{p:Prop}[i:Decidable p](h:p):decide p=true:=decide_eq_true h
theorem wY{p:Prop}[i:Decidable p](h:Not p):decide p=false:=decide_eq_false h
theorem zX{a b:Prop}(h:a)(n:Not a):b:=absurd h n
noncomputable section
open Array renaming append_assoc->XT,getD->L5,getD_eq_getD_getElem?->EY,getElem?_eq_getElem->DV,getElem?_eq_none->GM,getElem?_eq_some_iff->Es,getElem?_setIfInBounds_ne->NX,getElem?_toList->DN,length_toList->Az,mem_extract_iff_getElem->OC,mem_of_getElem?->Cc,mem_toList_iff->BK,perm_iff_toList_perm->Er,toList->gj,toList_append->A6,toList_map->JD,toList_modify->WO,toList_push->EX,toList_reverse->Ep,toList_setIfInBounds->QD
open Array.Perm renaming refl->Mr
open Bool renaming and_eq_true->FB,and_false->Qm,false_and->fg,false_eq_true->BN,false_ne_true->AO,false_or->gi,not_eq_true'->ZB,not_false->Ql,not_true->L3,true_and->gh
open Eq renaming trans->DF
open False renaming elim->Dk
open ForInStep renaming yield->Gy
open Int renaming emod_lt_of_pos->DP,emod_nonneg->EO,le_antisymm->Kj,le_refl->mL,le_trans->kJ,lt_of_le_of_lt->Y9,natCast_add->fc,toNat_natCast->A7,toNat_of_nonneg->Yu,zero_add->kI
open List renaming Perm->Cu,all_eq_true->D2,all_map->NT,all_toArray->bv,any_cons->G9,any_eq_true->Jg,any_toArray->Jf,append_assoc->BC,append_nil->B6,drop_drop->Qk,drop_eq_getElem_cons->FC,drop_eq_nil_of_le->Uh,drop_sublist->Y7,eq_nil_of_length_eq_zero->HF,ext_getElem?->Ef,extract->NS,filterMap_cons->Lr,filterMap_cons_none->FQ,filterMap_cons_some->Dl,filterMap_map->Yt,find?_cons->Cy,flatten_append->Hb,flatten_cons->Y6,forIn_cons->cM,forIn_nil->fZ,getElem?_append_left->Ah,getElem?_append_right->BB,getElem?_drop->Hz,getElem?_eq_getElem->A0,getElem?_eq_none->Bx,getElem?_eq_none_iff->B8,getElem?_eq_some_iff->AK,getElem?_map->Ag,getElem?_range->CC,getElem?_replicate->Ct,getElem?_set->GY,getElem?_set_ne->A8,getElem?_set_self->BI,getElem?_take_of_lt->TF,getElem_drop->Y5,getElem_mem->OB,length->IZ,length_append->Af,length_cons->Aq,length_drop->D1,length_eraseIdx_of_lt->Qj,length_map->AJ,length_nil->EJ,length_replicate->Ki,length_reverse->XQ,length_set->Cw,length_singleton->Bi,length_take->Ch,lookup->HE,lookup_cons->CO,map->LC,mapM_cons->Qi,mapM_nil->TD,mapM_toArray->GX,map_append->BM,map_congr_left->D0,map_cons->An,map_drop->gd,map_filterMap->Mq,map_id->Oa,map_id'->ju,map_map->Bk,map_nil->NR,map_reverse->bu,map_set->jt,map_take->TC,mem_append->Ap,mem_append_left->Ck,mem_append_right->BG,mem_cons->Ax,mem_cons_of_mem->Ac,mem_cons_self->Ae,mem_filter->cL,mem_filterMap->Ys,mem_iff_getElem->B2,mem_map->A5,mem_map_of_mem->XO,mem_of_getElem?->Bp,mem_of_mem_take->WI,mem_or_eq_of_mem_set->Rg,mem_range->Qh,mem_reverse->br,mem_singleton->AS,mergeSort_perm->XN,nodup_append->NQ,nodup_cons->HV,nodup_nil->Qg,not_mem_nil->CN,of_mem_zip->Px,pairwise_append->BE,pairwise_cons->Yr,pairwise_iff_getElem->Da,pairwise_lt_range->Jz,pairwise_map->BR,pairwise_mergeSort->TV,pairwise_reverse->Kh,pairwise_singleton->Bz,perm_append_comm->Kg,range->BQ,range_succ->J6,range_succ_eq_map->Ug,replicate->BF,reverse_cons->IY,set_append_right->U2,singleton_append->Gx,size_toArray->AT,take_add_one->IX,take_append_drop->EV,take_length->G5,take_of_length_le->DD,take_sublist->NP,zipIdx_nil->cK,zip_cons_cons->Mp,zip_nil_left->Y4,zip_nil_right->Yq
open List.Pairwise renaming drop->kH,filterMap->kG,nil->HG,take->kF
open List.Perm renaming append->U3,append_left->DE,append_right->Ia,of_eq->WK,swap->XR,trans->WJ
open Nat renaming add_zero->kE,le_of_eq->J5,le_of_lt->U1,le_of_not_lt->OZ,le_refl->AM,le_succ->EC,le_trans->As,lt_irrefl->EU,lt_of_le_of_lt->B5,lt_of_lt_of_le->Ab,lt_succ_of_lt->CG,lt_succ_self->CQ,lt_trans->U0,min_le_right->cJ,ne_of_gt->Gc,ne_of_lt->Ad,not_lt->II,not_lt_zero->QA,sub_self->Uz,succ_ne_self->cI,zero_add->Gb,zero_le->CP
open Nat.succ renaming inj->Qe
open Ne renaming symm->Bl
open Option renaming bind_eq_some_iff->Rf,bind_some->AQ,getD_none->Yp,getD_some->Yo,isSome_iff_exists->Qd,isSome_map->Mo,map->Lq
open Option.some renaming inj->CA
open Or renaming inl->WH,inr->S8
open PyProof.Rows renaming AllBare->Ht,IntsAre->Pw,IsTup->U4,Keyed->Ak,SortKind->FK,SortSt->BA,Subscript_->Uw,args_list_sort->Uu,args_sorted1->Y2,args_tuple_getitem->gb,arrOf->AY,boot_all->mK,boot_bool->mJ,boot_isinstance->mI,boot_list->OA,boot_max->mH,boot_min->mG,boot_range->gZ,boot_set->mF,boot_sorted->NM,boot_sum->mE,boot_tuple->mD,bubble->gY,callWith_builtin1->LB,callWith_type1->Br,elem'_eq->cG,entry_list_sort->TQ,entry_sorted->Y0,entry_tuple_getitem->fW,envOfC->LQ,failedOf->Hu,firstMet->C3,firstMet_length_le->gR,firstMet_succ->Mn,firstOfTuple'->Hs,general'->P5,keyKind'_eq->cF,kind_sorted->cE,listUpdate_at->XI,ltAt'->jn,lt_int->lz,mirror->JA,mirror_perm->Sz,oneTypeOnly'_eq->lv,pairsOf->Hr,pendingOf->Aa,plain_sorted->Yz,reverseSlice'->N9,reverseSlice'_eq->Ku,seqEpoch_at->cB,seqObj->E3,size_push'->gK,slot_list_sort->Um,slot_tuple_getitem->Bu,sortedHeap->OT,sortedHeap_at->XG,sortedHeap_old->Ul,step_dedup->Nr,subscriptTail->N8,subscriptTail_builtinR->Yx,tuples'->jk,wpS_bind->AL,wpS_forRange->Bs,wpS_get->G6,wpS_modify->DG,wpS_mono->Cz,wpS_pure->AN
open PyProof.Rows.F renaming entry_set_update_loop->WM,plain_set_update_loop->J7
open PyProof.Rows.IntsAre renaming int_at->Jr
open PyProof.Rows.IsTup renaming new->Y8
open PyProof.Rows.SortSt renaming mk'->Gq
open PySem renaming Addr->AI,Around->Ay,BindsTo->Uj,CmpOp->TJ,DictEntry->NU,ElemsOf->jx,FuncData->De,GenState->JC,Heap->BP,IsEnum->Rh,IsPart->M0,Keyword->Ib,Model->TB,NameKind->QB,Paired->G8,PassesOwn->NO,Program->Al,Result->Ra,Scope->Hv,SetTable->Cb,Shared->AE,Stmt->C2,Value->AB,Within->TU,World->A2,assign->LS,assignEach->Ed,atKey->Ut,attributeBase->DS,backTo->C1,backToKw->Us,behindInMarks->Bq,binaryOp->Eo,bindC->Yj,bindL->Yi,bootBuiltins->Ec,builtinLookup_eq_fast->bp,builtinsNs->gX,cLine->DL,call->XJ,call_meets->LR,callerA->P7,cellsFrom->kA,checkBuiltinCall->RZ,checkCount->gW,check_set_init_1->j9,codeAny->G7,codeAny_builtin->En,codeAny_call_builtin->Mw,codeAny_mono->Eb,codeAny_of_tree->TR,compareOp->Bb,concat_meets->Y1,drawOrder->j8,eval->Bg,firstArgMember->EG,fits_of_scanBound->P6,foldedSetIterable->FA,getItem->Jy,holding->LP,intKind->GU,intKind_is->gP,isSubtype->Yh,isSubtype_stop->Mv,isSubtype_type->FJ,isTrue->gN,keywordEach->Mu,letOwnedTupleGo->Lp,mainGlobals->Aj,mem_of_lookup->Dz,model->AR,newExc->RY,newFields->j7,newTuple->Ur,noFill_tuple_add->RX,noteFrame->Yg,pickOrder->NK,plainId_quiet->J2,preSum->gM,pyIter->OU,pyNext->Ff,raiseNew->cC,rawInt->Do,relabel->IV,relayAll->Mt,scanBound->Gp,seqIndex?->j6,seqIndex_of->cA,seq_tuple_add->XH,setField->b0,setItem->jm,setsByText->Uq,sliceBounds->ES,slicePick->Yf,slotArgs->Uo,slot_list_getitem->P3,spliced->Yy,standAt->jl,starEach->AU,subscripted->Sy,swapsWith->FZ,sysModules->Ea,tupleKind->RW,tupleKind_room_in1->Iz,typeLookup_type->lu,valueAt->P2,weight_type_call_type->bo,wpAny->AZ,wpAny_Call_Name_kw->Dc,wpAny_Name->gH,wpAny_askSetting->FY,wpAny_assign_Name->jj,wpAny_attempt->DR,wpAny_bind->AA,wpAny_call->LO,wpAny_callSpecial?_slot->BO,wpAny_call_entry->BJ,wpAny_comprehension_free->XF,wpAny_dictEntries->P1,wpAny_dictEpoch->TN,wpAny_eqBool_int->j4,wpAny_execs_cons->jz,wpAny_execs_nil->Ln,wpAny_field->C0,wpAny_fieldsOf->EF,wpAny_getItem_list_slice->XD,wpAny_handled->N7,wpAny_holding->Bh,wpAny_isInstance->Ha,wpAny_isOneOf_keyiter->Ls,wpAny_isTrue_Compare1->bn,wpAny_ite_split->TM,wpAny_load->gF,wpAny_loadPart'->Dy,wpAny_mono->FI,wpAny_newList->N6,wpAny_newObj_type->A3,wpAny_of_eq->Jx,wpAny_passesOwn->Em,wpAny_pure->AD,wpAny_pyIter_enum->Jw,wpAny_pyIter_list->P0,wpAny_pyIter_slot->Pz,wpAny_pyIter_tuple->EZ,wpAny_rule->Ga,wpAny_runValue->Uk,wpAny_seqItems->Ms,wpAny_sequenceKey->ji,wpAny_setEntries_of->Fe,wpAny_setField->Db,wpAny_setField_rec->Iy,wpAny_setState_of->DC,wpAny_specialOf->ls,wpAny_standAt->XC,wpAny_storeSet_of->jh,wpAny_throw->Sx,wpAny_truthy_bool->DB,wpAny_typeNameOfWhole_keyiter->ER,wpAny_typeNameOf_keyiter->GH,wpAny_typeOf->FX,wpAny_updateSeq->TL
open PySem.Around renaming under->TK,under_plain->WP,under_plainId->El
open PySem.Builtin.Dict renaming dictSlotNone->mM,showsAll->Oc
open PySem.Builtin.Dict_items renaming ownsTuple->J1
open PySem.Builtin.Frozenset renaming addrOf->cR,newClass->cQ,sizeOf->cP,slot0->cO,updateFrom->J8
open PySem.Builtin.List renaming listExtendWith->Gr,listItems->IA,listLengthHint->Lz,listSameRef->NW,listTooLong->DM
open PySem.Builtin.ObjectAttr renaming bindTo->bz
open PySem.Builtin.Range renaming rangeSize->NV
open PySem.Builtin.Slice renaming sliceAdjust->HA,sliceApplied->Ly,sliceFields->kO,slicePartIndex->kN,slicePlaces->EK
open PySem.Builtin.SmallTypes renaming nextOf->D4
open PySem.Builtin.Tuple renaming tupleCompareSizes->kM,tupleExact->Eg,tupleIsExact->kL,tupleItemsOf->Lx
open PySem.Calls renaming Name_function_global->QC,callWith_builtin->TW,call_function_entry->IJ,evalArgs_plain->U5,spliced_cons->Lw,spliced_nil->M1
open PySem.Challenge renaming pw_guardround_k07_what_is_a_parting->gc,rw_guardround_k07_what_is_a_parting->GV
open PySem.Code renaming frames->kK,isFrame->Ui,quiet_builtin->Yw
open PySem.Data renaming cell->bx,fields->WN
open PySem.EntryCells renaming newEntry->Rn
open PySem.F renaming args_dict_keyiterator_next_1->Kv,args_list_extend_2->ZA,args_tuple_add_2->IH,args_tuple_iterator_next_1->Rj,args_tuple_lt_2->Qc,called_set->B0,entry_dict_keyiterator_next->LA,entry_list_extend->bw,entry_set_init->gf,entry_tuple_add->IW,entry_tuple_iterator_next->TH,entry_tuple_lt->Re,entry_type_call->ff,excAttr_ValueError->OY,plainAttrs_list->Dq,plain_extend_loop->Pv,plain_list_iadd->Qb,plain_set_new->jw,slot_dict_iter->Rc,slot_dict_keyiterator_next->CI,slot_enumerate_next->Yv,slot_list_extend->P9,slot_list_extend->cN,slot_set_iter->jv,slot_tuple_add->JB,slot_tuple_iterator_next->FD,slot_tuple_lt->Jq,typeCall_set_1->ge,type_list_extend->P8
open PySem.Heap renaming ExtBut->LD,SameBut->CK,get?_none_of_le->WL,get?_push_of_some->AF,get?_push_size->AV,get?_update_ne->XS,get?_update_other->Ba,get?_update_self->By,lt_size->AW,size_push->BZ
open PySem.Heap.IsSliceOf renaming new->Py
open PySem.Heap.SameBut renaming refl->Ri,update->CM
open PySem.IsRange renaming new->fb
open PySem.NameKind renaming free->Hy
open PySem.Obj renaming cls_mapFields->Ix,data_mapFields->B4,isFreed_of_fields->Ee,mapFields->Cj,mapSeq->DO,putSet->Mz
open PySem.Paired renaming length->FG,snoc->Uf
open PySem.SeqAt.RcAt renaming tuples->kC
open PySem.SetTable renaming below->GK,grown->ET
open PySem.SetTable.probe renaming go->cD
open PySem.Shared renaming TypeIs->cH
open PySem.Source renaming order->Mm
open PySem.Str renaming empty->Uc,ofString->DH
open PySem.Value renaming bool->Jp,builtin->fY,bytes->jr,float->Uv,int->Fd,isInt->jq,isInt_shape->Yk,isStrOf->fX,none->A4,ref->Av,str->Nn,type->Bc
open PySem.W renaming Frag->AC,InstAt->Y3,callWith_K->Uy,cellsFrom_some->Rb,clsIn->K9,codeIn->OX,emptyDict->CT,excIn->bq,findIn->CS,findObj->Yn,fnOf->HI,handedIn->XM,hasDictIn->Lv,hideAll->Je,hideAll_get->Ue,hideAll_none->J4,instObj->DT,kdu_collect->Ud,keepIn->Fg,kia_one->B1,kitOne->Dp,kitx_dict->WG,kitx_list->WF,lookIn->OW,looks_findIn->J3,makesIn->Ym,methodObj->Lu,mg_none_of->Dd,mg_of->Fc,mroIn->K0,nsOkIn->OV,of_hideAll->LU,plainGet->Mx,plainOver->WE,specialIn->WD,tail_of_in->Ux,takerIn->Nq,takesIn->Yl
open PySem.W.Looks renaming here->kD
open PySem.W.WData renaming int->lw
open PySem.W.WShape renaming has->jp
open PySem.Walks renaming list->kB,tuple->jo
open PySem.Within renaming cons->ly
open PySem.pickOrder renaming go->P4
open Sum renaming inl->Np,inr->No
open True renaming intro->EB
namespace L2
open PySem PySem.Spec PyProof.Rows
abbrev Key:=Sum Int Str
def RE:Key->AB->Bool
 | .inl k,v=>jq k v
 | .inr x,v=>fX x v
def keyH (w:A2):Key->Int
 | .inl k=>hashInt k
 | .inr x=>hashStr w x
theorem C9:∀ {k:Key} {v:AB},RE k v=true->(∃i t,k=Np i/\v=Fd i t)∨(∃x t,k=No x/\v=Nn x t)
 | .inl i,v,h=>by
  obtain ⟨t,e⟩:=Yk (k:=i) (v:=v) h;exact .inl ⟨i,t,rfl,e⟩
 | .inr x,v,h=>by
  obtain ⟨t,e⟩:=AB.isStrOf_shape (x:=x) (v:=v) h;exact .inr ⟨x,t,rfl,e⟩
theorem X4 (i:Int) (t:Tok):RE (.inl i) (.int i t)=true:=by simp [RE,jq]
theorem X3 (x:Str) (t:Tok):RE (.inr x) (.str x t)=true:=by simp [RE,fX]
theorem jA (a b:Int):decide ((Np a:Key)=Np b)=(a==b):=by
 by_cases e:a=b
 ·subst e;simp
 ·have h:¬(Np a:Key)=Np b:=λq=>e (Np.inj q)
  rw [wY h];exact (beq_eq_false_iff_ne.mpr e).symm
theorem i7 (a b:Str):decide ((No a:Key)=No b)=decide (a=b):=by
 by_cases e:a=b
 ·subst e;simp
 ·have h:¬(No a:Key)=No b:=λq=>e (No.inj q)
  rw [wY h,wY e]
theorem i9 (a:Int) (b:Str):decide ((Np a:Key)=No b)=false:=wY (λq=>nomatch q)
theorem i8 (a:Str) (b:Int):decide ((No a:Key)=Np b)=false:=wY (λq=>nomatch q)
def EN (prog:Al) (w:A2):PySem.KeyKind prog w Key where
 is:=RE
 hash:=keyH w
 inj:=λv a b ha hb=>by
  rcases C9 ha with ⟨i,t,rfl,rfl⟩ | ⟨x,t,rfl,rfl⟩
  ·rcases C9 hb with ⟨j,u,rfl,e⟩ | ⟨y,u,rfl,e⟩
   ·injection e with e1 _;rw [e1]
   ·exact nomatch e
  ·rcases C9 hb with ⟨j,u,rfl,e⟩ | ⟨y,u,rfl,e⟩
   ·exact nomatch e
   ·injection e with e1 _;rw [e1]
 byValue:=λk v h=>by
  rcases C9 h with ⟨i,t,rfl,rfl⟩ | ⟨x,t,rfl,rfl⟩ <;> rfl
 pyHash:=λhv h=>by
  rcases C9 hv with ⟨i,t,rfl,rfl⟩ | ⟨x,t,rfl,rfl⟩
  ·exact wpAny_pyHash_int h
  ·exact wpAny_pyHash_str h
 eqBool:=λhu hv h=>by
  rcases C9 hu with ⟨i,t,rfl,rfl⟩ | ⟨x,t,rfl,rfl⟩
  ·rcases C9 hv with ⟨j,u,rfl,rfl⟩ | ⟨y,u,rfl,rfl⟩
   ·rw [jA] at h;exact j4 h
   ·rw [i9] at h;exact SeqAt.EqAt.int_str i t y u _ _ _ _ h
  ·rcases C9 hv with ⟨j,u,rfl,rfl⟩ | ⟨y,u,rfl,rfl⟩
   ·rw [i8] at h;exact SeqAt.EqAt.str_int x t j u _ _ _ _ h
   ·rw [i7] at h;exact wpAny_eqBool_str h
 «strs»:=λk x t v h=>by
  rcases C9 h with ⟨i,u,rfl,e⟩ | ⟨y,u,rfl,e⟩
  ·exact nomatch e
  ·injection e with e1 _
   subst e1
   cases v <;> rfl
theorem T8 (prog:Al) (w:A2) (i:Int) (t:Tok):(EN prog w).is (.inl i) (.int i t)=true:=X4 i t
theorem T7 (prog:Al) (w:A2) (x:Str) (t:Tok):(EN prog w).is (.inr x) (.str x t)=true:=X3 x t
inductive V where
 | non | bl (b:Bool) | int (i:Int) | str (x:Str) | byt (b:Array UInt8) | flt (b:UInt64) | ref (a:AI) | ty (n:String)
 deriving DecidableEq
def RelV:V->AB->Prop
 | .non,u=>u=A4
 | .bl b,u=>u=Jp b
 | .int i,u=>∃t,u=Fd i t
 | .str x,u=>∃t,u=Nn x t
 | .byt b,u=>∃t,u=jr b t
 | .flt b,u=>∃t,u=Uv b t
 | .ref a,u=>u=Av a
 | .ty n,u=>u=Bc n
abbrev BL:List V->List AB->Prop:=G8 RelV
theorem BL.length {xs:List V} {us:List AB} (r:BL xs us):xs.length=us.length:=FG r
theorem BL.get:∀ {xs:List V} {us:List AB} {i:Nat} {x:V},BL xs us->xs[i]?=some x->∃u,us[i]?=some u/\RelV x u
 | _,_,_,_,.nil,e=>by simp at e
 | _,_,0,_,.cons r _,e=>by simp at e;subst e;exact ⟨_,rfl,r⟩
 | _,_,i+1,x,.cons _ t,e=>by
  obtain ⟨u,h1,h2⟩:=BL.get (i:=i) (x:=x) t (by simpa using e);exact ⟨u,by simpa using h1,h2⟩
theorem BL.set {x:V} {u:AB} (r:RelV x u):∀ {xs:List V} {us:List AB} (i:Nat),BL xs us->BL (xs.set i x) (us.set i u)
 | _,_,_,.nil=>.nil
 | _,_,0,.cons _ t=>.cons r t
 | _,_,i+1,.cons q t=>.cons q (BL.set r i t)
theorem BL.append:∀ {xs ys:List V} {us ws:List AB},BL xs us->BL ys ws->BL (xs++ys) (us++ws)
 | _,_,_,_,.nil,s=>s
 | _,_,_,_,.cons r t,s=>.cons r (BL.append t s)
theorem BL.take:∀ {xs:List V} {us:List AB} (n:Nat),BL xs us->BL (xs.take n) (us.take n)
 | _,_,0,_=>.nil
 | _,_,_+1,.nil=>.nil
 | _,_,n+1,.cons r t=>.cons r (BL.take n t)
theorem BL.drop:∀ {xs:List V} {us:List AB} (n:Nat),BL xs us->BL (xs.drop n) (us.drop n)
 | _,_,0,r=>r
 | _,_,_+1,.nil=>.nil
 | _,_,n+1,.cons _ t=>BL.drop n t
def NI:Option V->Option AB->Prop
 | some v,some u=>RelV v u
 | none,none=>True
 | _,_=>False
def KV {κ:Type}:List (κ×V)->List (κ×AB)->Prop:=G8 λ(p:κ×V) (q:κ×AB)=>p.1=q.1/\RelV p.2 q.2
def kV:Key->V
 | .inl i=>.int i
 | .inr x=>.str x
inductive HO where
 | lst (xs:List V)
 | tup (xs:List V)
 | dK (kvs:List (Key×V)) | dT (kvs:List (List Key×V))
 | set (S:Int->Bool) (n:Nat)
 | ins (C dx:AI) (fs:List (Str×V))
 | own (x:AI)
 | xd (fs:List (Str×V))
 | met (f x:AI)
 | rng (lo hi:Int)
 | frz (o:Obj) (u:HO)
 | tbl (ps:Array AB)
 | ext (φ:BP->Prop)
abbrev Hp:=AI->Option HO
def upd (H:Hp) (a:AI) (o:HO):Hp:=λb=>if b=a then some o else H b
theorem Bd {H:Hp} {a:AI} {o:HO}:upd H a o a=some o:=by unfold upd;rw [qX rfl]
theorem Bm {H:Hp} {a b:AI} {o:HO} (h:b≠a):upd H a o b=H b:=by unfold upd;rw [qY h]
theorem lK {H:Hp} {a b:AI} {o u:HO} (h:H a=some o) (h':H b=some u) (d:o≠u):a≠b:=by
 intro e;subst e;rw [h] at h';exact d (CA h')
theorem B7 {H:Hp} {a b:AI} {o:HO} (h:H a=some o) (h':H b=none):a≠b:=by
 intro e;subst e;rw [h] at h';cases h'
section
variable (P:Al) (w:A2)
def Ca (H:Hp) (h:BP) (a:AI):HO->Prop
 | .lst xs=>xs.length<=sizeLine/\∃(its:List AB) (n:Nat),BL xs its/\h.get? a=some { cls:=.type "list",data:=.seq its.toArray n }
 | .tup xs=>xs.length<=sizeLine/\∃its:List AB,BL xs its/\U4 h a its.toArray
 | .dK kvs=>kvs.length<=sizeLine/\(a==Ea)=false/\∃vs,KV kvs vs/\h.DictOf (EN P w) a vs
 | .dT kvs=>kvs.length<=sizeLine/\(a==Ea)=false/\∃xs:List (List Key×AI×AB),
   G8 (λ(p:List Key×V) (q:List Key×AI×AB)=>p.1=q.1/\H q.2.1=some (.tup (p.1.map kV))/\RelV p.2 q.2.2) kvs xs /\
   ∃o es ep,h.get? a=some o/\o.ExactDict/\o.data=.dict es ep/\es.toList=xs.map (entryOfKey (RW (EN P w)))/\(xs.map (·.1)).Nodup
 | .set S n=>h.SetOf (GU P w) a S n
 | .ins C dx fs=>H dx=some (.own a)/\fs.length<=1000/\dx≠a/\h.get? a=some (DT C dx) /\
   ∃mA,h.Ns1 dx mA/\(∀f,NI (fs.lookup f) (mA f))/\TU mA (fs.map (·.1))
 | .own _=>∃o,h.get? a=some o
 | .xd fs=>∃mA,h.Ns1 a mA/\∀f,NI (fs.lookup f) (mA f)
 | .rng lo hi=>∃t u v,h.get? a=some { cls:=.type "range",data:=.fields #[.int lo t,.int hi u,.int 1 v] }
 | .frz o u=>h.get? a=some o/\Ca H h a u
 | .tbl ps=>h.get? a=some { cls:=.none,data:=.fields ps }
 | .met f x=>h.get? a=some (Lu (.ref f) (.ref x))
 | .ext φ=>φ h/\(∃o,h.get? a=some o)/\∀h1 h2:BP,φ h1->(∀o,h1.get? a=some o->h2.get? a=some o)->φ h2
def HOk (H:Hp) (h:BP):Prop:=∀a o,H a=some o->Ca P w H h a o
end
section
variable {P:Al} {w:A2} {H H':Hp} {h h':BP} {a:AI} {o:HO}
theorem Ca.lt (x:Ca P w H h a o):a < h.objs.size:=by
 cases o with
 | lst xs=>obtain ⟨_,_,_,_,e⟩:=x;exact AW e
 | tup xs=>obtain ⟨_,_,_,p⟩:=x;exact p.lt
 | dK kvs=>obtain ⟨_,_,_,_,o,_,_,e,_⟩:=x;exact AW e
 | dT kvs=>obtain ⟨_,_,_,_,o,_,_,e,_⟩:=x;exact AW e
 | set S n=>obtain ⟨o,_,_,_,e,_⟩:=x;exact AW e
 | ins C dx fs=>obtain ⟨_,_,_,e,_⟩:=x;exact AW e
 | own y=>obtain ⟨_,e⟩:=x;exact AW e
 | xd fs=>obtain ⟨_,⟨_,_,_,e,_⟩,_⟩:=x;exact AW e
 | rng lo hi=>obtain ⟨_,_,_,e⟩:=x;exact AW e
 | frz ob u=>obtain ⟨e,_⟩:=x;exact AW e
 | tbl ps=>exact AW (show h.get? a=some _ from x)
 | met f y=>exact AW (show h.get? a=some _ from x)
 | ext φ=>obtain ⟨_,⟨_,e⟩,_⟩:=x;exact AW e
theorem G8.mapP {α β:Type} {F G:α->β->Prop}:∀ {l₁:List α} {l₂:List β},G8 F l₁ l₂->(∀a b,F a b->G a b)->G8 G l₁ l₂
 | _,_,.nil,_=>.nil
 | _,_,.cons r t,f=>.cons (f _ _ r) (G8.mapP t f)
theorem Ca.stay (x:Ca P w H h a o) (k:∀b u,(b=a∨H b=some (.own a))->h.get? b=some u->h'.get? b=some u)
  (ho:∀b,H b=some (.own a)->H' b=some (.own a)) (ht:∀b xs,H b=some (.tup xs)->H' b=some (.tup xs)):Ca P w H' h' a o:=by
 induction o with
 | lst xs=>obtain ⟨z,its,n,r,e⟩:=x;exact ⟨z,its,n,r,k _ _ (.inl rfl) e⟩
 | tup xs=>obtain ⟨z,its,r,ob,e,c⟩:=x;exact ⟨z,its,r,ob,k _ _ (.inl rfl) e,c⟩
 | dK kvs=>obtain ⟨z,y,vs,r,ob,es,ep,e,c⟩:=x;exact ⟨z,y,vs,r,ob,es,ep,k _ _ (.inl rfl) e,c⟩
 | dT kvs=>
  obtain ⟨z,y,xs,r,ob,es,ep,e,c⟩:=x;exact ⟨z,y,xs,G8.mapP r λp q z=>⟨z.1,ht _ _ z.2.1,z.2.2⟩,ob,es,ep,k _ _ (.inl rfl) e,c⟩
 | set S n=>obtain ⟨ob,es,ep,t,e,c⟩:=x;exact ⟨ob,es,ep,t,k _ _ (.inl rfl) e,c⟩
 | ins C dx fs=>
  obtain ⟨d,z,ne,e,mA,⟨od,es,ep,e2,c⟩,r⟩:=x;exact ⟨ho _ d,z,ne,k _ _ (.inl rfl) e,mA,⟨od,es,ep,k _ _ (.inr d) e2,c⟩,r⟩
 | own y=>obtain ⟨ob,e⟩:=x;exact ⟨ob,k _ _ (.inl rfl) e⟩
 | xd fs=>obtain ⟨mA,⟨od,es,ep,e,c⟩,r⟩:=x;exact ⟨mA,⟨od,es,ep,k _ _ (.inl rfl) e,c⟩,r⟩
 | rng lo hi=>obtain ⟨t,u,v,e⟩:=x;exact ⟨t,u,v,k _ _ (.inl rfl) e⟩
 | frz ob u ih=>obtain ⟨e,q⟩:=x;exact ⟨k _ _ (.inl rfl) e,ih q⟩
 | tbl ps=>
  have e:h.get? a=some { cls:=.none,data:=.fields ps }:=x;show h'.get? a=some { cls:=.none,data:=.fields ps };exact k a _ (.inl rfl) e
 | met f y=>
  have e:h.get? a=some (Lu (.ref f) (.ref y)):=x;show h'.get? a=some (Lu (.ref f) (.ref y));exact k a _ (.inl rfl) e
 | ext φ=>obtain ⟨p,⟨o,e⟩,st⟩:=x;exact ⟨st _ _ p λo q=>k _ _ (.inl rfl) q,⟨o,k _ _ (.inl rfl) e⟩,st⟩
theorem HOk.lt (x:HOk P w H h) (e:H a=some o):a < h.objs.size:=(x a o e).lt
theorem HOk.fresh (x:HOk P w H h) (e:h.objs.size<=a):H a=none:=by
 cases q:H a with
 | none=>rfl
 | some u=>exact zX (Ab (x.lt q) e) (EU _)
theorem HOk.kept (x:HOk P w H h) (k:∀b u,h.get? b=some u->h'.get? b=some u):HOk P w H h':=λa o e=>
 (x a o e).stay (λb u _ q=>k b u q) (λ_ q=>q) λ_ _ q=>q
theorem HOk.laid (x:HOk P w H h) (k:∀b u,h.get? b=some u->h'.get? b=some u) (hp:h.objs.size<=a) (new:Ca P w (upd H a o) h' a o):HOk P w (upd H a o) h':=λb u e=>by
 have hn:=x.fresh hp
 by_cases hb:b=a
 ·subst hb;rw [Bd] at e;cases e;exact new
 ·rw [Bm hb] at e
  exact (x b u e).stay (λc v _ q=>k c v q) (λc q=>by rw [Bm (B7 q hn)];exact q) λc xs q=>by rw [Bm (B7 q hn)];exact q
end
def Rd (H:Hp) (a:AI) (u:HO):Prop:=H a=some u∨∃o,H a=some (.frz o u)
theorem Rd.ok {P:Al} {w:A2} {H:Hp} {h:BP} {a:AI} {u:HO} (r:Rd H a u) (x:HOk P w H h):Ca P w H h a u:=by
 rcases r with r | ⟨o,r⟩
 ·exact x a u r
 ·obtain ⟨_,q⟩:=x a _ r
  exact q
def Mut:Option HO->Prop
 | some (.lst _)=>True
 | some (.dK _)=>True
 | some (.dT _)=>True
 | some (.set _ _)=>True
 | some (.ins _ _ _)=>True
 | some (.ext _)=>True
 | _=>False
section
variable {P:Al} {w:A2} {H:Hp} {h h':BP} {x e:AI} {o':HO}
theorem HOk.write (ok:HOk P w H h) (mu:Mut (H x)) (he:e=x∨H e=some (.own x)) (k:∀b u,b≠e->h.get? b=some u->h'.get? b=some u) (heo:∃u,h'.get? e=some u)
  (new:Ca P w (upd H x o') h' x o'):HOk P w (upd H x o') h':=λb u q=>by
 have nown:∀c y,H c=some (.own y)->c≠x:=λc y r z=>by subst z;rw [r] at mu;exact mu
 have ntup:∀c xs,H c=some (.tup xs)->c≠x:=λc xs r z=>by subst z;rw [r] at mu;exact mu
 by_cases hb:b=x
 ·subst hb;rw [Bd] at q;cases q;exact new
 ·rw [Bm hb] at q
  by_cases hbe:b=e
  ·have q':H b=some (.own x):=by
    rcases he with z | z
    ·exact zX (hbe.trans z) hb
    ·rw [hbe];exact z
   rw [q] at q';cases q';obtain ⟨v,hv⟩:=heo;exact ⟨v,by rw [hbe];exact hv⟩
  ·refine (ok b u q).stay (λc v hc r=>k c v ?_ r) (λc r=>by rw [Bm (nown c b r)];exact r) λc xs r=>by rw [Bm (ntup c xs r)];exact r
   rcases hc with rfl | hc
   ·exact hbe
   ·rintro rfl
    rcases he with z | z
    ·exact nown c b hc z
    ·rw [hc] at z;cases z;exact hb rfl
end
structure Un (fs ex:List AI) (H H':Hp) (h h':BP):Prop where
 keep:∀b o,h.get? b=some o->H b=none->b∉fs->b∉ex->h'.get? b=some o
 slot:∀b o,h.get? b=some o->H b=none->b∈fs->b∉ex->∃sl,h'.get? b=some { o with slots:=sl }
 free:∀b o,h.get? b=some o->H b=none->b∉ex->H' b=none
 there:∀b o,h.get? b=some o->b∉ex->∃o',h'.get? b=some o'
 tups:∀b xs,H b=some (.tup xs)->H' b=some (.tup xs)
 frzs:∀b o u,H b=some (.frz o u)->H' b=some (.frz o u)
 tbls:∀b ps,H b=some (.tbl ps)->∃more,H' b=some (.tbl (ps++more))
section
variable {fs fs' ex ex':List AI} {H H1 H2:Hp} {h h1 h2 h':BP} {a x e:AI} {o:HO}
theorem Un.any (u:Un fs ex H H1 h h1) {b:AI} {ob:Obj} (q:h.get? b=some ob) (n:H b=none) (hx:b∉ex):∃sl,h1.get? b=some { ob with slots:=sl }:=by
 by_cases hb:b∈fs
 ·exact u.slot b ob q n hb hx
 ·exact ⟨ob.slots,u.keep b ob q n hb hx⟩
theorem Un.kept (k:∀b u,h.get? b=some u->h'.get? b=some u):Un fs ex H H h h':=
 ⟨λb ob q _ _ _=>k b ob q,λb ob q _ _ _=>⟨ob.slots,k b ob q⟩,λ_ _ _ n _=>n,λb ob q _=>⟨ob,k b ob q⟩,λ_ _ q=>q,λ_ _ _ q=>q,λ_ ps q=>⟨#[],by rw [q];simp⟩⟩
theorem Un.refl:Un fs ex H H h h:=Un.kept λ_ _ q=>q
theorem Un.laid (k:∀b u,h.get? b=some u->h'.get? b=some u) (hp:h.objs.size<=a) (hn:H a=none):Un fs ex H (upd H a o) h h' where
 keep:=λb u q _ _ _=>k b u q
 slot:=λb u q _ _ _=>⟨u.slots,k b u q⟩
 free:=λb u q n _=>by rw [Bm (Ad (Ab (AW q) hp))];exact n
 there:=λb u q _=>⟨u,k b u q⟩
 tups:=λb xs q=>by rw [Bm (B7 q hn)];exact q
 frzs:=λb u xs q=>by rw [Bm (B7 q hn)];exact q
 tbls:=λb ps q=>⟨#[],by rw [Bm (B7 q hn),q];simp⟩
theorem Un.write (mu:Mut (H x)) (he:e=x∨H e=some (.own x)) (k:∀b u,b≠e->h.get? b=some u->h'.get? b=some u) (heo:∃u,h'.get? e=some u):Un fs ex H (upd H x o) h h':=by
 have hx:∀b,H b=none->b≠x:=λb n z=>by subst z;rw [n] at mu;exact mu
 have hb:∀b,H b=none->b≠e:=λb n z=>by
  subst z
  rcases he with r | r
  ·exact hx b n r
  ·rw [n] at r;cases r
 have hm:∀b u,H b=some u->¬Mut (some u)->b≠x:=λb u q nm z=>by subst z;rw [q] at mu;exact nm mu
 refine ⟨λb u q n _ _=>k b u (hb b n) q,λb u q n _ _=>⟨u.slots,k b u (hb b n) q⟩,λb u q n _=>by rw [Bm (hx b n)];exact n,λb u q _=>?_,
  λb xs q=>by rw [Bm (hm b _ q λz=>z)];exact q,λb u xs q=>by rw [Bm (hm b _ q λz=>z)];exact q,λb ps q=>⟨#[],by rw [Bm (hm b _ q λz=>z),q];simp⟩⟩
 by_cases hbe:b=e
 ·subst hbe;exact heo
 ·exact ⟨u,k b u hbe q⟩
end
def trk (h:BP) (H:Hp):List AI:=(BQ h.objs.size).filter λa=>(H a).isSome
def SX (h:BP) (H:Hp):BP:=Je h (trk h H)
theorem YA (h:BP) (H:Hp):(SX h H).objs.size=h.objs.size:=PySem.W.hideAll_size _ _
theorem ap {h:BP} {H:Hp} {b:AI} {o:Obj} (e:h.get? b=some o) (n:H b=none):(SX h H).get? b=some o:=
 Ue _ e λhm=>by
  have q:(H b).isSome=true:=(cL.mp hm).2;rw [n] at q;simp at q
theorem dz {h:BP} {H:Hp} {b:AI} {o:Obj} (e:(SX h H).get? b=some o):h.get? b=some o/\H b=none:=by
 have e':h.get? b=some o:=LU (trk h H) e;refine ⟨e',?_⟩
 cases q:H b with
 | none=>rfl
 | some x=>
  have hm:b∈trk h H:=cL.mpr ⟨Qh.mpr (AW e'),by simp [q]⟩;have z:(SX h H).get? b=none:=J4 (trk h H) hm;rw [z] at e;cases e
structure Mod (K:AC) (mg:Str->Option AB) (base:BP):Prop where
 kin:K.In base
 glob:base.Ns Aj mg
 blt:∃mb,base.Ns gX mb/\∀x:Str,x≠"__name__"->mb x=Ec x
 nolimit:base.NoLimit
structure Cx where
 prog:Al
 w:A2
 K:AC
 mg:Str->Option AB
 base:BP
 A:Ay
 N:List Str
 s₀:AE
 H₀:Hp
 env:Env
 outer:List Env
 stack:List Env
 ex:List AI
 fn:Str->Bool
 calm:Bool
 pn:List (AI×Obj)
 xe:AB->AE->Prop
def frs (l:List Env):List AI:=l.filterMap (·.frame)
abbrev Cx.fs (X:Cx):List AI:=frs X.outer
def Vis (sc:Hv) (x:Str):Prop:=sc.names.lookup x=some .local∨sc.names.lookup x=some .cell∨sc.names.lookup x=some .free
def Loc (sc:Hv) (x:Str):Prop:=sc.names.lookup x=some .local∨sc.names.lookup x=some .cell
def Look (env:Env) (h:BP) (m:Str->Option AB) (x:Str) (u:AB):Prop:=
 (env.kindOf x=some .local/\m x=some u)∨((env.kindOf x=some .cell∨env.kindOf x=some .free)/\∃c,env.cells.lookup x=some c/\h.IsCell c (some u))
structure Cx.Ok (X:Cx):Prop where
 mod:Mod X.K X.mg X.base
 kind:X.env.scope.kind=.function
 glob:X.env.globals=Aj
 blt:X.env.builtins=gX
 above:X.s₀.heap.objs.size<=X.env.locals
 inj:∀x y c,X.env.cells.lookup x=some c->X.env.cells.lookup y=some c->x=y
 has:∀x,(X.env.kindOf x=some .cell∨X.env.kindOf x=some .free)->∃c,X.env.cells.lookup x=some c
 cab:∀x c,X.fn x=true->X.env.cells.lookup x=some c->X.s₀.heap.objs.size<=c
 hd:X.calm=true->X.A.handled=none
 frames:X.A.frames=some X.stack
 stk:X.stack=X.outer∨(X.stack=X.env :: X.outer/\X.env.frame=some X.env.locals)
 exf:∀b∈X.ex,b≠X.env.locals/\∀x c,X.env.cells.lookup x=some c->c≠b
 bs:∀b o,X.base.get? b=some o->X.s₀.heap.get? b=some o/\X.H₀ b=none
 bsz:X.base.objs.size<=X.s₀.heap.objs.size
 noex:∀b o,X.base.get? b=some o->b∉X.ex
 exfs:∀b∈X.ex,b∉X.fs
 funs:X.s₀.heap.FunFrames X.base X.outer
 frf:∀b∈X.fs,X.H₀ b=none
structure Inv (X:Cx) (pins:List (AI×Obj)) (σ:List (Option V)) (H:Hp) (s:AE):Prop where
 ok:X.Ok
 os:s.os=X.s₀.os
 bare:Ht s.gens
 base:Un X.fs X.ex X.H₀ H X.s₀.heap s.heap
 loc:∃m,s.heap.Ns X.env.locals m/\∀(i:Nat) (x:Str) (v:V),X.N[i]?=some x->σ[i]?=some (some v)->Vis X.env.scope x->∃u,RelV v u/\Look X.env s.heap m x u
 cell:∀x c,X.env.cells.lookup x=some c->∃v,s.heap.IsCell c v
 free:H X.env.locals=none
 freeC:∀x c,X.env.cells.lookup x=some c->H c=none
 pin:∀p∈X.pn++pins,s.heap.get? p.1=some p.2/\H p.1=none/\p.1≠X.env.locals/\p.1∉X.fs/\∀v,p.2.data≠.cell v
 hok:HOk X.prog X.w H s.heap
 len:σ.length=X.N.length
section
variable {X:Cx} {pins:List (AI×Obj)} {σ:List (Option V)} {H H':Hp} {s:AE} {h':BP}
theorem Cx.Ok.nofr (ok:X.Ok) {b:AI} {o:Obj} (e:X.base.get? b=some o):b∉X.fs:=λhb=>by
 have:=(ok.funs.mem hb).1;rw [e] at this;cases this
theorem Inv.bs (I:Inv X pins σ H s):∀b o,X.base.get? b=some o->s.heap.get? b=some o/\H b=none:=λb o e=>
 ⟨I.base.keep b o (I.ok.bs b o e).1 (I.ok.bs b o e).2 (I.ok.nofr e) (I.ok.noex b o e),I.base.free b o (I.ok.bs b o e).1 (I.ok.bs b o e).2 (I.ok.noex b o e)⟩
theorem Inv.bk (I:Inv X pins σ H s):∀b o,X.base.get? b=some o->s.heap.get? b=some o:=λb o e=>(I.bs b o e).1
theorem Inv.mod (I:Inv X pins σ H s):Mod X.K X.mg X.base:=I.ok.mod
theorem Inv.kIn (I:Inv X pins σ H s):X.K.In s.heap:=I.ok.mod.kin.keeps I.bk
theorem Inv.lt (I:Inv X pins σ H s):X.env.locals < s.heap.objs.size:=let ⟨_,hn,_⟩:=I.loc;hn.lt
theorem Inv.sz (I:Inv X pins σ H s):X.s₀.heap.objs.size<=s.heap.objs.size:=As I.ok.above (U1 I.lt)
theorem Inv.nofs (I:Inv X pins σ H s) {a:AI} (h:s.heap.objs.size<=a):a∉X.fs:=λhb=>by
 obtain ⟨_,o,ho,_⟩:=I.ok.funs.mem hb;exact zX (Ab (AW ho) (As I.sz h)) (EU _)
theorem Inv.cne (I:Inv X pins σ H s):∀x c,X.env.cells.lookup x=some c->c≠X.env.locals:=λx c e z=>by
 obtain ⟨v,o,ho,hd⟩:=I.cell x c e;obtain ⟨m,⟨o',es,ep,ho',hd',_⟩,_⟩:=I.loc;rw [z,ho'] at ho;cases ho;rw [hd'] at hd;cases hd
theorem Inv.funs (I:Inv X pins σ H s):s.heap.FunFrames X.base X.outer:=by
 have all:∀(l:List Env),(∀b∈frs l,b∈X.fs)->X.s₀.heap.FunFrames X.base l->s.heap.FunFrames X.base l:=by
  intro l
  induction l with
  | nil=>intro _ _;trivial
  | cons env r ih=>
   intro hs hl;obtain ⟨hk,⟨L,o,hf,hn,ho,hd⟩,hr⟩:=hl;have hL:L∈X.fs:=hs L (by unfold frs;rw [Lr,hf];exact Ae)
   obtain ⟨sl,e⟩:=I.base.slot L o ho (I.ok.frf L hL) hL λz=>I.ok.exfs L z hL
   exact ⟨hk,⟨L,_,hf,hn,e,hd⟩,ih (λb hb=>hs b (by unfold frs;rw [Lr,hf];exact Ac _ hb)) hr⟩
 exact all X.outer (λ_ hb=>hb) I.ok.funs
theorem Inv.stack (I:Inv X pins σ H s):s.heap.FunFrames X.base X.stack:=by
 rcases I.ok.stk with e | ⟨e,hf⟩
 ·rw [e];exact I.funs
 ·rw [e]
  obtain ⟨m,hn,_⟩:=I.loc;refine .cons (by rw [I.ok.kind];decide) hf hn ?_ I.funs;exact WL (As I.ok.bsz I.ok.above)
theorem Inv.stkSub (I:Inv X pins σ H s):∀b∈frs X.stack,b∈X.env.locals :: X.fs:=λb hb=>by
 rcases I.ok.stk with e | ⟨e,hf⟩
 ·rw [e] at hb;exact Ac _ hb
 ·rw [e] at hb
  unfold frs at hb;rw [Lr,hf] at hb;exact hb
theorem Inv.stkFree (I:Inv X pins σ H s):∀b∈frs X.stack,H b=none:=λb hb=>by
 rcases Ax.mp (I.stkSub b hb) with e | hb
 ·rw [e];exact I.free
 ·obtain ⟨_,o,ho,_⟩:=I.ok.funs.mem hb
  exact I.base.free b o ho (I.ok.frf b hb) λz=>I.ok.exfs b z hb
theorem Inv.step {g':Array JC} {t':Nat} {d':Drawn} {ch:List AI} (I:Inv X pins σ H s)
  (hch:∀b∈ch,(b∈X.ex∨X.s₀.heap.objs.size<=b)/\b≠X.env.locals/\(∀x c,X.env.cells.lookup x=some c->c≠b)/\∀p∈X.pn++pins,p.1≠b)
  (keep:∀b o,b≠X.env.locals->b∉X.fs->b∉ch->s.heap.get? b=some o->H b=none->h'.get? b=some o)
  (slot:∀b o,b≠X.env.locals->b∈X.fs->b∉ch->s.heap.get? b=some o->H b=none->∃sl,h'.get? b=some { o with slots:=sl }) (free:∀b o,b∉ch->s.heap.get? b=some o->H b=none->H' b=none)
  (there:∀b o,b∉ch->s.heap.get? b=some o->∃o',h'.get? b=some o')
  (tups:∀b xs,H b=some (.tup xs)->H' b=some (.tup xs)) (frzs:∀b o u,H b=some (.frz o u)->H' b=some (.frz o u)) (tbls:∀b ps,H b=some (.tbl ps)->∃more,H' b=some (.tbl (ps++more)))
  (ns:∀m,s.heap.Ns X.env.locals m->h'.Ns X.env.locals m) (hok:HOk X.prog X.w H' h') (hg:Ht g') :
  Inv X pins σ H' { s with heap:=h',gens:=g',drawn:=d',toks:=t' }:=by
 have neL:∀b o,X.s₀.heap.get? b=some o->b≠X.env.locals:=λb o e=>Ad (Ab (AW e) I.ok.above)
 have neC:∀b o,X.s₀.heap.get? b=some o->b∉X.ex->b∉ch:=λb o e hx hb=>by
  rcases (hch b hb).1 with z | z
  ·exact hx z
  ·exact zX (Ab (AW e) z) (EU _)
 have cellK:∀x c,X.env.cells.lookup x=some c->∀v,s.heap.IsCell c v->h'.IsCell c v:=λx c e v ⟨o,ho,hd⟩=>by
  have nch:c∉ch:=λz=>(hch c z).2.2.1 x c e rfl
  by_cases hc:c∈X.fs
  ·obtain ⟨sl,q⟩:=slot c o (I.cne x c e) hc nch ho (I.freeC x c e)
   exact ⟨_,q,hd⟩
  ·exact ⟨o,keep c o (I.cne x c e) hc nch ho (I.freeC x c e),hd⟩
 refine ⟨I.ok,I.os,hg,⟨λb o e n hb hx=>?_,λb o e n hb hx=>?_,λb o e n hx=>?_,λb o e hx=>?_,λb xs e=>tups b xs (I.base.tups b xs e),λb o xs e=>frzs b o xs (I.base.frzs b o xs e),λb ps e=>?_⟩,?_,λx c e=>?_,?_,λx c e=>?_,λp hp=>?_,hok,I.len⟩
 ·exact keep b o (neL b o e) hb (neC b o e hx) (I.base.keep b o e n hb hx) (I.base.free b o e n hx)
 ·obtain ⟨sl,e1⟩:=I.base.slot b o e n hb hx
  obtain ⟨sl',e2⟩:=slot b _ (neL b o e) hb (neC b o e hx) e1 (I.base.free b o e n hx);exact ⟨sl',e2⟩
 ·obtain ⟨o',e1⟩:=I.base.there b o e hx
  exact free b o' (neC b o e hx) e1 (I.base.free b o e n hx)
 ·obtain ⟨o',e1⟩:=I.base.there b o e hx
  exact there b o' (neC b o e hx) e1
 ·obtain ⟨m1,e1⟩:=I.base.tbls b ps e
  obtain ⟨m2,e2⟩:=tbls b _ e1;exact ⟨m1++m2,by rw [e2,XT]⟩
 ·obtain ⟨m,hn,hl⟩:=I.loc
  refine ⟨m,ns m hn,λi x v e1 e2 e3=>?_⟩;obtain ⟨u,r,l⟩:=hl i x v e1 e2 e3;refine ⟨u,r,?_⟩
  rcases l with l | ⟨k,c,e,z⟩
  ·exact .inl l
  ·exact .inr ⟨k,c,e,cellK x c e _ z⟩
 ·obtain ⟨v,z⟩:=I.cell x c e
  exact ⟨v,cellK x c e v z⟩
 ·obtain ⟨m,⟨o,_,_,ho,_⟩,_⟩:=I.loc
  exact free _ o (λz=>(hch _ z).2.1 rfl) ho I.free
 ·obtain ⟨v,o,ho,hd⟩:=I.cell x c e
  exact free c o (λz=>(hch c z).2.2.1 x c e rfl) ho (I.freeC x c e)
 ·obtain ⟨e,n,ne,nf,d⟩:=I.pin p hp
  have nch:p.1∉ch:=λz=>(hch p.1 z).2.2.2 p hp rfl
  exact ⟨keep p.1 p.2 ne nf nch e n,free p.1 p.2 nch e n,ne,nf,d⟩
theorem Inv.stepN {g':Array JC} {t':Nat} {d':Drawn} {ch:List AI} (I:Inv X pins σ H s)
  (hch:∀b∈ch,(b∈X.ex∨X.s₀.heap.get? b=none)/\b≠X.env.locals/\(∀x c,X.env.cells.lookup x=some c->c≠b)/\∀p∈X.pn++pins,p.1≠b)
  (keep:∀b o,b≠X.env.locals->b∉X.fs->b∉ch->s.heap.get? b=some o->H b=none->h'.get? b=some o)
  (slot:∀b o,b≠X.env.locals->b∈X.fs->b∉ch->s.heap.get? b=some o->H b=none->∃sl,h'.get? b=some { o with slots:=sl }) (free:∀b o,b∉ch->s.heap.get? b=some o->H b=none->H' b=none)
  (there:∀b o,b∉ch->s.heap.get? b=some o->∃o',h'.get? b=some o')
  (tups:∀b xs,H b=some (.tup xs)->H' b=some (.tup xs)) (frzs:∀b o u,H b=some (.frz o u)->H' b=some (.frz o u)) (tbls:∀b ps,H b=some (.tbl ps)->∃more,H' b=some (.tbl (ps++more)))
  (ns:∀m,s.heap.Ns X.env.locals m->h'.Ns X.env.locals m) (hok:HOk X.prog X.w H' h') (hg:Ht g') :
  Inv X pins σ H' { s with heap:=h',gens:=g',drawn:=d',toks:=t' }:=by
 have neL:∀b o,X.s₀.heap.get? b=some o->b≠X.env.locals:=λb o e=>Ad (Ab (AW e) I.ok.above)
 have neC:∀b o,X.s₀.heap.get? b=some o->b∉X.ex->b∉ch:=λb o e hx hb=>by
  rcases (hch b hb).1 with z | z
  ·exact hx z
  ·rw [z] at e;cases e
 have cellK:∀x c,X.env.cells.lookup x=some c->∀v,s.heap.IsCell c v->h'.IsCell c v:=λx c e v ⟨o,ho,hd⟩=>by
  have nch:c∉ch:=λz=>(hch c z).2.2.1 x c e rfl
  by_cases hc:c∈X.fs
  ·obtain ⟨sl,q⟩:=slot c o (I.cne x c e) hc nch ho (I.freeC x c e)
   exact ⟨_,q,hd⟩
  ·exact ⟨o,keep c o (I.cne x c e) hc nch ho (I.freeC x c e),hd⟩
 refine ⟨I.ok,I.os,hg,⟨λb o e n hb hx=>?_,λb o e n hb hx=>?_,λb o e n hx=>?_,λb o e hx=>?_,λb xs e=>tups b xs (I.base.tups b xs e),λb o xs e=>frzs b o xs (I.base.frzs b o xs e),λb ps e=>?_⟩,?_,λx c e=>?_,?_,λx c e=>?_,λp hp=>?_,hok,I.len⟩
 ·exact keep b o (neL b o e) hb (neC b o e hx) (I.base.keep b o e n hb hx) (I.base.free b o e n hx)
 ·obtain ⟨sl,e1⟩:=I.base.slot b o e n hb hx
  obtain ⟨sl',e2⟩:=slot b _ (neL b o e) hb (neC b o e hx) e1 (I.base.free b o e n hx);exact ⟨sl',e2⟩
 ·obtain ⟨o',e1⟩:=I.base.there b o e hx
  exact free b o' (neC b o e hx) e1 (I.base.free b o e n hx)
 ·obtain ⟨o',e1⟩:=I.base.there b o e hx
  exact there b o' (neC b o e hx) e1
 ·obtain ⟨m1,e1⟩:=I.base.tbls b ps e
  obtain ⟨m2,e2⟩:=tbls b _ e1;exact ⟨m1++m2,by rw [e2,XT]⟩
 ·obtain ⟨m,hn,hl⟩:=I.loc
  refine ⟨m,ns m hn,λi x v e1 e2 e3=>?_⟩;obtain ⟨u,r,l⟩:=hl i x v e1 e2 e3;refine ⟨u,r,?_⟩
  rcases l with l | ⟨k,c,e,z⟩
  ·exact .inl l
  ·exact .inr ⟨k,c,e,cellK x c e _ z⟩
 ·obtain ⟨v,z⟩:=I.cell x c e
  exact ⟨v,cellK x c e v z⟩
 ·obtain ⟨m,⟨o,_,_,ho,_⟩,_⟩:=I.loc
  exact free _ o (λz=>(hch _ z).2.1 rfl) ho I.free
 ·obtain ⟨v,o,ho,hd⟩:=I.cell x c e
  exact free c o (λz=>(hch c z).2.2.1 x c e rfl) ho (I.freeC x c e)
 ·obtain ⟨e,n,ne,nf,d⟩:=I.pin p hp
  have nch:p.1∉ch:=λz=>(hch p.1 z).2.2.2 p hp rfl
  exact ⟨keep p.1 p.2 ne nf nch e n,free p.1 p.2 nch e n,ne,nf,d⟩
theorem Inv.un {t':Nat} (I:Inv X pins σ H s) (u:Un X.fs [] H H' s.heap h') (hok:HOk X.prog X.w H' h'):Inv X pins σ H' { s with heap:=h',toks:=t' }:=by
 obtain ⟨m,⟨o,es,ep,ho,r⟩,_⟩:=id I.loc;obtain ⟨sl,hL⟩:=u.any ho I.free (by simp)
 exact I.step (g':=s.gens) (d':=s.drawn) (ch:=[]) (λ_ z=>nomatch z) (λb o _ hb _ e n=>u.keep b o e n hb (by simp)) (λb o _ hb _ e n=>u.slot b o e n hb (by simp)) (λb o _ e n=>u.free b o e n (by simp)) (λb o _ e=>u.there b o e (by simp)) u.tups u.frzs u.tbls (λm' hm=>by
  obtain ⟨o',es',ep',ho',r'⟩:=hm;rw [ho] at ho';cases ho'
  exact ⟨_,es',ep',hL,r'⟩) hok I.bare
theorem Inv.call {g':Array JC} {t':Nat} {d':Drawn} {ch:List AI} (I:Inv X pins σ H s) (u:Un (frs X.stack) ch H H' s.heap h') (hok:HOk X.prog X.w H' h') (hg:Ht g')
  (hch:∀b∈ch,(b∈X.ex∨X.s₀.heap.objs.size<=b)/\b≠X.env.locals/\(∀x c,X.env.cells.lookup x=some c->c≠b)/\∀p∈X.pn++pins,p.1≠b) :
  Inv X pins σ H' { s with heap:=h',gens:=g',drawn:=d',toks:=t' }:=by
 obtain ⟨m,⟨o,es,ep,ho,r⟩,_⟩:=id I.loc
 obtain ⟨sl,hL⟩:=u.any ho I.free λz=>(hch _ z).2.1 rfl
 exact I.step (ch:=ch) hch (λb o hL hb hc e n=>u.keep b o e n (λz=>(Ax.mp (I.stkSub b z)).elim hL hb) hc) (λb o _ _ hc e n=>u.any e n hc) (λb o hc e n=>u.free b o e n hc) (λb o hc e=>u.there b o e hc) u.tups u.frzs u.tbls (λm' hm=>by
  obtain ⟨o',es',ep',ho',r'⟩:=hm;rw [ho] at ho';cases ho'
  exact ⟨_,es',ep',hL,r'⟩) hok hg
theorem Inv.turned {t':Nat} {it:AI} (I:Inv X pins σ H s) (k:∀b o,b≠it->s.heap.get? b=some o->h'.get? b=some o) (hn:H it=none) (hL:it≠X.env.locals)
  (h1:it∈X.ex∨X.s₀.heap.objs.size<=it) (h2:∀x c,X.env.cells.lookup x=some c->c≠it) (h3:∀p∈X.pn++pins,p.1≠it):Inv X pins σ H { s with heap:=h',toks:=t' }:=by
 have nit:∀b u,H b=some u->b≠it:=λb u e z=>by rw [z,hn] at e;cases e
 refine I.step (g':=s.gens) (d':=s.drawn) (ch:=[it]) (λb hb=>?_) (λb o _ _ hc e _=>k b o (λz=>hc (by simp [z])) e) (λb o _ _ hc e _=>⟨o.slots,k b o (λz=>hc (by simp [z])) e⟩) (λ_ _ _ _ n=>n)
  (λb o hc e=>⟨o,k b o (λz=>hc (by simp [z])) e⟩) (λ_ _ e=>e) (λ_ _ _ e=>e) (λb ps e=>⟨#[],by rw [e];simp⟩) (λm hm=>?_) (λb u e=>?_) I.bare
 ·have e:b=it:=by simpa using hb
  subst e;exact ⟨h1,hL,h2,h3⟩
 ·obtain ⟨o,es,ep,ho,r⟩:=hm
  exact ⟨o,es,ep,k _ o (Bl hL) ho,r⟩
 ·refine (I.hok b u e).stay (λc v hc q=>k c v ?_ q) (λ_ q=>q) λ_ _ q=>q
  rcases hc with z | z
  ·rw [z];exact nit b u e
  ·exact nit c _ z
theorem Inv.tok (I:Inv X pins σ H s) (t:Nat):Inv X pins σ H { s with toks:=t }:=I.un (h':=s.heap) (t':=t) Un.refl I.hok
theorem Inv.kept {t':Nat} (I:Inv X pins σ H s) (k:∀b u,s.heap.get? b=some u->h'.get? b=some u):Inv X pins σ H { s with heap:=h',toks:=t' }:=I.un (Un.kept k) (I.hok.kept k)
theorem Inv.laid {a:AI} {o:HO} {t':Nat} (I:Inv X pins σ H s) (k:∀b u,s.heap.get? b=some u->h'.get? b=some u) (hp:s.heap.objs.size<=a) (new:Ca X.prog X.w (upd H a o) h' a o) :
  Inv X pins σ (upd H a o) { s with heap:=h',toks:=t' }:=I.un (Un.laid k hp (I.hok.fresh hp)) (I.hok.laid k hp new)
theorem Inv.write {x e:AI} {o:HO} {t':Nat} (I:Inv X pins σ H s) (mu:Mut (H x)) (he:e=x∨H e=some (.own x)) (k:∀b u,b≠e->s.heap.get? b=some u->h'.get? b=some u) (heo:∃u,h'.get? e=some u)
  (new:Ca X.prog X.w (upd H x o) h' x o):Inv X pins σ (upd H x o) { s with heap:=h',toks:=t' }:=I.un (Un.write mu he k heo) (I.hok.write mu he k heo new)
theorem Inv.pins_of {pins':List (AI×Obj)} (I:Inv X pins σ H s) (h:∀p∈pins',s.heap.get? p.1=some p.2/\H p.1=none/\p.1≠X.env.locals/\p.1∉X.fs/\∀v,p.2.data≠.cell v):Inv X pins' σ H s:=
 ⟨I.ok,I.os,I.bare,I.base,I.loc,I.cell,I.free,I.freeC,λp hp=>(Ap.mp hp).elim (λz=>I.pin p (Ck _ z)) (h p),I.hok,I.len⟩
theorem T5 {N:List Str} (hN:N.Nodup) {i j:Nat} {x:Str} (a:N[i]?=some x) (b:N[j]?=some x):i=j:=by
 obtain ⟨h1,e1⟩:=AK.mp a;obtain ⟨h2,e2⟩:=AK.mp b;exact (List.getElem_inj hN).mp (e1.trans e2.symm)
theorem Qs {M:TB} {A:Ay} {E:AB->AE->Prop} {i:Nat} {x:Str} {v:V} {u:AB} {Q:Unit->AE->Prop} (I:Inv X pins σ H s) (hN:X.N.Nodup) (hi:X.N[i]?=some x) (hx:Loc X.env.scope x) (r:RelV v u)
  (h:∀s',Inv X pins (σ.set i (some v)) H s'->(∃a,CK a s.heap s'.heap/\(a=X.env.locals∨X.env.cells.lookup x=some a))->Q () s') (hf:X.fn x=true∨X.env.scope.names.lookup x=some .local:=by first | exact .inl rfl | exact .inr rfl | assumption):AZ M A (storeName X.env x u) Q E s:=by
 obtain ⟨m,hn,hl⟩:=id I.loc
 have hcls:(X.env.scope.kind==.class||(X.env.scope.kind==.module&&X.env.locals != X.env.globals))=false:=by rw [I.ok.kind];rfl
 have hiσ:i < σ.length:=by rw [I.len];exact (AK.mp hi).1
 have cne:=I.cne
 have tracked:∀ {a:AI} {h':BP},(∃o,s.heap.get? a=some o/\H a=none)->CK a s.heap h'->HOk X.prog X.w H h':=λ{a h'} ha hs b ob e=>by
  obtain ⟨_,_,hfree⟩:=ha
  refine (I.hok b ob e).stay (λc w' hc q=>(hs.2 c ?_).trans q) (λ_ q=>q) λ_ _ q=>q
  rintro rfl
  rcases hc with rfl | hc
  ·rw [hfree] at e;cases e
  ·rw [hfree] at hc;cases hc
 rcases hx with hk | hk
 ·refine wpAny_storeName_local hk hn (λh' hn' hs=>?_) hcls
  obtain ⟨oL,_,_,hoL,_⟩:=id hn;refine h _ ⟨I.ok,I.os,I.bare,⟨λb o e n hb hx=>?_,λb o e n hb hx=>?_,I.base.free,λb o e hx=>?_,I.base.tups,I.base.frzs,I.base.tbls⟩,⟨_,hn',λj y v' e1 e2 e3=>?_⟩,λy c e=>?_,I.free,I.freeC,λp hp=>?_,tracked ⟨oL,hoL,I.free⟩ hs,by simpa using I.len⟩ ⟨_,hs,.inl rfl⟩
  ·exact (hs.2 b (Ad (Ab (AW e) I.ok.above))).trans (I.base.keep b o e n hb hx)
  ·obtain ⟨sl,e1⟩:=I.base.slot b o e n hb hx
   exact ⟨sl,(hs.2 b (Ad (Ab (AW e) I.ok.above))).trans e1⟩
  ·obtain ⟨o',e1⟩:=I.base.there b o e hx
   exact ⟨o',(hs.2 b (Ad (Ab (AW e) I.ok.above))).trans e1⟩
  ·by_cases hj:j=i
   ·subst hj
    rw [hi] at e1;cases e1;rw [BI hiσ] at e2;cases e2;exact ⟨u,r,.inl ⟨hk,by simp⟩⟩
   ·rw [A8 (Bl hj)] at e2
    obtain ⟨u',r',q⟩:=hl j y v' e1 e2 e3;refine ⟨u',r',?_⟩
    rcases q with ⟨k,e⟩ | ⟨k,c,e,z⟩
    ·refine .inl ⟨k,?_⟩
     have:y≠x:=λe=>hj (T5 hN e1 (e▸hi))
     simp [this,e]
    ·exact .inr ⟨k,c,e,z.sameBut hs (cne y c e)⟩
  ·obtain ⟨w',z⟩:=I.cell y c e
   exact ⟨w',z.sameBut hs (cne y c e)⟩
  ·obtain ⟨e,n,ne,nf,d⟩:=I.pin p hp
   exact ⟨(hs.2 p.1 ne).trans e,n,ne,nf,d⟩
 ·have hfn:X.fn x=true:=by
   rcases hf with z | z
   ·exact z
   ·rw [z] at hk;cases hk
  obtain ⟨c,hc⟩:=I.ok.has x (.inl hk);obtain ⟨w',z⟩:=I.cell x c hc;refine wpAny_storeName_cell I.ok.kind hk hc z (λh' hc' hs=>?_);obtain ⟨oc,hoc,hocd⟩:=id z;refine h { s with heap:=h' } ⟨I.ok,I.os,I.bare,⟨λb o e n hb hx=>?_,λb o e n hb hx=>?_,I.base.free,λb o e hx=>?_,I.base.tups,I.base.frzs,I.base.tbls⟩,⟨m,hn.sameBut hs (Bl (cne x c hc)),λj y v' e1 e2 e3=>?_⟩,λy c' e=>?_,I.free,I.freeC,λp hp=>?_,tracked ⟨oc,hoc,I.freeC x c hc⟩ hs,by simpa using I.len⟩ ⟨c,hs,.inr hc⟩
  ·exact (hs.2 b (Ad (Ab (AW e) (I.ok.cab x c hfn hc)))).trans (I.base.keep b o e n hb hx)
  ·obtain ⟨sl,e1⟩:=I.base.slot b o e n hb hx
   exact ⟨sl,(hs.2 b (Ad (Ab (AW e) (I.ok.cab x c hfn hc)))).trans e1⟩
  ·obtain ⟨o',e1⟩:=I.base.there b o e hx
   exact ⟨o',(hs.2 b (Ad (Ab (AW e) (I.ok.cab x c hfn hc)))).trans e1⟩
  ·by_cases hj:j=i
   ·subst hj
    rw [hi] at e1;cases e1;rw [BI hiσ] at e2;cases e2;exact ⟨u,r,.inr ⟨.inl hk,c,hc,hc'⟩⟩
   ·rw [A8 (Bl hj)] at e2
    obtain ⟨u',r',q⟩:=hl j y v' e1 e2 e3;refine ⟨u',r',?_⟩
    rcases q with q | ⟨k,c',e,z'⟩
    ·exact .inl q
    ·refine .inr ⟨k,c',e,z'.sameBut hs ?_⟩
     rintro rfl;exact hj (T5 hN e1 (I.ok.inj _ _ _ e hc▸hi))
  ·by_cases hcc:c'=c
   ·subst hcc;exact ⟨_,hc'⟩
   ·obtain ⟨w2,z2⟩:=I.cell y c' e
    exact ⟨w2,z2.sameBut hs hcc⟩
  ·obtain ⟨e,n,ne,nf,d⟩:=I.pin p hp
   refine ⟨(hs.2 p.1 ?_).trans e,n,ne,nf,d⟩;intro q;rw [q,hoc] at e;have q':oc=p.2:=CA e;exact d w' (by rw [<-q'];exact hocd)
theorem Tg {M:TB} {A:Ay} {E:AB->AE->Prop} {i:Nat} {x:Str} {v:V} {u:AB} {Q:Unit->AE->Prop} (I:Inv X pins σ H s) (hN:X.N.Nodup) (hi:X.N[i]?=some x) (hx:Loc X.env.scope x) (r:RelV v u)
  (h:∀s',Inv X pins (σ.set i (some v)) H s'->Q () s') (hf:X.fn x=true∨X.env.scope.names.lookup x=some .local:=by first | exact .inl rfl | exact .inr rfl | assumption):AZ M A (storeName X.env x u) Q E s:=
 Qs I hN hi hx r (λs' I' _=>h s' I') hf
theorem Inv.call' {s':AE} {ch:List AI} (I:Inv X pins σ H s) (ho:s'.os=s.os) (u:Un (frs X.stack) ch H H' s.heap s'.heap) (hok:HOk X.prog X.w H' s'.heap) (hg:Ht s'.gens)
  (hch:∀b∈ch,(b∈X.ex∨X.s₀.heap.objs.size<=b)/\b≠X.env.locals/\(∀x c,X.env.cells.lookup x=some c->c≠b)/\∀p∈X.pn++pins,p.1≠b):Inv X pins σ H' s':=by
 obtain ⟨h',g',d',t',o'⟩:=s';have e:o'=s.os:=ho;subst e;exact I.call (g':=g') (t':=t') (d':=d') u hok hg hch
end
abbrev XK:=AB->Option AI->Hp->Prop
abbrev St:=List (Option V)
abbrev VK:=V->Hp->Prop
abbrev TE:=St->Hp->VK->Prop
abbrev TT:=St->Hp->(Bool->Hp->Prop)->Prop
abbrev TA:=St->Hp->(List V->Hp->Prop)->Prop
structure WC where
 nx:St->Hp->Prop
 rt:VK
 bk:St->Hp->Prop:=λ_ _=>False
 ct:St->Hp->Prop:=λ_ _=>False
abbrev TS:=WC->St->Hp->Prop
def EP (X:Cx) (pins:List (AI×Obj)) (σ:St) (Q:VK) (u:AB) (s':AE):Prop:=∃v H',Inv X pins σ H' s'/\RelV v u/\Q v H'
def TP (X:Cx) (pins:List (AI×Obj)) (σ:St) (Q:Bool->Hp->Prop) (b:Bool) (s':AE):Prop:=∃H',Inv X pins σ H' s'/\Q b H'
def AP (X:Cx) (pins:List (AI×Obj)) (σ:St) (Q:List V->Hp->Prop) (us:List AB) (s':AE):Prop:=∃vs H',Inv X pins σ H' s'/\BL vs us/\Q vs H'
def SP (X:Cx) (pins:List (AI×Obj)) (D:WC) (f:Flow) (s':AE):Prop:=
 match f with
 | .next=>∃σ' H',Inv X pins σ' H' s'/\D.nx σ' H'
 | .brk=>∃σ' H',Inv X pins σ' H' s'/\D.bk σ' H'
 | .cont=>∃σ' H',Inv X pins σ' H' s'/\D.ct σ' H'
 | .ret u=>∃v σ' H',Inv X pins σ' H' s'/\RelV v u/\D.rt v H'
def PE (X:Cx) (e:Expr) (t:TE):Prop:=
 ∀(pins:List (AI×Obj)) (s:AE) (σ:St) (H:Hp) (Q:VK),Inv X pins σ H s->t σ H Q->AZ (AR X.prog X.w) X.A (Bg e X.env) (EP X pins σ Q) X.xe s
def PT (X:Cx) (e:Expr) (t:TT):Prop:=
 ∀(pins:List (AI×Obj)) (s:AE) (σ:St) (H:Hp) (Q:Bool->Hp->Prop),Inv X pins σ H s->t σ H Q->AZ (AR X.prog X.w) X.A (gN e X.env (Bg e X.env)) (TP X pins σ Q) X.xe s
def PW (X:Cx) (e:Expr) (t:TT):Prop:=
 ∀(whole:Sem AB) (pins:List (AI×Obj)) (s:AE) (σ:St) (H:Hp) (Q:Bool->Hp->Prop),Inv X pins σ H s->t σ H Q->AZ (AR X.prog X.w) X.A (gN e X.env whole) (TP X pins σ Q) X.xe s
theorem PW.pt {X:Cx} {e:Expr} {t:TT} (h:PW X e t):PT X e t:=h _
def PA (X:Cx) (es:List Expr) (t:TA):Prop:=
 ∀(pos:Pos) (pins:List (AI×Obj)) (s:AE) (σ:St) (H:Hp) (Q:List V->Hp->Prop),Inv X pins σ H s->t σ H Q->AZ (AR X.prog X.w) X.A (Yy (C1 pos (AU es X.env))) (AP X pins σ Q) X.xe s
def PS (X:Cx) (st:C2) (t:TS):Prop:=
 ∀(pins:List (AI×Obj)) (s:AE) (σ:St) (H:Hp) (D:WC),Inv X pins σ H s->t D σ H->AZ (AR X.prog X.w) X.A (exec st X.env) (SP X pins D) X.xe s
def PSs (X:Cx) (st:List C2) (t:TS):Prop:=
 ∀(pins:List (AI×Obj)) (s:AE) (σ:St) (H:Hp) (D:WC),Inv X pins σ H s->t D σ H->AZ (AR X.prog X.w) X.A (execs st X.env) (SP X pins D) X.xe s
theorem thn {α:Type} {t:Sem α} {Q Q':α->AE->Prop} {M:TB} {A:Ay} {E:AB->AE->Prop} {s:AE} (h:AZ M A t Q E s) (hQ:∀a s,Q a s->Q' a s):AZ M A t Q' E s:=FI h hQ λ_ _ x=>x
section
variable {X:Cx}
def g9 (i:Nat):TE:=λσ H Q=>∃v,σ[i]?=some (some v)/\Q v H
def tC (v:V):TE:=λ_ H Q=>Q v H
theorem iV {i:Nat} {x:Str} {pos:Pos} (hN:X.N[i]?=some x) (hv:Vis X.env.scope x) (hd:(x==("__debug__" : Str))=false:=by decide) (hcd:(x==("__classdict__" : Str))=false:=by decide):PE X (.Name x pos) (g9 i):=by
 intro pins s σ H Q I h;obtain ⟨v,e,h⟩:=h;obtain ⟨m,hn,hl⟩:=I.loc;obtain ⟨u,r,l⟩:=hl i x v hN e hv;have fin:EP X pins σ Q u s:=⟨v,H,I,r,h⟩
 rcases l with ⟨hk,hm⟩ | ⟨hk,c,hc,hcell⟩
 ·exact gH (wpAny_loadName_local I.ok.kind hk hn hm fin) hd
 ·rcases hk with hk | hk
  ·exact gH (wpAny_loadName_cell I.ok.kind hk hc hcell fin) hd
  ·exact gH (wpAny_loadName_free I.ok.kind hk hc hcell fin hcd) hd
theorem ie {i j pos}:PE X (.Constant (.int i) j pos) (tC (.int i)):=λ_ _ _ H _ I h=>wpAny_Constant_int ⟨.int i,H,I.tok _,⟨_,rfl⟩,h⟩
theorem kx {b j pos}:PE X (.Constant (.bool b) j pos) (tC (.bl b)):=λ_ _ _ H _ I h=>Constant_bool ⟨.bl b,H,I,rfl,h⟩
theorem iZ {j pos}:PE X (.Constant .none j pos) (tC .non):=λ_ _ _ H _ I h=>Constant_none ⟨.non,H,I,rfl,h⟩
theorem iX {x j pos}:PE X (.Constant (.str x) j pos) (tC (.str x)):=λ_ _ _ H _ I h=>Calls.Constant_str ⟨.str x,H,I.tok _,⟨_,rfl⟩,h⟩
def Gl (X:Cx) (x:Str):Prop:=X.env.kindOf x=some .globalImplicit
theorem OO {E:AB->AE->Prop} {pins:List (AI×Obj)} {s:AE} {σ:St} {H:Hp} {x:Str} {u:AB} {pos:Pos} {Q:AB->AE->Prop} (I:Inv X pins σ H s) (hg:Gl X x) (hm:X.mg x=some u) (h:Q u s)
  (hd:(x==("__debug__" : Str))=false:=by decide):AZ (AR X.prog X.w) X.A (Bg (.Name x pos) X.env) Q E s:=
 QC I.ok.kind hg (Calls.loadGlobal_global (by rw [I.ok.glob];exact I.mod.glob.keeps I.bk) hm h) hd
theorem IQ {E:AB->AE->Prop} {pins:List (AI×Obj)} {s:AE} {σ:St} {H:Hp} {x:Str} {u:AB} {pos:Pos} {Q:AB->AE->Prop} (I:Inv X pins σ H s) (hg:Gl X x) (hm:X.mg x=none) (hv:Ec x=some u) (h:Q u s)
  (hn:x≠"__name__":=by decide) (hd:(x==("__debug__" : Str))=false:=by decide):AZ (AR X.prog X.w) X.A (Bg (.Name x pos) X.env) Q E s:=by
 obtain ⟨mb,h1,h2⟩:=I.mod.blt;exact QC I.ok.kind hg (Calls.loadGlobal_builtin (by rw [I.ok.glob];exact I.mod.glob.keeps I.bk) hm (by rw [I.ok.blt];exact h1.keeps I.bk) ((h2 x hn).trans hv) h) hd
theorem de {x:Str} {v:V} {u:AB} {pos:Pos} (hg:Gl X x) (hm:X.mg x=some u) (r:RelV v u) (hd:(x==("__debug__" : Str))=false:=by decide):PE X (.Name x pos) (tC v):=
 λ_ _ _ H _ I h=>OO I hg hm ⟨v,H,I,r,h⟩ hd
theorem dj {x:Str} {v:V} {u:AB} {pos:Pos} (hg:Gl X x) (hm:X.mg x=none) (hv:Ec x=some u) (r:RelV v u) (hn:x≠"__name__":=by decide) (hd:(x==("__debug__" : Str))=false:=by decide):PE X (.Name x pos) (tC v):=
 λ_ _ _ H _ I h=>IQ I hg hm hv ⟨v,H,I,r,h⟩ hn hd
variable {a b:Expr} {ta tb:TE} {pos:Pos}
def PC (X:Cx) (op:TJ) (a b:Expr) (t:TE):Prop:=
 ∀(pins:List (AI×Obj)) (s:AE) (σ:St) (H:Hp) (Q:VK),Inv X pins σ H s->t σ H Q ->
  AZ (AR X.prog X.w) X.A (Bg a X.env) (λv s₁=>AZ (AR X.prog X.w) X.A (Bg b X.env) (λu s₂=>AZ (AR X.prog X.w) X.A (Bb op v u) (EP X pins σ Q) X.xe s₂) X.xe s₁) X.xe s
def tB (t:TE):TT:=λσ H Q=>t σ H λx H1=>∃c,x=.bl c/\Q c H1
theorem aC {op:TJ} {t:TE} (h:PC X op a b t) (h1:Bq op b=false:=by first | exact nobehind _ (by decide) (by decide) | rfl):PE X (.Compare a [op] [b] pos) t:=λpins s σ H Q I hw=>wpAny_Compare1 (h pins s σ H Q I hw) h1
theorem Z3 {op:TJ} {t:TE} (h:PC X op a b t) (h1:Bq op b=false:=by first | exact nobehind _ (by decide) (by decide) | rfl):PT X (.Compare a [op] [b] pos) (tB t):=by
 intro pins s σ H Q I hw;refine bn (thn (h pins s σ H _ I hw) λv s1 h1=>thn h1 λu s2 h2=>thn h2 λc s3 ⟨x,H1,I1,r1,q1⟩=>?_) h1;obtain ⟨d,rfl,q⟩:=q1;cases r1;exact DB ⟨H1,I1,q⟩
theorem iL {e:Expr} {t:TE} (h:PE X e t) (he:∀whole,gN e X.env whole=(do let v <-whole;jl e.pos;LP [v] (truthy v)):=by intro _;rfl):PT X e (tB t):=by
 intro pins s σ H Q I hw;refine isTrue_plain (thn (h pins s σ H _ I hw) λv s1 ⟨x,H1,I1,r1,q1⟩=>?_) (he _);obtain ⟨d,rfl,q⟩:=q1;cases r1;exact DB ⟨H1,I1,q⟩
variable {tA tB':TT} {rest:List Expr}
def kb (t u:TT):TT:=λσ H Q=>t σ H λc H1=>if c=true then u σ H1 Q else Q false H1
def tOr (t u:TT):TT:=λσ H Q=>t σ H λc H1=>if c=true then Q true H1 else u σ H1 Q
def tNot (t:TT):TT:=λσ H Q=>t σ H λc H1=>Q (!c) H1
theorem dJ (ha:PT X a tA):PW X (.BoolOp .And [a] pos) tA:=by
 intro wh pins s σ H Q I h;refine isTrue_and (thn (ha pins s σ H Q I h) λc s1 e=>?_)
 cases c with
 | true=>exact isTrue_and_nil e
 | false=>exact e
theorem iJ (ha:PT X a tA):PW X (.BoolOp .Or [a] pos) tA:=by
 intro wh pins s σ H Q I h;refine isTrue_or (thn (ha pins s σ H Q I h) λc s1 e=>?_)
 cases c with
 | false=>exact isTrue_or_nil e
 | true=>exact e
theorem iK (ha:PT X a tA) (hb:PW X (.BoolOp .And (b :: rest) pos) tB'):PW X (.BoolOp .And (a :: b :: rest) pos) (kb tA tB'):=by
 intro wh pins s σ H Q I h;refine isTrue_and (thn (ha pins s σ H _ I h) λc s1 ⟨H1,I1,q1⟩=>?_)
 cases c with
 | true=>exact hb wh pins s1 σ H1 Q I1 q1
 | false=>exact ⟨H1,I1,q1⟩
theorem kn (ha:PT X a tA) (hb:PW X (.BoolOp .Or (b :: rest) pos) tB'):PW X (.BoolOp .Or (a :: b :: rest) pos) (tOr tA tB'):=by
 intro wh pins s σ H Q I h;refine isTrue_or (thn (ha pins s σ H _ I h) λc s1 ⟨H1,I1,q1⟩=>?_)
 cases c with
 | true=>exact ⟨H1,I1,q1⟩
 | false=>exact hb wh pins s1 σ H1 Q I1 q1
theorem iM (ha:PT X a tA):PT X (.UnaryOp .Not a pos) (tNot tA):=by
 intro pins s σ H Q I h;exact isTrue_not (ha pins s σ H (λc H1=>Q (!c) H1) I h)
def ka (ta tb:TE):TE:=λσ H Q=>ta σ H λx H1=>∃c,x=.bl c/\if c=true then tb σ H1 Q else Q (.bl false) H1
theorem iY {op} {t:TE} (h:PE X a t):PE X (.BoolOp op [a] pos) t:=λpins s σ H Q I hw=>BoolOp_one (h pins s σ H Q I hw)
theorem ij (ha:PE X a ta) (hb:PE X (.BoolOp .And (b :: rest) pos) tb):PE X (.BoolOp .And (a :: b :: rest) pos) (ka ta tb):=by
 intro pins s σ H Q I h;refine BoolOp_and (thn (ha pins s σ H _ I h) λv s1 ⟨x,H1,I1,r1,q1⟩=>?_);obtain ⟨c,rfl,q1⟩:=q1;cases r1;refine DB ?_
 cases c with
 | true=>exact hb pins s1 σ H1 Q I1 q1
 | false=>exact ⟨.bl false,H1,I1,rfl,q1⟩
end
def SqL (K:AC) (H:Hp) (a:AI) (xs:List V):Prop:=
 Rd H a (.lst xs) ∨
  ∃(o:Obj) (its:Array AB) (n:Nat),K.lookup a=some o/\o.cls=.type "list"/\o.dict=none/\o.data=.seq its n/\its.size<=sizeLine/\BL xs its.toList
def SqT (K:AC) (H:Hp) (a:AI) (xs:List V):Prop:=
 Rd H a (.tup xs) ∨
  ∃(o:Obj) (its:Array AB) (n:Nat),K.lookup a=some o/\o.cls=.type "tuple"/\o.data=.seq its n/\its.size<=sizeLine/\BL xs its.toList
def absV:AB->Option V
 | .none=>some .non
 | .bool b=>some (.bl b)
 | .int i _=>some (.int i)
 | .str x _=>some (.str x)
 | .bytes b _=>some (.byt b)
 | .float b _=>some (.flt b)
 | .ref a=>some (.ref a)
 | .type n=>some (.ty n)
 | _=>none
theorem RelV.abs {x:V} {u:AB} (r:RelV x u):absV u=some x:=by
 cases x with
 | non=>cases r;rfl
 | bl _=>cases r;rfl
 | int _=>obtain ⟨t,rfl⟩:=r;rfl
 | str _=>obtain ⟨t,rfl⟩:=r;rfl
 | byt _=>obtain ⟨t,rfl⟩:=r;rfl
 | flt _=>obtain ⟨t,rfl⟩:=r;rfl
 | ref _=>cases r;rfl
 | ty _=>cases r;rfl
theorem RelV.inj {x y:V} {u:AB} (r:RelV x u) (q:RelV y u):x=y:=CA (r.abs.symm.trans q.abs)
theorem BL.inj:∀ {xs ys:List V} {us:List AB},BL xs us->BL ys us->xs=ys
 | _,_,_,.nil,.nil=>rfl
 | _,_,_,.cons r t,.cons r' t'=>by rw [r.inj r',BL.inj t t']
section
variable {X:Cx} {pins:List (AI×Obj)} {σ:St} {H:Hp} {s:AE} {a:AI} {xs ys:List V}
theorem Inv.list (I:Inv X pins σ H s) (h:SqL X.K H a xs):∃its:List AB,BL xs its/\PlainL s.heap a its.toArray/\xs.length<=sizeLine:=by
 rcases h with h | ⟨o,its,n,hk,hc,hd,hs,hz,r⟩
 ·obtain ⟨z,its,n,r,e⟩:=h.ok I.hok
  exact ⟨its,r,⟨_,n,e,rfl,rfl,rfl⟩,z⟩
 ·refine ⟨its.toList,r,⟨o,n,I.kIn a o hk,hc,hd,by simpa using hs⟩,?_⟩
  have e:=r.length;simp only [Az] at e
  lia
theorem Inv.tuple (I:Inv X pins σ H s) (h:SqT X.K H a xs):∃its:List AB,BL xs its/\U4 s.heap a its.toArray/\xs.length<=sizeLine:=by
 rcases h with h | ⟨o,its,n,hk,hc,hs,hz,r⟩
 ·obtain ⟨z,its,r,p⟩:=h.ok I.hok
  exact ⟨its,r,p,z⟩
 ·refine ⟨its.toList,r,⟨o,I.kIn a o hk,hc,n,by simpa using hs⟩,?_⟩
  have e:=r.length;simp only [Az] at e
  lia
theorem Inv.list_inj (I:Inv X pins σ H s) (h:SqL X.K H a xs) (h':SqL X.K H a ys):xs=ys:=by
 obtain ⟨its,r,⟨o,n,e,_,_,d⟩,_⟩:=I.list h;obtain ⟨its',r',⟨o',n',e',_,_,d'⟩,_⟩:=I.list h';rw [e] at e';cases e';rw [d] at d'
 injection d' with d1 _
 have:its=its':=by simpa using congrArg gj d1
 subst this;exact r.inj r'
theorem Inv.tuple_inj (I:Inv X pins σ H s) (h:SqT X.K H a xs) (h':SqT X.K H a ys):xs=ys:=by
 obtain ⟨its,r,⟨o,e,_,n,d⟩,_⟩:=I.tuple h;obtain ⟨its',r',⟨o',e',_,n',d'⟩,_⟩:=I.tuple h';rw [e] at e';cases e';rw [d] at d'
 injection d' with d1 _
 have:its=its':=by simpa using congrArg gj d1
 subst this;exact r.inj r'
end
section
variable {X:Cx} {pins:List (AI×Obj)} {σ:St} {H:Hp} {s:AE} {E:AB->AE->Prop}
end
section
variable {X:Cx} {st:C2} {rest:List C2} {t u:TS} {e:Expr} {te:TE} {pos:Pos}
def kS:TS:=λD σ H=>D.nx σ H
def tSeq (t u:TS):TS:=λD σ H=>t { D with nx:=u D } σ H
theorem dN:PSs X [] kS:=λ_ _ σ H _ I h=>Ln ⟨σ,H,I,h⟩
theorem Z5 (h1:PS X st t) (h2:PSs X rest u):PSs X (st :: rest) (tSeq t u):=by
 intro pins s σ H D I h;refine jz (thn (h1 pins s σ H { D with nx:=u D } I h) λf s1 q=>?_)
 cases f with
 | next=>
  obtain ⟨σ',H',I',q⟩:=q;exact h2 pins s1 σ' H' D I' q
 | ret v=>exact q
 | brk=>exact q
 | cont=>exact q
theorem dM (h1:PS X st t):PSs X [st] t:=by
 intro pins s σ H D I h;refine jz (thn (h1 pins s σ H D I h) λf s1 q=>?_)
 cases f with
 | next=>exact Ln q
 | ret v=>exact q
 | brk=>exact q
 | cont=>exact q
theorem Inv.quiet {pins:List (AI×Obj)} {σ:St} {H:Hp} {s:AE} (I:Inv X pins σ H s):interactive X.env=false:=by simp [interactive,I.ok.kind]
def kU (te:TE):TS:=λD σ H=>te σ H λ_ H1=>D.nx σ H1
theorem dO (he:PE X e te) (hs:FZ e none pos.line X.env=pure false:=by rfl):PS X (.Expr e pos) (kU te):=by
 intro pins s σ H D I h;exact wpAny_Expr_any (thn (he pins s σ H _ I h) λv s1 ⟨x,H1,I1,r1,q1⟩=>⟨σ,H1,I1,q1⟩) I.quiet hs
def tRet (te:TE):TS:=λD σ H=>te σ H D.rt
theorem iO (he:PE X e te):PS X (.Return (some e) pos) (tRet te):=by
 intro pins s σ H D I h;exact wpAny_Return_some (thn (he pins s σ H _ I h) λv s1 ⟨x,H1,I1,r1,q1⟩=>⟨x,σ,H1,I1,r1,q1⟩)
def tIfS (c:TT) (t u:TS):TS:=λD σ H=>c σ H λb H1=>if b=true then t D σ H1 else u D σ H1
theorem ko {c:Expr} {a b:List C2} {tc:TT} (hc:PT X c tc) (ha:PSs X a t) (hb:PSs X b u):PS X (.If c a b pos) (tIfS tc t u):=by
 intro pins s σ H D I h;refine wpAny_If (thn (hc pins s σ H _ I h) λd s1 ⟨H1,I1,q1⟩=>?_)
 cases d with
 | true=>exact ha pins s1 σ H1 D I1 q1
 | false=>exact hb pins s1 σ H1 D I1 q1
end
abbrev TG:=V->St->Hp->(St->Hp->Prop)->Prop
abbrev TGs:=List V->St->Hp->(St->Hp->Prop)->Prop
def PG (X:Cx) (target:Expr) (t:TG):Prop:=
 ∀(pins:List (AI×Obj)) (s:AE) (σ:St) (H:Hp) (v:V) (u:AB) (Q:St->Hp->Prop),Inv X pins σ H s->RelV v u->t v σ H Q ->
  AZ (AR X.prog X.w) X.A (LS target X.env u) (λ_ s'=>∃σ' H',Inv X pins σ' H' s'/\Q σ' H') X.xe s
def PGs (X:Cx) (ts:List Expr) (t:TGs):Prop:=
 ∀(pins:List (AI×Obj)) (s:AE) (σ:St) (H:Hp) (vs:List V) (us:List AB) (Q:St->Hp->Prop),Inv X pins σ H s->BL vs us->t vs σ H Q ->
  AZ (AR X.prog X.w) X.A (assignInOrder ((Ed ts X.env).map (·.2)) us) (λ_ s'=>∃σ' H',Inv X pins σ' H' s'/\Q σ' H') X.xe s
abbrev jc:=V->V->V->Hp->(Hp->Prop)->Prop
def lr (X:Cx) (t:jc):Prop:=
 ∀(pins:List (AI×Obj)) (s:AE) (σ:St) (H:Hp) (o i v:V) (ov iv u:AB) (Q:Hp->Prop),Inv X pins σ H s->RelV o ov->RelV i iv->RelV v u->t o i v H Q ->
  AZ (AR X.prog X.w) X.A (jm ov iv u) (λ_ s'=>∃H',Inv X pins σ H' s'/\Q H') X.xe s
section
variable {X:Cx} {pos:Pos}
def Ww (i:Nat):TG:=λv σ H Q=>Q (σ.set i (some v)) H
theorem dZ {i:Nat} {x:Str} (hN:X.N.Nodup) (hi:X.N[i]?=some x) (hx:Loc X.env.scope x) (hf:X.fn x=true∨X.env.scope.names.lookup x=some .local:=by first | exact .inl rfl | exact .inr rfl | assumption):PG X (.Name x pos) (Ww i):=by
 intro pins s σ H v u Q I r h;exact jj (Tg I hN hi hx r (λs' I'=>⟨_,H,I',h⟩) hf)
def gNil:TGs:=λvs σ H Q=>vs=[]/\Q σ H
def lc (t:TG) (u:TGs):TGs:=λvs σ H Q=>∃v r,vs=v :: r/\t v σ H λσ' H'=>u r σ' H' Q
theorem dY:PGs X [] gNil:=by
 intro pins s σ H vs us Q I r h;obtain ⟨e,h⟩:=h;subst e;cases r;exact assignInOrder_nil ⟨σ,H,I,h⟩
theorem aA {e:Expr} {es:List Expr} {t:TG} {u:TGs} (h1:PG X e t) (h2:PGs X es u)
  (hs:(Ed (e :: es) X.env).map (·.2)=LS e X.env :: (Ed es X.env).map (·.2):=by rfl):PGs X (e :: es) (lc t u):=by
 intro pins s σ H vs us Q I r h;obtain ⟨v,vr,e1,h⟩:=h;subst e1
 cases r with
 | cons r rr=>
  rw [hs];refine assignInOrder_cons (thn (h1 pins s σ H _ _ _ I r h) λ_ s1 ⟨σ1,H1,I1,q1⟩=>?_);exact h2 pins s1 σ1 H1 _ _ Q I1 rr q1
def gTup (K:AC) (n:Nat) (t:TGs):TG:=λv σ H Q=>∃a xs,v=.ref a/\SqT K H a xs/\xs.length=n/\t xs σ H Q
theorem iT {es:List Expr} {k:Nat} {t:TGs} {n:Nat} (hc:X.calm=true) (h:PGs X es t)
  (hn:(Ed es X.env).length=n:=by rfl) (hst:(Ed es X.env).findIdx? (·.1)=none:=by rfl):PG X (.Tuple es k pos) (gTup X.K n t):=by
 intro pins s σ H v u Q I r hw;obtain ⟨a,xs,e1,hq,hl,hw⟩:=hw;subst e1;cases r;obtain ⟨its,rv,ht,hz⟩:=I.tuple hq
 refine assign_Tuple_tuple (I.ok.hd hc) ht (by simp [hn,<-hl,rv.length]) hst λh' hx=>?_
 have I1:Inv X pins σ H { s with heap:=h' }:=I.kept (t':=s.toks) λb o e=>hx b o (Ad (AW e)) e
 exact h pins _ σ H xs _ Q I1 (by simpa using rv) hw
def gSub (to ti:TE) (t:jc):TG:=λv σ H Q=>to σ H λo H1=>ti σ H1 λi H2=>t o i v H2 λH3=>Q σ H3
theorem iU {o i:Expr} {to ti:TE} {t:jc} (ho:PE X o to) (hi:PE X i ti) (hs:lr X t)
  (ha:∀v,LS (.Subscript o i pos) X.env v=(do
   let ov <-LP [v] (Bg o X.env)
   let iv <-LP [v,ov] (Bg i X.env)
   jl pos
   LP [v,ov,iv] (jm ov iv v)
   release [v,ov,iv] []):=by intro _;rfl):PG X (.Subscript o i pos) (gSub to ti t):=by
 intro pins s σ H v u Q I r h;rw [ha];refine AA (Bh (thn (ho pins s σ H _ I h) λov s1 ⟨x,H1,I1,r1,q1⟩=>?_));refine AA (Bh (thn (hi pins s1 σ H1 _ I1 q1) λiv s2 ⟨y,H2,I2,r2,q2⟩=>?_));refine AA (XC (AA (Bh (thn (hs pins s2 σ H2 x y v ov iv u _ I2 r1 r2 r q2) λ_ s3 ⟨H3,I3,q3⟩=>?_))));exact wpAny_release ⟨σ,H3,I3,q3⟩
def hV (te:TE) (g:TG):TS:=λD σ H=>te σ H λx H1=>g x σ H1 D.nx
theorem iR {tg e:Expr} {te:TE} {g:TG} (he:PE X e te) (hg:PG X tg g) (hs:swapsWithSole [tg] e pos.line X.env=pure false:=by rfl) (hw:swappedStores [tg] e X.env=pure none:=by rfl)
  (h1:(Ed [tg] X.env).map (·.2)=[LS tg X.env]:=by rfl):PS X (.Assign [tg] e pos) (hV te g):=by
 intro pins s σ H D I h;refine wpAny_Assign_stores (thn (he pins s σ H _ I h) λv s1 ⟨x,H1,I1,r1,q1⟩=>?_) hs hw;rw [h1]
 exact thn (hg pins s1 σ H1 x v _ I1 r1 q1) λ_ s2 q=>q
theorem iN {i:Nat} {x:Str} {e:Expr} {te:TE} {pos':Pos} (hN:X.N.Nodup) (hi:X.N[i]?=some x) (hx:Loc X.env.scope x) (he:PE X e te) (hs:FZ e (some (.Name x pos')) pos.line X.env=pure false:=by rfl) (hf:X.fn x=true∨X.env.scope.names.lookup x=some .local:=by first | exact .inl rfl | exact .inr rfl | assumption) :
  PS X (.Assign [.Name x pos'] e pos) (hV te (Ww i)):=by
 intro pins s σ H D I h;refine wpAny_Assign_Name (thn (he pins s σ H _ I h) λv s1 ⟨y,H1,I1,r1,q1⟩=>?_) hs;exact Tg I1 hN hi hx r1 (λs2 I2=>⟨_,H1,I2,q1⟩) hf
end
section
variable {X:Cx} {pos:Pos}
def g8 (c:TT) (tb:TS):TS:=λD σ H=>∃W:Nat->St->Hp->Prop,(∃m,W m σ H)/\∀m σ H,W m σ H ->
 c σ H λb H1=>if b=true then ∃N:St->Hp->Prop,(∀σ' H',N σ' H'->∃m',m' < m/\W m' σ' H')/\tb { D with nx:=N,ct:=N,bk:=D.nx } σ H1 else D.nx σ H1
theorem Z6 {c:Expr} {body:List C2} {tc:TT} {tb:TS} (hp:NO (AR X.prog X.w) X.A X.env X.xe) (hc:PT X c tc) (hb:PSs X body tb):PS X (.While c body [] pos) (g8 tc tb):=by
 intro pins s σ H D I h;obtain ⟨W,⟨m0,w0⟩,turn⟩:=h;refine wpAny_While (codeAny_whileLoop (λn s'=>∃σ' H',Inv X pins σ' H' s'/\W n σ' H') ?_ m0 ⟨σ,H,I,w0⟩);rintro n s1 ⟨σ1,H1,I1,w1⟩;refine Em hp (thn (hc pins s1 σ1 H1 _ I1 (turn n σ1 H1 w1)) λb s2 ⟨H2,I2,q2⟩=>?_)
 cases b with
 | true=>
  obtain ⟨N,hN,q2⟩:=q2;rw [qX rfl];refine Em hp (thn (hb pins s2 σ1 H2 _ I2 q2) λf s3 q3=>?_)
  cases f with
  | next=>
   obtain ⟨σ3,H3,I3,n3⟩:=q3;obtain ⟨m',hm,w3⟩:=hN σ3 H3 n3;exact ⟨m',hm,σ3,H3,I3,w3⟩
  | cont=>
   obtain ⟨σ3,H3,I3,n3⟩:=q3;obtain ⟨m',hm,w3⟩:=hN σ3 H3 n3;exact ⟨m',hm,σ3,H3,I3,w3⟩
  | brk=>exact q3
  | ret v=>exact q3
 | false=>
  rw [qY AO];exact Ln ⟨σ1,H2,I2,q2⟩
end
structure It where
 go:Nat->Hp->Prop
 yld:Nat->Hp->V->Hp->Prop
 stop:Nat->Hp->Prop
def Ll (X:Cx) (pins:List (AI×Obj)) (H:Hp) (b:AI):Prop:=
 H b=none/\b≠X.env.locals/\b∉X.fs/\(b∈X.ex∨X.s₀.heap.objs.size<=b)/\(∀x c,X.env.cells.lookup x=some c->c≠b)/\∀p∈X.pn++pins,p.1≠b
theorem Inv.fpOk {X:Cx} {pins:List (AI×Obj)} {σ:St} {H H':Hp} {s:AE} {b:AI} (I:Inv X pins σ H s) (hb:s.heap.objs.size<=b) (hn:H' b=none):Ll X pins H' b:=by
 refine ⟨hn,Gc (Ab I.lt hb),I.nofs hb,.inr (As I.sz hb),λx c e z=>?_,λp hp z=>?_⟩
 ·obtain ⟨v,q⟩:=I.cell x c e
  exact zX (Ab q.lt (by rw [z];exact hb)) (EU _)
 ·exact zX (Ab (AW (I.pin p hp).1) (by rw [z];exact hb)) (EU _)
structure UY (P:Al) (w:A2) (K:AC) (tg:Expr) (J:It) (fp:List AI) (it:AI) (tn:Nat->BP->Prop):Prop where
 mem:it∈fp
 obj:∀i h,tn i h->∀b∈fp,∃o,h.get? b=some o/\∀v,o.data≠.cell v
 keep:∀i h h',tn i h->(∀b∈fp,∀o,h.get? b=some o->h'.get? b=some o)->tn i h'
 item:∀(X:Cx),X.prog=P->X.w=w->X.K=K->X.calm=true->∀(i:Nat) (pins:List (AI×Obj)) (s:AE) (σ:St) (H:Hp) (E:AB->AE->Prop),Inv X pins σ H s->(∀b∈fp,Ll X pins H b)->tn i s.heap->J.go i H ->
  AZ (AR P w) X.A (Ff (.ref it)) (λr s1=>∃u,r=some u /\
   AZ (AR P w) X.A (Lp tg (.ref it) u) (λ_ s2=>∃x H',Inv X pins σ H' s2/\RelV x u/\J.yld i H x H'/\tn (i+1) s2.heap/\∀b∈fp,H' b=none) E s1) E s
 done:∀(X:Cx),X.prog=P->X.w=w->X.K=K->X.calm=true->∀(i:Nat) (pins:List (AI×Obj)) (s:AE) (σ:St) (H:Hp) (E:AB->AE->Prop),Inv X pins σ H s->(∀b∈fp,Ll X pins H b)->tn i s.heap->J.stop i H ->
  AZ (AR P w) X.A (Ff (.ref it)) (λr s1=>r=none/\Inv X pins σ H s1) E s
 self:∀(A:Ay) (i:Nat) (s:AE) (Q:AB->AE->Prop) (E:AB->AE->Prop),tn i s.heap->Q (.ref it) s->AZ (AR P w) A (OU (.ref it)) Q E s
abbrev TI:=St->Hp->(It->Hp->Prop)->Prop
def PIE (X:Cx) (pins:List (AI×Obj)) (σ:St) (tg:Expr) (R:It->Hp->Prop) (itv:AB) (s2:AE):Prop:=
 ∃(it:AI) (fp:List AI) (tn:Nat->BP->Prop) (J:It) (H':Hp),itv=.ref it/\Inv X pins σ H' s2/\UY X.prog X.w X.K tg J fp it tn/\tn 0 s2.heap/\(∀b∈fp,Ll X pins H' b)/\R J H'
def PI (X:Cx) (tg iter:Expr) (wi:TI):Prop:=
 ∀(pins:List (AI×Obj)) (s:AE) (σ:St) (H:Hp) (R:It->Hp->Prop),Inv X pins σ H s->wi σ H R ->
  AZ (AR X.prog X.w) X.A (Bg iter X.env) (λv s1=>AZ (AR X.prog X.w) X.A (OU v) (PIE X pins σ tg R) X.xe s1) X.xe s
theorem bD {M:TB} {A:Ay} {E:AB->AE->Prop} {s:AE} {tg:Expr} {it:AI} {u:AB} {o:Obj} {n:String} {vs:Array AB} {Q:Unit->AE->Prop} (ho:s.heap.get? it=some o) (hc:o.cls=.type n) (hd:o.data=.fields vs)
  (hn:["enumerate", "zip", "dict_itemiterator", "dict_reverseitemiterator", "odict_iterator", "itertools.zip_longest", "itertools.pairwise"].contains n=false) (hQ:Q () s):AZ M A (Lp tg (.ref it) u) Q E s:=by
 unfold Lp
 cases tg <;> first
  | exact AD hQ
  | (cases u <;> first
    | exact AD hQ
    | (refine AA (gF ho ?_)
       rw [hc,hd];show AZ M A (if (["enumerate", "zip", "dict_itemiterator", "dict_reverseitemiterator", "odict_iterator", "itertools.zip_longest", "itertools.pairwise"].contains n&&vs[0]?==some (Do _))=true then _ else _) Q E s;rw [qY (by intro h;rw [hn,fg] at h;cases h)]
       exact AD hQ))
def Itl (K:AC) (a:AI):It:=
 ⟨λi H=>∃xs x,SqL K H a xs/\xs[i]?=some x,λi H x H'=>H'=H/\∀xs,SqL K H a xs->xs[i]?=some x,λi H=>∃xs,SqL K H a xs/\xs.length<=i⟩
def Itt (K:AC) (a:AI):It:=
 ⟨λi H=>∃xs x,SqT K H a xs/\xs[i]?=some x,λi H x H'=>H'=H/\∀xs,SqT K H a xs->xs[i]?=some x,λi H=>∃xs,SqT K H a xs/\xs.length<=i⟩
def Itr (lo:Int) (n:Nat):It:=⟨λi _=>i < n,λi H x H'=>H'=H/\x=.int (lo+i),λi _=>n<=i⟩
theorem Xd {P:Al} {w:A2} {K:AC} {tg:Expr} (a it:AI):UY P w K tg (Itl K a) [it] it (λi h=>h.IsListIter it a i) where
 mem:=by simp
 obj:=λi h st b hb=>by
  have e:b=it:=by simpa using hb
  subst e;obtain ⟨o,e,c,d⟩:=st;exact ⟨o,e,λv z=>by rw [d] at z;cases z⟩
 keep:=λi h h' st k=>st.at λo e=>k it (by simp) o e
 item:=by
  intro X hP hw hK hc i pins s σ H E I hf st hg;subst hP hw hK;obtain ⟨xs,x,hq,hx⟩:=hg;obtain ⟨its,rv,p,hz⟩:=I.list hq;obtain ⟨u,hu,ru⟩:=rv.get hx;obtain ⟨f0,f1,f2,f3,f4,f5⟩:=hf it (by simp)
  refine wpAny_pyNext_list_item st p.isList (x:=u) (by simpa using hu) λh' st' sb=>?_
  have I1:Inv X pins σ H { s with heap:=h' }:=I.turned (t':=s.toks) (λb o hb e=>(sb.2 b hb).trans e) f0 f1 f3 f4 f5;obtain ⟨o,e,c,d⟩:=id st';exact ⟨u,rfl,bD (s:={ s with heap:=h' }) e c d (by decide) ⟨x,H,I1,ru,⟨rfl,λys hy=>by rw [I.list_inj hy hq];exact hx⟩,st',λb hb=>(hf b hb).1⟩⟩
 done:=by
  intro X hP hw hK hc i pins s σ H E I hf st hg;subst hP hw hK;obtain ⟨xs,hq,hx⟩:=hg;obtain ⟨its,rv,p,hz⟩:=I.list hq;obtain ⟨f0,f1,f2,f3,f4,f5⟩:=hf it (by simp);have hl:=rv.length
  exact wpAny_pyNext_list_end (I.ok.hd hc) st p.isList (by simp;lia) λh' eb=>⟨rfl,I.turned (t':=s.toks) (λb o hb e=>eb b o hb e) f0 f1 f3 f4 f5⟩
 self:=λ_ _ _ _ _ st h=>wpAny_pyIter_listiter st h
theorem U9 {P:Al} {w:A2} {K:AC} {tg:Expr} (a it:AI):UY P w K tg (Itt K a) [it] it (λi h=>h.IsTupleIter it a i) where
 mem:=by simp
 obj:=λi h st b hb=>by
  have e:b=it:=by simpa using hb
  subst e;obtain ⟨o,e,c,d⟩:=st;exact ⟨o,e,λv z=>by rw [d] at z;cases z⟩
 keep:=λi h h' st k=>st.at λo e=>k it (by simp) o e
 item:=by
  intro X hP hw hK hc i pins s σ H E I hf st hg;subst hP hw hK;obtain ⟨xs,x,hq,hx⟩:=hg;obtain ⟨its,rv,p,hz⟩:=I.tuple hq;obtain ⟨u,hu,ru⟩:=rv.get hx;obtain ⟨f0,f1,f2,f3,f4,f5⟩:=hf it (by simp)
  refine wpAny_pyNext_tuple_item st (show s.heap.IsTuple a its.toArray from p) (x:=u) (by simpa using hu) λh' st' sb=>?_
  have I1:Inv X pins σ H { s with heap:=h' }:=I.turned (t':=s.toks) (λb o hb e=>(sb.2 b hb).trans e) f0 f1 f3 f4 f5;obtain ⟨o,e,c,d⟩:=id st';exact ⟨u,rfl,bD (s:={ s with heap:=h' }) e c d (by decide) ⟨x,H,I1,ru,⟨rfl,λys hy=>by rw [I.tuple_inj hy hq];exact hx⟩,st',λb hb=>(hf b hb).1⟩⟩
 done:=by
  intro X hP hw hK hc i pins s σ H E I hf st hg;subst hP hw hK;obtain ⟨xs,hq,hx⟩:=hg;obtain ⟨its,rv,p,hz⟩:=I.tuple hq;obtain ⟨f0,f1,f2,f3,f4,f5⟩:=hf it (by simp);have hl:=rv.length
  exact wpAny_pyNext_tuple_end (I.ok.hd hc) st (show s.heap.IsTuple a its.toArray from p) (by simp;lia) λh' eb=>⟨rfl,I.turned (t':=s.toks) (λb o hb e=>eb b o hb e) f0 f1 f3 f4 f5⟩
 self:=λ_ _ _ _ _ st h=>wpAny_pyIter_tupleiter st h
theorem VC {P:Al} {w:A2} {K:AC} {tg:Expr} (it:AI) (lo:Int) (n:Nat):UY P w K tg (Itr lo n) [it] it (λi h=>IsRangeIter h it (lo+(i:Nat) * 1) ((n:Int) - (i:Nat)) 1) where
 mem:=by simp
 obj:=λi h st b hb=>by
  have e:b=it:=by simpa using hb
  subst e
  exact ⟨_,st,λv z=>by
   have z':WN _=bx v:=z
   cases z'⟩
 keep:=λi h h' st k=>k it (by simp) _ st
 item:=by
  intro X hP hw hK hc i pins s σ H E I hf st hg;subst hP hw hK;obtain ⟨f0,f1,f2,f3,f4,f5⟩:=hf it (by simp);have W:=Walks.range (prog:=X.prog) (w:=X.w) (I.ok.hd hc) it lo 1 n
  refine W.item i s _ _ hg st λv h' tk hv st' kk=>?_
  obtain ⟨t,rfl⟩:=hv;have I1:Inv X pins σ H { s with heap:=h',toks:=tk }:=I.turned (λb o hb e=>kk b o (by simpa using hb) e) f0 f1 f3 f4 f5;refine ⟨_,rfl,bD (s:={ s with heap:=h',toks:=tk }) (n:="range_iterator") st' rfl rfl (by decide) ⟨.int (lo+i),H,I1,⟨t,?_⟩,⟨rfl,rfl⟩,st',λb hb=>(hf b hb).1⟩⟩;rw [Int.mul_one]
 done:=by
  intro X hP hw hK hc i pins s σ H E I hf st hg;subst hP hw hK;obtain ⟨f0,f1,f2,f3,f4,f5⟩:=hf it (by simp)
  exact wpAny_pyNext_range_end (I.ok.hd hc) st (by have:n<=i:=hg;lia) λh' eb=>⟨rfl,I.turned (t':=s.toks) (λb o hb e=>eb b o hb e) f0 f1 f3 f4 f5⟩
 self:=λ_ _ _ _ _ st h=>wpAny_pyIter_rangeiter st h
section
variable {X:Cx} {tg:Expr}
def lV (K:AC) (tl:TE):TI:=λσ H R=>tl σ H λx H1=>∃a,x=.ref a/\(∃xs,SqL K H1 a xs)/\R (Itl K a) H1
def iTup (K:AC) (tl:TE):TI:=λσ H R=>tl σ H λx H1=>∃a,x=.ref a/\(∃xs,SqT K H1 a xs)/\R (Itt K a) H1
theorem dW {l:Expr} {tl:TE} (hl:PE X l tl):PI X tg l (lV X.K tl):=by
 intro pins s σ H R I h
 refine thn (hl pins s σ H _ I h) λv s1 ⟨x,H1,I1,r1,q1⟩=>?_
 obtain ⟨a,e,⟨xs,hq⟩,q⟩:=q1;subst e;cases r1;obtain ⟨its,rv,p,hz⟩:=I1.list hq;refine P0 p.isList ?_;refine ⟨s1.heap.objs.size,[s1.heap.objs.size],_,_,H1,rfl,I1.kept (t':=s1.toks) λb o e=>AF _ e,Xd a _,⟨_,AV _ rfl,rfl,rfl⟩,λb hb=>?_,q⟩
 have e:b=s1.heap.objs.size:=by simpa using hb
 subst e;exact I1.fpOk (AM _) (I1.hok.fresh (AM _))
theorem iS {l:Expr} {tl:TE} (hl:PE X l tl):PI X tg l (iTup X.K tl):=by
 intro pins s σ H R I h
 refine thn (hl pins s σ H _ I h) λv s1 ⟨x,H1,I1,r1,q1⟩=>?_
 obtain ⟨a,e,⟨xs,hq⟩,q⟩:=q1;subst e;cases r1;obtain ⟨its,rv,p,hz⟩:=I1.tuple hq;refine EZ (show s1.heap.IsTuple a its.toArray from p) ?_;refine ⟨s1.heap.objs.size,[s1.heap.objs.size],_,_,H1,rfl,I1.kept (t':=s1.toks) λb o e=>AF _ e,U9 a _,⟨_,AV _ rfl,rfl,rfl⟩,λb hb=>?_,q⟩
 have e:b=s1.heap.objs.size:=by simpa using hb
 subst e;exact I1.fpOk (AM _) (I1.hok.fresh (AM _))
theorem Tu {pins:List (AI×Obj)} {σ:St} {H:Hp} {s:AE} {R:It->Hp->Prop} {E:AB->AE->Prop} {lo hi:Int} {t u v:Tok} {tk:Nat} (I:Inv X pins σ H s) (h1:-(2 ^ 62)<=lo) (h2:lo < 2 ^ 62) (h3:-(2 ^ 62)<=hi) (h4:hi < 2 ^ 62)
  (q:R (Itr lo (hi - lo).toNat) H):AZ (AR X.prog X.w) X.A (OU (.ref s.heap.objs.size)) (PIE X pins σ tg R) E { s with heap:=s.heap.push { cls:=.type "range",data:=.fields #[.int lo t,.int hi u,.int 1 v] },toks:=tk }:=by
 refine wpAny_pyIter_range (fb ..) (small_one h1 h2 h3 h4) ?_
 have I1:Inv X pins σ H { s with heap:=s.heap.push { cls:=.type "range",data:=.fields #[.int lo t,.int hi u,.int 1 v] },toks:=tk }:=I.kept λb o e=>AF _ e
 refine ⟨(s.heap.push { cls:=.type "range",data:=.fields #[.int lo t,.int hi u,.int 1 v] }).objs.size,[(s.heap.push { cls:=.type "range",data:=.fields #[.int lo t,.int hi u,.int 1 v] }).objs.size],_,_,H,rfl,
  I1.kept (t':=tk) λb o e=>AF _ e,VC _ lo (hi - lo).toNat,?_,λb hb=>?_,q⟩
 ·have e1:lo+((0:Nat):Int) * 1=lo:=by simp
  have e2:(((hi - lo).toNat:Nat):Int) - ((0:Nat):Int)=NV lo hi 1:=by rw [rangeSize_one];split <;> lia
  show IsRangeIter _ _ (lo+((0:Nat):Int) * 1) ((((hi - lo).toNat:Nat):Int) - ((0:Nat):Int)) 1;rw [e1,e2];exact AV _ rfl
 ·have e:b=(s.heap.push { cls:=.type "range",data:=.fields #[.int lo t,.int hi u,.int 1 v] }).objs.size:=by simpa using hb
  subst e;exact I1.fpOk (AM _) (I1.hok.fresh (AM _))
def lT (ta:TA):TI:=λσ H R=>ta σ H λvs H1=>∃j:Int,vs=[.int j]/\-(2 ^ 62)<=j/\j < 2 ^ 62/\R (Itr 0 j.toNat) H1
def lS (ta:TA):TI:=λσ H R=>ta σ H λvs H1=>∃i j:Int,vs=[.int i,.int j]/\(-(2 ^ 62)<=i/\i < 2 ^ 62/\-(2 ^ 62)<=j/\j < 2 ^ 62)/\R (Itr i (j - i).toNat) H1
theorem Xq {a:Expr} {ta:TA} {p pos:Pos} (hg:Gl X "range") (hm:X.mg "range" = none) (ha:PA X [a] ta) (hs:AU [a] X.env=[(false,Bg a X.env)]:=by rfl):PI X tg (.Call (.Name "range" p) [a] [] pos) (lT ta):=by
 intro pins s σ H R I h;refine Call_ (IQ I hg hm gZ (Br (thn (ha pos pins s σ H _ I h) λus s1 ⟨vs,H1,I1,r1,q1⟩=>?_) hs rfl));obtain ⟨j,e,q1,q2,q⟩:=q1;subst e
 cases r1 with
 | cons r rr=>
  cases rr;obtain ⟨t,rfl⟩:=r;exact call_range_1 (Tu I1 (by lia) (by lia) q1 q2 (by simpa using q))
theorem Xp {a b:Expr} {ta:TA} {p pos:Pos} (hg:Gl X "range") (hm:X.mg "range" = none) (ha:PA X [a,b] ta) (hs:AU [a,b] X.env=[(false,Bg a X.env),(false,Bg b X.env)]:=by rfl) (hs2:AU [b] X.env=[(false,Bg b X.env)]:=by rfl) :
  PI X tg (.Call (.Name "range" p) [a,b] [] pos) (lS ta):=by
 intro pins s σ H R I h;refine Call_ (IQ I hg hm gZ (Br (thn (ha pos pins s σ H _ I h) λus s1 ⟨vs,H1,I1,r1,q1⟩=>?_) (by rw [hs,hs2]) (by rw [hs2];rfl)));obtain ⟨i,j,e,⟨q1,q2,q3,q4⟩,q⟩:=q1;subst e
 cases r1 with
 | cons r rr=>
  cases rr with
  | cons r' rr=>
   cases rr;obtain ⟨t,rfl⟩:=r;obtain ⟨t',rfl⟩:=r';exact call_range_2 (Tu I1 q1 q2 q3 q4 q)
def tFor (wi:TI) (g:TG) (tb:TS):TS:=λD σ H=>wi σ H λJ H1=>∃W:Nat->Nat->St->Hp->Prop,(∃m,W 0 m σ H1)/\∀i m σ H,W i m σ H ->
 (J.stop i H/\D.nx σ H)∨(J.go i H/\∃N:St->Hp->Prop,(∀σ' H',N σ' H'->∃m',m' < m/\W (i+1) m' σ' H')/\∀x H',J.yld i H x H'->g x σ H' λσ2 H2=>tb { D with nx:=N,ct:=N,bk:=D.nx } σ2 H2)
def O5 (fp:List AI) (h:BP):List (AI×Obj):=fp.filterMap λb=>(h.get? b).map λo=>(b,o)
theorem JT {fp:List AI} {h:BP} {b:AI} {o:Obj} (hb:b∈fp) (e:h.get? b=some o):(b,o)∈O5 fp h:=Ys.mpr ⟨b,hb,by rw [e];rfl⟩
theorem Xw {fp:List AI} {h:BP} {p:AI×Obj} (hp:p∈O5 fp h):p.1∈fp/\h.get? p.1=some p.2:=by
 obtain ⟨b,hb,e⟩:=Ys.mp hp
 cases q:h.get? b with
 | none=>rw [q] at e;cases e
 | some o=>
  rw [q] at e;have e':(b,o)=p:=CA e;subst e';exact ⟨hb,q⟩
theorem Inv.pinned {pins:List (AI×Obj)} {σ:St} {H:Hp} {s:AE} {fp:List AI} (I:Inv X pins σ H s) (hf:∀b∈fp,Ll X pins H b) (ho:∀b∈fp,∃o,s.heap.get? b=some o/\∀v,o.data≠.cell v):Inv X (pins++O5 fp s.heap) σ H s:=
 I.pins_of λp hp=>(Ap.mp hp).elim (λz=>I.pin p (BG _ z)) λz=>by
  obtain ⟨hb,e⟩:=Xw z;obtain ⟨f0,f1,f2,_⟩:=hf p.1 hb;obtain ⟨o,e',d⟩:=ho p.1 hb;rw [e] at e';cases e';exact ⟨e,f0,f1,f2,d⟩
theorem Inv.unpinned {pins pl:List (AI×Obj)} {σ:St} {H:Hp} {s:AE} (I:Inv X (pins++pl) σ H s):Inv X pins σ H s:=I.pins_of λp hp=>I.pin p (BG _ (Ck _ hp))
theorem iP {iter:Expr} {body:List C2} {wi:TI} {g:TG} {tb:TS} {pos:Pos} (hp:NO (AR X.prog X.w) X.A X.env X.xe) (hc:X.calm=true) (hi:PI X tg iter wi) (hg:PG X tg g) (hb:PSs X body tb)
  (hs:∀x,FA iter X.env x=pure x:=by intro _;rfl):PS X (.For tg iter body [] pos) (tFor wi g tb):=by
 intro pins s σ H D I h;refine wpAny_For (thn (hi pins s σ H _ I h) λv s1 h1=>thn h1 λitv s2 h2=>?_) hs;obtain ⟨it,fp,tn,J,H2,e,I2,T,st2,f2,W,⟨m0,w0⟩,turn⟩:=h2;subst e
 have stat:∀ {H':Hp},(∀b∈fp,H' b=none)->∀b∈fp,Ll X pins H' b:=λhn b hb=>⟨hn b hb,(f2 b hb).2⟩
 refine codeAny_forLoop_any (λn s'=>∃i σ' H',Inv X pins σ' H' s'/\tn i s'.heap/\(∀b∈fp,H' b=none)/\W i n σ' H') ?_ m0 ⟨0,σ,H2,I2,st2,λb hb=>(f2 b hb).1,w0⟩;rintro n s3 ⟨i,σ3,H3,I3,st3,fr3,w3⟩
 rcases turn i n σ3 H3 w3 with ⟨stop,qn⟩ | ⟨go,N,hN,step⟩
 ·refine Em hp (thn (T.done X rfl rfl rfl hc i pins s3 σ3 H3 X.xe I3 (stat fr3) st3 stop) λr s4 ⟨hr,I4⟩=>?_)
  subst hr;exact Ln ⟨σ3,H3,I4,qn⟩
 ·refine Em hp (thn (T.item X rfl rfl rfl hc i pins s3 σ3 H3 X.xe I3 (stat fr3) st3 go) λr s4 ⟨u,hr,h4⟩=>?_)
  subst hr;refine Em hp (thn h4 λ_ s5 ⟨x,H5,I5,r5,y5,st5,fr5⟩=>?_);have I5':=I5.pinned (stat fr5) (T.obj _ _ st5);refine Em hp (thn (hg _ s5 σ3 H5 x u _ I5' r5 (step x H5 y5)) λ_ s6 ⟨σ6,H6,I6,q6⟩=>?_);refine Em hp (thn (hb _ s6 σ6 H6 _ I6 q6) λf s7 q7=>?_)
  have again:∀ {σ7:St} {H7:Hp},Inv X (pins++O5 fp s5.heap) σ7 H7 s7->N σ7 H7->∃m,m < n/\∃i σ' H',Inv X pins σ' H' s7/\tn i s7.heap/\(∀b∈fp,H' b=none)/\W i m σ' H':=λ{σ7 H7} I7 n7=>by
   obtain ⟨m',hm,w7⟩:=hN σ7 H7 n7;refine ⟨m',hm,i+1,σ7,H7,I7.unpinned,T.keep _ _ _ st5 λb hb o e=>(I7.pin (b,o) (BG _ (BG _ (JT hb e)))).1,λb hb=>?_,w7⟩;obtain ⟨o,e,d⟩:=T.obj _ _ st5 b hb;exact (I7.pin (b,o) (BG _ (BG _ (JT hb e)))).2.1
  cases f with
  | next=>obtain ⟨σ7,H7,I7,n7⟩:=q7;exact again I7 n7
  | cont=>obtain ⟨σ7,H7,I7,n7⟩:=q7;exact again I7 n7
  | brk=>obtain ⟨σ7,H7,I7,q7⟩:=q7;exact ⟨σ7,H7,I7.unpinned,q7⟩
  | ret v=>obtain ⟨x7,σ7,H7,I7,r7,q7⟩:=q7;exact ⟨x7,σ7,H7,I7.unpinned,r7,q7⟩
end
abbrev R2:=V->V->Hp->VK->Prop
def OpR (X:Cx) (f:AB->AB->Sem AB) (r:R2):Prop:=
 ∀(pins:List (AI×Obj)) (s:AE) (σ:St) (H:Hp) (x y:V) (v u:AB) (Q:VK),Inv X pins σ H s->RelV x v->RelV y u->r x y H Q ->
  AZ (AR X.prog X.w) X.A (f v u) (EP X pins σ Q) X.xe s
def UnR (X:Cx) (f:AB->Sem AB) (r:V->Hp->VK->Prop):Prop:=
 ∀(pins:List (AI×Obj)) (s:AE) (σ:St) (H:Hp) (x:V) (v:AB) (Q:VK),Inv X pins σ H s->RelV x v->r x H Q ->
  AZ (AR X.prog X.w) X.A (f v) (EP X pins σ Q) X.xe s
def Hq (X:Cx) (f:AB) (r:List V->Hp->VK->Prop):Prop:=
 ∀(pins:List (AI×Obj)) (s:AE) (σ:St) (H:Hp) (xs:List V) (us:List AB) (Q:VK),Inv X pins σ H s->BL xs us->r xs H Q ->
  AZ (AR X.prog X.w) X.A (call f us) (EP X pins σ Q) X.xe s
def tOp (r:R2) (ta tb:TE):TE:=λσ H Q=>ta σ H λx H1=>tb σ H1 λy H2=>r x y H2 Q
def tUn (r:V->Hp->VK->Prop) (ta:TE):TE:=λσ H Q=>ta σ H λx H1=>r x H1 Q
def rI (C:Int->Int->Prop) (g:Int->Int->V):R2:=λx y H Q=>∃i j,x=.int i/\y=.int j/\C i j/\Q (g i j) H
def rI0 (g:Int->Int->V):R2:=λx y H Q=>∃i j,x=.int i/\y=.int j/\Q (g i j) H
def rU (g:Int->V):V->Hp->VK->Prop:=λx H Q=>∃i,x=.int i/\Q (g i) H
section
variable {X:Cx} {a b c:Expr} {ta tb tc:TE} {pos:Pos}
theorem jZ (ha:PE X a ta) (hb:PE X b tb) {pins:List (AI×Obj)} {s:AE} {σ:St} {H:Hp} {R:V->V->Hp->Prop} (I:Inv X pins σ H s)
  (h:ta σ H λx H1=>tb σ H1 λy H2=>R x y H2) {Q:AB->AE->Prop} {f:AB->AB->Sem AB}
  (hf:∀v u s2 x y H2,Inv X pins σ H2 s2->RelV x v->RelV y u->R x y H2->AZ (AR X.prog X.w) X.A (f v u) Q X.xe s2) :
  AZ (AR X.prog X.w) X.A (Bg a X.env) (λv s₁=>AZ (AR X.prog X.w) X.A (Bg b X.env) (λu s₂=>AZ (AR X.prog X.w) X.A (f v u) Q X.xe s₂) X.xe s₁) X.xe s:=by
 refine thn (ha pins s σ H _ I h) λv s1 ⟨x,H1,I1,r1,q1⟩=>?_
 refine thn (hb pins s1 σ H1 _ I1 q1) λu s2 ⟨y,H2,I2,r2,q2⟩=>?_
 exact hf v u s2 x y H2 I2 r1 r2 q2
theorem kt {op:Operator} {r:R2} (ho:OpR X (Eo op) r) (ha:PE X a ta) (hb:PE X b tb):PE X (.BinOp a op b pos) (tOp r ta tb):=by
 intro pins s σ H Q I h;exact wpAny_BinOp (jZ ha hb I h λv u s2 x y H2 I2 rx ry q=>ho pins s2 σ H2 x y v u Q I2 rx ry q)
theorem kr {op:UnaryOp} {r:V->Hp->VK->Prop} (ho:UnR X (unaryOp op) r) (ha:PE X a ta):PE X (.UnaryOp op a pos) (tUn r ta):=by
 intro pins s σ H Q I h;exact UnaryOp_ (thn (ha pins s σ H _ I h) λv s1 ⟨x,H1,I1,r1,q1⟩=>ho pins s1 σ H1 x v Q I1 r1 q1)
theorem opI {f:AB->AB->Sem AB} {C:Int->Int->Prop} {g:Int->Int->Int}
  (rule:∀(i j:Int) (t u:Tok) (s:AE) (Q:AB->AE->Prop) (E:AB->AE->Prop),C i j->Q (.int (g i j) s.toks) { s with toks:=s.toks+1 }->AZ (AR X.prog X.w) X.A (f (.int i t) (.int j u)) Q E s) :
  OpR X f (rI C λi j=>.int (g i j)):=by
 intro pins s σ H x y v u Q I rx ry h;obtain ⟨i,j,rfl,rfl,hc,q⟩:=h;obtain ⟨t,rfl⟩:=rx;obtain ⟨t',rfl⟩:=ry;exact rule i j t t' s _ _ hc ⟨.int (g i j),H,I.tok _,⟨_,rfl⟩,q⟩
theorem opI0 {f:AB->AB->Sem AB} {g:Int->Int->Int}
  (rule:∀(i j:Int) (t u:Tok) (s:AE) (Q:AB->AE->Prop) (E:AB->AE->Prop),Q (.int (g i j) s.toks) { s with toks:=s.toks+1 }->AZ (AR X.prog X.w) X.A (f (.int i t) (.int j u)) Q E s) :
  OpR X f (rI0 λi j=>.int (g i j)):=by
 intro pins s σ H x y v u Q I rx ry h;obtain ⟨i,j,rfl,rfl,q⟩:=h;obtain ⟨t,rfl⟩:=rx;obtain ⟨t',rfl⟩:=ry;exact rule i j t t' s _ _ ⟨.int (g i j),H,I.tok _,⟨_,rfl⟩,q⟩
theorem dw {f:AB->AB->Sem AB} {g:Int->Int->Bool}
  (rule:∀(i j:Int) (t u:Tok) (s:AE) (Q:AB->AE->Prop) (E:AB->AE->Prop),Q (.bool (g i j)) s->AZ (AR X.prog X.w) X.A (f (.int i t) (.int j u)) Q E s) :
  OpR X f (rI0 λi j=>.bl (g i j)):=by
 intro pins s σ H x y v u Q I rx ry h;obtain ⟨i,j,rfl,rfl,q⟩:=h;obtain ⟨t,rfl⟩:=rx;obtain ⟨t',rfl⟩:=ry;exact rule i j t t' s _ _ ⟨.bl (g i j),H,I,rfl,q⟩
def fV (i j:Int):Prop:=0 < j/\j < 1073741824
def Ye (i j:Int):Prop:=(-(2 ^ 64) < i/\i < 2 ^ 64)∨(-(2 ^ 64) < j/\j < 2 ^ 64)
theorem Ye.ok {i j:Int} (h:Ye i j):IntMulOk i j:=by
 rcases h with ⟨h1,h2⟩ | ⟨h1,h2⟩
 ·exact .of_left (intBits_le_64 h1 h2)
 ·exact .of_right (intBits_le_64 h1 h2)
theorem ir:OpR X (Eo .Add) (rI0 λi j=>.int (i+j)):=opI0 λ_ _ _ _ _ _ _ q=>add_int q
theorem im:OpR X (Eo .Mult) (rI Ye λi j=>.int (i * j)):=opI λ_ _ _ _ _ _ _ hc q=>mul_int q hc.ok
theorem dr:OpR X (Eo .FloorDiv) (rI fV λi j=>.int (i / j)):=opI λi j _ _ _ _ _ hc q=>by
 have h1:(0:Int) < j:=hc.1;have h2:j < 1073741824:=hc.2;exact floordiv_int (by lia) (by rw [Int.fdiv_eq_ediv_of_nonneg i (by lia)];exact q) (.inl (PyProof.noPylong_small (by omega)))
theorem io:OpR X (Eo .Mod) (rI (λ_ j=>0 < j) λi j=>.int (i % j)):=opI λi j _ _ _ _ _ hc q=>by
 have h1:(0:Int) < j:=hc;exact mod_int' (by lia) (by rw [Int.fmod_eq_emod_of_nonneg i (by lia)];exact q)
theorem unI {f:AB->Sem AB} {g:Int->Int}
  (rule:∀(i:Int) (t:Tok) (s:AE) (Q:AB->AE->Prop) (E:AB->AE->Prop),Q (.int (g i) s.toks) { s with toks:=s.toks+1 }->AZ (AR X.prog X.w) X.A (f (.int i t)) Q E s) :
  UnR X f (rU λi=>.int (g i)):=by
 intro pins s σ H x v Q I rx h;obtain ⟨i,rfl,q⟩:=h;obtain ⟨t,rfl⟩:=rx;exact rule i t s _ _ ⟨.int (g i),H,I.tok _,⟨_,rfl⟩,q⟩
theorem gz:UnR X (unaryOp .USub) (rU λi=>.int (-i)):=unI λ_ _ _ _ _ q=>neg_int q
end
section
variable {X:Cx} {a b c:Expr} {ta tb tc:TE} {pos:Pos}
theorem jS {pins:List (AI×Obj)} {σ:St} {H:Hp} {s:AE} {Q:VK} {k k':Bool} (I:Inv X pins σ H s) (q:Q (.bl k) H) (e:k=k'):EP X pins σ Q (.bool k') s:=by
 subst e;exact ⟨.bl k,H,I,rfl,q⟩
theorem kz:OpR X (Bb .Lt) (rI0 λi j=>.bl (decide (i < j))):=dw λ_ _ _ _ _ _ _ q=>lt_int q
theorem lA:OpR X (Bb .LtE) (rI0 λi j=>.bl (decide (i<=j))):=dw λ_ _ _ _ _ _ _ q=>le_int q
theorem lB:OpR X (Bb .Gt) (rI0 λi j=>.bl (decide (j < i))):=dw λ_ _ _ _ _ _ _ q=>gt_int q
theorem lC:OpR X (Bb .GtE) (rI0 λi j=>.bl (decide (j<=i))):=dw λ_ _ _ _ _ _ _ q=>ge_int q
theorem ip:OpR X (Bb .Is) (λx y H Q=>y=.non/\Q (.bl (decide (x=.non))) H):=by
 intro pins s σ H x y v u Q I rx ry h;obtain ⟨rfl,q⟩:=h;cases ry;refine is_none_gen (jS I q ?_)
 cases x <;> first
  | (cases rx;rfl)
  | (obtain ⟨t,rfl⟩:=rx;rfl)
theorem OpR.or {f:AB->AB->Sem AB} {r r':R2} (h:OpR X f r) (h':OpR X f r'):OpR X f (λx y H Q=>r x y H Q∨r' x y H Q):=by
 intro pins s σ H x y v u Q I rx ry q
 rcases q with q | q
 ·exact h pins s σ H x y v u Q I rx ry q
 ·exact h' pins s σ H x y v u Q I rx ry q
theorem Ce (b:Expr) {op:TJ} (h:op≠.In:=by decide) (h2:op≠.NotIn:=by decide):Bq op b=false:=by
 have e1:(op==TJ.In)=false:=by cases op <;> first | rfl | exact zX rfl h
 have e2:(op==TJ.NotIn)=false:=by cases op <;> first | rfl | exact zX rfl h2
 cases b <;> simp [Bq,e1,e2]
theorem dh {op:TJ} {r:R2} (ho:OpR X (Bb op) r) (ha:PE X a ta) (hb:PE X b tb) (hm:Bq op b=false):PE X (.Compare a [op] [b] pos) (tOp r ta tb):=by
 intro pins s σ H Q I h;exact wpAny_Compare1 (jZ ha hb I h λv u s2 x y H2 I2 rx ry q=>ho pins s2 σ H2 x y v u Q I2 rx ry q) hm
def fk (t:TE):TT:=λσ H Q=>t σ H λx H'=>∃k,x=.bl k/\Q k H'
theorem dL {op:TJ} {r:R2} (ho:OpR X (Bb op) r) (ha:PE X a ta) (hb:PE X b tb) (hm:Bq op b=false):PT X (.Compare a [op] [b] pos) (fk (tOp r ta tb)):=by
 intro pins s σ H Q I h
 refine bn (thn (ha pins s σ H _ I h) λv s1 ⟨x,H1,I1,r1,q1⟩=>thn (hb pins s1 σ H1 _ I1 q1) λu s2 ⟨y,H2,I2,r2,q2⟩=>
  thn (ho pins s2 σ H2 x y v u _ I2 r1 r2 q2) λc s3 ⟨z,H3,I3,r3,k,e,q3⟩=>?_) hm
 subst e;cases r3;exact DB ⟨H3,I3,q3⟩
def Zc (r r':R2) (ta tb tc:TE):TE:=λσ H Q=>ta σ H λx H1=>tb σ H1 λy H2=>r x y H2 λz H3=>∃k,z=.bl k /\
 (if k=true then tc σ H3 λw' H4=>r' y w' H4 Q else Q (.bl false) H3)
theorem Z4 {op op':TJ} {r r':R2} (ho:OpR X (Bb op) r) (ho':OpR X (Bb op') r') (ha:PE X a ta) (hb:PE X b tb) (hc:PE X c tc)
  (hm:lastMarks [op,op'] [b,c]=false:=by with_unfolding_all rfl):PT X (.Compare a [op,op'] [b,c] pos) (fk (Zc r r' ta tb tc)):=by
 intro pins s σ H Q I h
 refine isTrue_chain (thn (ha pins s σ H _ I h) λv s1 ⟨x,H1,I1,r1,q1⟩=>test_link (thn (hb pins s1 σ H1 _ I1 q1) λu s2 ⟨y,H2,I2,r2,q2⟩=>
  thn (ho pins s2 σ H2 x y v u _ I2 r1 r2 q2) λd s3 ⟨z,H3,I3,r3,k,e,q3⟩=>?_)) hm
 subst e;cases r3;refine DB ?_
 cases k with
 | false=>
  obtain ⟨k',e',q'⟩:=q3;cases e';exact ite_ff ⟨H3,I3,q'⟩
 | true=>
  refine ite_tt (test_last (thn (hc pins s3 σ H3 _ I3 q3) λw' s4 ⟨z',H4,I4,r4,q4⟩=>thn (ho' pins s4 σ H4 y z' u w' _ I4 r2 r4 q4) λd' s5 ⟨z2,H5,I5,r5,k2,e2,q5⟩=>?_));subst e2;cases r5;exact DB ⟨H5,I5,q5⟩
theorem SN:(sizeLine:Nat) < 2 ^ 63:=by rw [sizeLine_eq];decide
theorem vals1 {x:V} {us:List AB} (r:BL [x] us):∃u,us=[u]/\RelV x u:=by
 cases r with
 | cons r1 r2=>cases r2;exact ⟨_,rfl,r1⟩
theorem vals2 {x y:V} {us:List AB} (r:BL [x,y] us):∃u w',us=[u,w']/\RelV x u/\RelV y w':=by
 cases r with
 | cons r1 r2=>
  cases r2 with
  | cons r3 r4=>cases r4;exact ⟨_,_,rfl,r1,r3⟩
theorem Ya (hc:X.calm=true):Hq X (.builtin "max") (λxs H Q=>∃i j,xs=[.int i,.int j]/\Q (.int (if j > i then j else i)) H):=by
 intro pins s σ H xs us Q I r h;obtain ⟨i,j,rfl,q⟩:=h;obtain ⟨u,w',rfl,⟨t,rfl⟩,⟨t',rfl⟩⟩:=vals2 r
 refine max_two_ints (I.ok.hd hc) λh' tk k=>⟨_,H,I.kept k,?_,q⟩
 by_cases hj:j > i
 ·rw [qX hj,qX hj];exact ⟨_,rfl⟩
 ·rw [qY hj,qY hj];exact ⟨_,rfl⟩
theorem YZ (hc:X.calm=true):Hq X (.builtin "min") (λxs H Q=>∃i j,xs=[.int i,.int j]/\Q (.int (if j < i then j else i)) H):=by
 intro pins s σ H xs us Q I r h;obtain ⟨i,j,rfl,q⟩:=h;obtain ⟨u,w',rfl,⟨t,rfl⟩,⟨t',rfl⟩⟩:=vals2 r
 refine min_two_ints (I.ok.hd hc) λh' tk k=>⟨_,H,I.kept k,?_,q⟩
 by_cases hj:j < i
 ·rw [qX hj,qX hj];exact ⟨_,rfl⟩
 ·rw [qY hj,qY hj];exact ⟨_,rfl⟩
end
structure Yd (h:BP) (x dx C:AI) (mA:Str->Option AB):Prop where
 obj:h.get? x=some (DT C dx)
 ns:h.Ns1 dx mA
 ne:dx≠x
theorem Xz {h:BP} {dx:AI} {mA:Str->Option AB} (n:h.Ns1 dx mA):∃od,h.get? dx=some od/\∀name,OW name od=some (mA name):=by
 obtain ⟨o,es,ep,ho,hd,hk,_,hm⟩:=n;refine ⟨o,ho,λname=>?_⟩;have e:=hm name;unfold nsFind findBy at e;rw [<-Array.find?_toList] at e;unfold OW;rw [hd];dsimp only;split
 ·rename_i y q
  rw [q] at e;exact congrArg some e
 ·rename_i q
  rw [q] at e
  have a:es.toList.any (·.refKey)=false:=by
   rw [List.any_eq_false];intro y hy;obtain ⟨z,t,hkey⟩:=hk y (BK.mp hy);simp [NU.refKey,hkey]
  have a':¬es.toList.any (·.refKey)=true:=by rw [a];exact AO
  rw [qY a'];exact congrArg some e
theorem Yd.look {h:BP} {x dx C:AI} {mA:Str->Option AB} (I:Yd h x dx C mA):∃od,Y3 h x (DT C dx) C (some od)/\∀name,OW name od=some (mA name):=
 let ⟨od,ho,hl⟩:=Xz I.ns
 ⟨od,⟨I.obj,rfl,rfl,ho⟩,hl⟩
section
variable {prog:Al} {w:A2} {A:Ay} {E:AB->AE->Prop} {s:AE} {K:AC} {x dx C f:AI} {mA:Str->Option AB} {name:Str} {v:AB}
theorem eZ {expr:Bool} {Q:AB->AE->Prop} (X:K.In s.heap) (I:Yd s.heap x dx C mA) (hg:Mx K C name=true) (hh:Lv K C=true)
  (ha:CS K (.ref C) name=some none) (hv:mA name=some v) (hv':XM v=true) (h:Q v { s with toks:=s.toks+1 }) :
  AZ (AR prog w) A (getAttr (.ref x) name expr) Q E s:=by
 obtain ⟨od,J,hl⟩:=I.look;exact PySem.W.get_value X J (PySem.W.plainGet_of hg).1 (PySem.W.findObj_own hh ha rfl (by rw [hl,hv])) hv' h
theorem dC {ns:List Str} {Q:Unit->AE->Prop} (X:K.In s.heap) (I:Yd s.heap x dx C mA)
  (hs:CS K (.ref C) "__setattr__" = some (some (.builtin "object.__setattr__"))) (hp:WE K C=true) (ht:Nq K C name=some none) (hh:Lv K C=true)
  (hw:TU mA ns) (hsz:ns.length<=sizeLine)
  (h:∀h',Yd h' x dx C (λy=>if y=name then some v else mA y)->CK dx s.heap h'->Q () { s with heap:=h',toks:=s.toks+2 }) :
  AZ (AR prog w) A (setAttr (.ref x) name v) Q E s:=by
 obtain ⟨od,J,hl⟩:=I.look;refine PySem.W.set_plain X J hs (PySem.W.osa_open (s:={ s with toks:=s.toks+1 }) (r:=none) X J hp ht λb=>?_);obtain ⟨cd,hc,hd'⟩:=PySem.W.any_some hh;have hx:s.heap.get? x=some ⟨.ref C,some dx,.plain,#[]⟩:=I.obj;refine AA (AD (AA (AA (wpAny_loadPart hx (AA (kD (s:={ s with toks:=s.toks+1 }) (PySem.W.looks_clsIn X hc) ?_))))));rw [hd'];refine AD (a:=some dx) (AA (AD (AA ?_)))
 refine wpAny_nsSet1 (s:={ s with toks:=s.toks+1 }) I.ns λh' hn2 hs2=>?_
 obtain ⟨oD,esD,epD,hoD,hdD,hcD⟩:=hn2.count (ly name v hw);refine AA (wpAny_lookBehind hoD (by rw [hdD];exact pastItsLine_dict (As hcD (by rw [Aq];lia))) ?_);exact AD (h _ ⟨(hs2.2 _ (Bl I.ne)).trans I.obj,hn2,I.ne⟩ hs2)
theorem aQ {R:Ra->AE->Prop} {vs:List AB} {kw:List (Str×AB)} (X:K.In s.heap) (hm:Ym K C=true)
  (hi:CS K (.ref C) "__init__" = some (some (.ref f))) (hf:PySem.W.typeIn K (.ref f)=some (.type "function"))
  (h:G7 (AR prog w) (A.under (.builtin "type.__call__" ⟨.ref C :: vs,kw⟩)) (.call (.ref f) ⟨.ref (s.heap.objs.size+1) :: vs,kw⟩) (PySem.W.InitBack (s.heap.objs.size+1) R)
   { s with heap:=(s.heap.push CT).push (DT C s.heap.objs.size) }) :
  G7 (AR prog w) A (.call (.ref C) ⟨vs,kw⟩) R s:=by
 obtain ⟨hh,g,d,t,os⟩:=s;exact PySem.W.make_core (PySem.W.makes_of X hm) (J3 X hi) (λself=>PySem.W.bind_fn X self hf) (.inl rfl) h
end
def putF (f:Str) (v:V):List (Str×V)->List (Str×V)
 | []=>[(f,v)]
 | (g,x) :: r=>if g=f then (g,v) :: r else (g,x) :: putF f v r
theorem Nh (f g:Str) (v:V):∀fs:List (Str×V),(putF f v fs).lookup g=if g=f then some v else fs.lookup g
 | []=>by
  show HE g [(f,v)]=_
  by_cases h:g=f
  ·have hb:(g==f)=true:=beq_iff_eq.mpr h
   simp only [HE,hb,qX h]
  ·have hb:(g==f)=false:=beq_eq_false_iff_ne.mpr h
   simp only [HE,hb,qY h]
 | (k,x) :: r=>by
  have ih:=Nh f g v r;rw [show putF f v ((k,x) :: r)=(if k=f then (k,v) :: r else (k,x) :: putF f v r) from rfl]
  by_cases hk:k=f
  ·rw [qX hk]
   by_cases h:g=k
   ·have hb:(g==k)=true:=beq_iff_eq.mpr h
    simp only [HE,hb,qX (h.trans hk)]
   ·have hb:(g==k)=false:=beq_eq_false_iff_ne.mpr h
    simp only [HE,hb,qY (λe:g=f=>h (e.trans hk.symm))]
  ·rw [qY hk]
   by_cases h:g=k
   ·have hb:(g==k)=true:=beq_iff_eq.mpr h
    simp only [HE,hb,qY (λe:g=f=>hk (h.symm.trans e))]
   ·have hb:(g==k)=false:=beq_eq_false_iff_ne.mpr h
    simp only [HE,hb];exact ih
theorem M8 (f:Str) (v:V):∀fs:List (Str×V),f∈(putF f v fs).map (·.1)/\∀g,g∈fs.map (·.1)->g∈(putF f v fs).map (·.1)
 | []=>⟨by simp [putF],λg h=>by simp at h⟩
 | (k,x) :: r=>by
  obtain ⟨i1,i2⟩:=M8 f v r;rw [show putF f v ((k,x) :: r)=(if k=f then (k,v) :: r else (k,x) :: putF f v r) from rfl]
  by_cases hk:k=f
  ·rw [qX hk]
   subst hk;exact ⟨by simp,λg h=>by simpa using h⟩
  ·rw [qY hk]
   refine ⟨?_,λg h=>?_⟩
   ·rw [An]
    exact Ac _ i1
   ·rw [An] at h ⊢
    rcases Ax.mp h with e | e
    ·exact Ax.mpr (.inl e)
    ·exact Ac _ (i2 g e)
theorem Nj (f:Str) (v:V):∀fs:List (Str×V),(putF f v fs).length<=fs.length+1
 | []=>by simp [putF]
 | (k,x) :: r=>by
  have ih:=Nj f v r;rw [show putF f v ((k,x) :: r)=(if k=f then (k,v) :: r else (k,x) :: putF f v r) from rfl]
  by_cases hk:k=f
  ·rw [qX hk,Aq,Aq];lia
  ·rw [qY hk,Aq,Aq];lia
theorem NI.some_of {v:V} {o:Option AB} (r:NI (some v) o):∃u,o=some u/\RelV v u:=by
 cases o with
 | none=>exact (show False from r).elim
 | some u=>exact ⟨u,rfl,r⟩
theorem YB {v:V} {u:AB} (r:RelV v u):XM u=true:=by
 cases v with
 | non=>cases (show u=A4 from r);rfl
 | bl b=>cases (show u=Jp b from r);rfl
 | int i=>obtain ⟨t,e⟩:=(show ∃t,u=Fd i t from r);cases e;rfl
 | str x=>obtain ⟨t,e⟩:=(show ∃t,u=Nn x t from r);cases e;rfl
 | byt b=>obtain ⟨t,e⟩:=(show ∃t,u=jr b t from r);cases e;rfl
 | flt b=>obtain ⟨t,e⟩:=(show ∃t,u=Uv b t from r);cases e;rfl
 | ref a=>cases (show u=Av a from r);rfl
 | ty n=>cases (show u=Bc n from r);rfl
section
variable {P:Al} {w:A2} {H H':Hp} {h h':BP} {a C dx:AI} {fs fs':List (Str×V)}
theorem SV (hok:HOk P w H h) (e:H a=some (.ins C dx fs)):∃mA,Yd h a dx C mA/\(∀f,NI (fs.lookup f) (mA f))/\TU mA (fs.map (·.1))/\fs.length<=1000/\H dx=some (.own a):=by
 obtain ⟨d,z,ne,ob,mA,n,r,q⟩:=(show Ca P w H h a (.ins C dx fs) from hok a _ e);exact ⟨mA,⟨ob,n,ne⟩,r,q,z,d⟩
end
structure Cls (K:AC) (C:AI):Prop where
 pg:Mx K C Uc=true
 hd:Lv K C=true
 po:WE K C=true
 sa:CS K (.ref C) "__setattr__" = some (some (.builtin "object.__setattr__"))
theorem Cls.get {K:AC} {C:AI} (c:Cls K C) (f:Str):Mx K C f=true:=c.pg
def Ho (K:AC) (C:AI) (f:Str):Prop:=CS K (.ref C) f=some none
theorem Ho.taker {K:AC} {C:AI} {f:Str} (n:Ho K C f):Nq K C f=some none:=by
 unfold Nq;rw [show CS K (.ref C) f=some none from n];rfl
section
variable {X:Cx} {pins:List (AI×Obj)} {σ:St} {H:Hp} {s:AE} {a C dx:AI} {fs:List (Str×V)} {f:Str} {v:V} {A:Ay} {E:AB->AE->Prop}
theorem Vt {b:Bool} {Q:AB->AE->Prop} (I:Inv X pins σ H s) (e:H a=some (.ins C dx fs)) (c:Cls X.K C) (n:Ho X.K C f) (l:fs.lookup f=some v)
  (h:∀u s',Inv X pins σ H s'->RelV v u->Q u s'):AZ (AR X.prog X.w) A (getAttr (.ref a) f b) Q E s:=by
 obtain ⟨mA,O,r,_,_,_⟩:=SV I.hok e;obtain ⟨u,hu,ru⟩:=NI.some_of (v:=v) (o:=mA f) (by rw [<-l];exact r f);exact eZ I.kIn O (c.get f) c.hd n hu (YB ru) (h u _ (I.tok _) ru)
theorem VV {y:V} {u:AB} {Q:Unit->AE->Prop} (I:Inv X pins σ H s) (e:H a=some (.ins C dx fs)) (c:Cls X.K C) (n:Ho X.K C f) (hl:fs.length < 1000) (ry:RelV y u)
  (h:∀s',Inv X pins σ (upd H a (.ins C dx (putF f y fs))) s'->Q () s'):AZ (AR X.prog X.w) A (setAttr (.ref a) f u) Q E s:=by
 obtain ⟨mA,O,r,wi,_,ho⟩:=SV I.hok e
 have hz:(fs.map (·.1)).length<=sizeLine:=by rw [AJ,sizeLine_eq];lia
 refine dC I.kIn O c.sa c.po n.taker c.hd wi hz λh' O' sb=>h _ ?_
 have hd:∃o,h'.get? dx=some o:=let ⟨o,_,_,e',_⟩:=O'.ns;⟨o,e'⟩
 refine I.write (x:=a) (e:=dx) (by rw [e];exact EB) (.inr ho) (λb q hb z=>(sb.2 b hb).trans z) hd ?_;refine ⟨by rw [Bm O.ne];exact ho,?_,O.ne,O'.obj,_,O'.ns,λg=>?_,λg hg=>?_⟩
 ·have:=Nj f y fs;lia
 ·show NI ((putF f y fs).lookup g) (if g=f then some u else mA g)
  rw [Nh]
  by_cases q:g=f
  ·rw [qX q,qX q];exact ry
  ·rw [qY q,qY q];exact r g
 ·by_cases q:g=f
  ·rw [q];exact (M8 f y fs).1
  ·refine (M8 f y fs).2 g (wi g λz=>hg ?_)
   show (if g=f then some u else mA g)=none;rw [qY q];exact z
theorem Inv.made (I:Inv X pins σ H s):Inv X pins σ (upd (upd H s.heap.objs.size (.own (s.heap.objs.size+1))) (s.heap.objs.size+1) (.ins C s.heap.objs.size []))
  { s with heap:=(s.heap.push CT).push (DT C s.heap.objs.size) }:=by
 have e1:(s.heap.push CT).get? s.heap.objs.size=some CT:=AV s.heap rfl
 have e2:((s.heap.push CT).push (DT C s.heap.objs.size)).get? (s.heap.objs.size+1)=some (DT C s.heap.objs.size):=by
  have:=AV (s.heap.push CT) (o:=DT C s.heap.objs.size) rfl;rwa [BZ] at this
 have e3:(s.heap.push CT).Ns s.heap.objs.size (λ_=>none):=⟨CT,#[],_,e1,rfl,(λe he=>zX he (by simp)),λ_=>rfl⟩;have I1:=I.laid (a:=s.heap.objs.size) (o:=.own (s.heap.objs.size+1)) (h':=s.heap.push CT) (t':=s.toks) (λb u q=>AF _ q) (AM _) ⟨_,e1⟩;refine I1.laid (a:=s.heap.objs.size+1) (o:=.ins C s.heap.objs.size []) (t':=s.toks) (λb u q=>AF _ q) (J5 (BZ _ _)) ?_;have ne:s.heap.objs.size≠s.heap.objs.size+1:=Ad (CQ _);refine ⟨by rw [Bm ne,Bd],CP _,ne,e2,λ_=>none,(BP.Ns1.of_empty e3).at λo q=>AF _ q,λ_=>EB,λy hy=>zX rfl hy⟩
theorem fL {prog:Al} {w:A2} {env:Env} {e:Expr} {f:Str} {pos:Pos} {s:AE} {Q:AB->AE->Prop} (hb:DS e f env (Bg e env)=Bg e env)
  (h:AZ (AR prog w) A (Bg e env) (λo s₁=>AZ (AR prog w) A (getAttr o f true) Q E s₁) E s):AZ (AR prog w) A (Bg (.Attribute e f pos) env) Q E s:=
 Attribute_any_ h (by rw [arm_eval_Attribute,hb])
end
def tFld (K:AC) (ta:TE) (f:Str):TE:=λσ H Q=>ta σ H λx H1=>∃a C dx fs v,x=.ref a/\H1 a=some (.ins C dx fs)/\Cls K C/\Ho K C f/\fs.lookup f=some v/\Q v H1
def sFld (K:AC) (ta tv:TE) (f:Str):TS:=λD σ H=>tv σ H λy H1=>ta σ H1 λx H2=>∃a C dx fs,x=.ref a/\H2 a=some (.ins C dx fs)/\Cls K C/\Ho K C f/\fs.length < 1000 /\
 D.nx σ (upd H2 a (.ins C dx (putF f y fs)))
section
variable {X:Cx} {o e value:Expr} {f:Str} {pos pos' tpos:Pos} {ta tv:TE}
theorem ig (he:PE X e ta) (hb:DS e f X.env (Bg e X.env)=Bg e X.env):PE X (.Attribute e f pos) (tFld X.K ta f):=by
 intro pins s σ H Q I h;refine fL hb (thn (he pins s σ H _ I h) λu s1 ⟨x,H1,I1,rx,a,C,dx,fs,v,ex,ea,c,n,l,q⟩=>?_);subst ex;obtain rfl:u=Av a:=rx
 exact Vt I1 ea c n l λu' s2 I2 ru=>⟨v,H1,I2,ru,q⟩
theorem iQ (ha:PE X o ta) (hv:PE X value tv) (hs:FZ value (some (.Attribute o f pos')) pos.line X.env=pure false):PS X (.Assign [.Attribute o f pos'] value pos) (sFld X.K ta tv f):=by
 intro pins s σ H D I h;refine plainObj_wpAny_Assign_Attribute (thn (hv pins s σ H _ I h) λu s1 ⟨y,H1,I1,ry,q⟩=>thn (ha pins s1 σ H1 _ I1 q) λov s2 ⟨x,H2,I2,rx,a,C,dx,fs,ex,ea,c,n,l,q2⟩=>?_) hs;subst ex;obtain rfl:ov=Av a:=rx
 exact VV I2 ea c n l ry λs3 I3=>⟨σ,_,I3,q2⟩
end
section
variable {X:Cx} {pins:List (AI×Obj)} {σ:St} {H:Hp} {s:AE} {A:Ay} {E:AB->AE->Prop} {Q:AB->AE->Prop} {c:AB} {b:Bool}
inductive Mj (K:AC) (H:Hp):V->AB->Prop where
 | non:Mj K H .non (.type "NoneType")
 | bl (x:Bool):Mj K H (.bl x) (.type "bool")
 | int (i:Int):Mj K H (.int i) (.type "int")
 | str (x:Str):Mj K H (.str x) (.type "str")
 | flt (x:UInt64):Mj K H (.flt x) (.type "float")
 | lst {a:AI} {xs:List V} (e:H a=some (.lst xs)):Mj K H (.ref a) (.type "list")
 | frz {a:AI} {o:Obj} {xs:List V} (e:H a=some (.frz o (.lst xs))):Mj K H (.ref a) (.type "list")
 | tup {a:AI} {xs:List V} (e:H a=some (.tup xs)):Mj K H (.ref a) (.type "tuple")
 | dK {a:AI} {kvs:List (Key×V)} (e:H a=some (.dK kvs)):Mj K H (.ref a) (.type "dict")
 | dT {a:AI} {kvs:List (List Key×V)} (e:H a=some (.dT kvs)):Mj K H (.ref a) (.type "dict")
 | ins {a C dx:AI} {fs:List (Str×V)} (e:H a=some (.ins C dx fs)) (cl:Cls K C) (ha:CS K (.ref C) "__class__" = some (some (.builtin "object.__class__")))
   (hn:WD K (.builtin "object.__class__") "__get__" = some (some (.builtin "getset_descriptor.__get__"))) (htk:Yl K (.builtin "object.__class__")=some true)
   (hm:K0 K C (.type "object")=some true):Mj K H (.ref a) (.ref C)
theorem X6 {x:V} {u t:AB} (I:Inv X pins σ H s) (rx:RelV x u) (ty:Mj X.K H x t) (e:Dp X.K t c=some b) (h:∀tk,Q (.bool b) { s with toks:=tk }) :
  AZ (AR X.prog X.w) A (call (.builtin "isinstance") [u,c]) Q E s:=by
 cases ty with
 | non=>cases (show u=A4 from rx);exact B1 PySem.W.kitx_none I.kIn EB e (λz=>nomatch z) h
 | bl y=>cases (show u=Jp y from rx);exact B1 PySem.W.kitx_bool I.kIn EB e (λz=>nomatch z) h
 | int i=>obtain ⟨t,q⟩:=(show ∃t,u=Fd i t from rx);cases q;exact B1 PySem.W.kitx_int I.kIn EB e (λz=>nomatch z) h
 | str y=>obtain ⟨t,q⟩:=(show ∃t,u=Nn y t from rx);cases q;exact B1 PySem.W.kitx_str I.kIn EB e (λz=>nomatch z) h
 | flt y=>obtain ⟨t,q⟩:=(show ∃t,u=Uv y t from rx);cases q;exact B1 PySem.W.kitx_float I.kIn EB e (λz=>nomatch z) h
 | @lst a xs ea=>
  cases (show u=Av a from rx);obtain ⟨_,_,n,_,h1⟩:=(show Ca X.prog X.w H s.heap a (.lst xs) from I.hok a _ ea);exact B1 WF I.kIn ⟨_,h1,rfl⟩ e (λz=>nomatch z) h
 | @frz a ob xs ea=>
  cases (show u=Av a from rx);obtain ⟨_,_,_,n,_,h1⟩:=(show Ca X.prog X.w H s.heap a (.frz ob (.lst xs)) from I.hok a _ ea);exact B1 WF I.kIn ⟨_,h1,rfl⟩ e (λz=>nomatch z) h
 | @tup a xs ea=>
  cases (show u=Av a from rx);obtain ⟨_,_,_,p⟩:=(show Ca X.prog X.w H s.heap a (.tup xs) from I.hok a _ ea);obtain ⟨o,h1,h2,_⟩:=p;exact B1 PySem.W.kitx_tuple I.kIn ⟨o,h1,h2⟩ e (λz=>nomatch z) h
 | @dK a kvs ea=>
  cases (show u=Av a from rx);obtain ⟨_,_,vs,_,p⟩:=(show Ca X.prog X.w H s.heap a (.dK kvs) from I.hok a _ ea);obtain ⟨o,es,ep,h1,h2,_⟩:=p;exact B1 WG I.kIn ⟨o,h1,h2.1⟩ e (λz=>nomatch z) h
 | @dT a kvs ea=>
  cases (show u=Av a from rx);obtain ⟨_,_,xs,_,o,es,ep,h1,h2,_⟩:=(show Ca X.prog X.w H s.heap a (.dT kvs) from I.hok a _ ea);exact B1 WG I.kIn ⟨o,h1,h2.1⟩ e (λz=>nomatch z) h
 | @ins a C dx fs ea cl ha hn htk hm=>
  cases (show u=Av a from rx);obtain ⟨mA,O,_⟩:=SV I.hok ea;obtain ⟨od,J,_⟩:=O.look;exact B1 (PySem.W.kitx_own (cl.get _) cl.hd ha hn htk hm) I.kIn J e (λz=>nomatch z) h
end
structure HD (k:Nat) (A:Ay):Prop where
 hd:A.handled=none
 dp:A.depth+3 * k+5 < recursionLimit
 un:A.units+16 * k+200 < DL
theorem HD.mono {j k:Nat} {A:Ay} (r:HD k A) (h:j<=k):HD j A:=⟨r.hd,by have:=r.dp;lia,by have:=r.un;lia⟩
theorem HD.deeper {k:Nat} {A:Ay} (r:HD (k+1) A) (env:Env):HD k (A.deeper env):=
 ⟨r.hd,by have:=r.dp;show A.depth+1+3 * k+5 < _;lia,by have:=r.un;show A.units+3+16 * k+200 < _;lia⟩
theorem Vj {A:Ay} {C:AI} {us:List AB} {kw:List (Str×AB)}:(A.under (.builtin "type.__call__" ⟨.ref C :: us,kw⟩)).depth=A.depth+1:=by
 first | rfl | simp [TK,Code.weight,Code.isCreation,Code.isGuard,Code.isCaller,kK,Ui,guardIds]
theorem Vi {A:Ay} {C:AI} {us:List AB} {kw:List (Str×AB)}:(A.under (.builtin "type.__call__" ⟨.ref C :: us,kw⟩)).units=A.units+1:=by
 first | rfl | simp [TK,Code.cUnits,kK,Ui]
theorem HD.make {k:Nat} {A:Ay} (r:HD (k+1) A) (C:AI) (us:List AB) (kw:List (Str×AB)):HD k (A.under (.builtin "type.__call__" ⟨.ref C :: us,kw⟩)):=
 ⟨r.hd,by have:=r.dp;rw [Vj];lia,by have:=r.un;rw [Vi];lia⟩
theorem HD.depth {k:Nat} {A:Ay} (r:HD k A):A.depth < recursionLimit:=by have:=r.dp;lia
theorem HD.units {k:Nat} {A:Ay} (r:HD k A):A.units+64 < DL:=by have:=r.un;lia
def tNil:TA:=λ_ H Q=>Q [] H
def kY (ta:TE) (tr:TA):TA:=λσ H Q=>ta σ H λx H1=>tr σ H1 λxs H2=>Q (x :: xs) H2
section
variable {X:Cx} {e:Expr} {es:List Expr} {te:TE} {t:TA} {pos:Pos}
theorem Fm:PA X [] tNil:=λ_ _ _ _ H Q I h=>M1 ⟨[],H,I,.nil,h⟩
theorem D7 (ha:PE X e te) (hr:PA X es t) (hs:AU (e :: es) X.env=(false,Bg e X.env) :: AU es X.env:=by rfl):PA X (e :: es) (kY te t):=by
 intro pos pins s σ H Q I h;rw [hs];show AZ _ _ (Yy ((false,Bg e X.env) :: C1 pos (AU es X.env))) _ _ s;refine Lw (thn (ha pins s σ H _ I h) λu s1 ⟨x,H1,I1,r1,q1⟩=>?_)
 exact thn (hr pos pins s1 σ H1 _ I1 q1) λus s2 ⟨xs,H2,I2,r2,q2⟩=>⟨x :: xs,H2,I2,.cons r1 r2,q2⟩
def tTup (t:TA):TE:=λσ H Q=>t σ H λxs H1=>xs.length<=sizeLine/\∀p,H1 p=none->Q (.ref p) (upd H1 p (.tup xs))
def tLst (t:TA):TE:=λσ H Q=>t σ H λxs H1=>xs.length<=sizeLine/\∀p,H1 p=none->Q (.ref p) (upd H1 p (.lst xs))
theorem iW {x1} (h:PA X es t):PE X (.Tuple es x1 pos) (tTup t):=by
 intro pins s σ H Q I hq;refine wpAny_Tuple_spliced (thn (h pos pins s σ H _ I hq) λus s1 ⟨xs,H1,I1,r,z,q⟩=>⟨by rw [<-r.length];exact z,?_⟩);have hf:H1 s1.heap.objs.size=none:=I1.hok.fresh (AM _);refine ⟨.ref s1.heap.objs.size,upd H1 s1.heap.objs.size (.tup xs),I1.laid (t':=s1.toks) (λb u e=>AF _ e) (AM _) ?_,rfl,q _ hf⟩;exact ⟨z,us,r,⟨_,AV _ rfl,rfl,_,rfl⟩⟩
theorem ic (h:PA X es t):PE X (.List es pos) (tLst t):=by
 intro pins s σ H Q I hq;refine wpAny_List_spliced (thn (h pos pins s σ H _ I hq) λus s1 ⟨xs,H1,I1,r,z,q⟩=>⟨by rw [<-r.length];exact z,?_⟩);have hf:H1 s1.heap.objs.size=none:=I1.hok.fresh (AM _);refine ⟨.ref s1.heap.objs.size,upd H1 s1.heap.objs.size (.lst xs),I1.laid (t':=s1.toks) (λb u e=>AF _ e) (AM _) ?_,rfl,q _ hf⟩;exact ⟨z,us,0,r,AV _ rfl⟩
end
abbrev Sp:=List V->Hp->VK->XK->Prop
abbrev CXT:=List Env->Hp->AE->XK->AB->AE->Prop
structure WB (P:Al) (w:A2) (K:AC) (mg:Str->Option AB) (base:BP) (A:Ay) (outer:List Env) (s:AE) (H:Hp):Prop where
 frames:A.frames=some outer
 mod:Mod K mg base
 bs:∀b o,base.get? b=some o->s.heap.get? b=some o/\H b=none
 bsz:base.objs.size<=s.heap.objs.size
 funs:s.heap.FunFrames base outer
 frf:∀b∈frs outer,H b=none
 hok:HOk P w H s.heap
 bare:Ht s.gens
def CE (outer:List Env) (P:Al) (w:A2) (H:Hp) (s:AE) (Q:VK) (u:AB) (s':AE):Prop:=
 ∃v H',s'.os=s.os/\Ht s'.gens/\Un (frs outer) [] H H' s.heap s'.heap/\HOk P w H' s'.heap/\RelV v u/\Q v H'
def CR (CX:CXT) (outer:List Env) (P:Al) (w:A2) (H:Hp) (s:AE) (Q:VK) (E:XK) (r:Ra) (s':AE):Prop:=
 match r with
 | .ok (.ret u)=>CE outer P w H s Q u s'
 | .ok _=>False
 | .error e=>CX outer H s E e s'
structure Ek (P:Al) (w:A2) (K:AC) (mg:Str->Option AB) (base:BP) (CX:CXT) (k:Nat) (f:AI) (fd:De) (ps:List Str) (sp:Sp):Prop where
 len:∀vs H Q E,sp vs H Q E->vs.length=ps.length
 run:∀(A:Ay) (outer:List Env) (s:AE) (H:Hp) (args:Args) (us:List AB) (vs:List V) (Q:VK) (E:XK),HD k A->WB P w K mg base A outer s H->Uj s fd args (ps.zip us)->BL vs us->sp vs H Q E ->
  G7 (AR P w) A (.call (.ref f) args) (CR CX outer P w H s Q E) s
theorem Ek.imp {P:Al} {w:A2} {K:AC} {mg:Str->Option AB} {base:BP} {CX:CXT} {k:Nat} {f:AI} {fd:De} {ps:List Str} {sp sp':Sp} (F:Ek P w K mg base CX k f fd ps sp)
  (h:∀vs H Q E,sp' vs H Q E->sp vs H Q E):Ek P w K mg base CX k f fd ps sp':=
 ⟨λvs H Q E q=>F.len vs H Q E (h _ _ _ _ q),λA outer s H args us vs Q E hr he hb hv hs=>F.run A outer s H args us vs Q E hr he hb hv (h _ _ _ _ hs)⟩
theorem WB.make {P:Al} {w:A2} {K:AC} {mg:Str->Option AB} {base:BP} {A:Ay} {outer:List Env} {s:AE} {H:Hp} (e:WB P w K mg base A outer s H) (C:AI) (us:List AB) (kw:List (Str×AB)) :
  WB P w K mg base (A.under (.builtin "type.__call__" ⟨.ref C :: us,kw⟩)) outer s H:=⟨by first | exact e.frames | (simpa [TK,Code.envs,Ui,pushEnvs] using e.frames),e.mod,e.bs,e.bsz,e.funs,e.frf,e.hok,e.bare⟩
section
variable {X:Cx} {pins:List (AI×Obj)} {σ:St} {H:Hp} {s s':AE}
theorem Inv.env0 (I:Inv X pins σ H s):WB X.prog X.w X.K X.mg X.base X.A X.stack s H:=
 ⟨I.ok.frames,I.ok.mod,I.bs,As I.ok.bsz I.sz,I.stack,I.stkFree,I.hok,I.bare⟩
theorem Inv.after {Q:VK} {u:AB} (I:Inv X pins σ H s) (h:CE X.stack X.prog X.w H s Q u s'):EP X pins σ Q u s':=by
 obtain ⟨v,H',os,bare,un,hok,r,q⟩:=h;obtain ⟨hh,g,d,t,os'⟩:=s';obtain rfl:os'=s.os:=os;exact ⟨v,H',I.call (h':=hh) (g':=g) (d':=d) (t':=t) (ch:=[]) un hok bare (λb z=>zX z (by simp)),r,q⟩
end
def kZ (sp:Sp) (dvs:List V) (E:St->XK) (t:TA):TE:=λσ H Q=>t σ H λvs H1=>sp (vs++dvs) H1 Q (E σ)
def kT (C:AI) (sp:Sp) (dvs:List V) (E:St->XK) (t:TA):TE:=λσ H Q=>t σ H λvs H1=>∀x dx,H1 x=none->H1 dx=none->dx≠x ->
 sp (.ref x :: (vs++dvs)) (upd (upd H1 dx (.own x)) x (.ins C dx [])) (λv H2=>v=.non/\Q (.ref x) H2) (E σ)
def Binds (K:AC) (fd:De) (ps:List Str) (ds:List AB):Prop:=
 ∀(s:AE) (us:List AB),K.In s.heap->(us++ds).length=ps.length->Uj s fd ⟨us,[]⟩ (ps.zip (us++ds))
theorem Binds.all {K:AC} {fd:De} {ps:List Str} (h:∀us:List AB,us.length=ps.length->bindArgs fd ⟨us,[]⟩=pure (ps.zip us)):Binds K fd ps []:=λs us _ hl=>by
 rw [B6] at hl ⊢;exact .of_eq (h us hl)
def Lk (CX:CXT) (X:Cx) (E:St->XK):Prop:=∀(pins:List (AI×Obj)) (σ:St) (H:Hp) (s:AE) (e:AB) (s':AE),Inv X pins σ H s->CX X.stack H s (E σ) e s'->X.xe e s'
section
variable {X:Cx} {CX:CXT} {k:Nat} {f C:AI} {fd:De} {ps:List Str} {sp:Sp} {dvs:List V} {ds:List AB} {E:St->XK} {x m:Str} {p pos apos:Pos} {e o:Expr} {es:List Expr} {ta:TE} {t:TA}
theorem iE {pins:List (AI×Obj)} {σ:St} {H:Hp} {s:AE} {Q:VK} {us:List AB} {vs:List V} (F:Ek X.prog X.w X.K X.mg X.base CX k f fd ps sp) (hr:HD k X.A) (hb:Binds X.K fd ps ds) (hd:BL dvs ds) (hx:Lk CX X E)
  (I:Inv X pins σ H s) (r:BL vs us) (h:sp (vs++dvs) H Q (E σ)):AZ (AR X.prog X.w) X.A (call (.ref f) us) (EP X pins σ Q) X.xe s:=by
 have r2:BL (vs++dvs) (us++ds):=r.append hd
 have hl:(us++ds).length=ps.length:=by rw [<-r2.length];exact F.len _ _ _ _ h
 refine LO (Eb (F.run X.A X.stack s H ⟨us,[]⟩ (us++ds) (vs++dvs) Q (E σ) hr I.env0 (hb s us I.kIn hl) r2 h) λr s' hq=>?_)
 cases r with
 | error e=>exact hx pins σ H s e s' I hq
 | ok fl=>
  cases fl with
  | ret u=>exact I.after hq
  | next=>exact Dk hq
  | brk=>exact Dk hq
  | cont=>exact Dk hq
theorem di (F:Ek X.prog X.w X.K X.mg X.base CX k f fd ps sp) (hr:HD k X.A) (hg:Gl X x) (hm:X.mg x=some (.ref f)) (hk:Fg X.K (.ref f)=true) (hb:Binds X.K fd ps ds) (hd:BL dvs ds) (hx:Lk CX X E)
  (ha:PA X (e :: es) t) (hdb:(x==("__debug__" : Str))=false:=by decide) (he:AU (e :: es) X.env=(false,Bg e X.env) :: AU es X.env:=by rfl) (hpl:(C1 pos (AU es X.env)).any (·.1)=false:=by rfl) :
  PE X (.Call (.Name x p) (e :: es) [] pos) (kZ sp dvs E t):=by
 intro pins s σ H Q I h;refine Dc (OO I hg hm ?_ hdb);refine Uy (h₀:=X.base) I.ok.mod.kin hk (thn (ha pos pins s σ H _ I h) λus s1 ⟨vs,H1,I1,r,q⟩=>⟨I1.kIn,?_⟩) he hpl;exact iE F hr hb hd hx I1 r q
structure Mk (K:AC) (C f:AI):Prop where
 makes:Ym K C=true
 init:CS K (.ref C) "__init__" = some (some (.ref f))
 fn:PySem.W.isFn K (.ref f)=true
 kp:Fg K (.ref C)=true
theorem Zu {pins:List (AI×Obj)} {σ:St} {H:Hp} {s:AE} {Q:VK} {us:List AB} {vs:List V} (M:Mk X.K C f) (F:Ek X.prog X.w X.K X.mg X.base CX k f fd ps sp) (hr:HD (k+1) X.A) (hb:Binds X.K fd ps ds) (hd:BL dvs ds)
  (hx:Lk CX X E) (I:Inv X pins σ H s) (r:BL vs us)
  (h:∀x dx,H x=none->H dx=none->dx≠x->sp (.ref x :: (vs++dvs)) (upd (upd H dx (.own x)) x (.ins C dx [])) (λv H2=>v=.non/\Q (.ref x) H2) (E σ)) :
  AZ (AR X.prog X.w) X.A (call (.ref C) us) (EP X pins σ Q) X.xe s:=by
 have hq:=h (s.heap.objs.size+1) s.heap.objs.size (I.hok.fresh (EC _)) (I.hok.fresh (AM _)) (Ad (CQ _));have I2:=Inv.made (C:=C) I;have r2:BL (V.ref (s.heap.objs.size+1) :: (vs++dvs)) (Av (s.heap.objs.size+1) :: (us++ds)):=.cons rfl (r.append hd)
 have hl:(Av (s.heap.objs.size+1) :: us++ds).length=ps.length:=by
  have e:=r2.length;rw [F.len _ _ _ _ hq] at e;exact e.symm
 refine LO (aQ (f:=f) I.kIn M.makes M.init (beq_iff_eq.mp M.fn) (Eb (F.run _ X.stack _ _ ⟨Av (s.heap.objs.size+1) :: us,[]⟩ (Av (s.heap.objs.size+1) :: (us++ds)) _ _ (E σ) (hr.make C us [])
  (I2.env0.make C us []) (hb _ (Av (s.heap.objs.size+1) :: us) I2.kIn hl) r2 hq) λr s' hq'=>?_))
 cases r with
 | error e=>exact hx pins σ _ _ e s' I2 hq'
 | ok fl=>
  cases fl with
  | ret u=>
   obtain ⟨v,H',I3,rv,ev,q3⟩:=I2.after hq';subst ev;exact ⟨rv,⟨V.ref (s.heap.objs.size+1),H',I3,rfl,q3⟩⟩
  | next=>exact Dk hq'
  | brk=>exact Dk hq'
  | cont=>exact Dk hq'
theorem dc (M:Mk X.K C f) (F:Ek X.prog X.w X.K X.mg X.base CX k f fd ps sp) (hr:HD (k+1) X.A) (hg:Gl X x) (hm:X.mg x=some (.ref C)) (hb:Binds X.K fd ps ds) (hd:BL dvs ds) (hx:Lk CX X E)
  (ha:PA X (e :: es) t) (hdb:(x==("__debug__" : Str))=false:=by decide) (he:AU (e :: es) X.env=(false,Bg e X.env) :: AU es X.env:=by rfl) (hpl:(C1 pos (AU es X.env)).any (·.1)=false:=by rfl) :
  PE X (.Call (.Name x p) (e :: es) [] pos) (kT C sp dvs E t):=by
 intro pins s σ H Q I h;refine Dc (OO I hg hm ?_ hdb);refine Uy (h₀:=X.base) I.ok.mod.kin M.kp (thn (ha pos pins s σ H _ I h) λus s1 ⟨vs,H1,I1,r,q⟩=>⟨I1.kIn,?_⟩) he hpl;exact Zu M F hr hb hd hx I1 r q
end
section
variable {X:Cx} {CX:CXT} {k:Nat} {f C:AI} {fd:De} {ps ks:List Str} {sp:Sp} {E:St->XK} {x m:Str} {p pos apos kpos:Pos} {e o:Expr} {es:List Expr} {kws:List Ib} {te ta:TE} {t tk:TA} {nm:Option Str}
variable {g:List AB->List AB->List AB} {gV:List V->List V->List V}
end
structure CL (N P:List Str) (sc:Hv):Prop where
 kind:sc.kind=.function
 co:sc.isCoroutine=false
 gen:sc.isGenerator=false
 nd:N.Nodup
 pre:N.take P.length=P
 par:∀x∈P,sc.names.lookup x=some .local∨sc.names.lookup x=some .cell
 nofree:∀y∈sc.names,y.2≠.free
theorem RP {kindOf:Str->Option QB} {x:Str}:∀ {binds:List (Str×AB)} {m:Str->Option AB},(∀v,(x,v)∉binds)->Yi kindOf binds m x=m x
 | [],_,_=>rfl
 | (n,v) :: r,m,h=>by
  unfold Yi;rw [RP λw hw=>h w (Ac _ hw)];split
  ·have:x≠n:=by rintro rfl;exact h v Ae
   simp [this]
  ·rfl
theorem RS {kindOf:Str->Option QB} {x:Str}:∀ {binds:List (Str×AB)} {m:Str->Option AB},(∀v,(x,v)∉binds)->Yj kindOf binds m x=m x
 | [],_,_=>rfl
 | (n,v) :: r,m,h=>by
  unfold Yj;rw [RS λw hw=>h w (Ac _ hw)];split
  ·rfl
  ·have:x≠n:=by rintro rfl;exact h v Ae
   simp [this]
theorem RQ {kindOf:Str->Option QB} {x:Str} {v:AB}:∀ {P:List Str} {vs:List AB} {i:Nat} {m:Str->Option AB},P.Nodup->P[i]?=some x->vs[i]?=some v->kindOf x=some .local ->
  Yi kindOf (P.zip vs) m x=some v
 | [],_,_,_,_,h,_,_=>by simp at h
 | _ :: _,[],_,_,_,_,h,_=>by simp at h
 | p :: P,w :: vs,0,m,nd,h1,h2,hk=>by
  simp at h1 h2;subst h1;subst h2;show Yi kindOf ((p,w) :: P.zip vs) m p=_;unfold Yi;rw [RP λv hv=>(HV.mp nd).1 (Px hv).1,qX hk];simp
 | p :: P,w :: vs,i+1,m,nd,h1,h2,hk=>by
  show Yi kindOf ((p,w) :: P.zip vs) m x=_;unfold Yi;exact RQ (i:=i) (HV.mp nd).2 (by simpa using h1) (by simpa using h2) hk
theorem RT {kindOf:Str->Option QB} {x:Str} {v:AB}:∀ {P:List Str} {vs:List AB} {i:Nat} {m:Str->Option AB},P.Nodup->P[i]?=some x->vs[i]?=some v->kindOf x≠some .local ->
  Yj kindOf (P.zip vs) m x=some v
 | [],_,_,_,_,h,_,_=>by simp at h
 | _ :: _,[],_,_,_,_,h,_=>by simp at h
 | p :: P,w :: vs,0,m,nd,h1,h2,hk=>by
  simp at h1 h2;subst h1;subst h2;show Yj kindOf ((p,w) :: P.zip vs) m p=_;unfold Yj;rw [RS λv hv=>(HV.mp nd).1 (Px hv).1,qY hk];simp
 | p :: P,w :: vs,i+1,m,nd,h1,h2,hk=>by
  show Yj kindOf ((p,w) :: P.zip vs) m x=_;unfold Yj;exact RT (i:=i) (HV.mp nd).2 (by simpa using h1) (by simpa using h2) hk
def start (N:List Str) (vs:List V):St:=vs.map some++BF (N.length - vs.length) none
def Si (CX:CXT) (P:Al) (w:A2) (K:AC) (mg:Str->Option AB) (base:BP) (N:List Str) (qual:Str) (scope:Hv) (f:AI) (cd:AB) (A:Ay) (outer:List Env) (s:AE) (H:Hp) (E:XK):Cx where
 prog:=P
 w:=w
 K:=K
 mg:=mg
 base:=base
 A:=A.deeper (LQ qual scope s.heap.objs.size f cd)
 N:=N
 s₀:=s
 H₀:=H
 env:=LQ qual scope s.heap.objs.size f cd
 outer:=outer
 stack:=LQ qual scope s.heap.objs.size f cd :: outer
 ex:=[]
 calm:=true
 fn:=λ_=>true
 pn:=[]
 xe:=λe s'=>AZ (AR P w) (A.deeper (LQ qual scope s.heap.objs.size f cd)) (leaving (LQ qual scope s.heap.objs.size f cd) e) (λ_ s''=>CX outer H s E e s'') (λe' s''=>CX outer H s E e' s'') s'
theorem UV {sc:Hv} {n:Nat} {x:Str} (h:sc.names.lookup x=some .cell):∃c,(kA n sc.names []).lookup x=some c:=by
 have q:=Rb sc.names n [] (.inl h);exact Qd.mp q
theorem X8 {CX:CXT} {P:Al} {w:A2} {K:AC} {mg:Str->Option AB} {base:BP} {N ps:List Str} {qual:Str} {scope:Hv} {f:AI} {cd:AB} {A:Ay} {outer:List Env} {s s1:AE} {H:Hp} {E:XK} {us:List AB} {vs:List V}
  (S:CL N ps scope) (hd:A.handled=none) (e0:WB P w K mg base A outer s H) (hl:vs.length=ps.length) (r:BL vs us)
  (x:InCallC s s.heap.objs.size (Yi (LQ qual scope s.heap.objs.size f cd).kindOf (ps.zip us) λ_=>none) (kA (s.heap.objs.size+1) scope.names []) (Yj (LQ qual scope s.heap.objs.size f cd).kindOf (ps.zip us) λ_=>none) s1) :
  Inv (Si CX P w K mg base N qual scope f cd A outer s H E) [] (start N vs) H s1:=by
 have hpl:ps.length<=N.length:=by have:=congrArg IZ S.pre;rw [Ch] at this;lia
 obtain ⟨h1,tk,rfl,hk⟩:=x.done
 have noA:∀b:AI,b∉(Si CX P w K mg base N qual scope f cd A outer s H E).ex:=λb z=>zX (show b∈([]:List AI) from z) (by simp)
 refine ⟨⟨e0.mod,S.kind,rfl,rfl,AM _,λy z c h1 h2=>?_,λy hy=>?_,λy c _ h=>?_,λ_=>hd,Ay.frames_deeper e0.frames,.inr ⟨rfl,rfl⟩,λb z=>zX z (noA b),e0.bs,e0.bsz,λb _ _=>noA b,λb z=>zX z (noA b),e0.funs,e0.frf⟩,
  rfl,e0.bare,Un.kept hk,⟨_,x.toInCall.ns,λi y v h1 h2 h3=>?_⟩,λy c h=>⟨_,x.cell y c h⟩,e0.hok.fresh (AM _),λy c h=>?_,λp hp=>zX (show p∈([]:List (AI×Obj)) from hp) (by simp),e0.hok.kept hk,?_⟩
 ·exact name_of_addr x.apart (Dz h1) (Dz h2)
 ·have hy:scope.names.lookup y=some .cell∨scope.names.lookup y=some .free:=hy
  rcases hy with hy | hy
  ·exact UV hy
  ·exact zX rfl (S.nofree _ (Dz hy))
 ·exact U1 (x.above y c (Dz h))
 ·have hi:i < vs.length:=by
   unfold start at h2
   by_cases hi:i < vs.length
   ·exact hi
   ·rw [BB (by simpa using hi)] at h2
    rw [Ct] at h2
    split at h2 <;> cases h2
  have ha:vs[i]?=some v:=by
   unfold start at h2;rw [Ah (by simpa using hi),Ag] at h2
   cases e:vs[i]? with
   | none=>rw [e] at h2;cases h2
   | some a=>rw [e] at h2;cases h2;rfl
  obtain ⟨u,hu,rv⟩:=r.get ha
  have hp:ps[i]?=some y:=by
   rw [<-S.pre,TF (by lia)];exact h1
  have ndP:ps.Nodup:=by rw [<-S.pre];exact S.nd.sublist (NP _ _)
  refine ⟨u,rv,?_⟩
  rcases S.par y (Bp hp) with k | k
  ·exact .inl ⟨k,RQ ndP hp hu k⟩
  ·obtain ⟨c,e⟩:=UV (n:=s.heap.objs.size+1) k
   refine .inr ⟨.inl k,c,e,?_⟩;have q:=x.cell y c e;rw [RT ndP hp hu (by show scope.names.lookup y≠_;rw [k];decide)] at q;exact q
 ·exact e0.hok.fresh (U1 (x.above y c (Dz h)))
 ·unfold start
  show _=N.length;rw [Af,AJ,Ki]
  lia
theorem lf {CX:CXT} {P:Al} {w:A2} {K:AC} {mg:Str->Option AB} {base:BP} {k:Nat} {f:AI} {name qual:Str} {params:Arguments} {body:List C2} {scope:Hv} {dV kV doc pm cdv ct oc:AB} {an od:Option AI}
  {osl:Array (Option AB)} {N ps:List Str} {sp:Sp} (lk:K.lookup f=some ⟨oc,od,.func (HI name qual params body scope dV kV doc pm an cdv ct),osl⟩) (hcd:OX K cdv qual=true) (S:CL N ps scope)
  (len:∀vs H Q E,sp vs H Q E->vs.length=ps.length)
  (hbody:∀(A:Ay) (outer:List Env) (s:AE) (H:Hp) (vs:List V) (Q:VK) (E:XK),HD k (A.deeper (LQ qual scope s.heap.objs.size f cdv))->sp vs H Q E ->
   ∃t,PSs (Si CX P w K mg base N qual scope f cdv A outer s H E) body t/\t { nx:=λ_ H'=>Q .non H',rt:=Q } (start N vs) H) :
  Ek P w K mg base CX (k+1) f (HI name qual params body scope dV kV doc pm an cdv ct) ps sp:=by
 refine ⟨len,λA outer s H args us vs Q E hr e0 hb r hsp=>?_⟩;have hl:=len _ _ _ _ hsp
 have KX:K.In s.heap:=e0.mod.kin.keeps λb o e=>(e0.bs b o e).1
 have lim:s.heap.NoLimit:=e0.mod.nolimit.keeps λb o e=>(e0.bs b o e).1
 have hkind:∀y∈ps.zip us,scope.names.lookup y.1=some .local∨(scope.names.lookup y.1=some .cell/\((kA (s.heap.objs.size+1) scope.names []).lookup y.1).isSome=true):=λ⟨n,v⟩ hy=>by
  rcases S.par n (Px hy).1 with q | q
  ·exact .inl q
  ·exact .inr ⟨q,Rb _ _ _ (.inl q)⟩
 refine codeAny_call_function hr.depth (KX _ _ lk) rfl S.co S.gen rfl (PySem.W.codeRec_of KX hcd) (hb _ _ _ _ ?_)
 refine wpAny_newFunctionEnv_cells S.kind hkind λenv he s1 x=>?_
 subst he;refine ⟨lim.keeps x.toInCall.keep,codeAny_func ?_⟩;obtain ⟨t,ht,hq⟩:=hbody A outer s H vs Q E (hr.deeper _) hsp;have I:Inv (Si CX P w K mg base N qual scope f cdv A outer s H E) [] (start N vs) H s1:=X8 S hr.hd e0 hl r x
 refine FI (ht [] s1 (start N vs) H _ I hq) (λfl s' hs=>?_) λe s' hs=>hs
 have fin:∀ {σ':St} {H':Hp} {v:V} {u:AB},Inv (Si CX P w K mg base N qual scope f cdv A outer s H E) [] σ' H' s'->RelV v u->Q v H'->CE outer P w H s Q u s':=
  λ{σ' H' v u} J rv q=>⟨v,H',J.os,J.bare,J.base,J.hok,rv,q⟩
 cases fl with
 | ret u=>
  obtain ⟨v,σ',H',J,rv,q⟩:=hs;exact fin J rv q
 | next=>
  obtain ⟨σ',H',J,q⟩:=hs;exact fin (v:=V.non) (u:=A4) J rfl q
 | brk=>
  obtain ⟨_,_,_,q⟩:=hs;exact Dk q
 | cont=>
  obtain ⟨_,_,_,q⟩:=hs;exact Dk q
section
variable {X:Cx} {x:Str} {p pos:Pos} {e:Expr} {es:List Expr} {t:TA} {id T:String} {r:List V->Hp->VK->Prop}
def tCB (r:List V->Hp->VK->Prop) (t:TA):TE:=λσ H Q=>t σ H λvs H1=>r vs H1 Q
theorem Il (hc:Hq X (.builtin id) r) (hg:Gl X x) (hm:X.mg x=none) (hv:Ec x=some (.builtin id)) (ha:PA X (e :: es) t) (hn:x≠"__name__":=by decide) (hdb:(x==("__debug__" : Str))=false:=by decide)
  (he:AU (e :: es) X.env=(false,Bg e X.env) :: AU es X.env:=by rfl) (hpl:(C1 pos (AU es X.env)).any (·.1)=false:=by rfl):PE X (.Call (.Name x p) (e :: es) [] pos) (tCB r t):=by
 intro pins s σ H Q I h;refine Dc (IQ I hg hm hv ?_ hn hdb);exact LB (thn (ha pos pins s σ H _ I h) λus s1 ⟨vs,H1,I1,r1,q1⟩=>hc pins s1 σ H1 vs us Q I1 r1 q1) he hpl
theorem Q7 (hc:Hq X (.type T) r) (hg:Gl X x) (hm:X.mg x=none) (hv:Ec x=some (.type T)) (ha:PA X (e :: es) t) (hn:x≠"__name__":=by decide) (hdb:(x==("__debug__" : Str))=false:=by decide)
  (he:AU (e :: es) X.env=(false,Bg e X.env) :: AU es X.env:=by rfl) (hpl:(C1 pos (AU es X.env)).any (·.1)=false:=by rfl):PE X (.Call (.Name x p) (e :: es) [] pos) (tCB r t):=by
 intro pins s σ H Q I h;refine Dc (IQ I hg hm hv ?_ hn hdb);exact Br (thn (ha pos pins s σ H _ I h) λus s1 ⟨vs,H1,I1,r1,q1⟩=>hc pins s1 σ H1 vs us Q I1 r1 q1) he hpl
end
end L2
namespace HT
open PySem PyProof.Rows
def lexLt:List Int->List Int->Bool
 | [],[]=>false
 | [],_ :: _=>true
 | _ :: _,[]=>false
 | x :: xs,y :: ys=>if x=y then lexLt xs ys else decide (x < y)
theorem Vm (x y:Int) (xs ys:List Int):lexLt (x :: xs) (y :: ys)=if x=y then lexLt xs ys else decide (x < y):=rfl
theorem QT:lexLt [] []=false:=rfl
theorem PR (y:Int) (ys:List Int):lexLt [] (y :: ys)=true:=rfl
theorem PU (x:Int) (xs:List Int):lexLt (x :: xs) []=false:=rfl
theorem bS (A:Ay) (s:AE) (a:Int) (t:Tok) (c:Int) (u:Tok):∃e,SeqAt.EqAt A s (.int a t) (.int c u) e/\(e=true↔a=c):=
 ⟨(a==c),SeqAt.EqAt.int_int a t c u,by simp⟩
theorem Zx (A:Ay) (s:AE) (a:Int) (t:Tok) (c:Int) (u:Tok) (prog:Al) (w:A2) (E:AB->AE->Prop) (Q:AB->AE->Prop) (h:Q (.bool (decide (a < c))) s) :
  AZ (AR prog w) A (richCompare .Lt (.int a t) (.int c u)) Q E s:=
 (lz h:AZ (AR prog w) A (Bb .Lt (.int a t) (.int c u)) Q E s)
section
open PySem.SeqAt
open PySem.AutoSeq1 (wpAny_loadPart')
open PySem.MeetsSeq PySem.MeetsSeq2 PySem.MeetsSeq3
theorem LF (l b:AI) (items items2:Array AB) (n n2:Nat) (dd dd2:Option AI) (sl sl2:Array (Option AB)) (ns ms:List Int) (hi:IntsAre items.toList ns) (hj:IntsAre items2.toList ms) :
  Meets (Builtin.«tuple.__lt__» ⟨[.ref l,.ref b],[]⟩)
   (λ_ R s=>s.heap.get? l=some { cls:=.type "tuple",dict:=dd,data:=.seq items n,slots:=sl }/\s.heap.get? b=some { cls:=.type "tuple",dict:=dd2,data:=.seq items2 n2,slots:=sl2 } /\
    R (.ok (.ret (.bool (lexLt ns ms)))) s):=
 .of_wp λprog w A R s h=>by
  obtain ⟨hp,g,d,tk,os⟩:=s;obtain ⟨hl,hb,h⟩:=h;have f2:=AutoSeq1.sub_tuple_tuple
  have z1:items.size=ns.length:=by rw [<-hi.length];simp
  have z2:items2.size=ms.length:=by rw [<-hj.length];simp
  wp_walk using Dy hl,Dy hb,wpAny_forIn_list _ (λrest b s'=>b.1=none/\s'=⟨hp,g,d,tk,os⟩/\∃(vs ws:List AB) (ns' ms':List Int),rest=vs.zip ws /\
   IntsAre vs ns'/\IntsAre ws ms'/\ns'.length+items2.size=ms'.length+items.size/\R (.ok (.ret (.bool (lexLt ns' ms')))) ⟨hp,g,d,tk,os⟩) _
  case turn=>
   rintro ⟨y,x⟩ rest b s' ⟨hb',rfl,vs,ws,ns',ms',hz,hvi,hwi,hlen,hR⟩
   cases hvi with
   | nil=>rw [Y4] at hz;cases hz
   | cons a t hvi'=>
    cases hwi with
    | nil=>rw [Yq] at hz;cases hz
    | cons c u hwi'=>
     rw [Mp] at hz
     injection hz with hyx hrest
     injection hyx with hy hx
     subst hy hx;rw [Vm] at hR;simp only [Aq] at hlen;obtain ⟨e,he,hiff⟩:=bS A.in1 ⟨hp,g,d,tk,os⟩ a t c u;refine AA (he prog w _ _ ?_)
     cases e with
     | true=>
      rw [qX (hiff.mp rfl)] at hR
      wp_walk
      exact ⟨rfl,rfl,_,_,_,_,hrest,hvi',hwi',by lia,hR⟩
     | false=>
      rw [qY (λq=>zX (hiff.mpr q) AO)] at hR;have hri:=Zx A.in1 ⟨hp,g,d,tk,os⟩ a t c u prog w
      wp_walk using hri
      exact ⟨_,rfl,by simpa using hR⟩
  case fin=>
   rintro ⟨b1,b2⟩ s' ⟨hb',rfl,vs,ws,ns',ms',hz,hvi,hwi,hlen,hR⟩;simp only at hb';subst hb'
   have hv:lexLt ns' ms'=decide (items.size < items2.size):=by
    cases hvi with
    | nil=>
     cases hwi with
     | nil=>
      simp only [EJ] at hlen;rw [QT];exact (wY (by lia)).symm
     | cons c u hw=>
      simp only [EJ,Aq] at hlen;rw [PR];exact (wX (by lia)).symm
    | cons a t hv=>
     cases hwi with
     | nil=>
      simp only [EJ,Aq] at hlen;rw [PU];exact (wY (by lia)).symm
     | cons c u hw=>
      rw [Mp] at hz;cases hz
   rw [hv] at hR
   wp_walk
   exact ⟨_,rfl,by simpa [kM] using hR⟩
  case h=>
   exact ⟨rfl,rfl,items.toList,items2.toList,ns,ms,rfl,hi,hj,by lia,h⟩
end
section
variable {prog:Al} {w:A2} {A:Ay} {E:AB->AE->Prop} {s:AE}
theorem Vl {l b:AI} {items items2:Array AB} {ns ms:List Int} {Q:AB->AE->Prop} (hl:U4 s.heap l items) (hb:U4 s.heap b items2) (hi:IntsAre items.toList ns) (hj:IntsAre items2.toList ms)
  (hu:A.units < DL) (h:Q (.bool (lexLt ns ms)) s):AZ (AR prog w) A (Bb .Lt (.ref l) (.ref b)) Q E s:=by
 obtain ⟨⟨cls,dd,data,sl⟩,ho,hc,n,hd⟩:=id hl;obtain ⟨⟨cls2,dd2,data2,sl2⟩,ho2,hc2,n2,hd2⟩:=id hb;simp only at hc hd hc2 hd2;subst hc hd hc2 hd2
 exact richCompare_meets_room (op:=.Lt) ⟨_,ho,rfl⟩ ⟨_,ho2,rfl⟩ Jq Re (Qc _ _) (LF l b items items2 n n2 dd dd2 sl sl2 ns ms hi hj)
  ⟨ho,ho2,show Jp (lexLt ns ms)≠AB.notImplemented/\Q (.bool (lexLt ns ms)) s from ⟨(λx=>nomatch x),h⟩⟩ hu
theorem fH {t b:AI} {vs ws:List AB} {Q:AB->AE->Prop} (ht:U4 s.heap t vs.toArray) (hb:U4 s.heap b ws.toArray) (hv:vs≠[])
  (h1:ws=[]->Q (.ref t) s) (h2:ws≠[]->Q (.ref s.heap.objs.size) { s with heap:=s.heap.push { cls:=.type "tuple",data:=.seq (vs++ws).toArray } })
  (hsz:vs.length+ws.length<=sizeLine):AZ (AR prog w) A (Eo .Add (.ref t) (.ref b)) Q E s:=by
 obtain ⟨⟨cls,dd,data,sl⟩,ho,hc,n,hd⟩:=id ht;obtain ⟨⟨cls2,dd2,data2,sl2⟩,ho2,hc2,n2,hd2⟩:=id hb;simp only at hc hd hc2 hd2;subst hc hd hc2 hd2
 have e:vs.toArray++ws.toArray=(vs++ws).toArray:=by simp
 by_cases hw:ws=[]
 ·exact Y1 ⟨_,ho,rfl⟩ ⟨_,ho2,rfl⟩ RX XH JB IW (IH _ _)
   (tuple_addW1 t b vs.toArray ws.toArray n n2 dd dd2 sl sl2 (by simpa using hv) (by simp [hw])) ⟨ho,ho2,h1 hw⟩
 ·refine Y1 ⟨_,ho,rfl⟩ ⟨_,ho2,rfl⟩ RX XH JB IW (IH _ _)
   (tuple_addW2 t b vs.toArray ws.toArray n n2 dd dd2 sl sl2 (by simpa using hv) (by simpa using hw) (by rw [AT,AT];exact hsz)) ⟨ho,ho2,?_⟩
  rw [e];exact h2 hw
def sIx (n d:Nat):Option Int->Nat
 | none=>d
 | some v=>if v < 0 then (v+(n:Int)).toNat else min v.toNat n
theorem Zs (n d:Nat):sIx n d none=d:=rfl
theorem dE (n d k:Nat):sIx n d (some (k:Int))=min k n:=by
 show (if (k:Int) < 0 then ((k:Int)+(n:Int)).toNat else min (k:Int).toNat n)=min k n;rw [qY (by lia),A7]
theorem iD (n d:Nat) (hd:d<=n) (o:Option Int):sIx n d o<=n:=by
 cases o with
 | none=>exact hd
 | some v=>
  show (if v < 0 then (v+(n:Int)).toNat else min v.toNat n)<=n
  by_cases hv:v < 0
  ·rw [qX hv];lia
  ·rw [qY hv];exact cJ _ _
theorem W7 (v:Int) (n d:Nat):(if v < 0 then max (v+(n:Int)) 0 else min v (n:Int))=((sIx n d (some v):Nat):Int):=by
 show (if v < 0 then max (v+(n:Int)) 0 else min v (n:Int))=(((if v < 0 then (v+(n:Int)).toNat else min v.toNat n):Nat):Int)
 by_cases hv:v < 0
 ·simp only [qX hv];lia
 ·simp only [qY hv];lia
theorem WA (lo hi:Option Int) (n:Nat):HA lo hi 1 (n:Int)=(((sIx n 0 lo:Nat):Int),((sIx n n hi:Nat):Int)):=by
 have h1:¬((1:Int) < 0):=by lia
 unfold HA;simp only [h1,if_false];refine Prod.ext ?_ ?_
 ·cases lo with
  | none=>rfl
  | some v=>exact W7 v n 0
 ·cases hi with
  | none=>rfl
  | some v=>exact W7 v n n
theorem VZ (i j:Nat):EK (i:Int) (j:Int) 1=j - i:=by
 unfold EK
 have h1:(1:Int) > 0:=by lia
 simp only [h1,if_true,Int.ediv_one]
 split <;> lia
theorem Ow {v:AB} {o:Option Int} {Q:Option Int->AE->Prop} (p:M0 v o) (h:Q o s):AZ (AR prog w) A (kN v) Q E s:=by
 cases p with
 | none=>exact slicePart_none h
 | int i t=>exact slicePart_int h
theorem Ii {sl:AI} {vl vu:AB} {lo hi:Option Int} {n:Nat} {Q:Int×Int×Nat->AE->Prop} (hs:s.heap.IsSliceOf sl vl vu .none) (pl:M0 vl lo) (pu:M0 vu hi)
  (h:Q (((sIx n 0 lo:Nat):Int),1,sIx n n hi - sIx n 0 lo) s):AZ (AR prog w) A (Ly (.ref sl) (pure (n:Int))) Q E s:=by
 obtain ⟨os,hos,hcs,hds⟩:=id hs;unfold Ly kO;refine AA (AA (C0 hos hds (x:=vl) rfl (AA (C0 hos hds (x:=vu) rfl (AA (C0 hos hds (x:=.none) rfl (AD ?_)))))));refine AA (slicePart_none ?_);show AZ _ _ (if ((1:Int)==0)=true then _ else _) _ _ s;rw [qY (by decide)];refine AA (Ow pl (AA (Ow pu (AA (AD ?_)))));show AZ _ _ (match HA lo hi 1 (n:Int) with | (lo,hi)=>pure (lo,(1:Int),EK lo hi 1)) _ _ s;rw [WA lo hi n];show AZ _ _ (pure (((sIx n 0 lo:Nat):Int),(1:Int),EK ((sIx n 0 lo:Nat):Int) ((sIx n n hi:Nat):Int) 1)) _ _ s;rw [VZ];exact AD h
theorem Z9 (xs:Array AB) (i k:Nat):((BQ k).filterMap λ(m:Nat)=>xs[((i:Int)+(m:Int) * 1).toNat]?).toArray=((xs.toList.drop i).take k).toArray:=by
 have e:(λ(m:Nat)=>xs[((i:Int)+(m:Int) * 1).toNat]?)=λm=>xs[i+m]?:=by
  funext m
  have:((i:Int)+(m:Int) * 1).toNat=i+m:=by lia
  rw [this]
 rw [e];have:=pick_run xs i k;rw [Yt] at this
 have e2:((λx=>xs[x]?)∘λx=>i+x)=λm=>xs[i+m]?:=rfl
 rw [e2] at this;rw [this]
theorem MZ {t sl:AI} {items:Array AB} {vl vu:AB} {lo hi:Option Int} {Q:AB->AE->Prop} (ht:U4 s.heap t items) (hs:s.heap.IsSliceOf sl vl vu .none) (pl:M0 vl lo) (pu:M0 vu hi)
  (hw:¬(sIx items.size 0 lo=0/\sIx items.size items.size hi=items.size))
  (h:Q (.ref s.heap.objs.size) { s with heap:=s.heap.push { cls:=.type "tuple",data:=.seq ((items.toList.drop (sIx items.size 0 lo)).take (sIx items.size items.size hi - sIx items.size 0 lo)).toArray } })
  (hsz:items.size<=sizeLine):AZ (AR prog w) A (Jy (.ref t) (.ref sl)) Q E s:=by
 have htake:sizeOk (.seq ((items.toList.drop (sIx items.size 0 lo)).take (sIx items.size items.size hi - sIx items.size 0 lo)).toArray):=by
  show ((items.toList.drop (sIx items.size 0 lo)).take (sIx items.size items.size hi - sIx items.size 0 lo)).toArray.size<=sizeLine;rw [AT,Ch,D1,Az];omega
 have hj:sIx items.size items.size hi<=items.size:=iD _ _ (AM _) hi;obtain ⟨os,hos,hcs,hds⟩:=id hs;have hTs:s.TypeIs (.ref sl) "slice":=⟨os,hos,hcs⟩;unfold Jy
 try with_reducible refine Bh ?_
 first | refine AA (AD ?_) | skip
 refine AA (ji ht.typeIs (by decide) ?_)
 refine AA (BO (name:=DH "__getitem__") ht.typeIs Bu
  (BJ Bu ht.typeIs fW ?_ (gb _ _)))
 show AZ _ _ (Lx (.ref t) >>= _) _ _ s;refine AA (tupleItemsOf_ ht ?_);refine AA (FX hTs ?_);rw [qX (by decide)];refine AA (Ii hs pl pu ?_)
 have hno:¬((((sIx items.size 0 lo:Nat):Int)==0&&(1:Int)==1&&(sIx items.size items.size hi - sIx items.size 0 lo)==items.size)=true):=by
  intro q;rw [FB,FB] at q;have q1:((sIx items.size 0 lo:Nat):Int)=0:=eq_of_beq q.1.1;have q2:sIx items.size items.size hi - sIx items.size 0 lo=items.size:=eq_of_beq q.2;exact hw ⟨by lia,by omega⟩
 show AZ _ _ (if (((sIx items.size 0 lo:Nat):Int)==0&&(1:Int)==1&&(sIx items.size items.size hi - sIx items.size 0 lo)==items.size)=true then _ else _) _ _ s;rw [qY hno,Z9]
 first
  | exact AA (m:=Eg _) (A3 (AD ⟨_,rfl,AD h⟩) htake)
  | exact AA (m:=Eg _) (A3 (AA (AD (AD ⟨_,rfl,AD h⟩))) htake)
  | exact AA (AA (m:=Eg _) (A3 (AD (AD ⟨_,rfl,AD h⟩)) htake))
  | exact AA (AA (m:=Eg _) (A3 (AD ⟨_,rfl,AD h⟩) htake))
end
end HT
namespace L2
open PySem PySem.Spec PyProof.Rows
abbrev TO:=St->Hp->(Option Int->Hp->Prop)->Prop
def PO (X:Cx) (e:Option Expr) (t:TO):Prop:=
 ∀(pins:List (AI×Obj)) (s:AE) (σ:St) (H:Hp) (Q:Option Int->Hp->Prop),Inv X pins σ H s->t σ H Q ->
  AZ (AR X.prog X.w) X.A (evalPart e X.env) (λu s'=>∃o H',Inv X pins σ H' s'/\M0 u o/\Q o H') X.xe s
def cx:TO:=λ_ H Q=>Q none H
def kR (t:TE):TO:=λσ H Q=>t σ H λx H1=>∃i,x=.int i/\Q (some i) H1
theorem intsAre_of {ns:List Int}:∀ {us:List AB},BL (ns.map V.int) us->IntsAre us ns:=by
 induction ns with
 | nil=>intro us r;rw [NR] at r;cases r;exact .nil
 | cons n ns ih=>
  intro us r;rw [An] at r
  cases r with
  | cons r1 r2=>
   obtain ⟨t,e⟩:=r1;subst e;exact .cons n t (ih r2)
section
variable {κ:Type} [DecidableEq κ]
def J9 (kvs:List (κ×V)) (k:κ):Option V:=(kvs.find? λkv=>decide (kv.1=k)).map (·.2)
def Jt (kvs:List (κ×V)) (k:κ) (v:V):List (κ×V):=
 if (kvs.any λkv=>decide (kv.1=k))=true then kvs.map (λkv=>if kv.1=k then (kv.1,v) else kv) else kvs++[(k,v)]
theorem On {p:κ×V} {r:List (κ×V)} {k:κ} (e:p.1=k):J9 (p :: r) k=some p.2:=by simp [J9,Cy,e]
theorem Oo {p:κ×V} {r:List (κ×V)} {k:κ} (e:¬p.1=k):J9 (p :: r) k=J9 r k:=by simp [J9,Cy,e]
theorem Tb (k:κ):∀kvs:List (κ×V),(kvs.any λkv=>decide (kv.1=k))=(J9 kvs k).isSome
 | []=>rfl
 | p :: r=>by
  rw [G9]
  by_cases e:p.1=k
  ·simp only [On e,wX e,Bool.true_or,Option.isSome_some]
  ·rw [Oo e,wY e,gi];exact Tb k r
theorem Ni (kvs:List (κ×V)) (k:κ) (v:V):(Jt kvs k v).length<=kvs.length+1:=by
 unfold Jt;split
 ·rw [AJ];lia
 ·rw [Af,Aq,EJ];lia
theorem NI.isSome_eq {o:Option V} {u:Option AB} (r:NI o u):o.isSome=u.isSome:=by
 cases o with
 | none=>cases u with
  | none=>rfl
  | some _=>exact (show False from r).elim
 | some _=>cases u with
  | none=>exact (show False from r).elim
  | some _=>rfl
theorem KV.val {kvs:List (κ×V)} {vs:List (κ×AB)} (r:KV kvs vs) (k:κ):NI (J9 kvs k) (P2 vs k):=by
 unfold KV at r
 induction r with
 | nil=>exact EB
 | @cons p q ps qs h t ih=>
  obtain ⟨h1,h2⟩:=h
  by_cases e:p.1=k
  ·have e':q.1=k:=h1.symm.trans e
   have b:P2 (q :: qs) k=some q.2:=by simp [P2,Cy,e']
   rw [On e,b];exact h2
  ·have e':¬q.1=k:=λz=>e (h1.trans z)
   have b:P2 (q :: qs) k=P2 qs k:=by simp [P2,Cy,e']
   rw [Oo e,b];exact ih
theorem KV.any {kvs:List (κ×V)} {vs:List (κ×AB)} (r:KV kvs vs) (k:κ):(kvs.any λkv=>decide (kv.1=k))=vs.any λkv=>decide (kv.1=k):=by
 unfold KV at r
 induction r with
 | nil=>rfl
 | cons h t ih=>rw [G9,G9,ih,h.1]
theorem KV.repl {kvs:List (κ×V)} {vs:List (κ×AB)} (r:KV kvs vs) (k:κ) {y:V} {u:AB} (ry:RelV y u) :
  KV (kvs.map λkv=>if kv.1=k then (kv.1,y) else kv) (vs.map λkv=>if kv.1=k then (kv.1,u) else kv):=by
 unfold KV at r ⊢
 induction r with
 | nil=>exact .nil
 | @cons p q ps qs h t ih=>
  rw [An,An];refine .cons ?_ ih;obtain ⟨h1,h2⟩:=h
  by_cases e:p.1=k
  ·rw [qX e,qX (h1.symm.trans e)];exact ⟨h1,ry⟩
  ·rw [qY e,qY (λz=>e (h1.trans z))];exact ⟨h1,h2⟩
theorem KV.put {kvs:List (κ×V)} {vs:List (κ×AB)} (r:KV kvs vs) (k:κ) {y:V} {u:AB} (ry:RelV y u):KV (Jt kvs k y) (stored vs k u):=by
 unfold Jt stored;rw [r.any k]
 by_cases e:(vs.any λkv=>decide (kv.1=k))=true
 ·rw [qX e,qX e];exact r.repl k ry
 ·rw [qY e,qY e];exact Uf r ⟨rfl,ry⟩
theorem KV.length {kvs:List (κ×V)} {vs:List (κ×AB)} (r:KV kvs vs):kvs.length=vs.length:=FG r
end
theorem UH {P:Al} {w:A2} {k:Key} {u:AB} (r:RelV (kV k) u):(EN P w).is k u=true:=by
 cases k with
 | inl i=>obtain ⟨t,e⟩:=(show ∃t,u=Fd i t from r);subst e;exact T8 P w i t
 | inr x=>obtain ⟨t,e⟩:=(show ∃t,u=Nn x t from r);subst e;exact T7 P w x t
theorem RF {P:Al} {w:A2}:∀ {ks:List Key} {us:List AB},BL (ks.map kV) us->ItemsAre (EN P w) ks us
 | [],_,r=>by rw [NR] at r;cases r;exact .nil
 | k :: ks,_,r=>by
  rw [An] at r
  cases r with
  | cons h t=>exact .cons (UH h) (RF t)
abbrev KT (H:Hp):List (List Key×V)->List (List Key×AI×AB)->Prop:=G8 λp q=>p.1=q.1/\H q.2.1=some (.tup (p.1.map kV))/\RelV p.2 q.2.2
theorem KT.val {H:Hp} {kvs:List (List Key×V)} {xs:List (List Key×AI×AB)} (r:KT H kvs xs) (k:List Key):NI (J9 kvs k) ((Ut xs k).map (·.2)):=by
 induction r with
 | nil=>exact EB
 | @cons p q ps qs h t ih=>
  obtain ⟨h1,_,h2⟩:=h
  by_cases e:p.1=k
  ·have e':q.1=k:=h1.symm.trans e
   have b:Ut (q :: qs) k=some q.2:=by simp [Ut,Cy,e']
   rw [On e,b];exact h2
  ·have e':¬q.1=k:=λz=>e (h1.trans z)
   have b:Ut (q :: qs) k=Ut qs k:=by simp [Ut,Cy,e']
   rw [Oo e,b];exact ih
theorem KT.repl {H:Hp} {kvs:List (List Key×V)} {xs:List (List Key×AI×AB)} (r:KT H kvs xs) (k:List Key) {y:V} {u:AB} (ry:RelV y u) :
  KT H (kvs.map λkv=>if kv.1=k then (kv.1,y) else kv) (xs.map (putAt k u)):=by
 induction r with
 | nil=>exact .nil
 | @cons p q ps qs h t ih=>
  rw [An,An];refine .cons ?_ ih;obtain ⟨h1,h2,h3⟩:=h;unfold putAt
  by_cases e:p.1=k
  ·rw [qX e,qX (h1.symm.trans e)];exact ⟨h1,h2,ry⟩
  ·rw [qY e,qY (λz=>e (h1.trans z))];exact ⟨h1,h2,h3⟩
theorem KT.put {H:Hp} {kvs:List (List Key×V)} {xs:List (List Key×AI×AB)} (r:KT H kvs xs) (k:List Key) {b:AI} {y:V} {u:AB} (hb:H b=some (.tup (k.map kV))) (ry:RelV y u) :
  KT H (Jt kvs k y) (storedH xs k b u):=by
 have e:(kvs.any λkv=>decide (kv.1=k))=(Ut xs k).isSome:=by
  rw [Tb,(r.val k).isSome_eq,Mo]
 unfold Jt storedH;rw [e]
 by_cases q:(Ut xs k).isSome=true
 ·rw [qX q,qX q];exact r.repl k ry
 ·rw [qY q,qY q];exact Uf r ⟨rfl,hb,ry⟩
theorem KT.keeps {H H':Hp} {kvs:List (List Key×V)} {xs:List (List Key×AI×AB)} (r:KT H kvs xs) (ht:∀b ys,H b=some (.tup ys)->H' b=some (.tup ys)):KT H' kvs xs:=
 G8.mapP r λ_ _ z=>⟨z.1,ht _ _ z.2.1,z.2.2⟩
variable {X:Cx} {e:Expr} {te:TE} {lo hi:Option Expr} {tl th:TO} {pos p2:Pos}
theorem dU:PO X none cx:=by
 intro pins s σ H Q I h;rw [evalPart_none];exact AD ⟨none,H,I,.none,h⟩
theorem dS (h:PE X e te):PO X (some e) (kR te):=by
 intro pins s σ H Q I hw;rw [evalPart_some]
 refine thn (h pins s σ H _ I hw) λu s1 ⟨x,H1,I1,r1,q1⟩=>?_
 obtain ⟨i,rfl,q⟩:=q1;obtain ⟨t,rfl⟩:=r1;exact ⟨some i,H1,I1,.int i t,q⟩
def SlR (X:Cx) (r:V->Option Int->Option Int->Hp->VK->Prop):Prop:=
 ∀(pins:List (AI×Obj)) (s:AE) (σ:St) (H:Hp) (x:V) (v vl vu:AB) (lo hi:Option Int) (sl:AI) (Q:VK),Inv X pins σ H s->RelV x v->s.heap.IsSliceOf sl vl vu .none->M0 vl lo->M0 vu hi->r x lo hi H Q ->
  ∃T id,typeLookup (.type T) "__getitem__" = pure (some (.builtin id))/\s.TypeIs v T/\AZ (AR X.prog X.w) X.A (Jy v (.ref sl)) (EP X pins σ Q) X.xe s
theorem SlR.or {r r':V->Option Int->Option Int->Hp->VK->Prop} (h:SlR X r) (h':SlR X r'):SlR X (λx lo hi H Q=>r x lo hi H Q∨r' x lo hi H Q):=by
 intro pins s σ H x v vl vu lo hi sl Q I rx hs pl pu q
 rcases q with q | q
 ·exact h pins s σ H x v vl vu lo hi sl Q I rx hs pl pu q
 ·exact h' pins s σ H x v vl vu lo hi sl Q I rx hs pl pu q
def tSl (r:V->Option Int->Option Int->Hp->VK->Prop) (te:TE) (tl th:TO):TE:=λσ H Q=>te σ H λx H1=>tl σ H1 λl H2=>th σ H2 λu H3=>r x l u H3 Q
theorem Tw {r:V->Option Int->Option Int->Hp->VK->Prop} (hr:SlR X r) (he:PE X e te) (hl:PO X lo tl) (hu:PO X hi th):PE X (.Subscript e (.Slice lo hi none p2) pos) (tSl r te tl th):=by
 intro pins s σ H Q I h;refine Uw (thn (he pins s σ H _ I h) λv s1 ⟨x,H1,I1,r1,q1⟩=>?_);refine wpAny_Slice (thn (hl pins s1 σ H1 _ I1 q1) λvl s2 ⟨l,H2,I2,pl,q2⟩=>thn (hu pins s2 σ H2 _ I2 q2) λvu s3 ⟨u,H3,I3,pu,q3⟩=>?_);rw [evalPart_none];refine AD ?_
 have I4:Inv X pins σ H3 { s3 with heap:=s3.heap.push { cls:=.type "slice",data:=.fields #[vl,vu,.none] } }:=I3.kept (t':=s3.toks) λb ob q=>AF _ q
 obtain ⟨T,id,hT,ht,hg⟩:=hr pins { s3 with heap:=s3.heap.push { cls:=.type "slice",data:=.fields #[vl,vu,.none] } } σ H3 x v vl vu l u s3.heap.objs.size Q I4 r1 (Py ..) pl pu q3;show AZ (AR X.prog X.w) X.A (N8 e (.Slice lo hi none p2) v (.ref s3.heap.objs.size)) (EP X pins σ Q) X.xe { s3 with heap:=s3.heap.push { cls:=.type "slice",data:=.fields #[vl,vu,.none] } };exact tail_any (ops:=[.ref s3.heap.objs.size,v]) ht hT hg (by with_unfolding_all rfl)
def N5 (xs:List V) (lo hi:Option Int):List V:=(xs.drop (HT.sIx xs.length 0 lo)).take (HT.sIx xs.length xs.length hi - HT.sIx xs.length 0 lo)
theorem Nk (xs:List V) (lo hi:Option Int):(N5 xs lo hi).length<=xs.length:=by
 unfold N5;rw [Ch,D1]
 lia
def rSlT (K:AC):V->Option Int->Option Int->Hp->VK->Prop:=λx lo hi H Q=>∃a xs,x=.ref a/\SqT K H a xs /\
 ¬(HT.sIx xs.length 0 lo=0/\HT.sIx xs.length xs.length hi=xs.length)/\∀p,H p=none->Q (.ref p) (upd H p (.tup (N5 xs lo hi)))
theorem Zj:SlR X (rSlT X.K):=by
 intro pins s σ H x v vl vu lo hi sl Q I rx hs pl pu h;obtain ⟨a,xs,rfl,hx,hw,q⟩:=h;cases rx;obtain ⟨its,r,ht,hz⟩:=I.tuple hx
 have hlen:its.toArray.size=xs.length:=by rw [AT];exact r.length.symm
 refine ⟨"tuple",_,Bu.lookup,ht.typeIs,?_⟩;refine HT.MZ ht hs pl pu (by rw [hlen];exact hw) ?_ (by rw [hlen];exact hz);rw [hlen];refine ⟨.ref s.heap.objs.size,_,I.laid (t':=s.toks) (o:=.tup (N5 xs lo hi)) (λb ob q=>AF _ q) (AM _) ?_,rfl,q _ (I.hok.fresh (AM _))⟩;exact ⟨As (Nk xs lo hi) hz,_,(r.drop (HT.sIx xs.length 0 lo)).take (HT.sIx xs.length xs.length hi - HT.sIx xs.length 0 lo),Y8 _ _⟩
def kl (K:AC):R2:=λx y H Q=>∃a b xs ys,x=.ref a/\y=.ref b/\SqT K H a xs/\SqT K H b ys/\xs≠[]/\xs.length+ys.length<=sizeLine /\
 (ys=[]->Q (.ref a) H)/\(ys≠[]->∀p,H p=none->Q (.ref p) (upd H p (.tup (xs++ys))))
theorem BL.nil_iff {xs:List V} {us:List AB} (r:BL xs us):us=[]↔xs=[]:=by
 cases r with
 | nil=>simp
 | cons _ _=>simp
theorem du:OpR X (Eo .Add) (kl X.K):=by
 intro pins s σ H x y v u Q I rx ry h;obtain ⟨a,b,xs,ys,rfl,rfl,ha,hb,hx,hz,q1,q2⟩:=h;cases rx;cases ry;obtain ⟨its,r1,p1,_⟩:=I.tuple ha;obtain ⟨its2,r2,p2,_⟩:=I.tuple hb;refine HT.fH p1 p2 (λz=>hx (r1.nil_iff.mp z)) (λz=>⟨.ref a,H,I,rfl,q1 (r2.nil_iff.mp z)⟩) (λz=>?_) (by rw [<-r1.length,<-r2.length];exact hz);refine ⟨.ref s.heap.objs.size,_,I.laid (t':=s.toks) (o:=.tup (xs++ys)) (λb ob q=>AF _ q) (AM _) ?_,rfl,q2 (λw=>z (r2.nil_iff.mpr w)) _ (I.hok.fresh (AM _))⟩;exact ⟨by rw [Af];exact hz,_,r1.append r2,Y8 _ _⟩
def ixN (n:Nat) (i:Int):Option Nat:=if 0<=i then (if i < n then some i.toNat else none) else if -(n:Int)<=i then some (i+n).toNat else none
def atI {α:Type} (xs:List α) (i:Int):Option α:=(ixN xs.length i).bind λj=>xs[j]?
theorem SU {n:Nat} {i:Int} {j:Nat} (h:ixN n i=some j):j6 i n=some j/\j < n/\-(n:Int)<=i/\i < n:=by
 unfold ixN at h
 by_cases h0:0<=i
 ·rw [qX h0] at h
  by_cases h1:i < n
  ·rw [qX h1] at h
   have e:i.toNat=j:=CA h;exact ⟨by rw [cA h0 h1,e],by lia,by lia,h1⟩
  ·rw [qY h1] at h;cases h
 ·rw [qY h0] at h
  by_cases h1:-(n:Int)<=i
  ·rw [qX h1] at h
   have e:(i+n).toNat=j:=CA h;exact ⟨by rw [seqIndex_neg (by lia) h1,e],by lia,h1,by lia⟩
  ·rw [qY h1] at h;cases h
theorem XB {α:Type} {xs:List α} {i:Int} {v:α} (h:atI xs i=some v):∃j,j6 i xs.length=some j/\xs[j]?=some v/\j < xs.length/\-(xs.length:Int)<=i/\i < xs.length:=by
 unfold atI at h
 cases e:ixN xs.length i with
 | none=>rw [e] at h;cases h
 | some j=>
  rw [e] at h;obtain ⟨h1,h2,h3,h4⟩:=SU e;exact ⟨j,h1,h,h2,h3,h4⟩
def Sv (b:Expr):Prop:=∀o i,Sy b false o i=operate [o,i] (Jy o i)
def IxR (X:Cx) (r:R2):Prop:=
 ∀(value slice:Expr) (pins:List (AI×Obj)) (s:AE) (σ:St) (H:Hp) (x y:V) (v u:AB) (Q:VK),Inv X pins σ H s->RelV x v->RelV y u->r x y H Q ->
  Sy slice false v u=operate [v,u] (Jy v u)->AZ (AR X.prog X.w) X.A (N8 value slice v u) (EP X pins σ Q) X.xe s
def MtR (X:Cx) (id:String) (r:V->List V->Hp->VK->Prop):Prop:=
 ∀(pins:List (AI×Obj)) (s:AE) (σ:St) (H:Hp) (x:V) (xs:List V) (v:AB) (us:List AB) (Q:VK),Inv X pins σ H s->RelV x v->BL xs us->r x xs H Q ->
  AZ (AR X.prog X.w) X.A (call (.builtin id) (v :: us)) (EP X pins σ Q) X.xe s
section
variable {P:Al} {w:A2} {H:Hp} {h:BP} {a:AI}
theorem fm {u:HO} (ok:HOk P w H h) (e:Rd H a u):Ca P w H h a u:=e.ok ok
theorem UR {kvs:List (Key×V)} (ok:HOk P w H h) (e:Rd H a (.dK kvs)):kvs.length<=sizeLine/\(a==Ea)=false/\∃vs,KV kvs vs/\h.DictOf (EN P w) a vs:=
 show Ca P w H h a (.dK kvs) from fm ok e
theorem lh {kvs:List (Key×V)} (ok:HOk P w H h) (e:H a=some (.dK kvs)):kvs.length<=sizeLine/\(a==Ea)=false/\∃vs,KV kvs vs/\h.DictOf (EN P w) a vs:=UR ok (.inl e)
theorem PZ {ks:List Key} (ok:HOk P w H h) (e:H a=some (.tup (ks.map kV))):(RW (EN P w)).is h ks a:=by
 obtain ⟨_,its,r,o,h1,h2,n,h3⟩:=(show Ca P w H h a (.tup (ks.map kV)) from ok a _ e);exact ⟨o,its.toArray,n,h1,h2,h3,by simpa using RF r⟩
theorem UQ {kvs:List (List Key×V)} (ok:HOk P w H h) (e:Rd H a (.dT kvs)):kvs.length<=sizeLine/\(a==Ea)=false /\
  ∃xs,KT H kvs xs/\h.DictOfH (RW (EN P w)) a xs:=by
 obtain ⟨z,y,xs,r,o,es,ep,h1,h2,h3,h4,h5⟩:=(show Ca P w H h a (.dT kvs) from fm ok e);refine ⟨z,y,xs,r,o,es,ep,h1,h2,h3,h4,λx hx=>?_,h5⟩
 have all:∀ {l:List (List Key×V)} {m:List (List Key×AI×AB)},KT H l m->∀x∈m,(RW (EN P w)).is h x.1 x.2.1:=by
  intro l m q
  induction q with
  | nil=>intro x hx;exact nomatch hx
  | @cons p q ps qs hq t ih=>
   intro x hx
   rcases Ax.mp hx with e | hx
   ·subst e
    exact PZ ok (by rw [<-hq.1];exact hq.2.1)
   ·exact ih x hx
 exact all r x hx
theorem lg {kvs:List (List Key×V)} (ok:HOk P w H h) (e:H a=some (.dT kvs)):kvs.length<=sizeLine/\(a==Ea)=false /\
  ∃xs,KT H kvs xs/\h.DictOfH (RW (EN P w)) a xs:=UQ ok (.inl e)
end
def Ml (H:Hp) (a:AI) (y:V) (r:Option V):Prop:=
 (∃kvs k,Rd H a (.dK kvs)/\y=kV k/\r=J9 kvs k)∨∃kvs k b,Rd H a (.dT kvs)/\y=.ref b/\H b=some (.tup (k.map kV))/\r=J9 kvs k
def Ub (H:Hp) (a:AI) (y v:V) (H':Hp):Prop:=
 (∃kvs k,H a=some (.dK kvs)/\y=kV k/\kvs.length < sizeLine/\H'=upd H a (.dK (Jt kvs k v))) ∨
 ∃kvs k b,H a=some (.dT kvs)/\y=.ref b/\H b=some (.tup (k.map kV))/\kvs.length < sizeLine/\H'=upd H a (.dT (Jt kvs k v))
theorem Ml.k {H:Hp} {a:AI} {kvs:List (Key×V)} {k:Key} (e:H a=some (.dK kvs)):Ml H a (kV k) (J9 kvs k):=.inl ⟨kvs,k,.inl e,rfl,rfl⟩
theorem Ml.t {H:Hp} {a b:AI} {kvs:List (List Key×V)} {k:List Key} (e:H a=some (.dT kvs)) (eb:H b=some (.tup (k.map kV))):Ml H a (.ref b) (J9 kvs k):=.inr ⟨kvs,k,b,.inl e,rfl,eb,rfl⟩
theorem Ub.k {H:Hp} {a:AI} {kvs:List (Key×V)} {k:Key} {v:V} (e:H a=some (.dK kvs)) (hl:kvs.length < sizeLine):Ub H a (kV k) v (upd H a (.dK (Jt kvs k v))):=.inl ⟨kvs,k,e,rfl,hl,rfl⟩
theorem Ub.t {H:Hp} {a b:AI} {kvs:List (List Key×V)} {k:List Key} {v:V} (e:H a=some (.dT kvs)) (eb:H b=some (.tup (k.map kV))) (hl:kvs.length < sizeLine) :
  Ub H a (.ref b) v (upd H a (.dT (Jt kvs k v))):=.inr ⟨kvs,k,b,e,rfl,eb,hl,rfl⟩
variable {X:Cx} {a b:Expr} {ta tb:TE} {pos:Pos}
theorem IxR.or {r r':R2} (h:IxR X r) (h':IxR X r'):IxR X (λx y H Q=>r x y H Q∨r' x y H Q):=by
 intro value slice pins s σ H x y v u Q I rx ry q hs
 rcases q with q | q
 ·exact h value slice pins s σ H x y v u Q I rx ry q hs
 ·exact h' value slice pins s σ H x y v u Q I rx ry q hs
theorem ku {r:R2} (hr:IxR X r) (ha:PE X a ta) (hb:PE X b tb) (hs:Sv b):PE X (.Subscript a b pos) (tOp r ta tb):=by
 intro pins s σ H Q I h;exact Uw (jZ ha hb I h λv u s2 x y H2 I2 rx ry q=>hr a b pins s2 σ H2 x y v u Q I2 rx ry q (hs _ _))
def rIxL (K:AC):R2:=λx y H Q=>∃p xs i v,x=.ref p/\y=.int i/\SqL K H p xs/\atI xs i=some v/\Q v H
def rIxT (K:AC):R2:=λx y H Q=>∃p xs i v,x=.ref p/\y=.int i/\SqT K H p xs/\atI xs i=some v/\Q v H
theorem ix_list:IxR X (rIxL X.K):=by
 intro value slice pins s σ H x y v u Q I rx ry h hs;obtain ⟨p,xs,i,z,rfl,rfl,hq,he,q⟩:=h;cases rx;obtain ⟨t,rfl⟩:=ry;obtain ⟨its,r,pl,hz⟩:=I.list hq;obtain ⟨j,h1,h2,h3,h4,h5⟩:=XB he;obtain ⟨w,ew,rw'⟩:=r.get h2;have hl:=r.length;have hn:=SN;have fin:EP X pins σ Q w s:=⟨z,H,I,rw',q⟩
 by_cases h0:0<=i
 ·have hj:i.toNat=j:=by
   rw [cA h0 h5] at h1;exact CA h1
  exact item_listR pl.isList h0 (by lia) (by rw [hj];simpa using ew) fin hs
 ·have hj:(i+(its.toArray.size:Int)).toNat=j:=by
   rw [seqIndex_neg (by lia) h4] at h1;rw [AT,<-hl];exact CA h1
  exact Yx (x:=w) pl.isList.typeIs P3.lookup
   (wpAny_getItem_list_neg (Q:=λr s'=>r=w/\EP X pins σ Q r s') pl.isList (by lia) (by rw [AT] <;> lia) (by lia) (by rw [hj];simpa using ew) ⟨rfl,fin⟩) hs
theorem jC:IxR X (rIxT X.K):=by
 intro value slice pins s σ H x y v u Q I rx ry h hs;obtain ⟨p,xs,i,z,rfl,rfl,hq,he,q⟩:=h;cases rx;obtain ⟨t,rfl⟩:=ry;obtain ⟨its,r,pl,hz⟩:=I.tuple hq;obtain ⟨j,h1,h2,h3,h4,h5⟩:=XB he;obtain ⟨w,ew,rw'⟩:=r.get h2;have hl:=r.length;have hn:=SN;have fin:EP X pins σ Q w s:=⟨z,H,I,rw',q⟩
 exact Yx (x:=w) pl.typeIs slot_tuple_getitem.lookup
  (getItem_tuple (j:=j) (Q:=λr s'=>r=w/\EP X pins σ Q r s') pl (by lia) (by lia) (by rw [AT,<-hl];exact h1) (by simpa using ew) ⟨rfl,fin⟩) hs
theorem Vh (its:List AB) (n j:Nat) (u:AB):DO (·.setIfInBounds j u) { cls:=.type "list",data:=.seq its.toArray n }={ cls:=.type "list",data:=.seq (its.set j u).toArray n }:=by
 simp [DO]
theorem Inv.lst {pins:List (AI×Obj)} {σ:St} {H:Hp} {s:AE} {p:AI} {xs:List V} (I:Inv X pins σ H s) (h:H p=some (.lst xs)) :
  ∃(its:List AB) (n:Nat),BL xs its/\s.heap.get? p=some { cls:=.type "list",data:=.seq its.toArray n }/\xs.length<=sizeLine:=by
 obtain ⟨z,its,n,r,e⟩:=I.hok p _ h;exact ⟨its,n,r,e,z⟩
theorem Inv.lstUpd {pins:List (AI×Obj)} {σ:St} {H:Hp} {s:AE} {p:AI} {xs ys:List V} {its its':List AB} {n n':Nat} {f:Obj->Obj} (I:Inv X pins σ H s) (h:H p=some (.lst xs))
  (ho:s.heap.get? p=some { cls:=.type "list",data:=.seq its.toArray n }) (hf:f { cls:=.type "list",data:=.seq its.toArray n }={ cls:=.type "list",data:=.seq its'.toArray n' }) (r:BL ys its') (hz:ys.length<=sizeLine) (t:Nat) :
  Inv X pins σ (upd H p (.lst ys)) { s with heap:=s.heap.update p f,toks:=t }:=by
 have e:(s.heap.update p f).get? p=some { cls:=.type "list",data:=.seq its'.toArray n' }:=by
  rw [By f ho (by rw [hf] <;> rfl),hf]
 refine I.write (x:=p) (e:=p) (by rw [h];trivial) (.inl rfl) (λb u hb q=>(Ba _ _ (Bl hb)).trans q) ⟨_,e⟩ ?_;exact ⟨hz,its',n',r,e⟩
def kg:V->V->V->Hp->(Hp->Prop)->Prop:=λo i v H Q=>∃p xs k j,o=.ref p/\i=.int k/\H p=some (.lst xs)/\ixN xs.length k=some j/\Q (upd H p (.lst (xs.set j v)))
theorem Zn:lr X kg:=by
 intro pins s σ H o i v ov iv u Q I ro ri rv h;obtain ⟨p,xs,k,j,rfl,rfl,hp,hj,q⟩:=h;cases ro;obtain ⟨t,rfl⟩:=ri;obtain ⟨its,n,r,ho,hz⟩:=I.lst hp;obtain ⟨h1,h2,h3,h4⟩:=SU hj;have hl:=r.length;have hn:=SN
 have I':Inv X pins σ (upd H p (.lst (xs.set j v))) { s with heap:=s.heap.update p (DO (·.setIfInBounds j u)) }:=
  I.lstUpd hp ho (Vh its n j u) (r.set rv j) (by rw [Cw];exact hz) s.toks
 by_cases h0:0<=k
 ·have hk:k.toNat=j:=by
   rw [cA h0 h4] at h1;exact CA h1
  exact PySem.W.ki_setAt ho h0 (by lia) (by rw [AT,<-hl];exact h4) (by rw [hk];exact ⟨_,I',q⟩)
 ·have hk:(k+(its.toArray.size:Int)).toNat=j:=by
   rw [seqIndex_neg (by lia) h3] at h1;rw [AT,<-hl];exact CA h1
  exact PySem.W.ki_setBack ho (by lia) (by rw [AT,<-hl];exact h3) (by lia) (by rw [hk];exact ⟨_,I',q⟩)
theorem R4 (lo hi:Option Int) (n:Nat):(ES lo hi none n).1=((HT.sIx n 0 lo:Nat):Int)/\(ES lo hi none n).2.1=((HT.sIx n n hi:Nat):Int)/\(ES lo hi none n).2.2=1:=by
 refine ⟨?_,?_,rfl⟩
 ·cases lo with
  | none=>simp [ES,HT.sIx]
  | some i=>
   simp only [ES,HT.sIx,Yp,show (1:Int) > 0 by decide,if_true]
   by_cases h:i < 0
   ·simp only [h,if_true] <;> lia
   ·simp only [h,if_false] <;> lia
 ·cases hi with
  | none=>simp [ES,HT.sIx]
  | some i=>
   simp only [ES,HT.sIx,Yp,show (1:Int) > 0 by decide,if_true]
   by_cases h:i < 0
   ·simp only [h,if_true] <;> lia
   ·simp only [h,if_false] <;> lia
theorem QF (its:List AB) (lo hi:Option Int):Yf its.toArray lo hi none=((its.drop (HT.sIx its.length 0 lo)).take (HT.sIx its.length its.length hi - HT.sIx its.length 0 lo)).toArray:=by
 obtain ⟨h1,h2,h3⟩:=R4 lo hi its.toArray.size;unfold Yf;rw [h1,h2,h3]
 simp only [sliceRange_one,pick_run,AT] <;> rfl
def kf (K:AC):V->Option Int->Option Int->Hp->VK->Prop:=λx lo hi H Q=>∃a xs,x=.ref a/\SqL K H a xs/\∀p,H p=none->Q (.ref p) (upd H p (.lst (N5 xs lo hi)))
theorem dA:SlR X (kf X.K):=by
 intro pins s σ H x v vl vu lo hi sl Q I rx hs pl pu h;obtain ⟨a,xs,rfl,hx,q⟩:=h;cases rx;obtain ⟨its,r,ht,hz⟩:=I.list hx;have hlen:=r.length;refine ⟨"list",_,P3.lookup,ht.isList.typeIs,?_⟩;refine XD ht.isList hs pl pu .none (by simp) ?_ (by rw [AT] <;> lia);rw [QF,<-hlen];refine ⟨.ref s.heap.objs.size,_,I.laid (t':=s.toks) (o:=.lst (N5 xs lo hi)) (λb ob q=>AF _ q) (AM _) ?_,rfl,q _ (I.hok.fresh (AM _))⟩;exact ⟨As (Nk xs lo hi) hz,_,0,(r.drop (HT.sIx xs.length 0 lo)).take (HT.sIx xs.length xs.length hi - HT.sIx xs.length 0 lo),AV _ rfl⟩
theorem Ss:Hq X (.builtin "len") (λxs H Q=>∃p ys,xs=[.ref p]/\(SqL X.K H p ys∨SqT X.K H p ys)/\Q (.int ys.length) H):=by
 intro pins s σ H xs us Q I r h;obtain ⟨p,ys,rfl,hq,q⟩:=h;obtain ⟨u,rfl,rx⟩:=vals1 r;cases rx;have hn:=SN
 rcases hq with hq | hq
 ·obtain ⟨its,r',pl,hz⟩:=I.list hq
  have hlen:=r'.length;exact Calls.call_len_list pl.isList (by simp only [AT] <;> lia) ⟨.int ys.length,H,I.tok _,⟨s.toks+1,by rw [AT,hlen]⟩,q⟩
 ·obtain ⟨its,r',pl,hz⟩:=I.tuple hq
  have hlen:=r'.length;exact len_tuple pl (by simp only [AT] <;> lia) ⟨.int ys.length,H,I.tok _,⟨s.toks+1,by rw [AT,hlen]⟩,q⟩
theorem Sr:Hq X (.type "list") (λxs H Q=>∃p ys,xs=[.ref p]/\(SqL X.K H p ys∨SqT X.K H p ys)/\∀l,H l=none->Q (.ref l) (upd H l (.lst ys))):=by
 intro pins s σ H xs us Q I r h;obtain ⟨p,ys,rfl,hq,q⟩:=h;obtain ⟨u,rfl,rx⟩:=vals1 r;cases rx
 have fin:∀(its:List AB),BL ys its->ys.length<=sizeLine->∀(h':BP) (c':Nat),(∀b o',s.heap.get? b=some o'->h'.get? b=some o') ->
   h'.get? s.heap.objs.size=some { cls:=.type "list",dict:=none,data:=.seq its.toArray c',slots:=#[] }->EP X pins σ Q (.ref s.heap.objs.size) { s with heap:=h' }:=λits r' hz h' c' kp e=>
  ⟨.ref s.heap.objs.size,_,I.laid (t':=s.toks) kp (AM _) (show Ca X.prog X.w _ h' _ (.lst ys) from ⟨hz,its,c',r',e⟩),rfl,q _ (I.hok.fresh (AM _))⟩
 rcases hq with hq | hq
 ·obtain ⟨its,r',pl,hz⟩:=I.list hq
  have hlen:=r'.length;obtain ⟨o,ho,hc,n,hd⟩:=pl.isList;exact call_list_seq p (.inl rfl) ho hc hd (λh' c' kp e=>fin its r' hz h' c' kp e) (by simp only [AT] <;> lia)
 ·obtain ⟨its,r',pl,hz⟩:=I.tuple hq
  have hlen:=r'.length;obtain ⟨o,ho,hc,n,hd⟩:=pl;exact call_list_seq p (.inr rfl) ho hc hd (λh' c' kp e=>fin its r' hz h' c' kp e) (by simp only [AT] <;> lia)
theorem QW:Hq X (.type "tuple") (λxs H Q=>∃p ys,xs=[.ref p]/\((SqL X.K H p ys/\∀l,H l=none->Q (.ref l) (upd H l (.tup ys)))∨(SqT X.K H p ys/\Q (.ref p) H))):=by
 intro pins s σ H xs us Q I r h;obtain ⟨p,ys,rfl,h⟩:=h;obtain ⟨u,rfl,rx⟩:=vals1 r;cases rx
 rcases h with ⟨hq,q⟩ | ⟨hq,q⟩
 ·obtain ⟨its,r',pl,hz⟩:=I.list hq
  have hlen:=r'.length;refine call_tuple_list pl.isList (λh' kp=>?_) (by simp only [AT] <;> lia);have I1:Inv X pins σ H { s with heap:=h' }:=I.kept (t':=s.toks) kp
  have I2:Inv X pins σ (upd H h'.objs.size (.tup ys)) { s with heap:=h'.push { cls:=.type "tuple",data:=.seq its.toArray } }:=
   I1.laid (t':=s.toks) (λb o e=>AF _ e) (AM _) (show Ca X.prog X.w _ _ _ (.tup ys) from ⟨hz,its,r',Y8 _ _⟩)
  exact ⟨.ref h'.objs.size,_,I2,rfl,q _ (I1.hok.fresh (AM _))⟩
 ·obtain ⟨its,r',pl,hz⟩:=I.tuple hq
  exact call_tuple_same pl ⟨.ref p,H,I,rfl,q⟩
def tyV (K:AC) (T:String) (x:V) (H:Hp):Prop:=match x with
 | .str _=>T = "str"
 | .int _=>T = "int"
 | .ref p=>(T = "list"/\∃xs,SqL K H p xs)∨(T = "tuple"/\∃o,K.lookup p=some o/\o.cls=.type "tuple"/\o.dict=none) ∨
   (T = "dict"/\((∃kvs,H p=some (.dK kvs))∨∃kvs,H p=some (.dT kvs)))∨(T = "set"/\∃S n,H p=some (.set S n))
 | _=>False
theorem ZV {pins:List (AI×Obj)} {σ:St} {H:Hp} {s:AE} {T:String} {x:V} {v:AB} (I:Inv X pins σ H s) (r:RelV x v) (ty:tyV X.K T x H) :
  s.TypeIs v T/\∀a,v=.ref a->∃ob,s.heap.get? a=some ob/\ob.dict=none:=by
 cases x with
 | str z=>
  obtain ⟨t,rfl⟩:=r;cases (show T = "str" from ty);exact ⟨typeIs_str s z t,λ_ e=>nomatch e⟩
 | int i=>
  obtain ⟨t,rfl⟩:=r;cases (show T = "int" from ty);exact ⟨typeIs_int s i t,λ_ e=>nomatch e⟩
 | ref p=>
  cases r
  rcases ty with ⟨rfl,xs,hq⟩ | ⟨rfl,o,hk,hc,hd⟩ | ⟨rfl,hk⟩ | ⟨rfl,S,n,hk⟩
  ·obtain ⟨its,_,pl,_⟩:=I.list hq
   refine ⟨pl.isList.typeIs,λa e=>?_⟩;cases e;obtain ⟨o,n,e,c,hd,_⟩:=pl;exact ⟨o,e,hd⟩
  ·refine ⟨⟨o,I.kIn p o hk,hc⟩,λa e=>?_⟩
   cases e;exact ⟨o,I.kIn _ o hk,hd⟩
  ·have z:∃o,s.heap.get? p=some o/\o.ExactDict:=by
    rcases hk with ⟨kvs,hk⟩ | ⟨kvs,hk⟩
    ·obtain ⟨_,_,_,_,o,_,_,e,ex,_⟩:=I.hok p _ hk
     exact ⟨o,e,ex⟩
    ·obtain ⟨_,_,_,_,o,_,_,e,ex,_⟩:=I.hok p _ hk
     exact ⟨o,e,ex⟩
   obtain ⟨o,e,ex⟩:=z;refine ⟨⟨o,e,ex.1⟩,λa e2=>?_⟩;cases e2;exact ⟨o,e,ex.2.1⟩
  ·obtain ⟨o,_,_,_,e,ex,_⟩:=I.hok p _ hk
   refine ⟨⟨o,e,ex.1⟩,λa e2=>?_⟩;cases e2;exact ⟨o,e,ex.2.1⟩
 | _=>exact Dk ty
def tBM0 (K:AC) (T:String) (r:V->List V->Hp->VK->Prop) (to:TE):TE:=λσ H Q=>to σ H λx H1=>tyV K T x H1/\r x [] H1 Q
def tBM (K:AC) (T:String) (r:V->List V->Hp->VK->Prop) (to:TE) (t:TA):TE:=λσ H Q=>to σ H λx H1=>tyV K T x H1/\t σ H1 λxs H2=>r x xs H2 Q
variable {o e:Expr} {es:List Expr} {to:TE} {t:TA} {name:Str} {apos cpos:Pos} {T id:String} {r:V->List V->Hp->VK->Prop}
theorem ii (pa:PlainAttrs T) (slot:Slot T name id) (hty:typeOf (.builtin id)=pure (.type "method_descriptor")) (hm:MtR X id r) (ho:PE X o to)
  (hbase:DS o name X.env (Bg o X.env)=Bg o X.env:=by rfl) (hline:(apos.endLine==cpos.line)=true:=by rfl):PE X (.Call (.Attribute o name apos) [] [] cpos) (tBM0 X.K T r to):=by
 intro pins s σ H Q I h;refine wpAny_Call_method0_late hbase hline (thn (ho pins s σ H _ I h) λv s1 ⟨x,H1,I1,r1,ty,q1⟩=>?_);obtain ⟨h1,h2⟩:=ZV I1 r1 ty;exact ⟨T,id,pa,slot,hty,h1,h2,TW rfl (PySem.evalArgs_none (hm pins s1 σ H1 x [] v [] Q I1 r1 .nil q1))⟩
theorem Wh (pa:PlainAttrs T) (slot:Slot T name id) (hty:typeOf (.builtin id)=pure (.type "method_descriptor")) (hm:MtR X id r) (ho:PE X o to) (ha:PA X (e :: es) t)
  (hbase:DS o name X.env (Bg o X.env)=Bg o X.env:=by rfl)
  (hfew:((C1 cpos (AU (e :: es) X.env)).all (λx=>!x.1)&&(Us cpos (Mu [] X.env)).all (λx=>x.1.isSome)
    &&decide ((e :: es).length+([]:List Ib).length+(if ([]:List Ib).isEmpty then 0 else 1) < 30))=true:=by rfl)
  (hline:(apos.endLine==cpos.line)=true:=by rfl) (hs:AU (e :: es) X.env=(false,Bg e X.env) :: AU es X.env:=by rfl) (hplain:(C1 cpos (AU es X.env)).any (·.1)=false:=by rfl) :
  PE X (.Call (.Attribute o name apos) (e :: es) [] cpos) (tBM X.K T r to t):=by
 intro pins s σ H Q I h;refine wpAny_Call_method_late hbase hfew hline rfl (thn (ho pins s σ H _ I h) λv s1 ⟨x,H1,I1,r1,ty,q1⟩=>?_);obtain ⟨h1,h2⟩:=ZV I1 r1 ty;refine ⟨T,id,pa,slot,hty,h1,h2,?_⟩;have hA:=ha cpos pins s1 σ H1 _ I1 q1;rw [hs] at hA ⊢;refine TW (by show (false||(C1 cpos (AU es X.env)).any (·.1))=false;rw [hplain] <;> rfl) (U5 ?_)
 exact thn hA λus s2 ⟨vs,H2,I2,r2,q2⟩=>hm pins s2 σ H2 x vs v us Q I2 r1 r2 q2
def MtM (X:Cx) (id:String) (r:V->List V->Hp->VK->Prop):Prop:=
 ∀(pins:List (AI×Obj)) (s:AE) (σ:St) (H:Hp) (x:V) (xs:List V) (v:AB) (us:List AB) (Q:VK),Inv X pins σ H s->RelV x v->BL xs us->r x xs H Q ->
  AZ (AR X.prog X.w) X.A (call (.builtin id) (v :: us)) (EP X pins σ Q) X.xe s
theorem BL.one:∀ {x:V} {us:List AB},BL [x] us->∃u,us=[u]/\RelV x u
 | _,_,.cons r .nil=>⟨_,rfl,r⟩
theorem BL.zero:∀ {us:List AB},BL [] us->us=[]
 | _,.nil=>rfl
theorem BL.eraseIdx:∀ {xs:List V} {us:List AB} (i:Nat),BL xs us->BL (xs.eraseIdx i) (us.eraseIdx i)
 | _,_,_,.nil=>.nil
 | _,_,0,.cons _ t=>t
 | _,_,i+1,.cons r t=>.cons r (BL.eraseIdx i t)
theorem BL.reverse {xs:List V} {us:List AB} (h:BL xs us):BL xs.reverse us.reverse:=by
 induction h with
 | nil=>exact .nil
 | cons r t ih=>rw [IY,IY];exact BL.append ih (.cons r .nil)
theorem RD {α:Type}:∀(l:List α) (i:Nat),(l.eraseIdx i).length<=l.length
 | [],_=>AM _
 | _ :: _,0=>EC _
 | _ :: r,i+1=>Nat.succ_le_succ (RD r i)
section
variable {X:Cx} {pins:List (AI×Obj)} {σ:St} {H:Hp} {s:AE} {a:AI} {y v:V} {u r:AB} {o:Option V} {A:Ay} {E:AB->AE->Prop}
theorem Inv.big (I:Inv X pins σ H s):Ea < s.heap.objs.size:=by
 have h:Aj < s.heap.objs.size:=(I.mod.glob.keeps I.bk).lt;exact U0 (by decide) h
theorem YR {Q:AB->AE->Prop} (hu:A.units+1 < DL) (I:Inv X pins σ H s) (g:Ml H a y (some v)) (ry:RelV y u) (h:∀w' s',Inv X pins σ H s'->RelV v w'->Q w' s') :
  AZ (AR X.prog X.w) A (Jy (.ref a) u) Q E s:=by
 rcases g with ⟨kvs,k,e,ey,l⟩ | ⟨kvs,k,b,e,ey,eb,l⟩
 ·subst ey
  obtain ⟨z,hd,vs,rel,dd⟩:=UR I.hok e;obtain ⟨w',hw,rw'⟩:=NI.some_of (v:=v) (o:=P2 vs k) (by rw [l];exact rel.val k);exact wpAny_getItem_of (UH ry) dd.mapOf hw (h w' _ (I.tok _) rw')
 ·subst ey
  cases (show u=Av b from ry);obtain ⟨z,hd,xs,rel,dd⟩:=UQ I.hok e;obtain ⟨w',hw,rw'⟩:=NI.some_of (v:=v) (o:=(Ut xs k).map (·.2)) (by rw [l];exact rel.val k);obtain ⟨p,hp,hp2⟩:=Option.map_eq_some_iff.mp hw;refine wpAny_getItem_heap (Iz hu) (PZ I.hok eb) dd hp ?_;rw [hp2];exact h w' _ (I.tok _) rw'
theorem d_in {Q:AB->AE->Prop} (hu:A.units+1 < DL) (I:Inv X pins σ H s) (g:Ml H a y o) (ry:RelV y u) (h:∀s',Inv X pins σ H s'->Q (.bool o.isSome) s') :
  AZ (AR X.prog X.w) A (Bb .In u (.ref a)) Q E s:=by
 rcases g with ⟨kvs,k,e,ey,l⟩ | ⟨kvs,k,b,e,ey,eb,l⟩
 ·subst ey
  obtain ⟨z,hd,vs,rel,dd⟩:=UR I.hok e;refine wpAny_in_of (UH ry) hd dd.mapOf ?_;rw [<-(rel.val k).isSome_eq,<-l];exact h _ (I.tok _)
 ·subst ey
  cases (show u=Av b from ry);obtain ⟨z,hd,xs,rel,dd⟩:=UQ I.hok e;refine wpAny_in_heap (Iz hu) (PZ I.hok eb) hd dd ?_;have q:=(rel.val k).isSome_eq;rw [Mo] at q;rw [<-q,<-l];exact h _ (I.tok _)
theorem fA {Q:AB->AE->Prop} (hu:A.units+1 < DL) (I:Inv X pins σ H s) (g:Ml H a y o) (ry:RelV y u) (h:∀s',Inv X pins σ H s'->Q (.bool (!o.isSome)) s') :
  AZ (AR X.prog X.w) A (Bb .NotIn u (.ref a)) Q E s:=by
 rcases g with ⟨kvs,k,e,ey,l⟩ | ⟨kvs,k,b,e,ey,eb,l⟩
 ·subst ey
  obtain ⟨z,hd,vs,rel,dd⟩:=UR I.hok e;refine wpAny_notIn_of (UH ry) hd dd.mapOf ?_;rw [<-(rel.val k).isSome_eq,<-l];exact h _ (I.tok _)
 ·subst ey
  cases (show u=Av b from ry);obtain ⟨z,hd,xs,rel,dd⟩:=UQ I.hok e;refine wpAny_notIn_heap (Iz hu) (PZ I.hok eb) hd dd ?_;have q:=(rel.val k).isSome_eq;rw [Mo] at q;rw [<-q,<-l];exact h _ (I.tok _)
theorem W5 {h':BP} {t':Nat} {ob:HO} (I:Inv X pins σ H s) (mu:Mut (H a)) (hs:CK a s.heap h') (he:∃q,h'.get? a=some q) (new:Ca X.prog X.w (upd H a ob) h' a ob) :
  Inv X pins σ (upd H a ob) { s with heap:=h',toks:=t' }:=
 I.write (x:=a) (e:=a) mu (.inl rfl) (λb q hb z=>(hs.2 b hb).trans z) he new
theorem jW {P:Al} {w:A2} {H':Hp} {h':BP} {kvs:List (Key×V)} {vs:List (Key×AB)} (z:kvs.length<=sizeLine) (hd:(a==Ea)=false) (rel:KV kvs vs) (dd:h'.DictOf (EN P w) a vs) :
  Ca P w H' h' a (.dK kvs):=⟨z,hd,vs,rel,dd⟩
theorem YQ {H':Hp} {Q:Unit->AE->Prop} (hu:A.units+1 < DL) (I:Inv X pins σ H s) (g:Ub H a y v H') (ry:RelV y u) (rv:RelV v r) (h:∀s',Inv X pins σ H' s'->Q () s') :
  AZ (AR X.prog X.w) A (jm (.ref a) u r) Q E s:=by
 rcases g with ⟨kvs,k,e,ey,l,eH⟩ | ⟨kvs,k,b,e,ey,eb,l,eH⟩
 ·subst ey eH
  obtain ⟨z,hd,vs,rel,dd⟩:=lh I.hok e
  have hz:vs.length<=sizeLine:=by rw [<-rel.length];exact z
  have hl:(Jt kvs k v).length<=sizeLine:=by have:=Ni kvs k v;lia
  refine wpAny_setItem_pairs (hsz:=hz) (UH ry) dd λh' dd' hs=>h _ ?_
  have he:∃q,h'.get? a=some q:=let ⟨q,_,_,hq,_⟩:=dd';⟨q,hq⟩
  exact W5 I (by rw [e];exact EB) hs he (jW hl hd (rel.put k rv) dd')
 ·subst ey eH
  cases (show u=Av b from ry);obtain ⟨z,hd,xs,rel,dd⟩:=lg I.hok e
  have hz:xs.length<=sizeLine:=by rw [<-FG rel];exact z
  have hl:(Jt kvs k v).length<=sizeLine:=by have:=Ni kvs k v;lia
  refine wpAny_setItem_heap (hsz:=hz) (Iz hu) (PZ I.hok eb) dd λh' dd' hs=>h _ ?_
  obtain ⟨q,es,ep,hq,h2,h3,h4,_,h5⟩:=dd';refine W5 I (by rw [e];exact EB) hs ⟨q,hq⟩ ⟨hl,hd,_,(rel.put k eb rv).keeps λc ys ec=>?_,q,es,ep,hq,h2,h3,h4,h5⟩;rw [Bm (lK ec e (λz=>nomatch z))];exact ec
variable {X:Cx} {pins:List (AI×Obj)} {σ:St} {H:Hp} {s:AE} {l b:AI} {xs ys zs:List V}
theorem Inv.lset {its its':List AB} {n:Nat} {f:Array AB->Array AB} {t':Nat} (I:Inv X pins σ H s) (hH:H l=some (.lst xs))
  (e:s.heap.get? l=some { cls:=.type "list",data:=.seq its.toArray n }) (hf:f its.toArray=its'.toArray) (hv:BL ys its') (hz:ys.length<=sizeLine) :
  Inv X pins σ (upd H l (.lst ys)) { s with heap:=s.heap.update l (DO f),toks:=t' }:=by
 have q:=PySem.IsL.update e f;rw [hf] at q;refine I.write (x:=l) (e:=l) (by rw [hH];exact trivial) (.inl rfl) (λb' u hb hu=>(Ba s.heap (DO f) (Bl hb)).trans hu) ⟨_,q⟩ ?_;exact ⟨hz,its',_,hv,q⟩
theorem Inv.lnew {its:List AB} {t':Nat} (I:Inv X pins σ H s) (hv:BL ys its) (hz:ys.length<=sizeLine) :
  Inv X pins σ (upd H s.heap.objs.size (.lst ys)) { s with heap:=s.heap.push { cls:=.type "list",data:=.seq its.toArray },toks:=t' }:=
 I.laid (λ_ _ q=>AF _ q) (AM _) ⟨hz,its,0,hv,AV _ rfl⟩
theorem Inv.fresh (I:Inv X pins σ H s):H s.heap.objs.size=none:=I.hok.fresh (AM _)
theorem Inv.lstM (I:Inv X pins σ H s) (hH:H l=some (.lst xs)):xs.length<=sizeLine/\∃(its:List AB) (n:Nat),BL xs its/\xs.length=its.length/\s.heap.get? l=some { cls:=.type "list",data:=.seq its.toArray n }:=by
 obtain ⟨z,its,n,r,e⟩:=I.hok l _ hH;exact ⟨z,its,n,r,r.length,e⟩
theorem T4 {n:Nat} (h:n<=sizeLine):DM n=false:=by
 unfold DM;exact wY (by lia)
end
section
variable {X:Cx} {pins:List (AI×Obj)} {σ:St} {H:Hp} {s:AE} {a:AI} {kvs:List (Key×V)} {k:Key} {u:AB} {A:Ay} {E:AB->AE->Prop}
end
def je (i:Expr):Prop:=∀ov iv,Sy i false ov iv=operate [ov,iv] (Jy ov iv)
theorem c8 {prog:Al} {w:A2} {A:Ay} {E:AB->AE->Prop} {s:AE} {env:Env} {value slice:Expr} {pos:Pos} {T id:String} {Q:AB->AE->Prop}
  (hl:typeLookup (.type T) "__getitem__" = pure (some (.builtin id))) (hs:je slice)
  (h:AZ (AR prog w) A (Bg value env) (λo s₁=>AZ (AR prog w) A (Bg slice env) (λi s₂=>s₂.TypeIs o T/\AZ (AR prog w) A (Jy o i) Q E s₂) E s₁) E s) :
  AZ (AR prog w) A (Bg (.Subscript value slice pos) env) Q E s:=by
 refine Uw (FI h (λo s₁ h₁=>FI h₁ (λi s₂ h₂=>?_) λ_ _ x=>x) λ_ _ x=>x);obtain ⟨hT,h₂⟩:=h₂;unfold N8;refine AA ?_;rw [getitemInPython_of_ne hT.not_modules];refine AA (ls hT hl ?_)
 have fin:AZ (AR prog w) A (Sy slice false o i) (λr s₃=>AZ (AR prog w) A (letTemporaryGo value o r >>= λ_=>pure r) Q E s₃) E s₂:=by
  rw [hs o i];exact wpAny_operating (FI h₂ (λr s₃ h₃=>AA (wpAny_letTemporaryGo (AD h₃))) λ_ _ x=>x)
 first
  | exact AD (AA fin)
  | exact AA (AD (AA fin))
  | exact AA fin
theorem US {X:Cx} {pins:List (AI×Obj)} {σ:St} {H:Hp} {s:AE} {a:AI} {y:V} {o:Option V} (I:Inv X pins σ H s) (g:Ml H a y o):s.TypeIs (.ref a) "dict":=by
 rcases g with ⟨kvs,k,e,_,_⟩ | ⟨kvs,k,b,e,_,_,_⟩
 ·obtain ⟨_,_,vs,_,dd⟩:=UR I.hok e
  exact dd.typeIs
 ·obtain ⟨_,_,xs,_,dd⟩:=UQ I.hok e
  exact dd.typeIs
def kX (td ty:TE):TE:=λσ H Q=>td σ H λx H1=>ty σ H1 λy H2=>∃a v,x=.ref a/\Ml H2 a y (some v)/\Q v H2
def kW (ty td:TE):TE:=λσ H Q=>ty σ H λy H1=>td σ H1 λx H2=>∃a o,x=.ref a/\Ml H2 a y o/\Q (.bl o.isSome) H2
def WX (ty td:TE):TE:=λσ H Q=>ty σ H λy H1=>td σ H1 λx H2=>∃a o,x=.ref a/\Ml H2 a y o/\Q (.bl (!o.isSome)) H2
def kd (td ty tv:TE):TS:=λD σ H=>tv σ H λv H1=>td σ H1 λx H2=>ty σ H2 λy H3=>∃a H4,x=.ref a/\Ub H3 a y v H4/\D.nx σ H4
variable {X:Cx}
def dI:V->List V->Hp->VK->Prop:=λx vs H Q=>∃l xs y,x=.ref l/\vs=[y]/\H l=some (.lst xs)/\xs.length < sizeLine/\Q .non (upd H l (.lst (xs++[y])))
theorem RA:MtM X "list.append" dI:=by
 intro pins s σ H x vs v us Q I rx rv h;obtain ⟨l,xs,y,rfl,rfl,hH,hz,q⟩:=h;cases rx;obtain ⟨u,rfl,ru⟩:=rv.one;obtain ⟨z,its,n,r,hl,e⟩:=I.lstM hH;refine LR F.slot_list_append ⟨_,e,rfl⟩ F.entry_list_append (F.args_list_append_2 _ _) (PySem.list_append l its.toArray n u (by rw [AT];lia)) ⟨e,?_⟩;refine ⟨.non,_,I.lset (its':=its++[u]) hH e (by simp) (r.append (.cons ru .nil)) ?_,rfl,q⟩;rw [Af,Bi]
 lia
def dH:V->List V->Hp->VK->Prop:=λx vs H Q=>∃l b xs zs,x=.ref l/\vs=[.ref b]/\H l=some (.lst xs)/\H b=some (.lst zs)/\xs.length+zs.length<=sizeLine/\Q .non (upd H l (.lst (xs++zs)))
theorem Xx:MtM X "list.extend" dH:=by
 intro pins s σ H x vs v us Q I rx rv h;obtain ⟨l,b,xs,zs,rfl,rfl,hH,hB,hz,q⟩:=h;cases rx;obtain ⟨u,rfl,ru⟩:=rv.one;cases ru;obtain ⟨z,its,n,r,hl,e⟩:=I.lstM hH;obtain ⟨z2,its2,n2,r2,hl2,e2⟩:=I.lstM hB
 have hsz:its.toArray.size+its2.toArray.size<=sizeLine:=by rw [AT,AT];lia
 have hlong:¬(!its.toArray.isEmpty&&DM (its.toArray.size+its2.toArray.size))=true:=by
  rw [T4 hsz,Qm];exact AO
 refine LR cN ⟨_,e,rfl⟩ bw (ZA _ _)
  (AutoSeq1.list_extend_list_list_0 l its.toArray n b its2.toArray n2 hlong (by rw [AT];lia) (by lia)) ⟨e,e2,?_⟩
 refine ⟨.non,_,I.lset (its':=its++its2) hH e (by simp) (r.append r2) ?_,rfl,q⟩;rw [Af];omega
def iH:V->List V->Hp->VK->Prop:=λx vs H Q=>∃l xs i k y,x=.ref l/\vs=[.int i]/\H l=some (.lst xs)/\-(2 ^ 63)<=i/\i < 2 ^ 63/\j6 i xs.length=some k/\xs[k]?=some y/\Q y (upd H l (.lst (xs.eraseIdx k)))
theorem aM:MtM X "list.pop" iH:=by
 intro pins s σ H x vs v us Q I rx rv h;obtain ⟨l,xs,i,k,y,rfl,rfl,hH,h1,h2,hk,hy,q⟩:=h;cases rx;obtain ⟨u,rfl,ru⟩:=rv.one;obtain ⟨t,rfl⟩:=ru;obtain ⟨z,its,n,r,hl,e⟩:=I.lstM hH;obtain ⟨w,hw,rw'⟩:=r.get hy
 refine LR F.slot_list_pop ⟨_,e,rfl⟩ F.entry_list_pop (F.args_list_pop_2 _ _)
  (MeetsSeq.list_pop_at l its.toArray n i t k w (fitsIndex_both h1 h2) (by rw [AT,<-hl];exact hk) (by rw [<-DN];exact hw) (by rw [AT];lia)) ⟨e,?_⟩
 refine ⟨y,_,I.lset (its':=its.eraseIdx k) hH e ?_ (r.eraseIdx k) ?_,rw',q⟩
 ·show its.toArray.eraseIdxIfInBounds k=(its.eraseIdx k).toArray
  rw [List.eraseIdxIfInBounds_toArray]
 ·have:=RD xs k
  lia
def Z1:V->List V->Hp->VK->Prop:=λx vs H Q=>∃l xs,x=.ref l/\vs=[]/\H l=some (.lst xs)/\Q .non (upd H l (.lst xs.reverse))
theorem Vg:MtM X "list.reverse" Z1:=by
 intro pins s σ H x vs v us Q I rx rv h;obtain ⟨l,xs,rfl,rfl,hH,q⟩:=h;cases rx;have hus:=rv.zero;subst hus;obtain ⟨z,its,n,r,hl,e⟩:=I.lstM hH;refine LR F.slot_list_reverse ⟨_,e,rfl⟩ F.entry_list_reverse (F.args_list_reverse_1 _) (AutoSeq1.list_reverse_list_0 l its.toArray n (by rw [AT];lia)) ⟨e,?_⟩;refine ⟨.non,_,I.lset (its':=its.reverse) hH e (by simp) r.reverse ?_,rfl,q⟩;rw [XQ];omega
def rCat:R2:=λx y H Q=>∃l b xs zs,x=.ref l/\y=.ref b/\H l=some (.lst xs)/\H b=some (.lst zs)/\xs.length+zs.length<=sizeLine/\∀p,H p=none->Q (.ref p) (upd H p (.lst (xs++zs)))
theorem iq:OpR X (Eo .Add) rCat:=by
 intro pins s σ H x y v u Q I rx ry h;obtain ⟨l,b,xs,zs,rfl,rfl,hH,hB,hz,q⟩:=h;cases rx;cases ry;obtain ⟨z,its,n,r,hl,e⟩:=I.lstM hH;obtain ⟨z2,its2,n2,r2,hl2,e2⟩:=I.lstM hB;refine PySem.P.add_list e e2 ?_ (by rw [AT,AT];lia)
 have ea:its.toArray++its2.toArray=(its++its2).toArray:=by simp
 rw [ea];exact ⟨.ref _,_,I.lnew (t':=s.toks) (r.append r2) (by rw [Af];omega),rfl,q _ I.fresh⟩
section
variable {X:Cx} {o i e value:Expr} {pos pos' tpos:Pos} {td ty tv:TE}
theorem df (hu:X.A.units+1 < DL) (ho:PE X o td) (hi:PE X i ty) (hs:je i):PE X (.Subscript o i pos) (kX td ty):=by
 intro pins s σ H Q I h;refine c8 PySem.F.slot_dict_getitem.lookup hs (thn (ho pins s σ H _ I h) λu s1 ⟨x,H1,I1,rx,q1⟩=>thn (hi pins s1 σ H1 _ I1 q1) λiv s2 ⟨y,H2,I2,ry,a,v,ex,g,q2⟩=>?_);subst ex;obtain rfl:u=Av a:=rx;exact ⟨US I2 g,YR hu I2 g ry λw' s3 I3 rw'=>⟨v,H2,I3,rw',q2⟩⟩
theorem aD (hu:X.A.units+1 < DL) (hi:PE X i ty) (ho:PE X o td):PC X .In i o (kW ty td):=by
 intro pins s σ H Q I h
 refine thn (hi pins s σ H _ I h) λiv s1 ⟨y,H1,I1,ry,q1⟩=>thn (ho pins s1 σ H1 _ I1 q1) λu s2 ⟨x,H2,I2,rx,a,ov,ex,g,q2⟩=>?_
 subst ex;obtain rfl:u=Av a:=rx
 exact d_in hu I2 g ry λs3 I3=>⟨.bl ov.isSome,H2,I3,rfl,q2⟩
theorem Q8 (hu:X.A.units+1 < DL) (hi:PE X i ty) (ho:PE X o td):PC X .NotIn i o (WX ty td):=by
 intro pins s σ H Q I h
 refine thn (hi pins s σ H _ I h) λiv s1 ⟨y,H1,I1,ry,q1⟩=>thn (ho pins s1 σ H1 _ I1 q1) λu s2 ⟨x,H2,I2,rx,a,ov,ex,g,q2⟩=>?_
 subst ex;obtain rfl:u=Av a:=rx
 exact fA hu I2 g ry λs3 I3=>⟨.bl (!ov.isSome),H2,I3,rfl,q2⟩
theorem dP (hu:X.A.units+1 < DL) (ho:PE X o td) (hi:PE X i ty) (hv:PE X value tv) (hs:FZ value (some (.Subscript o i pos')) pos.line X.env=pure false) :
  PS X (.Assign [.Subscript o i pos'] value pos) (kd td ty tv):=by
 intro pins s σ H D I h;refine wpAny_Assign_Subscript (thn (hv pins s σ H _ I h) λr s1 ⟨v,H1,I1,rv,q1⟩=>thn (ho pins s1 σ H1 _ I1 q1) λu s2 ⟨x,H2,I2,rx,q2⟩=>thn (hi pins s2 σ H2 _ I2 q2) λiv s3 ⟨y,H3,I3,ry,a,H4,ex,g,q3⟩=>?_) hs;subst ex;obtain rfl:u=Av a:=rx
 exact YQ hu I3 g ry rv λs4 I4=>⟨σ,H4,I4,q3⟩
end
theorem bT {P:Al} {w:A2} {H:Hp} (h:BP) (hb:Ea < h.objs.size):Ca P w H (h.push { cls:=.type "dict",data:=.dict #[] }) h.objs.size (.dT []):=
 ⟨CP _,beq_eq_false_iff_ne.mpr (Bl (Ad hb)),[],.nil,_,#[],0,AV _ rfl,⟨rfl,rfl,rfl⟩,rfl,rfl,Qg⟩
def hU:TE:=λ_ H Q=>∀p,H p=none->Q (.ref p) (upd H p (.dT []))
variable {prog:Al} {w:A2} {A:Ay} {E:AB->AE->Prop} {s:AE}
section
variable {X:Cx} {pos:Pos}
theorem aB:PE X (.Dict [] [] pos) hU:=λpins s σ H Q I h=>
 wpAny_Dict_empty ⟨.ref s.heap.objs.size,_,I.laid (a:=s.heap.objs.size) (o:=.dT []) (t':=s.toks) (λ_ _ q=>AF _ q) (AM _) (bT s.heap I.big),rfl,h _ (I.hok.fresh (AM _))⟩
end
section
variable {X:Cx} {pins:List (AI×Obj)} {σ:St} {H:Hp} {s:AE} {a:AI} {y d:V} {u r:AB} {o:Option V} {A:Ay} {E:AB->AE->Prop}
end
section
variable {X:Cx} {o e f:Expr} {apos cpos:Pos} {td ty tx:TE}
end
section
variable {X:Cx} {pins:List (AI×Obj)} {σ:St} {H:Hp} {s:AE} {a:AI} {kvs:List (Key×V)} {A:Ay} {E:AB->AE->Prop}
end
section
variable {X:Cx} {pins:List (AI×Obj)} {σ:St} {H:Hp} {s:AE} {a:AI} {y:V} {u:AB} {A:Ay} {E:AB->AE->Prop}
variable {X:Cx}
end
end L2
namespace Att
open PySem PySem.W PySem.Calls PyProof.Rows
theorem N4 {P:Params} {h:BP}:∀(ns:List Int) (vs:List AB),WellAll P h vs (ns.map lw)->IntsAre vs ns:=by
 intro ns
 induction ns with
 | nil=>
  intro vs w;rw [NR] at w;cases w;exact .nil
 | cons n ns ih=>
  intro vs w;rw [An] at w
  cases w with
  | cons a b=>
   cases a;exact .cons _ _ (ih _ b)
theorem Xj {l:OpenLaw} {n:Nat} (hn:l.most=some n) {P:Params} {h:BP} {args:List WData} {vals:List AB}
  (hpre:l.row.toRowW.claim.pre args=true) (hwl:WellAll P h vals args) :
  ∃a vs ns,vals=[Av a]/\args=[WData.list (ns.map lw)]/\h.get? a=some { cls:=.type "list",data:=.seq vs.toArray }/\IntsAre vs ns/\ns.length<=n:=by
 have hsh:WShape.hasAll [] args [.list .int]=true:=(pre_splitW hpre).1;have hc:l.pre.holds [] { args:=args }=true:=(pre_splitW hpre).2;obtain ⟨d,r,rfl,h1,h2⟩:=hasAllW_cons hsh;obtain rfl:=hasAllW_nil h2;obtain ⟨xs,rfl,h3⟩:=hasW_list h1;obtain ⟨ns,rfl⟩:=items_int h3
 have hlen:ns.length<=n:=by
  unfold OpenLaw.pre at hc
  have h4:(WTm.not (.lt (.lit (.int (n:Int))) (.len (.arg 0)))).holds [] { args:=[.list (ns.map .int)] }=true:=by
   have h4:=(holds_andW hc).1;rw [hn] at h4;exact h4
  have h5:=condW_of h4 (w_not (w_lt w_lit (w_len_list (w_arg rfl))));rw [AJ] at h5
  refine OZ λq=>?_
  have q':(n:Int) < ((ns.length:Nat):Int):=by omega
  first
   | (rw [wX q'] at h5;exact zX h5 (by decide))
   | (simp at h5;omega)
 cases hwl with
 | cons w1 w2=>
  cases w2
  cases w1 with
  | list ho hall=>exact ⟨_,_,ns,rfl,rfl,ho,N4 ns _ hall,hlen⟩
theorem Xl (l:OpenLaw) (args:List WData):l.row.toRowW.claim.post args (.bool true) args=true:=
 postW_of (r:=l.row.toRowW) (X:=(true==true))
  (show jp [] (.bool true) .bool=true by first | rfl | decide | simp [jp,WShape.arms,WShape.armsAll])
  (show (WTm.eq .res (.lit (.bool true))).value [] { args:=args,res:=some (.bool true),after:=args }=some (.bool (true==true)) from w_eq_bool (w_res rfl) w_lit) rfl
theorem UW {l:OpenLaw} {n:Nat} {q:Al} {loose:List Str} {XP:(Str->Option AB)->BP->Prop} {YP:A2->BP->Prop} {d:DefRec}
  (hn:l.most=some n) (hdf:d.params.defaults=[])
  (call:∀(w:A2) (s₀ s₁:AE) (mg mb:Str->Option AB) (fa:AI) (o:Obj) (pm cd doc:AB) (a:AI) (vs:List AB) (ns:List Int),
   Ground q loose [] XP w s₀ mg mb s₁.heap->YP w s₁.heap ->
   s₁.heap.get? fa=some o->o.data=.func (docDef d.name d.params d.body d.scope pm cd doc)->s₁.heap.CodeRec cd d.name->mg d.name=some (.ref fa) ->
   s₁.heap.get? a=some { cls:=.type "list",data:=.seq vs.toArray }->IntsAre vs ns->ns.length<=n->s₁.gens = #[] ->
   G7 (AR l.prog w) P7 (.call (.ref fa) ⟨[.ref a],[]⟩) (λr s'=>r=.ok (.ret (.bool true))/\OldK s₁.heap s'.heap/\s'.os=s₁.os/\Ht s'.gens) s₁) :
  WalkO q loose XP YP l.row.toRowW d [] (λf vs=>XJ f vs):=by
 intro w s₀ s₁ mg mb G Y fa o pm cd doc dV kV ho hd hcd hD hmg hg args vals as hpre hlay hrd hwl hlo;obtain rfl:dV=.none:=Dflts.none hD hdf;obtain rfl:kV=.none:=Dflts.noKw hD;obtain ⟨a,vs,ns,rfl,rfl,hobj,hints,hlen⟩:=Xj hn hpre hwl;refine enter_call (Eb (call w s₀ s₁ mg mb fa o pm cd doc a vs ns G Y ho (fd_plain hd) hcd hmg hobj hints hlen hg) λr s' hq=>?_);obtain ⟨rfl,h2,h3,h4⟩:=hq;exact ⟨.inl ⟨.bool true,.bool true,[],rfl,λ_=>rfl,.bool true,Xl l _,λ_=>⟨HG,λ_ hm=>(nomatch hm)⟩⟩,h2,h3,h4⟩
section
variable {prog:Al} {w:A2} {A:Ay} {E:AB->AE->Prop} {s:AE} {K:Frag}
end
end Att
namespace L2
open PySem PySem.Spec PyProof.Rows
theorem Qq:∀ {vs:List AB} {ns:List Int},IntsAre vs ns->BL (ns.map V.int) vs
 | _,_,.nil=>.nil
 | _,_,.cons n t h=>.cons ⟨t,rfl⟩ (Qq h)
def fU (H:Hp):Prop:=∀b,H b=none∨∃o xs,H b=some (.frz o (.lst xs))
theorem aa {P:Al} {w:A2} {K:AC} {mg mb:Str->Option AB} {CX:CXT} {k:Nat} {fa a:AI} {fd:De} {x:Str} {sp:Sp} {s₁:AE} {vs:List AB} {ns:List Int}
  (KX:K.In s₁.heap) (hns:s₁.heap.Ns Aj mg) (hb:s₁.heap.Ns gX mb) (hbb:∀x:Str,x≠"__name__"->mb x=Ec x) (hlim:s₁.heap.NoLimit) (hg:s₁.gens = #[])
  (ha:s₁.heap.get? a=some { cls:=.type "list",data:=.seq vs.toArray }) (hi:IntsAre vs ns) (hl:ns.length<=sizeLine) (hr:HD k P7)
  (F:∀base:BP,K.In base->base.Ns Aj mg->Ek P w K mg base CX k fa fd [x] sp) (hbind:∀(s:AE) (u:AB),Uj s fd ⟨[u],[]⟩ [(x,u)])
  (hsp:∀H:Hp,fU H->SqL K H a (ns.map V.int)->sp [.ref a] H (λv _=>v=.bl true) λ_ _ _=>False)
  (hCX:∀H e s',CX [] H s₁ (λ_ _ _=>False) e s'->False) :
  G7 (AR P w) P7 (.call (.ref fa) ⟨[.ref a],[]⟩) (λr s'=>r=.ok (.ret (.bool true))/\OldK s₁.heap s'.heap/\s'.os=s₁.os/\Ht s'.gens) s₁:=by
 have rv:=Qq hi;have lenV:=hi.length
 have core:∀H:Hp,fU H->SqL K H a (ns.map V.int)->HOk P w H s₁.heap->(∀b,H b≠none->b=a)->(H a≠none->K.lookup a=none) ->
   G7 (AR P w) P7 (.call (.ref fa) ⟨[.ref a],[]⟩) (λr s'=>r=.ok (.ret (.bool true))/\OldK s₁.heap s'.heap/\s'.os=s₁.os/\Ht s'.gens) s₁:=by
  intro H hO hS hok hA hK
  have base_of:∀ {b:AI} {o:Obj},s₁.heap.get? b=some o->H b=none->(SX s₁.heap H).get? b=some o:=λe n=>ap e n
  have noA:∀ {b:AI} {o:Obj} {es:Array NU} {ep:Nat},s₁.heap.get? b=some o->o.data=.dict es ep->H b=none:=λ{b o es ep} e d=>by
   cases q:H b with
   | none=>rfl
   | some u=>
    have e':b=a:=hA b (by rw [q];simp);subst e';rw [ha] at e;cases e;have d':Data.seq vs.toArray _=Data.dict es ep:=d;cases d'
  have nsK:∀ {b:AI} {m:Str->Option AB},s₁.heap.Ns b m->(SX s₁.heap H).Ns b m:=λ{b m} ⟨o,es,ep,e,d,r⟩=>⟨o,es,ep,base_of e (noA e d),d,r⟩
  have hKb:K.In (SX s₁.heap H):=λb o e=>base_of (KX b o e) (by
   cases q:H b with
   | none=>rfl
   | some u=>
    have e':b=a:=hA b (by rw [q];simp);subst e'
    rw [hK (by rw [q];simp)] at e;cases e)
  have hM:Mod K mg (SX s₁.heap H):=⟨hKb,nsK hns,⟨mb,nsK hb,hbb⟩,let ⟨mc,h1,h2⟩:=hlim;⟨mc,nsK h1,h2⟩⟩;have e0:WB P w K mg (SX s₁.heap H) P7 [] s₁ H:=⟨rfl,hM,λb o e=>dz e,J5 (YA _ _),trivial,λb hb=>zX (show b∈([]:List AI) from hb) (by simp),hok,.of_eq hg⟩
  refine Eb ((F _ hKb (nsK hns)).run P7 [] s₁ H ⟨[.ref a],[]⟩ [.ref a] [.ref a] _ _ hr e0 (hbind s₁ (.ref a)) (.cons rfl .nil) (hsp H hO hS)) λr s' h=>?_
  cases r with
  | error e=>exact (hCX H e s' h).elim
  | ok fl=>
   cases fl with
   | next=>exact Dk h
   | brk=>exact Dk h
   | cont=>exact Dk h
   | ret u=>
    obtain ⟨v,H',os,bare,un,hok',r',q⟩:=h;have q':v=.bl true:=q;subst q';obtain rfl:u=Jp true:=r';refine ⟨rfl,OldK.of_keep λb o e=>?_,os,bare⟩
    cases q:H b with
    | none=>exact un.keep b o e q (by intro z;exact zX (show b∈([]:List AI) from z) (by simp)) (by simp)
    | some u=>
     rcases hO b with z | ⟨ob,xs,z⟩
     ·rw [q] at z;cases z
     ·have z2:=un.frzs b ob _ z
      obtain ⟨e1,_⟩:=hok b _ z;obtain ⟨e2,_⟩:=hok' b _ z2;rw [e] at e1;cases e1;exact e2
 cases hk:K.lookup a with
 | some o=>
  have e:=KX a o hk;rw [ha] at e;cases e
  refine core (λ_=>none) (λ_=>.inl rfl) (.inr ⟨_,vs.toArray,_,hk,rfl,rfl,rfl,by rw [AT,lenV];exact hl,by simpa using rv⟩) (λb u z=>by have z':(none:Option HO)=some u:=z;cases z') (λb z=>zX rfl z) λz=>zX rfl z
 | none=>
  refine core (λb=>if b=a then some (.frz { cls:=.type "list",data:=.seq vs.toArray } (.lst (ns.map V.int))) else none) (λb=>?_) (.inl (.inr ⟨{ cls:=.type "list",data:=.seq vs.toArray },qX rfl⟩)) (λb u z=>?_) (λb z=>?_) λ_=>hk
  ·by_cases hb:b=a
   ·exact .inr ⟨_,_,qX hb⟩
   ·exact .inl (qY hb)
  ·by_cases hb:b=a
   ·have z':=(qX hb).symm.trans z
    cases z';subst hb;exact ⟨ha,by rw [AJ];exact hl,vs,_,rv,ha⟩
   ·have z':=(qY hb).symm.trans z
    cases z'
  ·by_cases hb:b=a
   ·exact hb
   ·exact zX (qY hb) z
theorem cW {l:PySem.W.OpenLaw} {n k:Nat} {q:Al} {loose:List Str} {XP:(Str->Option AB)->BP->Prop} {YP:A2->BP->Prop} {d:DefRec} {K:Params->AC} {CX:A2->CXT} {sp:A2->Sp} {x:Str}
  (hn:l.most=some n) (hn2:n<=sizeLine) (hdf:d.params.defaults=[]) (hr:HD k P7)
  (hY:∀(w:A2) (h:BP),YP w h->(K w.params).In h)
  (F:∀(w:A2) (mg:Str->Option AB) (fa:AI) (h:BP),(K w.params).In h->h.Ns Aj mg->mg d.name=some (.ref fa) ->
   ∃fd:De,(∀(s:AE) (u:AB),Uj s fd ⟨[u],[]⟩ [(x,u)]) /\
    ∀base:BP,(K w.params).In base->base.Ns Aj mg->Ek l.prog w (K w.params) mg base (CX w) k fa fd [x] (sp w))
  (hsp:∀(w:A2) (H:Hp) (a:AI) (ns:List Int),ns.length<=n->fU H->SqL (K w.params) H a (ns.map V.int)->sp w [.ref a] H (λv _=>v=.bl true) λ_ _ _=>False)
  (hCX:∀(w:A2) (H:Hp) (s:AE) (e:AB) (s':AE),CX w [] H s (λ_ _ _=>False) e s'->False) :
  PySem.W.WalkO q loose XP YP l.row.toRowW d [] (λf vs=>XJ f vs):=by
 refine Att.UW hn hdf λw s₀ s₁ mg mb fa o pm cd doc a vs ns G Y ho hd hcd hmg hobj hints hlen hg=>?_
 have KX:=hY w _ Y;obtain ⟨fd,hb,hF⟩:=F w mg fa _ KX G.T.g hmg
 exact aa KX G.T.g G.T.b G.T.builtins G.T.nolimit hg hobj hints (As hlen hn2) hr hF hb (λH hO hS=>hsp w H a ns hlen hO hS) λH e s'=>hCX w H s₁ e s'
def eR (s:C2) (j:Nat):C2:=match s with
 | .ClassDef _ _ _ body _ _ _ _ _ _ _=>body.getD j (.Pass ⟨0,0,0,0⟩)
 | _=>.Pass ⟨0,0,0,0⟩
def CW (s:C2):Arguments:=match s with
 | .FunctionDef _ a _ _ _ _ _ _ _ _=>a
 | _=>{ posonlyargs:=[],args:=[],vararg:=none,kwonlyargs:=[],kw_defaults:=[],kwarg:=none,defaults:=[] }
def CH (s:C2):List C2:=match s with
 | .FunctionDef _ _ b _ _ _ _ _ _ _=>b
 | _=>[]
def Au (s:C2):Hv:=match s with
 | .FunctionDef _ _ _ _ _ _ sc _ _ _=>sc
 | _=>{ kind:=.function,names:=[],isGenerator:=false,isCoroutine:=false }
structure Fun (K:AC) (x qual:Str) (st:C2) (f:AI) (fd:De):Prop where
 ex:∃(oc:AB) (od:Option AI) (kV doc pm:AB) (an:Option AI) (cdv ct:AB) (osl:Array (Option AB)),
  fd=HI x qual (CW st) (CH st) (Au st) .none kV doc pm an cdv ct/\K.lookup f=some ⟨oc,od,.func fd,osl⟩/\OX K cdv qual=true
 kp:Fg K (.ref f)=true
section
variable {P:Al} {w:A2} {K:AC} {mg:Str->Option AB} {base:BP}
theorem Fun.binds {x qual:Str} {st:C2} {f:AI} {fd:De} {ps:List Str} (F:Fun K x qual st f fd)
  (h:∀(kV doc pm:AB) (an:Option AI) (cdv ct:AB) (us:List AB),us.length=ps.length->bindArgs (HI x qual (CW st) (CH st) (Au st) .none kV doc pm an cdv ct) ⟨us,[]⟩=pure (ps.zip us)):Binds K fd ps []:=by
 obtain ⟨oc,od,kV,doc,pm,an,cdv,ct,osl,rfl,lk,hcd⟩:=F.ex;exact .all (h kV doc pm an cdv ct)
theorem D8 {x qual:Str} {st:C2} {f:AI} {oc:AB} {od an:Option AI} {osl:Array (Option AB)} {kV doc pm cdv ct:AB} (l:K.lookup f=some ⟨oc,od,.func (HI x qual (CW st) (CH st) (Au st) .none kV doc pm an cdv ct),osl⟩)
  (c:OX K cdv qual=true) (k:Fg K (.ref f)=true):Fun K x qual st f (HI x qual (CW st) (CH st) (Au st) .none kV doc pm an cdv ct):=⟨⟨oc,od,kV,doc,pm,an,cdv,ct,osl,rfl,l,c⟩,k⟩
end
section
variable {X:Cx}
theorem pv (i:Nat) {x:Str} {pos:Pos} (hN:X.N[i]?=some x:=by rfl) (hv:Vis X.env.scope x:=by first | exact WH rfl | exact S8 (WH rfl) | exact S8 (S8 rfl)) (hd:(x==("__debug__" : Str))=false:=by decide)
  (hcd:(x==("__classdict__" : Str))=false:=by decide):PE X (.Name x pos) (g9 i):=iV hN hv hd hcd
end
section
variable {κ:Type} [DecidableEq κ]
end
inductive D where
 | non | bl (b:Bool) | int (i:Int) | str (x:Str) | tup (ds:List D) | fro (ds:List D) | ref (n:Nat) | exc (C:AI)
def QZ (K:AC) (H:Hp) (a:AI) (vs:List V):Prop:=
 (∃o,H a=some (.frz o (.lst vs))) ∨
  ∃(o:Obj) (its:Array AB) (n:Nat),K.lookup a=some o/\o.cls=.type "list"/\o.dict=none/\o.data=.seq its n/\its.size<=sizeLine/\BL vs its.toList
theorem QZ.sq {K:AC} {H:Hp} {a:AI} {vs:List V} (h:QZ K H a vs):SqL K H a vs:=by
 rcases h with h | h
 ·exact .inl (.inr h)
 ·exact .inr h
def UZ (o:Obj) (C:AI):Prop:=o.cls=.ref C/\o.dict=none/\∃vs,o.data=.fields vs
mutual
inductive Bo (K:AC) (ρ:List AI) (H:Hp):D->V->Prop where
 | non:Bo K ρ H .non .non
 | bl (b:Bool):Bo K ρ H (.bl b) (.bl b)
 | int (i:Int):Bo K ρ H (.int i) (.int i)
 | str (x:Str):Bo K ρ H (.str x) (.str x)
 | tup {ds:List D} {a:AI} {vs:List V}:H a=some (.tup vs)->Ao K ρ H ds vs->Bo K ρ H (.tup ds) (.ref a)
 | fro {ds:List D} {a:AI} {vs:List V}:QZ K H a vs->Ao K ρ H ds vs->Bo K ρ H (.fro ds) (.ref a)
 | ref {n:Nat} {a:AI}:ρ[n]?=some a->Bo K ρ H (.ref n) (.ref a)
 | exc {C a:AI} {o:Obj} {u:HO}:H a=some (.frz o u)->UZ o C->Bo K ρ H (.exc C) (.ref a)
inductive Ao (K:AC) (ρ:List AI) (H:Hp):List D->List V->Prop where
 | nil:Ao K ρ H [] []
 | cons {d:D} {v:V} {ds:List D} {vs:List V}:Bo K ρ H d v->Ao K ρ H ds vs->Ao K ρ H (d :: ds) (v :: vs)
end
structure Le (K:AC) (ρ:List AI) (H:Hp) (ρ':List AI) (H':Hp):Prop where
 pre:∀(n:Nat) a,ρ[n]?=some a->ρ'[n]?=some a
 tup:∀a xs,H a=some (.tup xs)->H' a=some (.tup xs)
 frz:∀a o u,H a=some (.frz o u)->H' a=some (.frz o u)
 oth:∀a o,H a=some o->(∀n:Nat,ρ[n]?≠some a)->H' a=some o/\∀n:Nat,ρ'[n]?≠some a
theorem QZ.mono {K:AC} {H H':Hp} {a:AI} {xs:List V} (l:∀a o u,H a=some (.frz o u)->H' a=some (.frz o u)) (h:QZ K H a xs):QZ K H' a xs:=by
 rcases h with ⟨o,h⟩ | h
 ·exact .inl ⟨o,l _ _ _ h⟩
 ·exact .inr h
section
variable {K:AC} {ρ ρ' ρ'':List AI} {H H' H'':Hp}
theorem Le.fro (l:Le K ρ H ρ' H'):∀a xs,QZ K H a xs->QZ K H' a xs:=λ_ _ h=>h.mono l.frz
theorem Le.refl:Le K ρ H ρ H:=⟨λ_ _ h=>h,λ_ _ h=>h,λ_ _ _ h=>h,λ_ _ h n=>⟨h,n⟩⟩
theorem Le.trans (a:Le K ρ H ρ' H') (b:Le K ρ' H' ρ'' H''):Le K ρ H ρ'' H'':=
 ⟨λn x h=>b.pre n x (a.pre n x h),λx xs h=>b.tup x xs (a.tup x xs h),λx o u h=>b.frz x o u (a.frz x o u h),λx o h n=>b.oth x o (a.oth x o h n).1 (a.oth x o h n).2⟩
mutual
theorem Bo.mono (l:Le K ρ H ρ' H'):∀ {d:D} {v:V},Bo K ρ H d v->Bo K ρ' H' d v
 | _,_,.non=>.non
 | _,_,.bl b=>.bl b
 | _,_,.int i=>.int i
 | _,_,.str x=>.str x
 | _,_,.tup h r=>.tup (l.tup _ _ h) (Ao.mono l r)
 | _,_,.fro h r=>.fro (l.fro _ _ h) (Ao.mono l r)
 | _,_,.ref h=>.ref (l.pre _ _ h)
 | _,_,.exc h e=>.exc (l.frz _ _ _ h) e
theorem Ao.mono (l:Le K ρ H ρ' H'):∀ {ds:List D} {vs:List V},Ao K ρ H ds vs->Ao K ρ' H' ds vs
 | _,_,.nil=>.nil
 | _,_,.cons r t=>.cons (Bo.mono l r) (Ao.mono l t)
end
mutual
theorem Bo.more (l:∀(n:Nat) a,ρ[n]?=some a->ρ'[n]?=some a):∀ {d:D} {v:V},Bo K ρ H d v->Bo K ρ' H d v
 | _,_,.non=>.non
 | _,_,.bl b=>.bl b
 | _,_,.int i=>.int i
 | _,_,.str x=>.str x
 | _,_,.tup h r=>.tup h (Ao.more l r)
 | _,_,.fro h r=>.fro h (Ao.more l r)
 | _,_,.ref h=>.ref (l _ _ h)
 | _,_,.exc h e=>.exc h e
theorem Ao.more (l:∀(n:Nat) a,ρ[n]?=some a->ρ'[n]?=some a):∀ {ds:List D} {vs:List V},Ao K ρ H ds vs->Ao K ρ' H ds vs
 | _,_,.nil=>.nil
 | _,_,.cons r t=>.cons (Bo.more l r) (Ao.more l t)
end
mutual
theorem Bo.keep (h1:∀a xs,H a=some (.tup xs)->H' a=some (.tup xs)) (h2:∀a o u,H a=some (.frz o u)->H' a=some (.frz o u)):∀ {d:D} {v:V},Bo K ρ H d v->Bo K ρ H' d v
 | _,_,.non=>.non
 | _,_,.bl b=>.bl b
 | _,_,.int i=>.int i
 | _,_,.str x=>.str x
 | _,_,.tup h r=>.tup (h1 _ _ h) (Ao.keep h1 h2 r)
 | _,_,.fro h r=>.fro (h.mono h2) (Ao.keep h1 h2 r)
 | _,_,.ref h=>.ref h
 | _,_,.exc h e=>.exc (h2 _ _ _ h) e
theorem Ao.keep (h1:∀a xs,H a=some (.tup xs)->H' a=some (.tup xs)) (h2:∀a o u,H a=some (.frz o u)->H' a=some (.frz o u)):∀ {ds:List D} {vs:List V},Ao K ρ H ds vs->Ao K ρ H' ds vs
 | _,_,.nil=>.nil
 | _,_,.cons r t=>.cons (Bo.keep h1 h2 r) (Ao.keep h1 h2 t)
end
theorem Ao.length:∀ {ds:List D} {vs:List V},Ao K ρ H ds vs->ds.length=vs.length
 | _,_,.nil=>rfl
 | _,_,.cons _ t=>by rw [Aq,Aq,Ao.length t]
theorem Ao.get:∀ {ds:List D} {vs:List V} {i:Nat} {d:D},Ao K ρ H ds vs->ds[i]?=some d->∃v,vs[i]?=some v/\Bo K ρ H d v
 | _,_,_,_,.nil,e=>by simp at e
 | _,_,0,_,.cons r _,e=>by simp at e;subst e;exact ⟨_,rfl,r⟩
 | _,_,i+1,d,.cons _ t,e=>by
  obtain ⟨v,h1,h2⟩:=Ao.get (i:=i) (d:=d) t (by simpa using e);exact ⟨v,by simpa using h1,h2⟩
theorem Ao.get':∀ {ds:List D} {vs:List V} {i:Nat} {v:V},Ao K ρ H ds vs->vs[i]?=some v->∃d,ds[i]?=some d/\Bo K ρ H d v
 | _,_,_,_,.nil,e=>by simp at e
 | _,_,0,_,.cons r _,e=>by simp at e;subst e;exact ⟨_,rfl,r⟩
 | _,_,i+1,d,.cons _ t,e=>by
  obtain ⟨v,h1,h2⟩:=Ao.get' (i:=i) (v:=d) t (by simpa using e);exact ⟨v,by simpa using h1,h2⟩
theorem Ao.append:∀ {ds es:List D} {vs us:List V},Ao K ρ H ds vs->Ao K ρ H es us->Ao K ρ H (ds++es) (vs++us)
 | _,_,_,_,.nil,s=>s
 | _,_,_,_,.cons r t,s=>.cons r (Ao.append t s)
theorem Ao.take:∀ {ds:List D} {vs:List V} (n:Nat),Ao K ρ H ds vs->Ao K ρ H (ds.take n) (vs.take n)
 | _,_,0,_=>.nil
 | _,_,_+1,.nil=>.nil
 | _,_,n+1,.cons r t=>.cons r (Ao.take n t)
theorem Ao.drop:∀ {ds:List D} {vs:List V} (n:Nat),Ao K ρ H ds vs->Ao K ρ H (ds.drop n) (vs.drop n)
 | _,_,0,r=>r
 | _,_,_+1,.nil=>.nil
 | _,_,n+1,.cons _ t=>Ao.drop n t
theorem Ao.set {d:D} {v:V} (r:Bo K ρ H d v):∀ {ds:List D} {vs:List V} (i:Nat),Ao K ρ H ds vs->Ao K ρ H (ds.set i d) (vs.set i v)
 | _,_,_,.nil=>.nil
 | _,_,0,.cons _ t=>.cons r t
 | _,_,i+1,.cons q t=>.cons q (Ao.set r i t)
theorem Ao.reverse {ds:List D} {vs:List V} (h:Ao K ρ H ds vs):Ao K ρ H ds.reverse vs.reverse:=by
 induction ds generalizing vs with
 | nil=>cases h;exact .nil
 | cons d ds ih=>
  cases h with
  | cons r t=>rw [IY,IY];exact (ih t).append (.cons r .nil)
theorem Ao.of_ints:∀(ns:List Int),Ao K ρ H (ns.map D.int) (ns.map V.int)
 | []=>.nil
 | n :: ns=>.cons (.int n) (Ao.of_ints ns)
theorem Ao.ints:∀ {ns:List Int} {vs:List V},Ao K ρ H (ns.map D.int) vs->vs=ns.map V.int
 | [],_,.nil=>rfl
 | n :: ns,_,.cons r t=>by
  cases r;rw [Ao.ints (ns:=ns) t];rfl
end
inductive Ob where
 | lst (ds:List D)
 | dK (kvs:List (Key×D))
 | dT (kvs:List (List Key×D))
 | ins (C:AI) (fs:List (Str×D))
abbrev Sto:=List Ob
abbrev KVR {κ:Type} (K:AC) (ρ:List AI) (H:Hp):List (κ×D)->List (κ×V)->Prop:=G8 λ(p:κ×D) (q:κ×V)=>p.1=q.1/\Bo K ρ H p.2 q.2
def E2 (K:AC) (ρ:List AI) (H:Hp) (a:AI):Ob->Prop
 | .lst ds=>∃vs,H a=some (.lst vs)/\Ao K ρ H ds vs
 | .dK kvs=>∃kvs',H a=some (.dK kvs')/\KVR K ρ H kvs kvs'
 | .dT kvs=>∃kvs',H a=some (.dT kvs')/\KVR K ρ H kvs kvs'
 | .ins C fs=>∃dx fs',H a=some (.ins C dx fs')/\KVR K ρ H fs fs'
structure Bw (K:AC) (ρ:List AI) (S:Sto) (H:Hp):Prop where
 len:ρ.length=S.length
 nd:∀(i j:Nat) a,ρ[i]?=some a->ρ[j]?=some a->i=j
 ob:∀(n:Nat) o a,S[n]?=some o->ρ[n]?=some a->E2 K ρ H a o
section
variable {K:AC} {ρ ρ':List AI} {H H':Hp} {S:Sto} {a p:AI} {o:Ob} {n:Nat} {ho:HO}
theorem KVR.mono {κ:Type} (l:Le K ρ H ρ' H') {x:List (κ×D)} {y:List (κ×V)} (h:KVR K ρ H x y):KVR K ρ' H' x y:=G8.mapP h λ_ _ z=>⟨z.1,z.2.mono l⟩
theorem E2.mut (h:E2 K ρ H a o):Mut (H a):=by
 cases o with
 | lst ds=>obtain ⟨_,e,_⟩:=h;rw [e];trivial
 | dK ds=>obtain ⟨_,e,_⟩:=h;rw [e];trivial
 | dT ds=>obtain ⟨_,e,_⟩:=h;rw [e];trivial
 | ins C fs=>obtain ⟨_,_,e,_⟩:=h;rw [e];trivial
theorem E2.mono (l:Le K ρ H ρ' H') (e:H' a=H a) (h:E2 K ρ H a o):E2 K ρ' H' a o:=by
 cases o with
 | lst ds=>obtain ⟨vs,h1,h2⟩:=h;exact ⟨vs,e.trans h1,h2.mono l⟩
 | dK ds=>obtain ⟨vs,h1,h2⟩:=h;exact ⟨vs,e.trans h1,h2.mono l⟩
 | dT ds=>obtain ⟨vs,h1,h2⟩:=h;exact ⟨vs,e.trans h1,h2.mono l⟩
 | ins C fs=>obtain ⟨dx,vs,h1,h2⟩:=h;exact ⟨dx,vs,e.trans h1,h2.mono l⟩
theorem E2.keep (h1:∀a xs,H a=some (.tup xs)->H' a=some (.tup xs)) (h2:∀a o u,H a=some (.frz o u)->H' a=some (.frz o u)) (e:H' a=H a) (h:E2 K ρ H a o):E2 K ρ H' a o:=by
 cases o with
 | lst ds=>obtain ⟨vs,q1,q2⟩:=h;exact ⟨vs,e.trans q1,q2.keep h1 h2⟩
 | dK ds=>obtain ⟨vs,q1,q2⟩:=h;exact ⟨vs,e.trans q1,G8.mapP q2 λ_ _ z=>⟨z.1,z.2.keep h1 h2⟩⟩
 | dT ds=>obtain ⟨vs,q1,q2⟩:=h;exact ⟨vs,e.trans q1,G8.mapP q2 λ_ _ z=>⟨z.1,z.2.keep h1 h2⟩⟩
 | ins C fs=>obtain ⟨dx,vs,q1,q2⟩:=h;exact ⟨dx,vs,e.trans q1,G8.mapP q2 λ_ _ z=>⟨z.1,z.2.keep h1 h2⟩⟩
theorem E2.mono' (l:∀(n:Nat) a,ρ[n]?=some a->ρ'[n]?=some a) (h:E2 K ρ H a o):E2 K ρ' H a o:=by
 cases o with
 | lst ds=>obtain ⟨vs,h1,h2⟩:=h;exact ⟨vs,h1,h2.more l⟩
 | dK ds=>obtain ⟨vs,h1,h2⟩:=h;exact ⟨vs,h1,G8.mapP h2 λ_ _ z=>⟨z.1,z.2.more l⟩⟩
 | dT ds=>obtain ⟨vs,h1,h2⟩:=h;exact ⟨vs,h1,G8.mapP h2 λ_ _ z=>⟨z.1,z.2.more l⟩⟩
 | ins C fs=>obtain ⟨dx,vs,h1,h2⟩:=h;exact ⟨dx,vs,h1,G8.mapP h2 λ_ _ z=>⟨z.1,z.2.more l⟩⟩
theorem Fq (hp:H p=none∨Mut (H p)):(∀a xs,H a=some (.tup xs)->upd H p ho a=some (.tup xs))/\∀a o u,H a=some (.frz o u)->upd H p ho a=some (.frz o u):=by
 have ne:∀a u,H a=some u->¬Mut (some u)->a≠p:=λa u e nm z=>by
  subst z
  rcases hp with h | h
  ·rw [e] at h;cases h
  ·rw [e] at h;exact nm h
 refine ⟨λa xs e=>?_,λa o u e=>?_⟩
 ·rw [Bm (ne a _ e λz=>z)];exact e
 ·rw [Bm (ne a _ e λz=>z)];exact e
theorem Le.fresh (hp:H p=none):Le K ρ H ρ (upd H p ho):=
 ⟨λ_ _ h=>h,(Fq (.inl hp)).1,(Fq (.inl hp)).2,λa o e n=>⟨by rw [Bm (B7 e hp)];exact e,n⟩⟩
theorem Le.write (hn:ρ[n]?=some p) (hm:Mut (H p)):Le K ρ H ρ (upd H p ho):=
 ⟨λ_ _ h=>h,(Fq (.inr hm)).1,(Fq (.inr hm)).2,λa o e h=>⟨by rw [Bm λz=>h n (by rw [z];exact hn)];exact e,h⟩⟩
theorem Hh {α:Type} {l:List α} {x:α} {m:Nat} {a:α} (e:(l++[x])[m]?=some a):(l[m]?=some a/\m < l.length)∨(m=l.length/\a=x):=by
 by_cases hm:m < l.length
 ·rw [Ah hm] at e;exact .inl ⟨e,hm⟩
 ·rw [BB (by lia)] at e
  have:m - l.length=0:=by
   have:=(AK.mp e).1;simp at this;omega
  rw [this] at e;exact .inr ⟨by lia,by simpa using e.symm⟩
theorem Le.alloc (hp:H p=none):Le K ρ H (ρ++[p]) (upd H p ho):=by
 refine ⟨λn a h=>by rw [Ah (AK.mp h).1];exact h,(Fq (.inl hp)).1,(Fq (.inl hp)).2,λa o e h=>⟨by rw [Bm (B7 e hp)];exact e,λn q=>?_⟩⟩
 rcases Hh q with ⟨q,_⟩ | ⟨_,q⟩
 ·exact h n q
 ·exact B7 e hp q
theorem Bw.there (h:Bw K ρ S H) {m:Nat} (e:ρ[m]?=some a):∃o,S[m]?=some o/\E2 K ρ H a o:=by
 have hn:m < S.length:=by rw [<-h.len];exact (AK.mp e).1
 exact ⟨S[m],by simp [hn],h.ob m _ a (by simp [hn]) e⟩
theorem Bw.notIn (h:Bw K ρ S H) (hp:H p=none) {m:Nat} (e:ρ[m]?=some p):False:=by
 obtain ⟨o,_,r⟩:=h.there e;have:=r.mut;rw [hp] at this;exact this
theorem Bw.alloc (h:Bw K ρ S H) (hp:H p=none) (hob:E2 K (ρ++[p]) (upd H p ho) p o):Bw K (ρ++[p]) (S++[o]) (upd H p ho)/\Le K ρ H (ρ++[p]) (upd H p ho)/\(ρ++[p])[S.length]?=some p:=by
 have le:Le K ρ H (ρ++[p]) (upd H p ho):=Le.alloc hp
 have at':∀(m:Nat) a,(ρ++[p])[m]?=some a->(ρ[m]?=some a/\m < ρ.length)∨(m=ρ.length/\a=p):=λm a e=>Hh e
 refine ⟨⟨by simp [h.len],λi j a hi hj=>?_,λm ob a hm ha=>?_⟩,le,by rw [<-h.len];simp⟩
 ·rcases at' i a hi with ⟨hi1,_⟩ | ⟨hi1,ea⟩ <;> rcases at' j a hj with ⟨hj1,_⟩ | ⟨hj1,ea'⟩
  ·exact h.nd i j a hi1 hj1
  ·rw [ea'] at hi1;exact (h.notIn hp hi1).elim
  ·rw [ea] at hj1;exact (h.notIn hp hj1).elim
  ·lia
 ·rcases at' m a ha with ⟨ha1,hlt⟩ | ⟨rfl,rfl⟩
  ·rw [Ah (by rw [<-h.len];exact hlt)] at hm
   refine (h.ob m ob a hm ha1).mono le (Bm λz=>?_);rw [z] at ha1;exact h.notIn hp ha1
  ·rw [h.len] at hm
   simp at hm;subst hm;exact hob
theorem Bw.write (h:Bw K ρ S H) (hn:ρ[n]?=some a) (hob:E2 K ρ (upd H a ho) a o):Bw K ρ (S.set n o) (upd H a ho)/\Le K ρ H ρ (upd H a ho):=by
 obtain ⟨o',e',r'⟩:=h.there hn;have le:Le K ρ H ρ (upd H a ho):=Le.write hn r'.mut;refine ⟨⟨by simp [h.len],h.nd,λm ob b hm hb=>?_⟩,le⟩
 by_cases e:m=n
 ·subst e
  rw [hn] at hb;cases hb;rw [BI (by rw [<-h.len];exact (AK.mp hn).1)] at hm;cases hm;exact hob
 ·rw [A8 (Bl e)] at hm
  refine (h.ob m ob b hm hb).mono le (Bm λz=>?_);subst z;exact e (h.nd m n b hb hn)
theorem Le.back {S':Sto} (l:Le K ρ H ρ' H') (s:Bw K ρ S H) (s':Bw K ρ' S' H') (hp:H' p=none):H p=none:=by
 cases q:H p with
 | none=>rfl
 | some o=>
  by_cases hn:∃n:Nat,ρ[n]?=some p
  ·obtain ⟨n,hn⟩:=hn
   exact (s'.notIn hp (l.pre n p hn)).elim
  ·have:=(l.oth p o q λn h=>hn ⟨n,h⟩).1
   rw [hp] at this;cases this
theorem Bw.adopt (h:Bw K ρ S H) (hn:∀m:Nat,ρ[m]?≠some p) (hob:E2 K (ρ++[p]) H p o):Bw K (ρ++[p]) (S++[o]) H/\(ρ++[p])[S.length]?=some p:=by
 have le:∀a ob,E2 K ρ H a ob->E2 K (ρ++[p]) H a ob:=λa ob r=>by
  have l0:∀(n:Nat) a,ρ[n]?=some a->(ρ++[p])[n]?=some a:=λn a h=>by rw [Ah (AK.mp h).1];exact h
  exact r.mono' l0
 refine ⟨⟨by simp [h.len],λi j a hi hj=>?_,λm ob a hm ha=>?_⟩,by rw [<-h.len];simp⟩
 ·rcases Hh hi with ⟨hi1,_⟩ | ⟨hi1,ea⟩ <;> rcases Hh hj with ⟨hj1,_⟩ | ⟨hj1,ea'⟩
  ·exact h.nd i j a hi1 hj1
  ·rw [ea'] at hi1;exact (hn i hi1).elim
  ·rw [ea] at hj1;exact (hn j hj1).elim
  ·lia
 ·rcases Hh ha with ⟨ha,hlt⟩ | ⟨rfl,rfl⟩
  ·rw [Ah (by rw [<-h.len];exact hlt)] at hm
   exact le a ob (h.ob m ob a hm ha)
  ·rw [h.len] at hm
   simp at hm;subst hm;exact hob
end
inductive Res (α:Type) where
 | ok (a:α) (S:Sto) | err (c:AI) (S:Sto) | bad
def Res.bind {α β:Type} (r:Res α) (f:α->Sto->Res β):Res β:=match r with
 | .ok a S=>f a S
 | .err c S=>.err c S
 | .bad=>.bad
abbrev Lo:=List (Option D)
abbrev ME:=Lo->Sto->Res D
abbrev MT:=Lo->Sto->Res Bool
abbrev ML:=Lo->Sto->Res (List D)
inductive Fl where
 | nx (e:Lo) | rt (d:D) | bk (e:Lo) | ct (e:Lo) | ex (c:AI) (e:Lo)
abbrev MS:=Lo->Sto->Res Fl
abbrev MG:=D->Lo->Sto->Res Lo
abbrev IU:=Sto->Option (List D)
abbrev MI:=Lo->Sto->Res IU
structure E9 (K:AC) (ρ:List AI) (H:Hp) (e:Lo) (σ:St):Prop where
 len:e.length=σ.length
 at':∀(i:Nat) d,e[i]?=some (some d)->∃v,σ[i]?=some (some v)/\Bo K ρ H d v
section
variable {K:AC} {ρ ρ':List AI} {H H':Hp} {S:Sto} {e:Lo} {σ:St}
theorem E9.mono (l:Le K ρ H ρ' H') (h:E9 K ρ H e σ):E9 K ρ' H' e σ:=⟨h.len,λi d q=>by
 obtain ⟨v,h1,h2⟩:=h.at' i d q
 exact ⟨v,h1,h2.mono l⟩⟩
theorem E9.set {d:D} {v:V} (h:E9 K ρ H e σ) (r:Bo K ρ H d v) (i:Nat):E9 K ρ H (e.set i (some d)) (σ.set i (some v)):=by
 refine ⟨by simp [h.len],λj d' q=>?_⟩
 by_cases hj:i=j
 ·subst hj
  have hi:i < e.length:=by
   have:=(AK.mp q).1;simpa using this
  rw [BI hi] at q;cases q;exact ⟨v,by rw [BI (by rw [<-h.len];exact hi)],r⟩
 ·rw [A8 hj] at q ⊢
  exact h.at' j d' q
end
abbrev EW:=AI->St->Hp->Prop
abbrev EH:=AI->Hp->Prop
abbrev noE:EW:=λ_ _ _=>False
abbrev noH:EH:=λ_ _=>False
def Bn {α:Type} (K:AC) (E:EH) (ρ:List AI) (H:Hp) (r:Res α) (k:α->Sto->Prop):Prop:=match r with
 | .ok a S=>k a S
 | .err c S=>∀ρ' H',Le K ρ H ρ' H'->Bw K ρ' S H'->E c H'
 | .bad=>False
section
variable {α β:Type} {K:AC} {E:EH} {ρ ρ1:List AI} {H H1:Hp}
theorem Bn.seq {r:Res α} {F:α->Sto->Res β} {k:β->Sto->Prop} {k':α->Sto->Prop} (h:Bn K E ρ H (r.bind F) k) (f:∀a S,Bn K E ρ H (F a S) k->k' a S):Bn K E ρ H r k':=by
 cases r with
 | ok a S=>exact f a S h
 | err c S=>exact h
 | bad=>exact h
theorem Bn.later {r:Res α} {k:α->Sto->Prop} (h:Bn K E ρ H r k) (l:Le K ρ H ρ1 H1):Bn K E ρ1 H1 r k:=by
 cases r with
 | ok a S=>exact h
 | err c S=>exact λρ' H' l'=>h ρ' H' (l.trans l')
 | bad=>exact h
theorem Bn.imp {r:Res α} {k k':α->Sto->Prop} (h:Bn K E ρ H r k) (f:∀a S,k a S->k' a S):Bn K E ρ H r k':=by
 cases r with
 | ok a S=>exact f a S h
 | err c S=>exact h
 | bad=>exact h
theorem Bn.go {r:Res α} {k k':α->Sto->Prop} (h:Bn K E ρ H r k) (l:Le K ρ H ρ1 H1) (f:∀a S,k a S->k' a S):Bn K E ρ1 H1 r k':=(h.later l).imp f
end
def okR {α:Type}:Res α->Res α
 | .ok a S=>.ok a S
 | _=>.bad
theorem Bn.okR {α:Type} {K:AC} {E:EH} {ρ:List AI} {H:Hp} {r:Res α} {k:α->Sto->Prop} (h:Bn K E ρ H (L2.okR r) k):∃a S,r=.ok a S/\k a S:=by
 cases r with
 | ok a S=>exact ⟨a,S,rfl,h⟩
 | err c S=>exact h.elim
 | bad=>exact h.elim
section
variable (K:AC) (E:EW)
def gE (m:ME):TE:=λσ H Q=>∃ρ e S,E9 K ρ H e σ/\Bw K ρ S H/\Bn K (λc=>E c σ) ρ H (m e S) λd S'=>∀ρ' H' x,Le K ρ H ρ' H'->Bw K ρ' S' H'->Bo K ρ' H' d x->Q x H'
def gT (m:MT):TT:=λσ H Q=>∃ρ e S,E9 K ρ H e σ/\Bw K ρ S H/\Bn K (λc=>E c σ) ρ H (m e S) λb S'=>∀ρ' H',Le K ρ H ρ' H'->Bw K ρ' S' H'->Q b H'
def gA (m:ML):TA:=λσ H Q=>∃ρ e S,E9 K ρ H e σ/\Bw K ρ S H/\Bn K (λc=>E c σ) ρ H (m e S) λds S'=>∀ρ' H' xs,Le K ρ H ρ' H'->Bw K ρ' S' H'->Ao K ρ' H' ds xs->Q xs H'
def gL (m:ML):TE:=λσ H Q=>∃ρ e S,E9 K ρ H e σ/\Bw K ρ S H/\Bn K (λc=>E c σ) ρ H (m e S) λds S'=>∀ρ' H' p xs,Le K ρ H ρ' H'->Bw K ρ' S' H'->Ao K ρ' H' ds xs->H' p=some (.lst xs)->(∀n:Nat,ρ'[n]?≠some p)->H p=none->Q (.ref p) H'
def gQ (m:ML):TE:=λσ H Q=>∃ρ e S,E9 K ρ H e σ/\Bw K ρ S H/\Bn K (λc=>E c σ) ρ H (m e S) λds S'=>∀ρ' H' p xs,Le K ρ H ρ' H'->Bw K ρ' S' H'->Ao K ρ' H' ds xs->(SqL K H' p xs∨SqT K H' p xs)->Q (.ref p) H'
def Pd (K:AC) (E:EW) (ρ:List AI) (H:Hp) (S':Sto) (D:WC):Fl->Prop
 | .ex c e'=>∀ρ' H' σ',Le K ρ H ρ' H'->Bw K ρ' S' H'->E9 K ρ' H' e' σ'->E c σ' H'
 | .nx e'=>∀ρ' H' σ',Le K ρ H ρ' H'->Bw K ρ' S' H'->E9 K ρ' H' e' σ'->D.nx σ' H'
 | .bk e'=>∀ρ' H' σ',Le K ρ H ρ' H'->Bw K ρ' S' H'->E9 K ρ' H' e' σ'->D.bk σ' H'
 | .ct e'=>∀ρ' H' σ',Le K ρ H ρ' H'->Bw K ρ' S' H'->E9 K ρ' H' e' σ'->D.ct σ' H'
 | .rt d=>∀ρ' H' x,Le K ρ H ρ' H'->Bw K ρ' S' H'->Bo K ρ' H' d x->D.rt x H'
def gS (m:MS):TS:=λD σ H=>∃ρ e S,E9 K ρ H e σ/\Bw K ρ S H/\Bn K noH ρ H (m e S) λfl S'=>Pd K E ρ H S' D fl
def gG (m:MG):TG:=λv σ H Q=>∃ρ e S d,Bo K ρ H d v/\E9 K ρ H e σ/\Bw K ρ S H/\Bn K noH ρ H (m d e S) λe' S'=>∀ρ' H' σ',Le K ρ H ρ' H'->Bw K ρ' S' H'->E9 K ρ' H' e' σ'->Q σ' H'
def NH (ρ0:List AI) (H0:Hp) (J:It) (v:IU):Prop:=∀ρ H S ds (i:Nat),Le K ρ0 H0 ρ H->Bw K ρ S H->v S=some ds ->
 (ds[i]?=none->J.stop i H)/\∀d,ds[i]?=some d->J.go i H/\∀x H',J.yld i H x H'->∃ρ',Le K ρ H ρ' H'/\Bw K ρ' S H'/\Bo K ρ' H' d x
def gI (m:MI):TI:=λσ H R=>∃ρ e S,E9 K ρ H e σ/\Bw K ρ S H/\Bn K (λc=>E c σ) ρ H (m e S) λv S'=>∀ρ' H' J,Le K ρ H ρ' H'->Bw K ρ' S' H'->NH K ρ' H' J v->R J H'
end
abbrev GE (X:Cx) (E:EW) (e:Expr) (m:ME):Prop:=PE X e (gE X.K E m)
abbrev GT (X:Cx) (E:EW) (e:Expr) (m:MT):Prop:=PT X e (gT X.K E m)
abbrev GA (X:Cx) (E:EW) (es:List Expr) (m:ML):Prop:=PA X es (gA X.K E m)
abbrev GL (X:Cx) (E:EW) (e:Expr) (m:ML):Prop:=PE X e (gL X.K E m)
abbrev GQ (X:Cx) (E:EW) (e:Expr) (m:ML):Prop:=PE X e (gQ X.K E m)
abbrev GS (X:Cx) (E:EW) (s:C2) (m:MS):Prop:=PS X s (gS X.K E m)
abbrev GSs (X:Cx) (E:EW) (s:List C2) (m:MS):Prop:=PSs X s (gS X.K E m)
abbrev GG (X:Cx) (t:Expr) (m:MG):Prop:=PG X t (gG X.K m)
abbrev GI (X:Cx) (E:EW) (tg t:Expr) (m:MI):Prop:=PI X tg t (gI X.K E m)
theorem PE.imp {X:Cx} {e:Expr} {t t':TE} (h:PE X e t) (i:∀σ H Q,t' σ H Q->t σ H Q):PE X e t':=λpins s σ H Q I q=>h pins s σ H Q I (i σ H Q q)
theorem PT.imp {X:Cx} {e:Expr} {t t':TT} (h:PT X e t) (i:∀σ H Q,t' σ H Q->t σ H Q):PT X e t':=λpins s σ H Q I q=>h pins s σ H Q I (i σ H Q q)
theorem PW.imp {X:Cx} {e:Expr} {t t':TT} (h:PW X e t) (i:∀σ H Q,t' σ H Q->t σ H Q):PW X e t':=λwh pins s σ H Q I q=>h wh pins s σ H Q I (i σ H Q q)
theorem PA.imp {X:Cx} {e:List Expr} {t t':TA} (h:PA X e t) (i:∀σ H Q,t' σ H Q->t σ H Q):PA X e t':=λpos pins s σ H Q I q=>h pos pins s σ H Q I (i σ H Q q)
theorem PS.imp {X:Cx} {e:C2} {t t':TS} (h:PS X e t) (i:∀D σ H,t' D σ H->t D σ H):PS X e t':=λpins s σ H D I q=>h pins s σ H D I (i D σ H q)
theorem PSs.imp {X:Cx} {e:List C2} {t t':TS} (h:PSs X e t) (i:∀D σ H,t' D σ H->t D σ H):PSs X e t':=λpins s σ H D I q=>h pins s σ H D I (i D σ H q)
theorem PG.imp {X:Cx} {e:Expr} {t t':TG} (h:PG X e t) (i:∀v σ H Q,t' v σ H Q->t v σ H Q):PG X e t':=λpins s σ H v u Q I r q=>h pins s σ H v u Q I r (i v σ H Q q)
theorem PI.imp {X:Cx} {tg e:Expr} {t t':TI} (h:PI X tg e t) (i:∀σ H R,t' σ H R->t σ H R):PI X tg e t':=λpins s σ H R I q=>h pins s σ H R I (i σ H R q)
theorem OpR.imp {X:Cx} {f:AB->AB->Sem AB} {r r':R2} (h:OpR X f r) (i:∀x y H Q,r' x y H Q->r x y H Q):OpR X f r':=λpins s σ H x y v u Q I rx ry q=>h pins s σ H x y v u Q I rx ry (i x y H Q q)
theorem IxR.imp {X:Cx} {r r':R2} (h:IxR X r) (i:∀x y H Q,r' x y H Q->r x y H Q):IxR X r':=λva sl pins s σ H x y v u Q I rx ry q=>h va sl pins s σ H x y v u Q I rx ry (i x y H Q q)
def AG (i:Nat):ME:=λe S=>match e[i]? with
 | some (some d)=>.ok d S
 | _=>.bad
def mC (d:D):ME:=λ_ S=>.ok d S
section
variable {X:Cx} {E:EW} {e a b:Expr} {pos:Pos} {ma mb:ME}
theorem AH {i:Nat} (h:PE X e (g9 i)):GE X E e (AG i):=h.imp λσ H Q ⟨ρ,l,S,hl,hs,hm⟩=>by
 unfold AG at hm;split at hm
 ·rename_i d' hd
  obtain ⟨v,h1,h2⟩:=hl.at' i _ hd;exact ⟨v,h1,hm ρ H v .refl hs h2⟩
 ·exact hm.elim
theorem bK {v:V} {d:D} (h:PE X e (tC v)) (hd:∀ρ H,Bo X.K ρ H d v):GE X E e (mC d):=h.imp λσ H Q ⟨ρ,l,S,hl,hs,hm⟩=>by
 exact hm ρ H v .refl hs (hd _ _)
theorem ge_int {i j pos}:GE X E (.Constant (.int i) j pos) (mC (.int i)):=bK ie λ_ _=>.int i
theorem RI {b j pos}:GE X E (.Constant (.bool b) j pos) (mC (.bl b)):=bK kx λ_ _=>.bl b
theorem bH {j pos}:GE X E (.Constant .none j pos) (mC .non):=bK iZ λ_ _=>.non
theorem M9 {x j pos}:GE X E (.Constant (.str x) j pos) (mC (.str x)):=bK iX λ_ _=>.str x
theorem UM {x:Str} {i:Int} {tk:Tok} {pos:Pos} (hg:Gl X x) (hm:X.mg x=some (.int i tk)) (hd:(x==("__debug__" : Str))=false:=by decide):GE X E (.Name x pos) (mC (.int i)):=
 bK (de (v:=.int i) hg hm ⟨tk,rfl⟩ hd) λ_ _=>.int i
def m2 (f:D->D->Sto->Res D) (ma mb:ME):ME:=λe S=>(ma e S).bind λx S1=>(mb e S1).bind λy S2=>okR (f x y S2)
def rD (K:AC) (f:D->D->Sto->Res D):R2:=λu v H Q=>∃ρ S x y d S',Bw K ρ S H/\Bo K ρ H x u/\Bo K ρ H y v/\f x y S=.ok d S' /\
 ∀ρ' H' z,Le K ρ H ρ' H'->Bw K ρ' S' H'->Bo K ρ' H' d z->Q z H'
theorem LW {K:AC} {f:D->D->Sto->Res D} {σ:St} {H:Hp} {Q:VK} (h:gE K E (m2 f ma mb) σ H Q):tOp (rD K f) (gE K E ma) (gE K E mb) σ H Q:=by
 obtain ⟨ρ,l,S,hl,hs,hm⟩:=h;refine ⟨ρ,l,S,hl,hs,hm.seq λx S1 hm ρ1 H1 u l1 s1 r1=>⟨ρ1,l,S1,hl.mono l1,s1,(hm.later l1).seq λy S2 hm ρ2 H2 v l2 s2 r2=>?_⟩⟩;obtain ⟨d,S',e,k⟩:=hm.okR;exact ⟨ρ2,S2,x,y,d,S',s2,r1.mono l2,r2,e,λρ' H' z l' s' r'=>k ρ' H' z (l1.trans (l2.trans l')) s' r'⟩
theorem Bf {op:Operator} {f:D->D->Sto->Res D} (ho:OpR X (Eo op) (rD X.K f)) (ha:GE X E a ma) (hb:GE X E b mb):GE X E (.BinOp a op b pos) (m2 f ma mb):=(kt ho ha hb).imp λ_ _ _ h=>LW h
theorem NB {op:TJ} {f:D->D->Sto->Res D} (ho:OpR X (Bb op) (rD X.K f)) (ha:GE X E a ma) (hb:GE X E b mb) (hm:Bq op b=false):GE X E (.Compare a [op] [b] pos) (m2 f ma mb):=(dh ho ha hb hm).imp λ_ _ _ h=>LW h
theorem lY {f:D->D->Sto->Res D} (ho:IxR X (rD X.K f)) (ha:GE X E a ma) (hb:GE X E b mb) (hs:Sv b:=by intro _ _;rfl):GE X E (.Subscript a b pos) (m2 f ma mb):=(ku ho ha hb hs).imp λ_ _ _ h=>LW h
def mB (m:ME):MT:=λe S=>(m e S).bind λd S1=>match d with
 | .bl b=>.ok b S1
 | _=>.bad
theorem ay (h:GE X E e ma) (he:∀whole,gN e X.env whole=(do let v <-whole;jl e.pos;LP [v] (truthy v)):=by intro _;rfl):GT X E e (mB ma):=(iL h he).imp λσ H Q ⟨ρ,l,S,hl,hs,hm⟩=>by
 refine ⟨ρ,l,S,hl,hs,hm.seq λd S1 hm ρ1 H1 x l1 s1 r1=>?_⟩
 cases d <;> first | exact hm.elim | skip
 cases r1;exact ⟨_,rfl,hm ρ1 H1 l1 s1⟩
theorem Cr {op:TJ} {f:D->D->Sto->Res D} (ho:OpR X (Bb op) (rD X.K f)) (ha:GE X E a ma) (hb:GE X E b mb) (hm:Bq op b=false):GT X E (.Compare a [op] [b] pos) (mB (m2 f ma mb)):=(dL ho ha hb hm).imp λσ H Q ⟨ρ,l,S,hl,hs,hm⟩=>by
 refine LW (Q:=λx H'=>∃k,x=.bl k/\Q k H') ⟨ρ,l,S,hl,hs,hm.seq λd S1 hm ρ1 H1 x l1 s1 r1=>?_⟩
 cases d <;> first | exact hm.elim | skip
 cases r1;exact ⟨_,rfl,hm ρ1 H1 l1 s1⟩
def N3 (m:MT):MT:=λe S=>(m e S).bind λb S1=>.ok (!b) S1
def QS (ma mb:MT):MT:=λe S=>(ma e S).bind λb S1=>if b=true then mb e S1 else .ok false S1
def mOr (ma mb:MT):MT:=λe S=>(ma e S).bind λb S1=>if b=true then .ok true S1 else mb e S1
variable {ta tb:MT} {rest:List Expr}
theorem SZ (h:GT X E a ta):GT X E (.UnaryOp .Not a pos) (N3 ta):=(iM h).imp λσ H Q ⟨ρ,l,S,hl,hs,hm⟩=>by
 exact ⟨ρ,l,S,hl,hs,hm.seq λd S1 hm ρ1 H1 l1 s1=>hm ρ1 H1 l1 s1⟩
theorem cz {K:AC} {σ:St} {H:Hp} {Q:Bool->Hp->Prop} (h:gT K E (QS ta tb) σ H Q):kb (gT K E ta) (gT K E tb) σ H Q:=by
 obtain ⟨ρ,l,S,hl,hs,hm⟩:=h;refine ⟨ρ,l,S,hl,hs,hm.seq λc S1 hm ρ1 H1 l1 s1=>?_⟩
 cases c with
 | true=>rw [qX rfl] at hm ⊢;exact ⟨ρ1,l,S1,hl.mono l1,s1,hm.go l1 λ_ _ k ρ2 H2 l2 s2=>k ρ2 H2 (l1.trans l2) s2⟩
 | false=>rw [qY AO] at hm ⊢;exact hm ρ1 H1 l1 s1
theorem hG {K:AC} {σ:St} {H:Hp} {Q:Bool->Hp->Prop} (h:gT K E (mOr ta tb) σ H Q):tOr (gT K E ta) (gT K E tb) σ H Q:=by
 obtain ⟨ρ,l,S,hl,hs,hm⟩:=h;refine ⟨ρ,l,S,hl,hs,hm.seq λc S1 hm ρ1 H1 l1 s1=>?_⟩
 cases c with
 | false=>rw [qY AO] at hm ⊢;exact ⟨ρ1,l,S1,hl.mono l1,s1,hm.go l1 λ_ _ k ρ2 H2 l2 s2=>k ρ2 H2 (l1.trans l2) s2⟩
 | true=>rw [qX rfl] at hm ⊢;exact hm ρ1 H1 l1 s1
abbrev GW (X:Cx) (E:EW) (e:Expr) (m:MT):Prop:=PW X e (gT X.K E m)
theorem SY (ha:GT X E a ta):GW X E (.BoolOp .And [a] pos) ta:=dJ ha
theorem av (ha:GT X E a ta):GW X E (.BoolOp .Or [a] pos) ta:=iJ ha
theorem Vq (ha:GT X E a ta) (hb:GW X E (.BoolOp .And (b :: rest) pos) tb):GW X E (.BoolOp .And (a :: b :: rest) pos) (QS ta tb):=(iK ha hb).imp λ_ _ _ h=>cz h
theorem aw (ha:GT X E a ta) (hb:GW X E (.BoolOp .Or (b :: rest) pos) tb):GW X E (.BoolOp .Or (a :: b :: rest) pos) (mOr ta tb):=(kn ha hb).imp λ_ _ _ h=>hG h
theorem ax {t:MT} (h:GW X E e t):GT X E e t:=PW.pt h
def PN (ma mb:ME):ME:=λe S=>(ma e S).bind λd S1=>match d with
 | .bl true=>mb e S1
 | .bl false=>.ok (.bl false) S1
 | _=>.bad
theorem bF {op} (h:GE X E a ma):GE X E (.BoolOp op [a] pos) ma:=iY h
theorem Vv (ha:GE X E a ma) (hb:GE X E (.BoolOp .And (b :: rest) pos) mb):GE X E (.BoolOp .And (a :: b :: rest) pos) (PN ma mb):=(ij ha hb).imp λσ H Q ⟨ρ,l,S,hl,hs,hm⟩=>by
 refine ⟨ρ,l,S,hl,hs,hm.seq λc S1 hm ρ1 H1 x l1 s1 r1=>?_⟩
 cases c with
 | bl c=>
  cases r1;refine ⟨c,rfl,?_⟩
  cases c with
  | true=>rw [qX rfl];exact ⟨ρ1,l,S1,hl.mono l1,s1,hm.go l1 λ_ _ k ρ2 H2 z l2 s2 r2=>k ρ2 H2 z (l1.trans l2) s2 r2⟩
  | false=>rw [qY AO];exact hm ρ1 H1 _ l1 s1 (.bl false)
 | _=>exact hm.elim
def m3 (f g:D->D->Sto->Res D) (ma mb mc:ME):ME:=λe S=>(ma e S).bind λx S1=>(mb e S1).bind λy S2=>(okR (f x y S2)).bind λz S3=>match z with
 | .bl true=>(mc e S3).bind λw S4=>okR (g y w S4)
 | .bl false=>.ok (.bl false) S3
 | _=>.bad
def A1:ML:=λ_ S=>.ok [] S
def AX (m:ME) (r:ML):ML:=λe S=>(m e S).bind λd S1=>(r e S1).bind λds S2=>.ok (d :: ds) S2
variable {es:List Expr} {ml:ML}
theorem BD:GA X E [] A1:=Fm.imp λσ H Q ⟨ρ,l,S,hl,hs,hm⟩=>by
 exact hm ρ H [] .refl hs .nil
theorem Am (ha:GE X E e ma) (hr:GA X E es ml) (hs:AU (e :: es) X.env=(false,Bg e X.env) :: AU es X.env:=by rfl):GA X E (e :: es) (AX ma ml):=(D7 ha hr hs).imp λσ H Q ⟨ρ,l,S,hl,hs,hm⟩=>by
 exact ⟨ρ,l,S,hl,hs,hm.seq λd S1 hm ρ1 H1 x l1 s1 r1=>⟨ρ1,l,S1,hl.mono l1,s1,(hm.later l1).seq λds' S2 hm ρ2 H2 xs l2 s2 r2=>hm ρ2 H2 (x :: xs) (l1.trans l2) s2 (.cons (r1.mono l2) r2)⟩⟩
def HC (m:ML):ME:=λe S=>(m e S).bind λds S1=>if ds.length<=sizeLine then .ok (.tup ds) S1 else .bad
theorem Fi {K:AC} {ρ:List AI} {H:Hp} {S:Sto} {p:AI} {ho:HO} (hs:Bw K ρ S H) (hp:H p=none):Bw K ρ S (upd H p ho)/\Le K ρ H ρ (upd H p ho):=by
 have le:Le K ρ H ρ (upd H p ho):=Le.fresh hp;refine ⟨⟨hs.len,hs.nd,λn o a h1 h2=>(hs.ob n o a h1 h2).mono le (Bm λz=>?_)⟩,le⟩;subst z;exact hs.notIn hp h2
theorem KQ {x1} (h:GA X E es ml):GE X E (.Tuple es x1 pos) (HC ml):=(iW h).imp λσ H Q ⟨ρ,l,S,hl,hs,hm⟩=>by
 refine ⟨ρ,l,S,hl,hs,hm.seq λds S1 hm ρ1 H1 xs l1 s1 r1=>?_⟩;split at hm
 ·rename_i hz
  refine ⟨by rw [<-r1.length];exact hz,λp hp=>?_⟩;obtain ⟨s2,l2⟩:=Fi (ho:=.tup xs) s1 hp;exact hm ρ1 _ _ (l1.trans l2) s2 (.tup Bd (r1.mono l2))
 ·exact hm.elim
def Ci (m:ML):ML:=λe S=>(m e S).bind λds S1=>if ds.length<=sizeLine then .ok ds S1 else .bad
theorem Gm (h:GA X E es ml):GL X E (.List es pos) (Ci ml):=(ic h).imp λσ H Q ⟨ρ,l,S,hl,hs,hm⟩=>by
 refine ⟨ρ,l,S,hl,hs,hm.seq λds S1 hm ρ1 H1 xs l1 s1 r1=>?_⟩;split at hm
 ·rename_i hz
  refine ⟨by rw [<-r1.length];exact hz,λp hp=>?_⟩;obtain ⟨s2,l2⟩:=Fi (ho:=.lst xs) s1 hp;exact hm ρ1 _ p xs (l1.trans l2) s2 (r1.mono l2) Bd (λn q=>s1.notIn hp q) (l1.back hs s1 hp)
 ·exact hm.elim
def C5 (m:ML):ME:=λe S=>(m e S).bind λds S1=>.ok (.ref S1.length) (S1++[.lst ds])
theorem DQ (h:GL X E e ml):GE X E e (C5 ml):=PE.imp h λσ H Q ⟨ρ,l,S,hl,hs,hm⟩=>by
 refine ⟨ρ,l,S,hl,hs,hm.seq λds S1 hm ρ1 H1 p xs l1 s1 r1 hp hn hp0=>?_⟩
 have l0:∀(n:Nat) a,ρ1[n]?=some a->(ρ1++[p])[n]?=some a:=λn a h=>by rw [Ah (AK.mp h).1];exact h
 obtain ⟨s2,at2⟩:=s1.adopt (o:=.lst ds) hn ⟨xs,hp,r1.more l0⟩;refine hm _ _ _ ⟨λn a h=>l0 n a (l1.pre n a h),l1.tup,l1.frz,λa o e h=>⟨(l1.oth a o e h).1,λn q=>?_⟩⟩ s2 (.ref at2)
 rcases Hh q with ⟨q,_⟩ | ⟨_,q⟩
 ·exact (l1.oth a o e h).2 n q
 ·exact B7 e hp0 q
def Ge (d:D) (S:Sto):Option (List D):=match d with
 | .tup ds=>some ds
 | .fro ds=>some ds
 | .ref n=>match S[n]? with
  | some (.lst ds)=>some ds
  | _=>none
 | _=>none
def IN (m:ME):ML:=λe S=>(m e S).bind λd S1=>match Ge d S1 with
 | some ds=>.ok ds S1
 | none=>.bad
theorem Ko {K:AC} {ρ:List AI} {H:Hp} {S:Sto} {d:D} {x:V} {ds:List D} (hs:Bw K ρ S H) (r:Bo K ρ H d x) (h:Ge d S=some ds):∃p xs,x=.ref p/\Ao K ρ H ds xs/\(SqL K H p xs∨SqT K H p xs):=by
 cases r with
 | tup h1 h2=>cases h;exact ⟨_,_,rfl,h2,.inr (.inl (.inl h1))⟩
 | fro h1 h2=>cases h;exact ⟨_,_,rfl,h2,.inl h1.sq⟩
 | @ref n a hn=>
  obtain ⟨o,ho,ro⟩:=hs.there hn;unfold Ge at h;simp only [ho] at h
  cases o with
  | lst es=>cases h;obtain ⟨vs,e,rr⟩:=ro;exact ⟨_,_,rfl,rr,.inl (.inl (.inl e))⟩
  | _=>cases h
 | _=>cases h
theorem bC (h:GE X E e ma):GQ X E e (IN ma):=PE.imp h λσ H Q ⟨ρ,l,S,hl,hs,hm⟩=>by
 refine ⟨ρ,l,S,hl,hs,hm.seq λx S1 hm ρ1 H1 v l1 s1 r1=>?_⟩
 cases hq:Ge x S1 with
 | none=>rw [hq] at hm;exact hm.elim
 | some ds=>
  rw [hq] at hm;obtain ⟨p,xs,rfl,r2,sq⟩:=Ko s1 r1 hq;exact hm ρ1 H1 p xs l1 s1 r2 sq
end
def Res.lift {α:Type} (r:Res α) (e:Lo) (f:α->Sto->Res Fl):Res Fl:=match r with
 | .ok a S=>f a S
 | .err c S=>.ok (.ex c e) S
 | .bad=>.bad
theorem Bn.lift {α:Type} {K:AC} {E:EW} {ρ ρ1:List AI} {H H1:Hp} {σ:St} {e:Lo} {D:WC} {r:Res α} {F:α->Sto->Res Fl} {k':α->Sto->Prop} (h:Bn K noH ρ1 H1 (r.lift e F) λfl S'=>Pd K E ρ H S' D fl) (hl:E9 K ρ1 H1 e σ) (l:Le K ρ H ρ1 H1)
  (f:∀a S,(Bn K noH ρ1 H1 (F a S) λfl S'=>Pd K E ρ H S' D fl)->k' a S):Bn K (λc=>E c σ) ρ1 H1 r k':=by
 cases r with
 | ok a S=>exact f a S h
 | err c S=>exact λρ' H' l' s'=>h ρ' H' σ (l.trans l') s' (hl.mono l')
 | bad=>exact h
def sNx:MS:=λe S=>.ok (.nx e) S
def BY (a b:MS):MS:=λe S=>(a e S).bind λf S1=>match f with
 | .nx e1=>b e1 S1
 | f=>.ok f S1
def CY (m:ME):MS:=λe S=>(m e S).lift e λ_ S1=>.ok (.nx e) S1
def Fa (m:ME):MS:=λe S=>(m e S).lift e λd S1=>.ok (.rt d) S1
def sIf (t:MT) (a b:MS):MS:=λe S=>(t e S).lift e λc S1=>if c=true then a e S1 else b e S1
def QN (m:ME) (g:MG):MS:=λe S=>(m e S).lift e λd S1=>(g d e S1).bind λe1 S2=>.ok (.nx e1) S2
def tgN (i:Nat):MG:=λd e S=>.ok (e.set i (some d)) S
def CB (i:Nat) (m:ME):MS:=QN m (tgN i)
section
variable {X:Cx} {E:EW} {st:C2} {rest:List C2} {e:Expr} {pos:Pos} {a b:MS} {m:ME} {t:MT}
theorem Pd.later {K:AC} {ρ ρ1:List AI} {H H1:Hp} {S:Sto} {D:WC} {f:Fl} (l:Le K ρ H ρ1 H1) (h:Pd K E ρ H S D f):Pd K E ρ1 H1 S D f:=by
 cases f with
 | nx e=>exact λρ' H' σ' l'=>h ρ' H' σ' (l.trans l')
 | bk e=>exact λρ' H' σ' l'=>h ρ' H' σ' (l.trans l')
 | ct e=>exact λρ' H' σ' l'=>h ρ' H' σ' (l.trans l')
 | ex c e=>exact λρ' H' σ' l'=>h ρ' H' σ' (l.trans l')
 | rt d=>exact λρ' H' x l'=>h ρ' H' x (l.trans l')
theorem Cg:GSs X E [] sNx:=dN.imp λD σ H ⟨ρ,l,S,hl,hs,hm⟩=>by
 exact hm ρ H σ .refl hs hl
theorem Ai (h1:GS X E st a) (h2:GSs X E rest b):GSs X E (st :: rest) (BY a b):=(Z5 h1 h2).imp λD σ H ⟨ρ,l,S,hl,hs,hm⟩=>by
 refine ⟨ρ,l,S,hl,hs,hm.seq λg S1 hm=>?_⟩
 cases g with
 | nx e'=>exact λρ1 H1 σ1 l1 s1 r1=>⟨ρ1,e',S1,r1,s1,hm.go l1 λ_ _ k=>k.later l1⟩
 | rt d=>exact hm
 | bk d=>exact hm
 | ct d=>exact hm
 | ex c d=>exact hm
theorem Aw (h1:GS X E st a):GSs X E [st] a:=dM h1
theorem DX (he:GE X E e m) (hs:FZ e none pos.line X.env=pure false:=by rfl):GS X E (.Expr e pos) (CY m):=(dO he hs).imp λD σ H ⟨ρ,l,S,hl,hs,hm⟩=>by
 exact ⟨ρ,l,S,hl,hs,hm.lift hl .refl λd S1 hm ρ1 H1 x l1 s1 r1=>hm ρ1 H1 σ l1 s1 (hl.mono l1)⟩
theorem DJ (he:GE X E e m):GS X E (.Return (some e) pos) (Fa m):=(iO he).imp λD σ H ⟨ρ,l,S,hl,hs,hm⟩=>by
 exact ⟨ρ,l,S,hl,hs,hm.lift hl .refl λd S1 hm ρ1 H1 x l1 s1 r1=>hm ρ1 H1 x l1 s1 r1⟩
theorem E1 {c:Expr} {sa sb:List C2} (hc:GT X E c t) (ha:GSs X E sa a) (hb:GSs X E sb b):GS X E (.If c sa sb pos) (sIf t a b):=(ko hc ha hb).imp λD σ H ⟨ρ,l,S,hl,hs,hm⟩=>by
 refine ⟨ρ,l,S,hl,hs,hm.lift hl .refl λc S1 hm ρ1 H1 l1 s1=>?_⟩
 cases c with
 | true=>rw [qX rfl] at hm ⊢;exact ⟨ρ1,l,S1,hl.mono l1,s1,hm.go l1 λ_ _ k=>k.later l1⟩
 | false=>rw [qY AO] at hm ⊢;exact ⟨ρ1,l,S1,hl.mono l1,s1,hm.go l1 λ_ _ k=>k.later l1⟩
theorem eY {i:Nat} {tg:Expr} (h:PG X tg (Ww i)):GG X tg (tgN i):=h.imp λv σ H Q ⟨ρ,l,S,d,hd,hl,hs,hm⟩=>by
 exact hm ρ H _ .refl hs (hl.set hd i)
theorem Sa {tg:Expr} {g:MG} (he:GE X E e m) (hg:GG X tg g) (hs:swapsWithSole [tg] e pos.line X.env=pure false:=by rfl) (hw:swappedStores [tg] e X.env=pure none:=by rfl)
  (h1:(Ed [tg] X.env).map (·.2)=[LS tg X.env]:=by rfl):GS X E (.Assign [tg] e pos) (QN m g):=(iR he hg hs hw h1).imp λD σ H ⟨ρ,l,S,hl,hs,hm⟩=>by
 exact ⟨ρ,l,S,hl,hs,hm.lift hl .refl λd S1 hm ρ1 H1 x l1 s1 r1=>⟨ρ1,l,S1,d,r1,hl.mono l1,s1,(hm.later l1).seq λe1 S2 hm ρ2 H2 σ2 l2 s2 r2=>hm ρ2 H2 σ2 (l1.trans l2) s2 r2⟩⟩
theorem jH {i:Nat} {x:Str} {pos':Pos} (hN:X.N.Nodup) (hi:X.N[i]?=some x) (hx:Loc X.env.scope x) (he:GE X E e m) (hs:FZ e (some (.Name x pos')) pos.line X.env=pure false:=by rfl)
  (hf:X.fn x=true∨X.env.scope.names.lookup x=some .local:=by first | exact .inl rfl | exact .inr rfl | assumption):GS X E (.Assign [.Name x pos'] e pos) (CB i m):=(iN hN hi hx he hs hf).imp λD σ H ⟨ρ,l,S,hl,hs,hm⟩=>by
 exact ⟨ρ,l,S,hl,hs,hm.lift hl .refl λd S1 hm ρ1 H1 x l1 s1 r1=>hm ρ1 H1 _ l1 s1 ((hl.mono l1).set r1 i)⟩
def JW (v:IU) (g:MG) (b:MS):Nat->Nat->Lo->Sto->Res Fl
 | k,i,e,S=>match v S with
  | none=>.bad
  | some ds=>match ds[i]? with
   | none=>.ok (.nx e) S
   | some d=>match k with
    | 0=>.bad
    | k+1=>(g d e S).bind λe1 S1=>(b e1 S1).bind λf S2=>match f with
     | .nx e2=>JW v g b k (i+1) e2 S2
     | .ct e2=>JW v g b k (i+1) e2 S2
     | .bk e2=>.ok (.nx e2) S2
     | .rt d=>.ok (.rt d) S2
     | .ex c e2=>.ok (.ex c e2) S2
def C4 (v:IU) (S:Sto):Nat:=match v S with
 | none=>0
 | some ds=>ds.length
def Gz (m:MI) (g:MG) (b:MS):MS:=λe S=>(m e S).lift e λv S1=>JW v g b (C4 v S1) 0 e S1
theorem E6 {tg iter:Expr} {body:List C2} {mi:MI} {g:MG} (hp:NO (AR X.prog X.w) X.A X.env X.xe) (hc:X.calm=true) (hi:GI X E tg iter mi) (hg:GG X tg g) (hb:GSs X E body b)
  (hs:∀x,FA iter X.env x=pure x:=by intro _;rfl):GS X E (.For tg iter body [] pos) (Gz mi g b):=(iP hp hc hi hg hb hs).imp λD σ H ⟨ρ,l,S,hl,hs,hm⟩=>by
 refine ⟨ρ,l,S,hl,hs,hm.lift hl .refl λv S1 hm ρ1 H1 J l1 s1 vo=>?_⟩;refine ⟨λi n σ2 H2=>∃ρ2 e2 S2,Le X.K ρ1 H1 ρ2 H2/\E9 X.K ρ2 H2 e2 σ2/\Bw X.K ρ2 S2 H2/\Bn X.K noH ρ2 H2 (JW v g b n i e2 S2) λfl S'=>Pd X.K E ρ H S' D fl,⟨C4 v S1,ρ1,l,S1,.refl,hl.mono l1,s1,hm.later l1⟩,?_⟩;rintro i n σ2 H2 ⟨ρ2,e2,S2,l2,r2,s2,hm2⟩;unfold JW at hm2
 cases hv:v S2 with
 | none=>rw [hv] at hm2;exact hm2.elim
 | some ds=>
  rw [hv] at hm2;dsimp only at hm2;obtain ⟨v1,v2⟩:=vo ρ2 H2 S2 ds i l2 s2 hv
  cases hd:ds[i]? with
  | none=>
   rw [hd] at hm2;exact .inl ⟨v1 hd,hm2 ρ2 H2 σ2 (l1.trans l2) s2 r2⟩
  | some d=>
   rw [hd] at hm2;dsimp only at hm2;obtain ⟨go,yl⟩:=v2 d hd
   cases n with
   | zero=>exact hm2.elim
   | succ n=>
    dsimp only at hm2;refine .inr ⟨go,λσ' H'=>∃ρ2 e2 S2,Le X.K ρ1 H1 ρ2 H'/\E9 X.K ρ2 H' e2 σ'/\Bw X.K ρ2 S2 H'/\Bn X.K noH ρ2 H' (JW v g b n (i+1) e2 S2) λfl S'=>Pd X.K E ρ H S' D fl,λσ' H' q=>⟨n,CQ n,q⟩,λx H' y=>?_⟩;obtain ⟨ρ3,l3,s3,rd⟩:=yl x H' y;refine ⟨ρ3,e2,S2,d,rd,r2.mono l3,s3,(hm2.later l3).seq λe3 S3 hm2 ρ4 H4 σ4 l4 s4 r4=>?_⟩;refine ⟨ρ4,e3,S3,r4,s4,(hm2.later l4).seq λf4 S4 hm2=>?_⟩
    cases f4 with
    | nx e5=>exact λρ5 H5 σ5 l5 s5 r5=>⟨ρ5,e5,S4,l2.trans (l3.trans (l4.trans l5)),r5,s5,hm2.later l5⟩
    | ct e5=>exact λρ5 H5 σ5 l5 s5 r5=>⟨ρ5,e5,S4,l2.trans (l3.trans (l4.trans l5)),r5,s5,hm2.later l5⟩
    | bk e5=>exact λρ5 H5 σ5 l5 s5 r5=>hm2 ρ5 H5 σ5 (l1.trans (l2.trans (l3.trans (l4.trans l5)))) s5 r5
    | ex c e5=>exact λρ5 H5 σ5 l5 s5 r5=>hm2 ρ5 H5 σ5 (l1.trans (l2.trans (l3.trans (l4.trans l5)))) s5 r5
    | rt d5=>exact λρ5 H5 x5 l5 s5 r5=>hm2 ρ5 H5 x5 (l1.trans (l2.trans (l3.trans (l4.trans l5)))) s5 r5
def He (c:MT) (b:MS):Nat->MS
 | 0=>λ_ _=>.bad
 | n+1=>λe S=>(c e S).lift e λt S1=>if t=true then (b e S1).bind λf S2=>match f with
   | .nx e2=>He c b n e2 S2
   | .ct e2=>He c b n e2 S2
   | .bk e2=>.ok (.nx e2) S2
   | .rt d=>.ok (.rt d) S2
   | .ex c e2=>.ok (.ex c e2) S2
  else .ok (.nx e) S1
theorem bB {c:Expr} {body:List C2} (N:Nat) (hp:NO (AR X.prog X.w) X.A X.env X.xe) (hc:GT X E c t) (hb:GSs X E body b):GS X E (.While c body [] pos) (He t b N):=(Z6 hp hc hb).imp λD σ H ⟨ρ,l,S,hl,hs,hm⟩=>by
 refine ⟨λn σ2 H2=>∃ρ2 e2 S2,Le X.K ρ H ρ2 H2/\E9 X.K ρ2 H2 e2 σ2/\Bw X.K ρ2 S2 H2/\Bn X.K noH ρ2 H2 (He t b n e2 S2) λfl S'=>Pd X.K E ρ H S' D fl,⟨N,ρ,l,S,.refl,hl,hs,hm⟩,?_⟩;rintro n σ2 H2 ⟨ρ2,e2,S2,l2,r2,s2,hm2⟩
 cases n with
 | zero=>exact hm2.elim
 | succ n=>
  refine ⟨ρ2,e2,S2,r2,s2,hm2.lift r2 l2 λtc S3 hm2 ρ3 H3 l3 s3=>?_⟩
  cases tc with
  | false=>rw [qY AO] at hm2 ⊢;exact hm2 ρ3 H3 σ2 (l2.trans l3) s3 (r2.mono l3)
  | true=>
   rw [qX rfl] at hm2 ⊢;refine ⟨λσ' H'=>∃ρ2 e2 S2,Le X.K ρ H ρ2 H'/\E9 X.K ρ2 H' e2 σ'/\Bw X.K ρ2 S2 H'/\Bn X.K noH ρ2 H' (He t b n e2 S2) λfl S'=>Pd X.K E ρ H S' D fl,λσ' H' q=>⟨n,CQ n,q⟩,?_⟩;refine ⟨ρ3,e2,S3,r2.mono l3,s3,(hm2.later l3).seq λf4 S4 hm2=>?_⟩
   cases f4 with
   | nx e5=>exact λρ5 H5 σ5 l5 s5 r5=>⟨ρ5,e5,S4,l2.trans (l3.trans l5),r5,s5,hm2.later l5⟩
   | ct e5=>exact λρ5 H5 σ5 l5 s5 r5=>⟨ρ5,e5,S4,l2.trans (l3.trans l5),r5,s5,hm2.later l5⟩
   | bk e5=>exact λρ5 H5 σ5 l5 s5 r5=>hm2 ρ5 H5 σ5 (l2.trans (l3.trans l5)) s5 r5
   | ex c e5=>exact λρ5 H5 σ5 l5 s5 r5=>hm2 ρ5 H5 σ5 (l2.trans (l3.trans l5)) s5 r5
   | rt d5=>exact λρ5 H5 x5 l5 s5 r5=>hm2 ρ5 H5 x5 (l2.trans (l3.trans l5)) s5 r5
end
section
variable {X:Cx} {E:EW} {tg e:Expr} {m:ME} {ml:ML} {K:AC}
def NZ (d:D):IU:=λS=>match d with
 | .ref n=>match S[n]? with
  | some (.lst ds)=>some ds
  | _=>none
 | .fro ds=>some ds
 | _=>none
def Fh (ds:List D):IU:=λ_=>some ds
def lU (m:ME):MI:=λe S=>(m e S).bind λd S1=>match NZ d S1 with
 | some _=>.ok (NZ d) S1
 | none=>.bad
def fx (m:ME):MI:=λe S=>(m e S).bind λd S1=>match d with
 | .tup ds=>.ok (Fh ds) S1
 | _=>.bad
theorem Oj {ρ:List AI} {H:Hp} {S:Sto} {a:AI} {d:D} {ds:List D} (s:Bw K ρ S H) (r:Bo K ρ H d (.ref a)) (hv:NZ d S=some ds):∃xs,SqL K H a xs/\Ao K ρ H ds xs:=by
 cases r with
 | tup h1 h2=>cases hv
 | exc _ _=>cases hv
 | fro h1 h2=>cases hv;exact ⟨_,h1.sq,h2⟩
 | @ref n _ hn=>
  obtain ⟨o,ho,ro⟩:=s.there hn;unfold NZ at hv;simp only [ho] at hv
  cases o with
  | lst es=>
   cases hv;obtain ⟨vs,e,rr⟩:=ro;exact ⟨vs,.inl (.inl e),rr⟩
  | _=>cases hv
theorem Oi {ρ:List AI} {H:Hp} {a:AI} {d:D} (r:Bo K ρ H d (.ref a)):NH K ρ H (Itl K a) (NZ d):=by
 intro ρ2 H2 S ds i l s hv;obtain ⟨xs,sq,rr⟩:=Oj s (r.mono l) hv;refine ⟨λhn=>⟨xs,sq,by rw [<-rr.length];exact B8.mp hn⟩,λd hd=>?_⟩;obtain ⟨x,hx,rx⟩:=rr.get hd;refine ⟨⟨xs,x,sq,hx⟩,λy H' ⟨e,hy⟩=>?_⟩;subst e;have:=hy xs sq;rw [hx] at this;cases this;exact ⟨ρ2,.refl,s,rx⟩
theorem jK (h:GE X E e m):GI X E tg e (lU m):=(dW h).imp λσ H R ⟨ρ,l,S,hl,hs,hm⟩=>by
 refine ⟨ρ,l,S,hl,hs,hm.seq λd S1 hm ρ1 H1 x l1 s1 r1=>?_⟩
 cases hv:NZ d S1 with
 | none=>rw [hv] at hm;exact hm.elim
 | some ds=>
  rw [hv] at hm
  have:∃a,x=.ref a:=by
   cases r1 <;> first | exact ⟨_,rfl⟩ | (cases hv;done)
  obtain ⟨a,rfl⟩:=this;obtain ⟨xs,sq,_⟩:=Oj s1 r1 hv;exact ⟨a,rfl,⟨xs,sq⟩,hm ρ1 H1 _ l1 s1 (Oi r1)⟩
theorem Og {ρ:List AI} {H:Hp} {a:AI} {ds:List D} {xs:List V} (h1:H a=some (.tup xs)) (h2:Ao K ρ H ds xs):NH K ρ H (Itt K a) (Fh ds):=by
 intro ρ2 H2 S ds' i l s hv;cases hv;have rr:=h2.mono l;have sq:SqT K H2 a xs:=.inl (.inl (l.tup _ _ h1));refine ⟨λhn=>⟨xs,sq,by rw [<-rr.length];exact B8.mp hn⟩,λd hd=>?_⟩;obtain ⟨x,hx,rx⟩:=rr.get hd;refine ⟨⟨xs,x,sq,hx⟩,λy H' ⟨e,hy⟩=>?_⟩;subst e;have:=hy xs sq;rw [hx] at this;cases this;exact ⟨ρ2,.refl,s,rx⟩
theorem jJ (h:GE X E e m):GI X E tg e (fx m):=(iS h).imp λσ H R ⟨ρ,l,S,hl,hs,hm⟩=>by
 refine ⟨ρ,l,S,hl,hs,hm.seq λd S1 hm ρ1 H1 x l1 s1 r1=>?_⟩
 cases d <;> first | exact hm.elim | skip
 cases r1 with
 | tup q1 q2=>exact ⟨_,rfl,⟨_,.inl (.inl q1)⟩,hm ρ1 H1 _ l1 s1 (Og q1 q2)⟩
def DW (lo:Int) (n:Nat):List D:=(BQ n).map λi:Nat=>D.int (lo+i)
theorem Q5 (lo:Int) (n i:Nat):(DW lo n)[i]?=if i < n then some (.int (lo+i)) else none:=by
 unfold DW;rw [Ag]
 by_cases h:i < n
 ·rw [CC h,qX h];rfl
 ·rw [qY h,B8.mpr (by simpa using h)];rfl
theorem Oh {ρ:List AI} {H:Hp} (lo:Int) (n:Nat):NH K ρ H (Itr lo n) (Fh (DW lo n)):=by
 intro ρ2 H2 S ds' i l s hv;cases hv;rw [Q5];refine ⟨λhn=>?_,λd hd=>?_⟩
 ·split at hn
  ·cases hn
  ·rename_i h;exact OZ h
 ·split at hd
  ·rename_i h
   cases hd;refine ⟨h,λy H' ⟨e,hy⟩=>?_⟩;subst e;subst hy;exact ⟨ρ2,.refl,s,.int _⟩
  ·cases hd
def iR1 (ml:ML):MI:=λe S=>(ml e S).bind λds S1=>match ds with
 | [.int j]=>if -(2 ^ 62)<=j/\j < 2 ^ 62 then .ok (Fh (DW 0 j.toNat)) S1 else .bad
 | _=>.bad
def iR2 (ml:ML):MI:=λe S=>(ml e S).bind λds S1=>match ds with
 | [.int i,.int j]=>if -(2 ^ 62)<=i/\i < 2 ^ 62/\-(2 ^ 62)<=j/\j < 2 ^ 62 then .ok (Fh (DW i (j - i).toNat)) S1 else .bad
 | _=>.bad
theorem Gn {a:Expr} {p pos:Pos} (hg:Gl X "range") (hm:X.mg "range" = none) (ha:GA X E [a] ml) (hs:AU [a] X.env=[(false,Bg a X.env)]:=by rfl):GI X E tg (.Call (.Name "range" p) [a] [] pos) (iR1 ml):=(Xq hg hm ha hs).imp λσ H R ⟨ρ,l,S,hl,hs,hm⟩=>by
 refine ⟨ρ,l,S,hl,hs,hm.seq λds S1 hm ρ1 H1 xs l1 s1 r1=>?_⟩;split at hm
 ·rename_i j
  split at hm
  ·rename_i hj
   cases r1 with
   | cons r t=>
    cases t;cases r;exact ⟨j,rfl,hj.1,hj.2,hm ρ1 H1 _ l1 s1 (Oh 0 j.toNat)⟩
  ·exact hm.elim
 ·exact hm.elim
theorem YD {a b:Expr} {p pos:Pos} (hg:Gl X "range") (hm:X.mg "range" = none) (ha:GA X E [a,b] ml) (hs:AU [a,b] X.env=[(false,Bg a X.env),(false,Bg b X.env)]:=by rfl) (hs2:AU [b] X.env=[(false,Bg b X.env)]:=by rfl) :
  GI X E tg (.Call (.Name "range" p) [a,b] [] pos) (iR2 ml):=(Xp hg hm ha hs hs2).imp λσ H R ⟨ρ,l,S,hl,hs,hm⟩=>by
 refine ⟨ρ,l,S,hl,hs,hm.seq λds S1 hm ρ1 H1 xs l1 s1 r1=>?_⟩;split at hm
 ·rename_i i j
  split at hm
  ·rename_i hj
   cases r1 with
   | cons r t=>
    cases t with
    | cons r' t=>
     cases t;cases r;cases r';exact ⟨i,j,rfl,hj,hm ρ1 H1 _ l1 s1 (Oh i _)⟩
  ·exact hm.elim
 ·exact hm.elim
end
def KA:List D->Lo->Sto->Res Lo
 | [],e,S=>.ok e S
 | _,_,_=>.bad
def Df (g:MG) (r:List D->Lo->Sto->Res Lo):List D->Lo->Sto->Res Lo
 | d :: ds,e,S=>(g d e S).bind λe1 S1=>r ds e1 S1
 | [],_,_=>.bad
def Jj (n:Nat) (r:List D->Lo->Sto->Res Lo):MG:=λd e S=>match d with
 | .tup ds=>if ds.length=n then r ds e S else .bad
 | _=>.bad
section
variable {X:Cx} {E:EW} {pos:Pos}
def gGs (K:AC) (r:List D->Lo->Sto->Res Lo):TGs:=λvs σ H Q=>∃ρ e S ds,Ao K ρ H ds vs/\E9 K ρ H e σ/\Bw K ρ S H/\Bn K noH ρ H (r ds e S) λe' S'=>∀ρ' H' σ',Le K ρ H ρ' H'->Bw K ρ' S' H'->E9 K ρ' H' e' σ'->Q σ' H'
abbrev GGs (X:Cx) (ts:List Expr) (r:List D->Lo->Sto->Res Lo):Prop:=PGs X ts (gGs X.K r)
theorem PGs.imp {X:Cx} {ts:List Expr} {t t':TGs} (h:PGs X ts t) (i:∀vs σ H Q,t' vs σ H Q->t vs σ H Q):PGs X ts t':=λpins s σ H vs us Q I r q=>h pins s σ H vs us Q I r (i vs σ H Q q)
theorem OP:GGs X [] KA:=dY.imp λvs σ H Q ⟨ρ,l,S,ds,hd,hl,hs,hm⟩=>by
 cases ds with
 | nil=>cases hd;exact ⟨rfl,hm ρ H σ .refl hs hl⟩
 | cons d ds=>exact hm.elim
theorem G4 {e:Expr} {es:List Expr} {g:MG} {r:List D->Lo->Sto->Res Lo} (h1:GG X e g) (h2:GGs X es r)
  (hs:(Ed (e :: es) X.env).map (·.2)=LS e X.env :: (Ed es X.env).map (·.2):=by rfl):GGs X (e :: es) (Df g r):=(aA h1 h2 hs).imp λvs σ H Q ⟨ρ,l,S,ds,hd,hl,hs,hm⟩=>by
 cases ds with
 | nil=>exact hm.elim
 | cons d ds=>
  cases hd with
  | cons q1 q2=>
   exact ⟨_,_,rfl,ρ,l,S,d,q1,hl,hs,hm.seq λe1 S1 hm ρ1 H1 σ1 l1 s1 r1=>⟨ρ1,e1,S1,ds,q2.mono l1,r1,s1,hm.go l1 λ_ _ k ρ2 H2 σ2 l2 s2 r2=>k ρ2 H2 σ2 (l1.trans l2) s2 r2⟩⟩
theorem Sd {es:List Expr} {k:Nat} {r:List D->Lo->Sto->Res Lo} {n:Nat} (hc:X.calm=true) (h:GGs X es r)
  (hn:(Ed es X.env).length=n:=by rfl) (hst:(Ed es X.env).findIdx? (·.1)=none:=by rfl):GG X (.Tuple es k pos) (Jj n r):=(iT hc h hn hst).imp λv σ H Q ⟨ρ,l,S,d,hd,hl,hs,hm⟩=>by
 cases d <;> first | exact hm.elim | skip
 rename_i ds
 cases hd with
 | tup q1 q2=>
  unfold Jj at hm;dsimp only at hm;split at hm
  ·rename_i hlen
   exact ⟨_,_,rfl,.inl (.inl q1),by rw [<-q2.length];exact hlen,ρ,l,S,ds,q2,hl,hs,hm⟩
  ·exact hm.elim
end
def spM (K:AC) (n:Nat) (f:List D->Sto->Res D):Sp:=λvs H Q E=>∃ρ ds S,ds.length=n/\Ao K ρ H ds vs/\Bw K ρ S H/\Bn K (λc H'=>E (.ref c) none H') ρ H (f ds S) λd S'=>
 ∀ρ' H' x,Le K ρ H ρ' H'->Bw K ρ' S' H'->Bo K ρ' H' d x->Q x H'
theorem spM.len {K:AC} {n:Nat} {f:List D->Sto->Res D} {vs:List V} {H:Hp} {Q:VK} {E:XK} (h:spM K n f vs H Q E):vs.length=n:=by
 obtain ⟨ρ,ds,S,h1,h2,_⟩:=h;rw [<-h2.length];exact h1
def B3 (n:Nat) (f:List D->Sto->Res D) (m:ML):ME:=λe S=>(m e S).bind λds S1=>if ds.length=n then f ds S1 else .bad
def PL (C:AI) (n:Nat) (f:List D->Sto->Res D) (m:ML):ME:=λe S=>(m e S).bind λds S1=>if ds.length+1=n then (f (.ref S1.length :: ds) (S1++[.ins C []])).bind (λd S2=>match d with
  | .non=>.ok (.ref S1.length) S2
  | _=>.bad) else .bad
def XU (E:EW) (σ:St):XK:=λv o H=>o=none/\∃c,v=.ref c/\E c σ H
section
variable {X:Cx} {E:EW} {CX:CXT} {k n:Nat} {f C:AI} {fd:De} {ps:List Str} {x:Str} {p pos:Pos} {e:Expr} {es:List Expr} {ml:ML} {g:List D->Sto->Res D}
theorem Bn.xk {α:Type} {K:AC} {σ:St} {ρ ρ1:List AI} {H H1:Hp} {r:Res α} {k k':α->Sto->Prop} (h:Bn K (λc=>E c σ) ρ H r k) (l:Le K ρ H ρ1 H1) (f:∀a S,k a S->k' a S):Bn K (λc H'=>XU E σ (.ref c) none H') ρ1 H1 r k':=by
 cases r with
 | ok a S=>exact f a S h
 | err c S=>exact λρ' H' l' s=>⟨rfl,c,rfl,h ρ' H' (l.trans l') s⟩
 | bad=>exact h
theorem C7 (F:Ek X.prog X.w X.K X.mg X.base CX k f fd ps (spM X.K n g)) (hx:Lk CX X (XU E)) (hr:HD k X.A) (hg:Gl X x) (hm:X.mg x=some (.ref f)) (hk:Fg X.K (.ref f)=true) (hb:Binds X.K fd ps [])
  (ha:GA X E (e :: es) ml) (hdb:(x==("__debug__" : Str))=false:=by decide) (he:AU (e :: es) X.env=(false,Bg e X.env) :: AU es X.env:=by rfl) (hpl:(C1 pos (AU es X.env)).any (·.1)=false:=by rfl) :
  GE X E (.Call (.Name x p) (e :: es) [] pos) (B3 n g ml):=(di (E:=XU E) F hr hg hm hk hb .nil hx ha hdb he hpl).imp λσ H Q ⟨ρ,l,S,hl,hs,hm⟩=>by
 refine ⟨ρ,l,S,hl,hs,hm.seq λds S1 hm ρ1 H1 xs l1 s1 r1=>?_⟩;split at hm
 ·rename_i hlen
  rw [B6];exact ⟨ρ1,ds,S1,hlen,r1,s1,hm.xk l1 λ_ _ k ρ' H' z l' s' r'=>k ρ' H' z (l1.trans l') s' r'⟩
 ·exact hm.elim
theorem ei (M:Mk X.K C f) (F:Ek X.prog X.w X.K X.mg X.base CX k f fd ps (spM X.K n g)) (hx:Lk CX X (XU E)) (hr:HD (k+1) X.A) (hg:Gl X x) (hm:X.mg x=some (.ref C)) (hb:Binds X.K fd ps [])
  (ha:GA X E (e :: es) ml) (hdb:(x==("__debug__" : Str))=false:=by decide) (he:AU (e :: es) X.env=(false,Bg e X.env) :: AU es X.env:=by rfl) (hpl:(C1 pos (AU es X.env)).any (·.1)=false:=by rfl) :
  GE X E (.Call (.Name x p) (e :: es) [] pos) (PL C n g ml):=(dc (E:=XU E) M F hr hg hm hb .nil hx ha hdb he hpl).imp λσ H Q ⟨ρ,l,S,hl,hs,hm⟩=>by
 refine ⟨ρ,l,S,hl,hs,hm.seq λds S1 hm ρ1 H1 xs l1 s1 r1 a dx ha hdx hne=>?_⟩;split at hm
 ·rename_i hlen
  rw [B6];obtain ⟨s2,l2⟩:=Fi (ho:=.own a) s1 hdx
  have ha2:upd H1 dx (.own a) a=none:=by rw [Bm (Bl hne)];exact ha
  obtain ⟨s3,l3,at3⟩:=s2.alloc (p:=a) (ho:=.ins C dx []) (o:=.ins C []) ha2 ⟨dx,[],Bd,.nil⟩;refine ⟨ρ1++[a],.ref S1.length :: ds,S1++[.ins C []],by simpa using hlen,.cons (.ref at3) (r1.mono (l2.trans l3)),s3,Bn.xk (hm.seq λz S2 hm=>hm) (l1.trans (l2.trans l3)) λz S2 hm ρ' H' y l' s' r'=>?_⟩
  cases z <;> first | exact hm.elim | skip
  cases r';exact ⟨rfl,hm ρ' H' _ (l1.trans (l2.trans (l3.trans l'))) s' (.ref (l'.pre _ _ at3))⟩
 ·exact hm.elim
end
theorem KVR.lookup {K:AC} {ρ:List AI} {H:Hp} (f:Str):∀ {x:List (Str×D)} {y:List (Str×V)} {d:D},KVR K ρ H x y->x.lookup f=some d->∃v,y.lookup f=some v/\Bo K ρ H d v
 | _,_,_,.nil,h=>by simp at h
 | (g,a) :: x,(g',b) :: y,d,.cons r t,h=>by
  obtain ⟨r1,r2⟩:=r;dsimp only at r1 r2;subst r1;rw [CO] at h ⊢
  cases hq:(f==g) with
  | true=>rw [hq] at h;cases h;exact ⟨b,rfl,r2⟩
  | false=>rw [hq] at h;exact KVR.lookup f t h
def Ny (f:Str) (v:D):List (Str×D)->List (Str×D)
 | []=>[(f,v)]
 | (g,x) :: r=>if g=f then (g,v) :: r else (g,x) :: Ny f v r
theorem KVR.putF {K:AC} {ρ:List AI} {H:Hp} (f:Str) {d:D} {v:V} (rd:Bo K ρ H d v):∀ {x:List (Str×D)} {y:List (Str×V)},KVR K ρ H x y->KVR K ρ H (Ny f d x) (putF f v y)
 | _,_,.nil=>.cons ⟨rfl,rd⟩ .nil
 | (g,a) :: x,(g',b) :: y,.cons r t=>by
  obtain ⟨r1,r2⟩:=r;dsimp only at r1 r2;subst r1;unfold Ny L2.putF
  by_cases hq:g=f
  ·rw [qX hq,qX hq];exact .cons ⟨rfl,rd⟩ t
  ·rw [qY hq,qY hq];exact .cons ⟨rfl,r2⟩ (KVR.putF f rd t)
theorem KVR.length {κ:Type} {K:AC} {ρ:List AI} {H:Hp} {x:List (κ×D)} {y:List (κ×V)} (h:KVR K ρ H x y):x.length=y.length:=FG h
def PM (C:AI) (f:Str) (m:ME):ME:=λe S=>(m e S).bind λd S1=>match d with
 | .ref n=>match S1[n]? with
  | some (.ins C' fs)=>if C'=C then (match fs.lookup f with | some v=>.ok v S1 | none=>.bad) else .bad
  | _=>.bad
 | _=>.bad
def Qz (C:AI) (f:Str) (mo mv:ME):MS:=λe S=>(mv e S).lift e λv S1=>(mo e S1).lift e λd S2=>match d with
 | .ref n=>match S2[n]? with
  | some (.ins C' fs)=>if C'=C/\fs.length < 1000 then .ok (.nx e) (S2.set n (.ins C (Ny f v fs))) else .bad
  | _=>.bad
 | _=>.bad
section
variable {X:Cx} {E:EW} {o e value:Expr} {f:Str} {pos pos':Pos} {m mv:ME} {C:AI}
theorem Sf (hc:Cls X.K C) (hn:Ho X.K C f) (he:GE X E e m) (hb:DS e f X.env (Bg e X.env)=Bg e X.env:=by rfl):GE X E (.Attribute e f pos) (PM C f m):=(ig he hb).imp λσ H Q ⟨ρ,l,S,hl,hs,hm⟩=>by
 refine ⟨ρ,l,S,hl,hs,hm.seq λx S1 hm ρ1 H1 v l1 s1 r1=>?_⟩
 cases x <;> first | exact hm.elim | skip
 rename_i n;dsimp only at hm
 cases ho:S1[n]? with
 | none=>rw [ho] at hm;exact hm.elim
 | some ob=>
  rw [ho] at hm
  cases ob <;> first | exact hm.elim | skip
  rename_i C' fs;dsimp only at hm;split at hm
  ·rename_i hC
   rw [hC] at ho
   cases r1 with
   | ref hn'=>
    obtain ⟨dx,fs',e1,e2⟩:=s1.ob n _ _ ho hn'
    cases hq:fs.lookup f with
    | none=>rw [hq] at hm;exact hm.elim
    | some w=>
     rw [hq] at hm;obtain ⟨v,h3,h4⟩:=KVR.lookup f e2 hq;exact ⟨_,_,dx,fs',v,rfl,e1,hc,hn,h3,hm ρ1 H1 v l1 s1 h4⟩
  ·exact hm.elim
theorem Vr (hc:Cls X.K C) (hn:Ho X.K C f) (ha:GE X E o m) (hv:GE X E value mv) (hs:FZ value (some (.Attribute o f pos')) pos.line X.env=pure false:=by rfl):GS X E (.Assign [.Attribute o f pos'] value pos) (Qz C f m mv):=(iQ ha hv hs).imp λD σ H ⟨ρ,l,S,hl,hs,hm⟩=>by
 refine ⟨ρ,l,S,hl,hs,hm.lift hl .refl λv S1 hm ρ1 H1 y l1 s1 r1=>⟨ρ1,l,S1,hl.mono l1,s1,(hm.later l1).lift (hl.mono l1) l1 λx S2 hm ρ2 H2 u l2 s2 r2=>?_⟩⟩
 cases x <;> first | exact hm.elim | skip
 rename_i n;dsimp only at hm
 cases ho:S2[n]? with
 | none=>rw [ho] at hm;exact hm.elim
 | some ob=>
  rw [ho] at hm
  cases ob <;> first | exact hm.elim | skip
  rename_i C' fs;dsimp only at hm;split at hm
  ·rename_i hC
   obtain ⟨hC,hlen⟩:=hC;rw [hC] at ho
   cases r2 with
   | ref hn'=>
    obtain ⟨dx,fs',e1,e2⟩:=s2.ob n _ _ ho hn';have le:Le X.K ρ2 H2 ρ2 (upd H2 _ (.ins C dx (putF f y fs'))):=Le.write hn' (by rw [e1];trivial);obtain ⟨s3,l3⟩:=s2.write (ho:=.ins C dx (putF f y fs')) (o:=.ins C (Ny f v fs)) hn' ⟨dx,_,Bd,(KVR.putF f (r1.mono l2) e2).mono le⟩;refine ⟨_,C,dx,fs',rfl,e1,hc,hn,by rw [<-KVR.length e2];exact hlen,?_⟩;exact hm ρ2 _ σ (l1.trans (l2.trans l3)) s3 (hl.mono (l1.trans (l2.trans l3)))
  ·exact hm.elim
end
theorem Ca.get {P:Al} {w:A2} {H:Hp} {h:BP} {a:AI} {o:HO} (x:Ca P w H h a o):∃u,h.get? a=some u:=by
 cases o with
 | lst xs=>obtain ⟨_,_,_,_,e⟩:=x;exact ⟨_,e⟩
 | tup xs=>obtain ⟨_,_,_,o,e,_⟩:=x;exact ⟨_,e⟩
 | dK kvs=>obtain ⟨_,_,_,_,o,_,_,e,_⟩:=x;exact ⟨_,e⟩
 | dT kvs=>obtain ⟨_,_,_,_,o,_,_,e,_⟩:=x;exact ⟨_,e⟩
 | set S n=>obtain ⟨o,_,_,_,e,_⟩:=x;exact ⟨_,e⟩
 | ins C dx fs=>obtain ⟨_,_,_,e,_⟩:=x;exact ⟨_,e⟩
 | own y=>exact x
 | xd fs=>obtain ⟨_,⟨_,_,_,e,_⟩,_⟩:=x;exact ⟨_,e⟩
 | rng lo hi=>obtain ⟨_,_,_,e⟩:=x;exact ⟨_,e⟩
 | frz ob u=>obtain ⟨e,_⟩:=x;exact ⟨_,e⟩
 | tbl ps=>exact ⟨_,(show h.get? a=some _ from x)⟩
 | met f y=>exact ⟨_,(show h.get? a=some _ from x)⟩
 | ext φ=>obtain ⟨_,e,_⟩:=x;exact e
def Qa (Nw:AI->Prop) (F:Option AB->Prop) (ea C:AI) (H:Hp) (h:BP):Prop:=
 H ea=none/\Nw ea/\∃(oe:Obj) (vs:Array AB) (a0:AB),h.get? ea=some oe/\oe.cls=.ref C/\(oe.dict=none/\oe.data=.fields vs)/\vs[0]?=some a0 /\
  ((F none/\vs[1]?=some .none)∨∃(T:AI) (oT:Obj) (ts:Array AB) (fl:AB),F (some fl)/\vs[1]?=some (.ref T)/\T≠ea/\H T=none/\Nw T/\h.get? T=some oT/\oT.data=.fields ts/\ts[3]?=some fl)
theorem Qa.imp {Nw:AI->Prop} {h:BP} {F G:Option AB->Prop} {ea C:AI} {H:Hp} (x:Qa Nw F ea C H h) (f:∀o,F o->G o):Qa Nw G ea C H h:=by
 obtain ⟨n1,n2,oe,vs,a0,g1,g2,g3,g4,g5⟩:=x;refine ⟨n1,n2,oe,vs,a0,g1,g2,g3,g4,?_⟩
 rcases g5 with ⟨a,b⟩ | ⟨T,oT,ts,fl,a,b⟩
 ·exact .inl ⟨f _ a,b⟩
 ·exact .inr ⟨T,oT,ts,fl,f _ a,b⟩
structure Jn (X:Cx):Prop where
 st:X.stack=X.env :: X.outer
 fr:X.env.frame=some X.env.locals
 ex:X.ex=[]
def Nw (X:Cx) (b:AI):Prop:=X.s₀.heap.get? b=none/\∀p∈X.pn,p.1≠b
section
variable {X:Cx} {pins:List (AI×Obj)} {σ:St} {H:Hp} {s:AE} {h':BP} {ea C:AI} {F:Option AB->Prop}
theorem Inv.old (I:Inv X pins σ H s) (O:Jn X) {b:AI} (e:s.heap.get? b=none):H b=none/\Nw X b:=by
 refine ⟨?_,?_,λp hp z=>?_⟩
 ·cases q:H b with
  | none=>rfl
  | some u=>
   obtain ⟨o,ho⟩:=(I.hok b u q).get;rw [e] at ho;cases ho
 ·cases q:X.s₀.heap.get? b with
  | none=>rfl
  | some o=>
   obtain ⟨o',ho⟩:=I.base.there b o q (by rw [O.ex];simp);rw [e] at ho;cases ho
 ·have:=(I.pin p (Ck _ hp)).1
  rw [z,e] at this;cases this
theorem Inv.recs {ch:List AI} (I:Inv X [] σ H s) (O:Jn X) (hc:∀b∈ch,H b=none/\Nw X b/\∃o vs,s.heap.get? b=some o/\o.data=.fields vs)
  (st:(Je s.heap (frs X.stack++ch)).StaysIn h') (up:s.heap.UpToSlots h'):Inv X [] σ H { s with heap:=h' }:=by
 have keepB:∀b o,b∉frs X.stack->b∉ch->s.heap.get? b=some o->h'.get? b=some o:=λb o h1 h2 e=>
  st b o (Ue _ e λz=>(Ap.mp z).elim h1 h2)
 have noL:∀b∈ch,b≠X.env.locals:=λb hb z=>by
  obtain ⟨_,_,o,vs,e,d⟩:=hc b hb;obtain ⟨m,⟨o',es,ep,ho',hd',_⟩,_⟩:=I.loc;rw [z,ho'] at e;cases e;rw [hd'] at d;cases d
 have noC:∀b∈ch,∀x c,X.env.cells.lookup x=some c->c≠b:=λb hb x c q z=>by
  obtain ⟨_,_,o,vs,e,d⟩:=hc b hb;obtain ⟨v,o',ho',hd'⟩:=I.cell x c q;rw [z,e] at ho';cases ho';rw [d] at hd';cases hd'
 refine I.stepN (g':=s.gens) (t':=s.toks) (d':=s.drawn) (ch:=ch) (λb hb=>⟨.inr (hc b hb).2.1.1,noL b hb,noC b hb,λp hp=>(hc b hb).2.1.2 p (by rwa [B6] at hp)⟩)
  (λb o nl nf nc e _=>keepB b o (λz=>(Ax.mp (I.stkSub b z)).elim nl nf) nc e) (λb o _ hf _ e _=>?_) (λ_ _ _ _ n=>n) (λb o nc e=>?_) (λ_ _ q=>q) (λ_ _ _ q=>q) (λb ps q=>⟨#[],by rw [q];simp⟩) (λm hm=>up.ns hm) (λa o e=>?_) I.bare
 ·obtain ⟨o',ho',nf⟩:=(I.funs.mem hf).2
  rw [e] at ho';cases ho';exact up b o e nf
 ·by_cases hb:b∈frs X.stack
  ·obtain ⟨o',ho',nf⟩:=(I.stack.mem hb).2
   rw [e] at ho';cases ho';obtain ⟨sl,q⟩:=up b o e nf;exact ⟨_,q⟩
  ·exact ⟨o,keepB b o hb nc e⟩
 ·have tr:∀b u,H b=some u->∀v,s.heap.get? b=some v->h'.get? b=some v:=λb u q v r=>
   keepB b v (λz=>by rw [I.stkFree b z] at q;cases q) (λz=>by rw [(hc b z).1] at q;cases q) r
  refine (I.hok a o e).stay (λb u hb q=>?_) (λ_ q=>q) λ_ _ q=>q
  rcases hb with z | z
  ·subst z;exact tr _ _ e u q
  ·exact tr _ _ z u q
abbrev aq (X:Cx) (h:BP) (ch:List AI):BP:=Je h (frs X.stack++ch)
theorem RG {h:BP} {ch:List AI} {b:AI} (hb:b∈ch):(aq X h ch).get? b=none:=J4 _ (BG _ hb)
theorem KZ (f:Array AB->Array AB) (o:Obj):(Cj f o).dict=o.dict:=by
 obtain ⟨c,d,dt,sl⟩:=o
 cases dt <;> rfl
theorem UP {M:TB} {A:Ay} {E:AB->AE->Prop} {Q:Unit->AE->Prop} {base:BP} {env:Env} {outer:List Env} {L e:AI} {oe:Obj} {vs:Array AB} {head:AB} {hadNext:Bool}
  (hfr:A.frames=some (env :: outer)) (hl:s.heap.FunFrames base (env :: outer)) (hf:env.frame=some L) (he:s.heap.get? e=some oe) (hd:oe.data=.fields vs) (hsz:1 < vs.size)
  (k:∀h2 T oT ts,T≠e->s.heap.get? T=none->(∀b o,b≠e->b∉frs (env :: outer)->s.heap.get? b=some o->h2.get? b=some o)->(∀b o,b≠e->s.heap.get? b=some o->∃sl,h2.get? b=some { o with slots:=sl }) ->
   h2.get? e=some (Cj (·.setIfInBounds 1 (.ref T)) oe)->h2.get? T=some oT->oT.data=.fields ts->ts[3]?=some (Do L)->Q () { s with heap:=h2 }) :
  AZ M A (do let a <-frameOf env;let pl <-entryPlaceOf L hadNext;let b <-Rn head a .none (Do L) .none pl;b0 (.ref e) 1 b) Q E s:=by
 have hnot:e∉frs (env :: outer):=λz=>by
  obtain ⟨_,o,ho,nf⟩:=hl.mem z;rw [he] at ho;cases ho;exact nf vs hd
 refine AA (wpAny_frameOf_fun hfr hl hf λg1 so=>AA (wpAny_entryPlaceOf λpl hpl=>?_));unfold Rn j7;refine AA (A3 ?_ (hpl.sizeOk5 _ _ _ _ _));have e1:g1.get? e=some oe:=(so.2.1 e hnot).trans he;have e2:=AF (h:=g1) { cls:=.type "traceback",dict:=none,data:=.fields ([head,.ref L,.none,Do L,.none]++(if pl.isEmpty then BF 6 A4 else pl)).toArray } e1;refine Db e2 hd hsz ?_;have nTe:g1.objs.size≠e:=Gc (AW e1);have dd:=B4 hd (·.setIfInBounds 1 (Av g1.objs.size))
 have old:∀b o,b≠e->g1.get? b=some o->((g1.push { cls:=.type "traceback",dict:=none,data:=.fields ([head,.ref L,.none,Do L,.none]++(if pl.isEmpty then BF 6 A4 else pl)).toArray }).update e (Cj (·.setIfInBounds 1 (Av g1.objs.size)))).get? b=some o:=λb o ne q=>by
  rw [Ba _ _ (Bl ne)];exact AF _ q
 refine k _ g1.objs.size { cls:=.type "traceback",dict:=none,data:=.fields ([head,.ref L,.none,Do L,.none]++(if pl.isEmpty then BF 6 A4 else pl)).toArray } _ nTe (WL (J5 so.1.symm)) (λb o ne nf q=>old b o ne ((so.2.1 b nf).trans q)) (λb o ne q=>?_) (By _ e2 (Ee dd)) ?_ rfl ?_
 ·obtain ⟨sl,z⟩:=so.2.2 b o q
  exact ⟨sl,old b _ ne z⟩
 ·rw [Ba _ _ (Bl nTe)]
  exact AV g1 rfl
 ·rcases hpl with rfl | ⟨_,_,_,_,_,_,_,rfl⟩ <;> simp
theorem Th {h:BP} {ch:List AI} (keep:∀b o,b∉frs X.stack->b∉ch->h.get? b=some o->h'.get? b=some o):(aq X h ch).StaysIn h':=λb o q=>by
 have hb:b∉frs X.stack++ch:=λz=>by
  have:=J4 (h:=h) (frs X.stack++ch) z;rw [show (aq X h ch).get? b=(Je h (frs X.stack++ch)).get? b from rfl,this] at q;cases q
 exact keep b o (λz=>hb (Ck _ z)) (λz=>hb (BG _ z)) (LU _ q)
theorem Wi {M:TB} {A:Ay} {E:AB->AE->Prop} {Q:Unit->AE->Prop} (I:Inv X [] σ H s) (O:Jn X) (hA:A.frames=some X.stack) (x:Qa (Nw X) F ea C H s.heap)
  (hF:∀o,F o->o=none∨o=some .none∨o=some (Do X.env.locals))
  (k:∀h',Inv X [] σ H { s with heap:=h' }->Qa (Nw X) (· = some (Do X.env.locals)) ea C H h'->Q () { s with heap:=h' }):AZ M A (Yg (.ref ea) X.env) Q E s:=by
 obtain ⟨n1,n2,oe,vs,a0,g1,g2,⟨g0,g3⟩,g4,g5⟩:=x
 have hA':A.frames=some (X.env :: X.outer):=by rw [hA,O.st]
 have hst:frs (X.env :: X.outer)=frs X.stack:=by rw [O.st]
 have fr:s.heap.FunFrames X.base (X.env :: X.outer):=by rw [<-O.st];exact I.stack
 rcases g5 with ⟨_,h1⟩ | ⟨T,oT,ts,fl,hf,h1,ne,m1,m2,gT,dT,h3⟩
 ·have hsz:=(Es.mp h1).1
  unfold Yg;simp only [O.fr];refine AA (C0 g1 g3 h1 ?_);rw [qY (by decide)]
  refine UP hA' fr O.fr g1 g3 hsz λh2 T oT ts nT fT kp up q1 q2 q3 q4=>?_
  rw [hst] at kp;have hT:=I.old O fT
  have hc:∀b∈[ea],H b=none/\Nw X b/\∃o vs,s.heap.get? b=some o/\o.data=.fields vs:=λb hb=>by
   cases AS.mp hb;exact ⟨n1,n2,oe,vs,g1,g3⟩
  refine k h2 (I.recs O hc (Th λb o z1 z2 q=>kp b o (λz=>z2 (AS.mpr z)) z1 q) λb o q nf=>up b o (λz=>?_) q) ?_
  ·rw [z,g1] at q
   cases q;exact nf vs g3
  ·exact ⟨n1,n2,_,_,a0,q1,by rw [Ix];exact g2,⟨by rw [KZ];exact g0,B4 g3 _⟩,by rw [NX (by decide)];exact g4,.inr ⟨T,oT,ts,_,rfl,by simp [hsz],nT,hT.1,hT.2,q2,q3,q4⟩⟩
 ·rcases hF _ hf with e | e | e
  ·cases e
  ·cases e
   have hsz:=(Es.mp h1).1;unfold Yg;simp only [O.fr];refine AA (C0 g1 g3 h1 ?_);rw [qX (show (Av T != A4)=true from by simp)];refine AA (C0 gT dT h3 ?_);rw [qY (show ¬((A4==Do X.env.locals)=true) from by simp [Do])];refine AA (Db gT dT (Es.mp h3).1 ?_)
   have oth:∀b,b≠T->(s.heap.update T (Cj (·.setIfInBounds 3 A4))).get? b=s.heap.get? b:=λb hb=>Ba _ _ (Bl hb)
   have nrec:∀b o,s.heap.get? b=some o->(∀vs,o.data≠.fields vs)->b≠T:=λb o hb nf q=>by
    rw [q,gT] at hb;cases hb;exact nf ts dT
   have fr2:(s.heap.update T (Cj (·.setIfInBounds 3 A4))).FunFrames X.base (X.env :: X.outer):=fr.of_keeps λb o hb nf=>⟨o,(oth b (nrec b o hb nf)).trans hb,rfl⟩
   have gU:(s.heap.update T (Cj (·.setIfInBounds 3 A4))).get? T=some (Cj (·.setIfInBounds 3 A4) oT):=By _ gT (Ee (B4 dT _))
   have hc:∀b∈[ea,T],H b=none/\Nw X b/\∃o vs,s.heap.get? b=some o/\o.data=.fields vs:=λb hb=>by
    rcases Ax.mp hb with rfl | hb
    ·exact ⟨n1,n2,oe,vs,g1,g3⟩
    ·cases AS.mp hb
     exact ⟨m1,m2,oT,ts,gT,dT⟩
   refine UP (s:={ s with heap:=s.heap.update T (Cj (·.setIfInBounds 3 A4)) }) hA' fr2 O.fr ((oth ea (Bl ne)).trans g1) g3 hsz λh2 T2 oT2 ts2 nT fT kp up q1 q2 q3 q4=>?_
   rw [hst] at kp
   have fT':s.heap.get? T2=none:=by
    have z:T2≠T:=λz=>by rw [z] at fT;exact zX (fT.symm.trans gU) (by simp)
    rw [<-oth T2 z];exact fT
   have hT:=I.old O fT';refine k h2 (I.recs O hc (Th λb o z1 z2 q=>kp b o (λz=>z2 (by rw [z];exact Ae)) z1 ((oth b λz=>z2 (by rw [z];exact Ac _ (AS.mpr rfl))).trans q)) λb o q nf=>up b o (λz=>?_) ((oth b (nrec b o q nf)).trans q)) ?_
   ·rw [z,g1] at q
    cases q;exact nf vs g3
   ·exact ⟨n1,n2,_,_,a0,q1,by rw [Ix];exact g2,⟨by rw [KZ];exact g0,B4 g3 _⟩,by rw [NX (by decide)];exact g4,.inr ⟨T2,oT2,ts2,_,rfl,by simp [hsz],nT,hT.1,hT.2,q2,q3,q4⟩⟩
  ·cases e
   have hTn:(aq X s.heap [ea,T]).get? T=none:=RG (Ac _ (AS.mpr rfl));refine wpAny_noteFrame_againW (base:=aq X s.heap [ea,T]) (cls:=.ref C) (a0:=a0) O.fr ⟨oe,vs,T,oT,ts,g1,⟨g2,g4⟩,g3,h1,hTn,ne,gT,dT,h3⟩ ?_;exact k s.heap I ⟨n1,n2,oe,vs,a0,g1,g2,⟨g0,g3⟩,g4,.inr ⟨T,oT,ts,_,rfl,h1,ne,m1,m2,gT,dT,h3⟩⟩
theorem RJ {M:TB} {A:Ay} {E:AB->AE->Prop} {Q:Unit->AE->Prop} (f:Option AI) (I:Inv X [] σ H s) (O:Jn X) (x:Qa (Nw X) F ea C H s.heap) (hF:¬F none)
  (k:∀h',Inv X [] σ H { s with heap:=h' }->Qa (Nw X) (· = some (f.elim A4 λa=>Do a)) ea C H h'->Q () { s with heap:=h' }):AZ M A (setFlight (.ref ea) f) Q E s:=by
 obtain ⟨n1,n2,oe,vs,a0,g1,g2,⟨g0,g3⟩,g4,g5⟩:=x
 rcases g5 with ⟨z,_⟩ | ⟨T,oT,ts,fl,hf,h1,ne,m1,m2,gT,dT,h3⟩
 ·exact (hF z).elim
 ·have hc:∀b∈[ea,T],H b=none/\Nw X b/\∃o vs,s.heap.get? b=some o/\o.data=.fields vs:=λb hb=>by
   rcases Ax.mp hb with rfl | hb
   ·exact ⟨n1,n2,oe,vs,g1,g3⟩
   ·cases AS.mp hb
    exact ⟨m1,m2,oT,ts,gT,dT⟩
  have hsz:3 < ts.size:=(Es.mp h3).1;unfold setFlight;refine AA (C0 g1 g3 h1 ?_);rw [qX (show (Av T != A4)=true from by simp)];refine Db gT dT hsz ?_
  have oth:∀b,b≠T->(s.heap.update T (Cj (·.setIfInBounds 3 (f.elim A4 λa=>Do a)))).get? b=s.heap.get? b:=λb hb=>Ba _ _ (Bl hb)
  have nrec:∀b o,s.heap.get? b=some o->(∀vs,o.data≠.fields vs)->b≠T:=λb o hb nf q=>by
   rw [q,gT] at hb;cases hb;exact nf ts dT
  refine k _ (I.recs O hc (λb o q=>?_) λb o q nf=>⟨o.slots,(oth b (nrec b o q nf)).trans q⟩) ?_
  ·have hb:b≠T:=λz=>by rw [z,RG (Ac _ (AS.mpr rfl))] at q;cases q
   exact (oth b hb).trans (LU _ q)
  ·refine ⟨n1,n2,oe,vs,a0,(oth ea (Bl ne)).trans g1,g2,⟨g0,g3⟩,g4,.inr ⟨T,_,_,_,rfl,h1,ne,m1,m2,By _ gT (Ee (B4 dT _)),B4 dT _,?_⟩⟩
   simp [hsz]
end
def trF (X:Cx) (o:Option AB):Prop:=o=none∨o=some .none∨o=some (Do X.env.locals)
def XE (X:Cx) (E:EW) (e:AB) (s':AE):Prop:=∃ea C σ H',e=.ref ea/\Inv X [] σ H' s'/\Qa (Nw X) (trF X) ea C H' s'.heap/\E C σ H'
def CXG (P:Al) (w:A2):CXT:=λouter H s E e s'=>∃ea C H',e=.ref ea/\s'.os=s.os/\Ht s'.gens/\Un (frs outer) [] H H' s.heap s'.heap/\HOk P w H' s'.heap/\Qa (λb=>s.heap.get? b=none) (· = some .none) ea C H' s'.heap/\E (.ref C) none H'
theorem XE.own {X:Cx} {E:EW} (O:Jn X):NO (AR X.prog X.w) X.A X.env (XE X E):=by
 rintro e s' ⟨ea,C,σ,H,rfl,I,x,w⟩
 refine Wi I O I.ok.frames x (λo z=>z) λh1 I1 x1=>?_
 have x1':=x1;obtain ⟨n1,n2,oe,vs,a0,g1,g2,g3,g4,g5⟩:=x1'
 rcases g5 with ⟨z,_⟩ | ⟨T,oT,ts,fl,hf,h1',_⟩
 ·cases z
 ·show AZ _ _ _ _ _ _
  refine AA (C0 (s:={ s' with heap:=h1 }) g1 g3.2 h1' ?_);rw [qY (by simp)];rw [O.fr]
  refine RJ (s:={ s' with heap:=h1 }) (some X.env.locals) I1 O x1 (by simp) λh2 I2 x2=>?_
  exact ⟨ea,C,σ,H,rfl,I2,x2.imp λo z=>.inr (.inr z),w⟩
theorem XE.leave {X:Cx} {E:EW} {e:AB} {s':AE} {Q:Unit->AE->Prop} {E':AB->AE->Prop} (O:Jn X) (h:XE X E e s')
  (k:∀ea C σ H' s'',e=.ref ea->Inv X [] σ H' s''->Qa (Nw X) (· = some .none) ea C H' s''.heap->E C σ H'->Q () s''):AZ (AR X.prog X.w) X.A (leaving X.env e) Q E' s':=by
 obtain ⟨ea,C,σ,H,rfl,I,x,w⟩:=h;unfold leaving;refine AA (Wi I O I.ok.frames x (λo z=>z) λh1 I1 x1=>?_)
 refine RJ (s:={ s' with heap:=h1 }) none I1 O x1 (by simp) λh2 I2 x2=>?_
 exact k ea C σ H _ rfl I2 x2 w
abbrev Cx.p (X:Cx) (pn:List (AI×Obj)):Cx:={ X with pn:=pn }
abbrev Cx.w' (X:Cx) (pn:List (AI×Obj)) (E:EW):Cx:={ X with pn:=pn,xe:=XE (X.p pn) E }
theorem Inv.with {X:Cx} {pins:List (AI×Obj)} {σ:St} {H:Hp} {s:AE} (I:Inv X pins σ H s) (z:AB->AE->Prop):Inv { X with xe:=z } pins σ H s:=by
 obtain ⟨ok,a,b,c,d,e,f,g,i,j,l⟩:=I;obtain ⟨o1,o2,o3,o4,o5,o6,o7,o8,o9,o10,o11,o12,o13,o14,o15,o16,o17,o18⟩:=ok;exact ⟨⟨o1,o2,o3,o4,o5,o6,o7,o8,o9,o10,o11,o12,o13,o14,o15,o16,o17,o18⟩,a,b,c,d,e,f,g,i,j,l⟩
theorem Inv.without {X:Cx} {pins:List (AI×Obj)} {σ:St} {H:Hp} {s:AE} {z:AB->AE->Prop} (I:Inv { X with xe:=z } pins σ H s):Inv X pins σ H s:=by
 have:=I.with X.xe
 exact this
structure Good (X:Cx) (E:EW):Prop where
 pass:Lk (CXG X.prog X.w) X (XU E)
 own:NO (AR X.prog X.w) X.A X.env X.xe
 made:∀(pins:List (AI×Obj)) (σ:St) (H:Hp) (s:AE) (h':BP) (ea C:AI) (args:List AB),Inv X pins σ H s->E C σ H->BP.MadeExcOf s.heap h' ea (.ref C) args->X.xe (.ref ea) { s with heap:=h' }
theorem Jn.p {X:Cx} (O:Jn X) (pn:List (AI×Obj)):Jn (X.p pn):=⟨O.st,O.fr,O.ex⟩
theorem Bj {X:Cx} {E:EW} {pn:List (AI×Obj)} (O:Jn X):Good (X.w' pn E) E:=by
 have O':=O.p pn;refine ⟨λpins σ H s e s' I h=>?_,XE.own O',λpins σ H s h' ea C args I w hx=>?_⟩
 ·obtain ⟨ea,C,H',rfl,os,bare,un,hok,x,_,c,ec,w⟩:=h
  cases ec;have I0:Inv (X.p pn) pins σ H s:=Inv.without (X:=X.p pn) I;have I1:Inv (X.p pn) pins σ H' s':=I0.call' os un hok bare (λb z=>zX z (by simp))
  have I2:Inv (X.p pn) [] σ H' s':=I1.pins_of λp hp=>zX hp (by simp)
  obtain ⟨n1,n2,oe,vs,a0,g1,g2,g3,g4,g5⟩:=x;refine ⟨ea,C,σ,H',rfl,I2,⟨n1,(I0.old O' n2).2,oe,vs,a0,g1,g2,g3,g4,?_⟩,w⟩
  rcases g5 with ⟨z,_⟩ | ⟨T,oT,ts,fl,hf,h1,ne,m1,m2,r⟩
  ·cases z
  ·exact .inr ⟨T,oT,ts,fl,.inr (.inl hf),h1,ne,m1,(I0.old O' m2).2,r⟩
 ·have I0:Inv (X.p pn) pins σ H s:=Inv.without (X:=X.p pn) I
  have I1:Inv (X.p pn) pins σ H { s with heap:=h',toks:=s.toks }:=I0.kept hx.keeps;obtain ⟨t,g1,_,_⟩:=hx.there;have hold:=I0.old O' hx.new;exact ⟨ea,C,σ,H,rfl,I1.pins_of λp hp=>zX hp (by simp),⟨hold.1,hold.2,_,_,_,g1,rfl,⟨rfl,rfl⟩,rfl,.inl ⟨.inl rfl,rfl⟩⟩,w⟩
theorem good_none {X:Cx} (hx:X.xe=λ_ _=>False):Good X noE:=by
 refine ⟨λpins σ H s e s' I h=>?_,by rw [hx];exact NO.never,λ_ _ _ _ _ _ _ _ _ w _=>w.elim⟩;obtain ⟨ea,C,H',rfl,os,bare,un,hok,x,_,c,ec,w⟩:=h;exact w.elim
abbrev RO:List AB:=[.type "ValueError",.type "Exception",.type "BaseException",.type "object"]
structure XCl (K:AC) (C:AI):Prop where
 ex:bq K C RO "ValueError.__new__" = true
theorem XCl.obj {K:AC} {C:AI} (c:XCl K C):∃bm N nm q bs hdct sn sub ab col dd k0 k1 k2 k3 k5,K.lookup C=some (excClassObj nm q C N bs bm hdct sn sub ab col dd k0 k1 k2 k3 k5 "ValueError.__new__") /\
  OV K N=true/\PySem.W.nsIn K N "__init__" = some none/\PySem.W.tailIn K RO bm=true:=by
 have q:=c.ex;unfold bq at q;split at q
 ·rename_i ddx cdx slx hox
  split at q
  ·rename_i Cx bmx j0 j1 j2 j3 nx j5 hmx hsx
   simp only [FB,beq_iff_eq,ZB] at q;obtain ⟨⟨⟨⟨⟨e1,e2⟩,e3⟩,e4⟩,e5⟩,e6⟩:=q;subst e1;subst e2;obtain ⟨f1,f2,f3,f4,f5,f6,f7,f8,f9,f10,f11⟩:=cdx;dsimp only at hmx e3 e5 e6;subst hmx;subst e3;obtain ⟨lx⟩:=slx;dsimp only at hsx;subst hsx;exact ⟨bmx,f4,f1,f5,f2,f6,f7,f8,f9,f10,ddx,j0,j1,j2,j3,j5,hox,e5,e6,e4⟩
  ·cases q
 ·cases q
theorem d8 {K:AC} {N:AI} {h h2:BP} {m:Str->Option AB} (e:OV K N=true) (X:K.In h) (X2:K.In h2) (n:h.Ns N m):h2.Ns N m:=by
 obtain ⟨o,es,ep,ho,r⟩:=n;unfold OV at e;split at e
 ·rename_i hk
  have z:=X _ _ hk;rw [ho] at z;cases z;exact ⟨_,es,ep,X2 _ _ hk,r⟩
 ·cases e
def Ei (C:AI) (ml:ML):MS:=λe S=>(ml e S).lift e λds S1=>if ds.length<=sizeLine then .ok (.ex C e) S1 else .bad
section
variable {X:Cx} {E:EW} {x:Str} {np cpos pos:Pos} {e:Expr} {es:List Expr} {ml:ML} {C:AI}
theorem KP (G:Good X E) (hc:X.calm=true) (c:XCl X.K C) (hg:Gl X x) (hm:X.mg x=some (.ref C)) (ha:GA X E (e :: es) ml) (hdb:(x==("__debug__" : Str))=false:=by decide)
  (he:AU (e :: es) X.env=(false,Bg e X.env) :: AU es X.env:=by rfl) (hpl:(C1 cpos (AU es X.env)).any (·.1)=false:=by rfl) :
  GS X E (.Raise (some (.Call (.Name x np) (e :: es) [] cpos)) none pos) (Ei C ml):=by
 intro pins s σ H D I ⟨ρ,l,S,hl,hs,hm'⟩;have hh:X.A.handled=none:=I.ok.hd hc;obtain ⟨bm,N,nm,q,bs,hdct,sn,sub,ab,col,dd,k0,k1,k2,k3,k5,hC,hok,hin,htl⟩:=c.obj;have hN:s.heap.Ns N (s.heap.nsMap N):=.of_isNs (PySem.W.isNs_of_in I.kIn hok)
 refine wpAny_Raise_call_subT (C:=C) (nm:=nm) (q:=q) (N:=N) (bs:=bs) (bm:=bm) (hdct:=hdct) (sn:=sn) (sub:=sub) (ab:=ab) (col:=col) (dd:=dd) (k0:=k0) (k1:=k1) (k2:=k2) (k3:=k3) (k5:=k5) (bmB:=RO) PySem.F.excBase_ValueError
  ((Ux I.kIn htl).hasType (by decide +kernel)) hh (by rw [he];show (false||(C1 cpos (AU es X.env)).any (·.1))=false;rw [hpl];rfl) (PySem.W.nsMap_none_of_in I.kIn hok hin)
  (OO I hg hm ⟨rfl,?_⟩ hdb)
 have hgo:=ha cpos pins s σ H (λvs H1=>vs.length<=sizeLine/\E C σ H1) I ⟨ρ,l,S,hl,hs,Bn.lift hm' hl .refl λds S1 hm ρ1 H1 xs l1 s1 r1=>by
  split at hm
  ·rename_i hz
   exact ⟨by rw [<-r1.length];exact hz,hm ρ1 H1 σ l1 s1 (hl.mono l1)⟩
  ·exact hm.elim⟩
 rw [he] at hgo ⊢;refine U5 (thn hgo λus s2 ⟨vs,H2,I2,rv,hz,w⟩=>?_);exact ⟨rfl,by rw [<-rv.length];exact hz,I2.kIn _ _ hC,d8 hok I.kIn I2.kIn hN,Ux I2.kIn htl,λh' ea hx=>G.made pins σ H2 s2 h' ea C us I2 w hx⟩
end
section
variable {X:Cx} {E:EW} {body suite:List C2} {b₀:C2} {g n:Str} {gp hpos pos:Pos} {cs:List AI} {i:Nat} {mb mh:MS} {G:AI}
end
def E4 (n:Nat) (ds:List D):Lo:=ds.map some++BF (n - ds.length) none
theorem VN {K:AC} {ρ:List AI} {H:Hp} {N:List Str} {ds:List D} {vs:List V} (r:Ao K ρ H ds vs):E9 K ρ H (E4 N.length ds) (start N vs):=by
 refine ⟨by simp [E4,start,r.length],λi d q=>?_⟩;unfold E4 at q;unfold start
 by_cases hi:i < ds.length
 ·rw [Ah (by simpa using hi),Ag] at q
  rw [Ah (by rw [AJ,<-r.length];exact hi),Ag]
  cases e:ds[i]? with
  | none=>rw [e] at q;cases q
  | some d'=>
   rw [e] at q;cases q;obtain ⟨v,h1,h2⟩:=r.get e;exact ⟨v,by rw [h1];rfl,h2⟩
 ·rw [BB (by simpa using hi),Ct] at q
  split at q <;> cases q
def Fj (n:Nat) (mb:MS) (ds:List D) (S:Sto):Res D:=(okR (mb (E4 n ds) S)).bind λf S1=>match f with
 | .rt d=>.ok d S1
 | .nx _=>.ok .non S1
 | .ex c _=>.err c S1
 | _=>.bad
section
variable {P:Al} {w:A2} {K:AC} {mg:Str->Option AB} {base:BP}
theorem jR {x qual:Str} {st:C2} {f:AI} {fd:De} {N ps:List Str} {k n:Nat} (F:Fun K x qual st f fd) (Sc:CL N ps (Au st)) (hn:ps.length=n) {mb:MS}
  (hbody:∀(cdv:AB) (A:Ay) (outer:List Env) (s:AE) (H:Hp) (E:XK),HD k (A.deeper (LQ qual (Au st) s.heap.objs.size f cdv))->∀pn E',GSs ((Si (CXG P w) P w K mg base N qual (Au st) f cdv A outer s H E).w' pn E') E' (CH st) mb) :
  Ek P w K mg base (CXG P w) (k+1) f fd ps (spM K n (Fj N.length mb)):=by
 obtain ⟨oc,od,kV,doc,pm,an,cdv,ct,osl,rfl,lk,hcd⟩:=F.ex
 refine lf lk hcd Sc (λvs H Q E h=>by rw [hn];exact h.len) λA outer s H vs Q E hr h=>?_
 obtain ⟨ρ,ds,S,h1,h2,h3,h4⟩:=h;have O:Jn (Si (CXG P w) P w K mg base N qual (Au st) f cdv A outer s H E):=⟨rfl,rfl,rfl⟩;have hb:=hbody cdv A outer s H E hr [] (λc _ H'=>E (.ref c) none H');refine ⟨gS K (λc _ H'=>E (.ref c) none H') mb,λpins s' σ H' D I q=>FI (hb pins s' σ H' D (I.with _) q) (λfl s1 z=>?_) λe s1 z=>?_,ρ,_,S,VN h2,h3,?_⟩
 ·cases fl with
  | next=>obtain ⟨σ',H2,J,z⟩:=z;exact ⟨σ',H2,J.without,z⟩
  | brk=>obtain ⟨σ',H2,J,z⟩:=z;exact ⟨σ',H2,J.without,z⟩
  | cont=>obtain ⟨σ',H2,J,z⟩:=z;exact ⟨σ',H2,J.without,z⟩
  | ret u=>obtain ⟨v,σ',H2,J,r,z⟩:=z;exact ⟨v,σ',H2,J.without,r,z⟩
 ·refine XE.leave O z λea C σ' H2 s2 e1 J x w=>⟨ea,C,H2,e1,J.os,J.bare,J.base,J.hok,?_,w⟩
  obtain ⟨n1,n2,oe,vs',a0,g1,g2,g3,g4,g5⟩:=x;refine ⟨n1,n2.1,oe,vs',a0,g1,g2,g3,g4,?_⟩
  rcases g5 with z | ⟨T,oT,ts,fl,hf,h1,ne,m1,m2,r⟩
  ·exact .inl z
  ·exact .inr ⟨T,oT,ts,fl,hf,h1,ne,m1,m2.1,r⟩
 ·unfold Fj at h4
  cases hr:mb (E4 N.length ds) S with
  | bad=>rw [hr] at h4;exact h4.elim
  | err c S'=>rw [hr] at h4;exact h4.elim
  | ok fl S'=>
   rw [hr] at h4
   cases fl with
   | nx e'=>exact λρ' H' σ' l s' r=>h4 ρ' H' .non l s' .non
   | rt d=>exact h4
   | bk e'=>exact h4.elim
   | ct e'=>exact h4.elim
   | ex c e'=>exact λρ' H' σ' l s' r=>h4 ρ' H' l s'
end
section
variable {X:Cx}
def intOp (C:Int->Int->Prop) [∀i j,Decidable (C i j)] (g:Int->Int->D):D->D->Sto->Res D
 | .int i,.int j,S=>if C i j then .ok (g i j) S else .bad
 | _,_,_=>.bad
theorem am {C:Int->Int->Prop} [∀i j,Decidable (C i j)] {g:Int->Int->D} {a b d:D} {S S':Sto} (h:intOp C g a b S=.ok d S'):∃i j,a=.int i/\b=.int j/\C i j/\d=g i j/\S'=S:=by
 unfold intOp at h;split at h
 ·split at h
  ·rename_i i j _ hc
   cases h;exact ⟨_,_,rfl,rfl,hc,rfl,rfl⟩
  ·cases h
 ·cases h
theorem SJ {f:AB->AB->Sem AB} {C:Int->Int->Prop} [∀i j,Decidable (C i j)] {g:Int->Int->D} {v:Int->Int->V} (hv:∀ρ H i j,Bo X.K ρ H (g i j) (v i j)) (h:OpR X f (rI C v)):OpR X f (rD X.K (intOp C g)):=h.imp λx y H Q ⟨ρ,S,a,b,d,S',hs,ra,rb,hm,k⟩=>by
 obtain ⟨i,j,rfl,rfl,hc,rfl,rfl⟩:=am hm;cases ra;cases rb;exact ⟨i,j,rfl,rfl,hc,k ρ H _ .refl hs (hv _ _ _ _)⟩
theorem OL {f:AB->AB->Sem AB} {g:Int->Int->D} {v:Int->Int->V} (hv:∀ρ H i j,Bo X.K ρ H (g i j) (v i j)) (h:OpR X f (rI0 v)):OpR X f (rD X.K (intOp (λ_ _=>True) g)):=
 SJ (C:=λ_ _=>True) hv (h.imp λx y H Q ⟨i,j,e1,e2,_,q⟩=>⟨i,j,e1,e2,q⟩)
instance (i j:Int):Decidable (fV i j):=inferInstanceAs (Decidable (_/\_))
instance (i j:Int):Decidable (Ye i j):=inferInstanceAs (Decidable (_∨_))
abbrev PJ:=intOp Ye λi j=>.int (i * j)
abbrev Hj:=intOp fV λi j=>.int (i / j)
abbrev EQ:=intOp (λ_ j=>0 < j) λi j=>.int (i % j)
abbrev ltD:=intOp (λ_ _=>True) λi j=>.bl (decide (i < j))
abbrev leD:=intOp (λ_ _=>True) λi j=>.bl (decide (i<=j))
abbrev gtD:=intOp (λ_ _=>True) λi j=>.bl (decide (j < i))
abbrev geD:=intOp (λ_ _=>True) λi j=>.bl (decide (j<=i))
theorem SI:OpR X (Eo .Mult) (rD X.K PJ):=SJ (λ_ _ _ _=>.int _) im
theorem MQ:OpR X (Eo .FloorDiv) (rD X.K Hj):=SJ (λ_ _ _ _=>.int _) dr
theorem EI:OpR X (Eo .Mod) (rD X.K EQ):=SJ (λ_ _ _ _=>.int _) io
theorem T0:OpR X (Bb .Lt) (rD X.K ltD):=OL (λ_ _ _ _=>.bl _) kz
theorem aF:OpR X (Bb .LtE) (rD X.K leD):=OL (λ_ _ _ _=>.bl _) lA
theorem lE:OpR X (Bb .Gt) (rD X.K gtD):=OL (λ_ _ _ _=>.bl _) lB
theorem lF:OpR X (Bb .GtE) (rD X.K geD):=OL (λ_ _ _ _=>.bl _) lC
def E8:D->D->Sto->Res D
 | .int i,.int j,S=>.ok (.int (i+j)) S
 | .tup xs,.tup ys,S=>if xs.length+ys.length<=sizeLine then .ok (.tup (xs++ys)) S else .bad
 | .ref l,.ref b,S=>match S[l]?,S[b]? with
  | some (.lst xs),some (.lst ys)=>if xs.length+ys.length<=sizeLine then .ok (.ref S.length) (S++[.lst (xs++ys)]) else .bad
  | _,_=>.bad
 | _,_,_=>.bad
def km (K:AC):R2:=λx y H Q=>∃a b xs ys,x=.ref a/\y=.ref b/\H a=some (.tup xs)/\H b=some (.tup ys)/\xs.length+ys.length<=sizeLine /\
 (xs=[]->Q (.ref b) H)/\(ys=[]->Q (.ref a) H)/\(∀p,H p=none->Q (.ref p) (upd H p (.tup (xs++ys))))
theorem dv:OpR X (Eo .Add) (km X.K):=by
 intro pins s σ H x y v u Q I rx ry h;obtain ⟨a,b,xs,ys,rfl,rfl,ha,hb,hz,q0,q1,q2⟩:=h;cases rx;cases ry;obtain ⟨its,r1,p1,_⟩:=I.tuple (a:=a) (xs:=xs) (.inl (.inl ha));obtain ⟨its2,r2,p2,_⟩:=I.tuple (a:=b) (xs:=ys) (.inl (.inl hb))
 by_cases hx:xs=[]
 ·obtain ⟨⟨cls,dd,data,sl⟩,ho,hc,n,hd⟩:=id p1
  obtain ⟨⟨cls2,dd2,data2,sl2⟩,ho2,hc2,n2,hd2⟩:=id p2;simp only at hc hd hc2 hd2;subst hc hd hc2 hd2;have hi:its=[]:=r1.nil_iff.mpr hx
  exact Y1 ⟨_,ho,rfl⟩ ⟨_,ho2,rfl⟩ RX XH JB IW (IH _ _)
   (tuple_addW0 a b its.toArray its2.toArray n n2 dd dd2 sl sl2 (by simp [hi])) ⟨ho,ho2,⟨.ref b,H,I,rfl,q0 hx⟩⟩
 ·exact du pins s σ H (.ref a) (.ref b) _ _ Q I rfl rfl ⟨a,b,xs,ys,rfl,rfl,.inl (.inl ha),.inl (.inl hb),hx,hz,q1,λ_ p hp=>q2 p hp⟩
theorem Ao.nil_of {K:AC} {ρ:List AI} {H:Hp} {xs:List D} {vs:List V} (r:Ao K ρ H xs vs) (e:vs=[]):xs=[]:=by
 subst e;cases r;rfl
theorem FO:OpR X (Eo .Add) (rD X.K E8):=(ir.or (dv.or iq)).imp λx y H Q ⟨ρ,S,a,b,d,S',hs,ra,rb,hm,k⟩=>by
 cases ra with
 | int i=>
  cases rb <;> first | (cases hm;done) | skip
  cases hm;exact .inl ⟨_,_,rfl,rfl,k ρ H _ .refl hs (.int _)⟩
 | @tup xs a1 vs h1 h2=>
  cases rb with
  | @tup ys b1 ws h3 h4=>
   unfold E8 at hm;dsimp only at hm;split at hm
   ·rename_i hz
    cases hm;refine .inr (.inl ⟨_,_,_,_,rfl,rfl,h1,h3,by rw [<-h2.length,<-h4.length];exact hz,λe=>?_,λe=>?_,λp hp=>?_⟩)
    ·rw [h2.nil_of e,List.nil_append] at k
     exact k ρ H _ .refl hs (.tup h3 h4)
    ·rw [h4.nil_of e,B6] at k
     exact k ρ H _ .refl hs (.tup h1 h2)
    ·obtain ⟨s2,l2⟩:=Fi (ho:=.tup (vs++ws)) hs hp
     exact k ρ _ _ l2 s2 (.tup Bd ((h2.append h4).mono l2))
   ·cases hm
  | _=>cases hm
 | @ref n a1 hn=>
  cases rb with
  | @ref m b1 hn'=>
   unfold E8 at hm;dsimp only at hm;split at hm
   ·rename_i xs ys h1 h2
    split at hm
    ·rename_i hz
     cases hm;obtain ⟨vs,e1,r1⟩:=hs.ob _ _ _ h1 hn;obtain ⟨us,e2,r2⟩:=hs.ob _ _ _ h2 hn';refine .inr (.inr ⟨_,_,_,_,rfl,rfl,e1,e2,by rw [<-r1.length,<-r2.length];exact hz,λp hp=>?_⟩);have le:Le X.K ρ H (ρ++[p]) (upd H p (.lst (vs++us))):=Le.alloc hp;obtain ⟨s2,l2,at2⟩:=hs.alloc (ho:=.lst (vs++us)) (o:=.lst (xs++ys)) hp ⟨_,Bd,(r1.append r2).mono le⟩;exact k _ _ _ l2 s2 (.ref at2)
    ·cases hm
   ·cases hm
  | _=>cases hm
 | _=>cases hm
def ixD:D->D->Sto->Res D:=λa b S=>match Ge a S,b with
 | some ds,.int i=>match atI ds i with
  | some d=>.ok d S
  | none=>.bad
 | _,_=>.bad
theorem fM {K:AC} {ρ:List AI} {H:Hp} {ds:List D} {vs:List V} {i:Int} {d:D} (r:Ao K ρ H ds vs) (h:atI ds i=some d):∃v,atI vs i=some v/\Bo K ρ H d v:=by
 unfold atI at h ⊢;rw [<-r.length]
 cases hq:ixN ds.length i with
 | none=>rw [hq] at h;cases h
 | some j=>
  rw [hq] at h;exact r.get h
theorem lD:IxR X (rD X.K ixD):=(ix_list.or jC).imp λx y H Q ⟨ρ,S,a,b,d,S',hs,ra,rb,hm,k⟩=>by
 unfold ixD at hm;split at hm
 ·rename_i ds i hq
  split at hm
  ·rename_i d' hd
   cases hm;cases rb;obtain ⟨p,xs,rfl,rr,sq⟩:=Ko hs ra hq;obtain ⟨v,h1,h2⟩:=fM rr hd
   rcases sq with sq | sq
   ·exact .inl ⟨p,xs,_,v,rfl,rfl,sq,h1,k ρ H v .refl hs h2⟩
   ·exact .inr ⟨p,xs,_,v,rfl,rfl,sq,h1,k ρ H v .refl hs h2⟩
  ·cases hm
 ·cases hm
def eQ (neg:Bool) (x y:D) (S:Sto):Res D:=match y with
 | .non=>match x with
  | .non=>.ok (.bl (!neg)) S
  | _=>.ok (.bl neg) S
 | _=>.bad
theorem iw:OpR X (Bb .Is) (rD X.K (eQ false)):=ip.imp λx y H Q ⟨ρ,S,a,b,d,S',hs,ra,rb,hm,k⟩=>by
 cases rb <;> first | (cases hm;done) | skip
 refine ⟨rfl,?_⟩
 cases ra <;> (cases hm;exact k ρ H _ .refl hs (.bl _))
end
def mQ (f:List D->Sto->Res D) (m:ML):ME:=λe S=>(m e S).bind λds S1=>okR (f ds S1)
section
variable {X:Cx} {E:EW} {e:Expr} {es:List Expr} {x:Str} {p pos:Pos} {ml:ML} {id T:String} {r:List V->Hp->VK->Prop} {f:List D->Sto->Res D}
def jd (K:AC) (r:List V->Hp->VK->Prop) (f:List D->Sto->Res D):Prop:=∀ρ H S ds q xs d S' (Q:VK),Bw K ρ S H->Ao K ρ H ds xs->(SqL K H q xs∨SqT K H q xs)->f ds S=.ok d S' ->
 (∀ρ' H' z,Le K ρ H ρ' H'->Bw K ρ' S' H'->Bo K ρ' H' d z->Q z H')->r [.ref q] H Q
def jg (K:AC) (r:List V->Hp->VK->Prop) (f:List D->Sto->Res D):Prop:=∀ρ H S ds xs d S' (Q:VK),Bw K ρ S H->Ao K ρ H ds xs->f ds S=.ok d S' ->
 (∀ρ' H' z,Le K ρ H ρ' H'->Bw K ρ' S' H'->Bo K ρ' H' d z->Q z H')->r xs H Q
def lq (K:AC) (r:List V->Hp->VK->Prop) (f:List D->Option (List D)):Prop:=∀ρ H S ds q xs es (Q:VK),Bw K ρ S H->Ao K ρ H ds xs->(SqL K H q xs∨SqT K H q xs)->f ds=some es ->
 (∀ρ' H' p ys,Le K ρ H ρ' H'->Bw K ρ' S H'->Ao K ρ' H' es ys->H' p=some (.lst ys)->(∀n:Nat,ρ'[n]?≠some p)->H p=none->Q (.ref p) H')->r [.ref q] H Q
theorem Wt (hc:Hq X (.builtin id) r) (hf:jd X.K r f) (hg:Gl X x) (hm:X.mg x=none) (hv:Ec x=some (.builtin id)) (h:GQ X E e ml) (hn:x≠"__name__":=by decide) (hdb:(x==("__debug__" : Str))=false:=by decide)
  (he:AU [e] X.env=(false,Bg e X.env) :: AU [] X.env:=by rfl):GE X E (.Call (.Name x p) [e] [] pos) (mQ f ml):=(Il hc hg hm hv (D7 h Fm he) hn hdb he rfl).imp λσ H Q ⟨ρ,l,S,hl,hs,hm⟩=>by
 refine ⟨ρ,l,S,hl,hs,hm.seq λds S1 hm ρ1 H1 q xs l1 s1 r1 sq=>?_⟩;obtain ⟨d,S',e,k⟩:=hm.okR
 exact hf ρ1 H1 S1 ds q xs d S' Q s1 r1 sq e λρ' H' z l' s' r'=>k ρ' H' z (l1.trans l') s' r'
theorem Wu (hc:Hq X (.builtin id) r) (hf:jg X.K r f) (hg:Gl X x) (hm:X.mg x=none) (hv:Ec x=some (.builtin id)) (h:GA X E (e :: es) ml) (hn:x≠"__name__":=by decide) (hdb:(x==("__debug__" : Str))=false:=by decide)
  (he:AU (e :: es) X.env=(false,Bg e X.env) :: AU es X.env:=by rfl) (hpl:(C1 pos (AU es X.env)).any (·.1)=false:=by rfl):GE X E (.Call (.Name x p) (e :: es) [] pos) (mQ f ml):=(Il hc hg hm hv h hn hdb he hpl).imp λσ H Q ⟨ρ,l,S,hl,hs,hm⟩=>by
 refine ⟨ρ,l,S,hl,hs,hm.seq λds S1 hm ρ1 H1 xs l1 s1 r1=>?_⟩;obtain ⟨d,S',e,k⟩:=hm.okR
 exact hf ρ1 H1 S1 ds xs d S' Q s1 r1 e λρ' H' z l' s' r'=>k ρ' H' z (l1.trans l') s' r'
def mN (f:List D->Option (List D)) (m:ML):ML:=λe S=>(m e S).bind λds S1=>match f ds with
 | some es=>.ok es S1
 | none=>.bad
theorem eW {f:List D->Option (List D)} (hc:Hq X (.type T) r) (hf:lq X.K r f) (hg:Gl X x) (hm:X.mg x=none) (hv:Ec x=some (.type T)) (h:GQ X E e ml) (hn:x≠"__name__":=by decide) (hdb:(x==("__debug__" : Str))=false:=by decide)
  (he:AU [e] X.env=(false,Bg e X.env) :: AU [] X.env:=by rfl):GL X E (.Call (.Name x p) [e] [] pos) (mN f ml):=(Q7 hc hg hm hv (D7 h Fm he) hn hdb he rfl).imp λσ H Q ⟨ρ,l,S,hl,hs,hm⟩=>by
 refine ⟨ρ,l,S,hl,hs,hm.seq λds S1 hm ρ1 H1 q xs l1 s1 r1 sq=>?_⟩
 cases hq:f ds with
 | none=>rw [hq] at hm;exact hm.elim
 | some es=>
  rw [hq] at hm
  exact hf ρ1 H1 S1 ds q xs es Q s1 r1 sq hq λρ' H' p ys l' s' r' hp hn hp0=>hm ρ' H' p ys (l1.trans l') s' r' hp hn (l1.back hs s1 hp0)
def lP (ds:List D) (S:Sto):Res D:=.ok (.int ds.length) S
theorem iB:jd X.K (λxs H Q=>∃p ys,xs=[.ref p]/\(SqL X.K H p ys∨SqT X.K H p ys)/\Q (.int ys.length) H) lP:=λρ H S ds q xs d S' Q hs rr sq hm k=>by
 cases hm;exact ⟨q,xs,rfl,sq,k ρ H _ .refl hs (by rw [rr.length];exact .int _)⟩
def RB:List D->Sto->Res D
 | [.int i,.int j],S=>.ok (.int (if j < i then j else i)) S
 | _,_=>.bad
def RC:List D->Sto->Res D
 | [.int i,.int j],S=>.ok (.int (if j > i then j else i)) S
 | _,_=>.bad
theorem fR:jg X.K (λxs H Q=>∃i j,xs=[.int i,.int j]/\Q (.int (if j < i then j else i)) H) RB:=λρ H S ds xs d S' Q hs rr hm k=>by
 unfold RB at hm;split at hm
 ·cases hm
  cases rr with
  | cons a t=>
   cases t with
   | cons b t=>
    cases t;cases a;cases b;exact ⟨_,_,rfl,k ρ H _ .refl hs (.int _)⟩
 ·cases hm
theorem fS:jg X.K (λxs H Q=>∃i j,xs=[.int i,.int j]/\Q (.int (if j > i then j else i)) H) RC:=λρ H S ds xs d S' Q hs rr hm k=>by
 unfold RC at hm;split at hm
 ·cases hm
  cases rr with
  | cons a t=>
   cases t with
   | cons b t=>
    cases t;cases a;cases b;exact ⟨_,_,rfl,k ρ H _ .refl hs (.int _)⟩
 ·cases hm
def Iq (ds:List D):Option (List D):=some ds
theorem c9:lq X.K (λxs H Q=>∃p ys,xs=[.ref p]/\(SqL X.K H p ys∨SqT X.K H p ys)/\∀l,H l=none->Q (.ref l) (upd H l (.lst ys))) Iq:=λρ H S ds q xs es Q hs rr sq hm k=>by
 cases hm;refine ⟨q,xs,rfl,sq,λl hl=>?_⟩;obtain ⟨s2,l2⟩:=Fi (ho:=.lst xs) hs hl;exact k ρ _ l xs l2 s2 (rr.mono l2) Bd (λn e=>hs.notIn hl e) hl
end
def Dh (X:Cx) (scope:Hv) (N':List Str) (cl:List (Str×AI)) (C:AI) (s₁:AE) (H₁:Hp) (ex:List AI) (pn:List (AI×Obj)):Cx where
 prog:=X.prog
 w:=X.w
 K:=X.K
 mg:=X.mg
 base:=X.base
 A:=X.A
 N:=N'
 s₀:=s₁
 H₀:=H₁
 env:=compEnvC scope cl C X.env
 outer:=X.stack
 stack:=X.stack
 ex:=ex
 fn:=λ_=>false
 calm:=X.calm
 pn:=pn
 xe:=λ_ _=>False
theorem Sm {env:Env}:∀(names:List (Str×QB)) (acc:List (Str×AI)),(∀y∈names,y.2=.free->∃c,env.cells.lookup y.1=some c)->(∀n c,acc.lookup n=some c->env.cells.lookup n=some c) ->
  ∃cl,(forIn names acc (λ(x:Str×QB) (cs:List (Str×AI))=>match x with | (name,kind)=>if (kind==Hy)=true then do let a <-cellOf env name;pure (Gy ((name,a) :: cs)) else pure (Gy cs)):Sem (List (Str×AI)))=pure cl /\
   (∀n c,cl.lookup n=some c->env.cells.lookup n=some c)/\(∀n c,acc.lookup n=some c->∃c',cl.lookup n=some c')/\∀y∈names,y.2=.free->∃c,cl.lookup y.1=some c
 | [],acc,_,ha=>⟨acc,rfl,ha,λn c h=>⟨c,h⟩,λ_ h=>nomatch h⟩
 | (n,k) :: r,acc,h,ha=>by
  rw [cM]
  by_cases hk:k=.free
  ·subst hk
   obtain ⟨c,hc⟩:=h (n,.free) Ae rfl
   obtain ⟨cl,e,h1,h2,h3⟩:=Sm r ((n,c) :: acc) (λy hy=>h y (Ac _ hy)) (λm d hm=>by
    rw [CO] at hm
    cases hq:(m==n) with
    | true=>rw [hq] at hm;cases hm;rw [eq_of_beq hq];exact hc
    | false=>rw [hq] at hm;exact ha m d hm)
   have e0:cellOf env n=pure c:=by unfold cellOf;rw [hc]
   refine ⟨cl,?_,h1,λm d hm=>h2 m (if m==n then c else d) ?_,λy hy hf=>?_⟩
   ·simp only [beq_self_eq_true,if_true,e0,pure_bind]
    exact e
   ·rw [CO]
    cases hq:(m==n) with
    | true=>rfl
    | false=>exact hm
   ·rcases Ax.mp hy with rfl | hy
    ·exact h2 n c (by rw [CO,beq_self_eq_true])
    ·exact h3 y hy hf
  ·have hb:(k==Hy)=false:=by simpa using hk
   obtain ⟨cl,e,h1,h2,h3⟩:=Sm r acc (λy hy=>h y (Ac _ hy)) ha;refine ⟨cl,?_,h1,h2,λy hy hf=>?_⟩
   ·simp only [hb,BN,if_false,pure_bind]
    exact e
   ·rcases Ax.mp hy with rfl | hy
    ·exact (hk hf).elim
    ·exact h3 y hy hf
theorem W6 {scope:Hv} {env:Env} (h:∀y∈scope.names,y.2=.free->∃c,env.cells.lookup y.1=some c):∃cl,closureFor scope env=pure cl /\
  (∀n c,cl.lookup n=some c->env.cells.lookup n=some c)/\∀y∈scope.names,y.2=.free->∃c,cl.lookup y.1=some c:=by
 obtain ⟨cl,e,h1,_,h3⟩:=Sm scope.names [] h (λn c z=>by simp at z);refine ⟨cl,?_,h1,h3⟩;unfold closureFor;exact (congrArg (λz=>z >>= λcs=>pure cs) e).trans (by rw [pure_bind])
def Yc (X:Cx) (ifs:List Expr) (t:TT):Prop:=
 ∀(pins:List (AI×Obj)) (s:AE) (σ:St) (H:Hp) (Q:Bool->Hp->Prop),Inv X pins σ H s->t σ H Q ->
  AZ (AR X.prog X.w) X.A (forIn ifs true λc r=>if r=true then do let ok <-gN c X.env (Bg c X.env);pure (Gy ok) else pure (Gy r)) (TP X pins σ Q) X.xe s
theorem Z8 {X:Cx}:Yc X [] (λ_ H Q=>Q true H):=λpins s σ H Q I h=>wpAny_tests_nil ⟨H,I,h⟩
structure Lm (X:Cx) (scope:Hv) (own N':List Str):Prop where
 kind:scope.kind=.function
 nocell:∀y∈scope.names,y.2≠.cell
 names:∀y∈scope.names,y.2=.local->scope.names.lookup y.1=some .local
 free:∀y∈scope.names,y.2=.free->X.env.kindOf y.1=some .cell∨X.env.kindOf y.1=some .free
 len:N'.length=own.length+X.N.length
 up:∀i x,N'[own.length+i]?=some x->Vis (IV scope X.env) x->X.N[i]?=some x/\Vis X.env.scope x/\((IV scope X.env).names.lookup x=some .cell∨(IV scope X.env).names.lookup x=some .free)/\X.env.kindOf x≠some .local
 vis:∀x,((IV scope X.env).names.lookup x=some .cell∨(IV scope X.env).names.lookup x=some .free)->(x,Hy)∈scope.names
section
variable {X:Cx} {pins:List (AI×Obj)} {σ:St} {H2:Hp} {s2:AE} {scope:Hv} {own N':List Str} {cl:List (Str×AI)} {fp:List AI} {C:AI} {s:AE} {H:Hp}
theorem V1 (Sc:Lm X scope own N') (I:Inv X pins σ H2 s2) (hf:∀b∈fp,Ll X pins H2 b) (hfl:∀b∈fp,b < s2.heap.objs.size)
  (c1:∀n c,cl.lookup n=some c->X.env.cells.lookup n=some c) (c2:∀y∈scope.names,y.2=.free->∃c,cl.lookup y.1=some c)
  (hC:s2.heap.objs.size<=C) {m:Str->Option AB} (hn:s.heap.Ns C m) (hos:s.os=s2.os) (hg:Ht s.gens)
  (u:Un (frs X.stack) fp H2 H s2.heap s.heap) (hok:HOk X.prog X.w H s.heap) (hHC:H C=none) :
  Inv (Dh X scope N' cl C s2 H2 fp (X.pn++pins)) [] (BF own.length none++σ) H s:=by
 have cellK:∀x c v,cl.lookup x=some c->s2.heap.IsCell c v->s.heap.IsCell c v:=λx c v e ⟨o,ho,hd⟩=>by
  obtain ⟨sl,q⟩:=u.any ho (I.freeC x c (c1 x c e)) λz=>(hf c z).2.2.2.2.1 x c (c1 x c e) rfl
  exact ⟨_,q,hd⟩
 have ok':(Dh X scope N' cl C s2 H2 fp (X.pn++pins)).Ok:=by
  refine ⟨I.ok.mod,Sc.kind,I.ok.glob,I.ok.blt,hC,λx y c h1 h2=>I.ok.inj x y c (c1 x c h1) (c1 y c h2),λx hx=>?_,λx c z=>?_,I.ok.hd,I.ok.frames,.inl rfl,λb hb=>?_,I.bs,As I.ok.bsz I.sz,λb o e hb=>?_,λb hb hb'=>?_,I.stack,I.stkFree⟩
  ·obtain ⟨c,hc⟩:=c2 _ (Sc.vis x hx) rfl
   exact ⟨c,hc⟩
  ·exact zX (show false=true from z) AO
  ·exact ⟨Ad (Ab (hfl b hb) hC),λx c e=>(hf b hb).2.2.2.2.1 x c (c1 x c e)⟩
  ·obtain ⟨_,_,_,z,_⟩:=hf b hb
   rcases z with z | z
   ·exact I.ok.noex b o e z
   ·exact zX (Ab (AW (I.ok.bs b o e).1) z) (EU _)
  ·obtain ⟨_,z1,z2,_⟩:=hf b hb
   rcases Ax.mp (I.stkSub b hb') with e | e
   ·exact z1 e
   ·exact z2 e
 refine ⟨ok',hos,hg,u,⟨m,hn,λi x v e1 e2 e3=>?_⟩,λx c e=>?_,hHC,λx c e=>?_,λp hp=>?_,hok,?_⟩
 ·have hi:own.length<=i:=by
   apply OZ
   intro hlt;rw [Ah (by simpa using hlt),Ct,qX hlt] at e2;cases e2
  obtain ⟨j,rfl⟩:∃j,i=own.length+j:=⟨i - own.length,by lia⟩
  rw [BB (by simp)] at e2
  have e2':σ[j]?=some (some v):=by simpa using e2
  obtain ⟨n1,n2,n3,n4⟩:=Sc.up j x e1 e3;obtain ⟨m0,hn0,hl⟩:=I.loc;obtain ⟨w',r,lk⟩:=hl j x v n1 e2' n2;refine ⟨w',r,.inr ⟨n3,?_⟩⟩
  rcases lk with ⟨k,_⟩ | ⟨_,c,hc,hcell⟩
  ·exact (n4 k).elim
  ·obtain ⟨c',hc'⟩:=c2 _ (Sc.vis x n3) rfl
   have e:=c1 x c' hc';rw [hc] at e;cases e;exact ⟨c,hc',cellK x c _ hc' hcell⟩
 ·obtain ⟨v,z⟩:=I.cell x c (c1 x c e)
  exact ⟨v,cellK x c v e z⟩
 ·obtain ⟨v,o,ho,hd⟩:=I.cell x c (c1 x c e)
  exact u.free c o ho (I.freeC x c (c1 x c e)) λz=>(hf c z).2.2.2.2.1 x c (c1 x c e) rfl
 ·have hp':p∈X.pn++pins:=by
   have hp:p∈(X.pn++pins)++[]:=hp;rwa [B6] at hp
  obtain ⟨e,n,ne,nf,d⟩:=I.pin p hp'
  have nfs:p.1∉frs X.stack:=λz=>(Ax.mp (I.stkSub _ z)).elim ne nf
  have nfp:p.1∉fp:=λz=>(hf _ z).2.2.2.2.2 p hp' rfl
  exact ⟨u.keep p.1 p.2 e n nfs nfp,u.free p.1 p.2 e n nfp,Ad (Ab (AW e) hC),nfs,d⟩
 ·show (BF own.length none++σ).length=N'.length
  rw [Af,Ki,I.len,Sc.len]
def Zb (k:Nat) (wi:TI) (g:TG) (tc:TT) (te:TE):TE:=λσ H Q=>wi σ H λJ H1=>∀p,H1 p=none->∃W:Nat->Nat->St->Hp->List V->Prop,(∃m,W 0 m (BF k none++σ) (upd H1 p (.lst [])) []) /\
 ∀i m σ' H' xs,W i m σ' H' xs->H' p=some (.lst xs)/\((J.stop i H'/\Q (.ref p) H')∨(J.go i H'/\xs.length < sizeLine/\∀x H'',J.yld i H' x H''->g x σ' H'' λσ2 H2=>tc σ2 H2 λb H3=>
  if b=true then te σ2 H3 λy H4=>H4 p=some (.lst xs)/\∃m',m' < m/\W (i+1) m' σ2 (upd H4 p (.lst (xs++[y]))) (xs++[y]) else ∃m',m' < m/\W (i+1) m' σ2 H3 xs))
theorem YT {X':Cx} {elt target iter:Expr} {ifs:List Expr} {pos:Pos} {J:It} {it p:AI} {tn:Nat->BP->Prop} {g:TG} {tc:TT} {te:TE} {R:Ra->AE->Prop} {Q:Hp->Prop}
  (hc:X'.calm=true) (hx:X'.xe=λ_ _=>False) (T:UY X'.prog X'.w X'.K target J fp it tn) (hg:PG X' target g) (hif:Yc X' ifs tc) (he:PE X' elt te)
  (W:Nat->Nat->St->Hp->List V->Prop) (turn:∀i m σ' H' xs,W i m σ' H' xs->H' p=some (.lst xs)/\((J.stop i H'/\Q H')∨(J.go i H'/\xs.length < sizeLine/\∀x H'',J.yld i H' x H''->g x σ' H'' λσ2 H2=>tc σ2 H2 λb H3=>
   if b=true then te σ2 H3 λy H4=>H4 p=some (.lst xs)/\∃m',m' < m/\W (i+1) m' σ2 (upd H4 p (.lst (xs++[y]))) (xs++[y]) else ∃m',m' < m/\W (i+1) m' σ2 H3 xs)))
  (fin:∀σ' H' s',Inv X' [] σ' H' s'->Q H'->R (.ok .next) s')
  {m0:Nat} {σ0:St} {H0:Hp} {s0:AE} (I0:Inv X' [] σ0 H0 s0) (st0:tn 0 s0.heap) (f0:∀b∈fp,Ll X' [] H0 b) (w0:W 0 m0 σ0 H0 []) :
  G7 (AR X'.prog X'.w) X'.A (.compLoop (.ListComp elt [⟨target,iter,ifs,0⟩] scope pos) 0 (.ref it) (.ref p) X'.env) R s0:=by
 have stat:∀ {H':Hp},(∀b∈fp,H' b=none)->∀b∈fp,Ll X' [] H' b:=λhn b hb=>⟨hn b hb,(f0 b hb).2⟩
 refine codeAny_loop rfl (λn s'=>∃i σ' H' xs,Inv X' [] σ' H' s'/\tn i s'.heap/\(∀b∈fp,H' b=none)/\W i n σ' H' xs) (λn s1 hI=>?_) m0 ⟨0,σ0,H0,[],I0,st0,λb hb=>(f0 b hb).1,w0⟩;obtain ⟨i,σ1,H1,xs,I1,st1,fr1,w1⟩:=hI;show AZ _ X'.A ((compTurn (.ListComp elt [⟨target,iter,ifs,0⟩] scope pos) 0 (.ref it) (.ref p) X'.env).onRaise (λx=>do Yg x X'.env;theTreesLotGoes x)) _ _ s1;refine wpAny_noted ?_;rw [compTurn_list]
 have up:∀ {α:Type} {t:Sem α} {P:α->AE->Prop} {E:AB->AE->Prop} {s:AE},AZ (AR X'.prog X'.w) X'.A t P X'.xe s->AZ (AR X'.prog X'.w) X'.A t P E s:=λh=>FI h (λ_ _ z=>z) λ_ _ z=>by rw [hx] at z;exact z.elim
 obtain ⟨hp,hcase⟩:=turn i n σ1 H1 xs w1;refine AA (XC (AA ?_))
 rcases hcase with ⟨stop,q⟩ | ⟨go,hz,step⟩
 ·refine up (thn (T.done X' rfl rfl rfl hc i [] s1 σ1 H1 X'.xe I1 (stat fr1) st1 stop) λr s4 ⟨hr,I4⟩=>?_)
  subst hr;exact AD (fin σ1 H1 s4 I4 q)
 ·refine up (thn (T.item X' rfl rfl rfl hc i [] s1 σ1 H1 X'.xe I1 (stat fr1) st1 go) λr s4 ⟨u,hr,h4⟩=>?_)
  subst hr;refine AA (up (thn h4 λ_ s5 ⟨x,H5,I5,r5,y5,st5,fr5⟩=>?_));have I5':=I5.pinned (stat fr5) (T.obj _ _ st5);refine AA (up (thn (hg _ s5 σ1 H5 x u _ I5' r5 (step x H5 y5)) λ_ s6 ⟨σ6,H6,I6,q6⟩=>?_))
  have again:∀ {s7:AE} {σ7:St} {H7:Hp} {ys:List V},Inv X' ([]++O5 fp s5.heap) σ7 H7 s7->(∃m',m' < n/\W (i+1) m' σ7 H7 ys)->∃m,m < n/\∃i σ' H' xs,Inv X' [] σ' H' s7/\tn i s7.heap/\(∀b∈fp,H' b=none)/\W i m σ' H' xs:=λ{s7 σ7 H7 ys} I7 ⟨m',hm,w7⟩=>by
   refine ⟨m',hm,i+1,σ7,H7,ys,I7.unpinned,T.keep _ _ _ st5 λb hb o e=>(I7.pin (b,o) (BG _ (BG _ (JT hb e)))).1,λb hb=>?_,w7⟩;obtain ⟨o,e,d⟩:=T.obj _ _ st5 b hb;exact (I7.pin (b,o) (BG _ (BG _ (JT hb e)))).2.1
  refine AA (up (thn (hif _ s6 σ6 H6 _ I6 q6) λok s7 ⟨H7,I7,q7⟩=>?_))
  cases ok with
  | false=>
   rw [qY AO] at q7;exact AD ⟨rfl,again I7 q7⟩
  | true=>
   rw [qX rfl] at q7;refine AA (AA (up (thn (he _ s7 σ6 H7 _ I7 q7) λyv s8 ⟨y,H8,I8,r8,hp8,q8⟩=>?_)));refine AA (up (thn (RA (X:=X') _ s8 σ6 H8 (.ref p) [y] (.ref p) [yv] (λv H9=>v=.non/\H9=upd H8 p (.lst (xs++[y]))) I8 rfl (.cons r8 .nil) ⟨p,xs,y,rfl,rfl,hp8,hz,rfl,rfl⟩) λv9 s9 ⟨v,H9,I9,r9,e9,e10⟩=>?_));subst e10;exact AD (AD ⟨rfl,again I9 q8⟩)
end
section
variable {X:Cx} {pins:List (AI×Obj)} {σ:St} {H2:Hp} {s2:AE} {scope:Hv} {own N':List Str} {cl:List (Str×AI)} {fp:List AI} {C:AI}
theorem RN {σ':St} {H':Hp} {s':AE} {h':BP} (I2:Inv X pins σ H2 s2) (J:Inv (Dh X scope N' cl C s2 H2 fp (X.pn++pins)) [] σ' H' s') (hC:s2.heap.objs.size<=C) (hf:∀b∈fp,Ll X pins H2 b)
  (sb:CK C s'.heap h'):Inv X pins σ H' { s' with heap:=h' }:=by
 have ne:∀b o,s2.heap.get? b=some o->b≠C:=λb o e=>Ad (Ab (AW e) hC)
 have jb:Un (frs X.stack) fp H2 H' s2.heap s'.heap:=J.base
 have u:Un (frs X.stack) fp H2 H' s2.heap h':=by
  refine ⟨λb o e n hb hx=>(sb.2 b (ne b o e)).trans (jb.keep b o e n hb hx),λb o e n hb hx=>?_,jb.free,λb o e hx=>?_,jb.tups,jb.frzs,jb.tbls⟩
  ·obtain ⟨sl,q⟩:=jb.slot b o e n hb hx
   exact ⟨sl,(sb.2 b (ne b o e)).trans q⟩
  ·obtain ⟨o',q⟩:=jb.there b o e hx
   exact ⟨o',(sb.2 b (ne b o e)).trans q⟩
 have hHC:H' C=none:=J.free
 have hok:HOk X.prog X.w H' h':=λa o e=>(J.hok a o e).stay (λb u hb q=>(sb.2 b λz=>by
  subst z
  rcases hb with z | z
  ·subst z;rw [hHC] at e;cases e
  ·rw [hHC] at z;cases z).trans q) (λ_ q=>q) λ_ _ q=>q
 exact I2.call' (s':={ s' with heap:=h' }) (ch:=fp) J.os u hok J.bare λb hb=>by
  obtain ⟨_,z1,z2,z3,z4,z5⟩:=hf b hb;exact ⟨z3,z1,z4,z5⟩
variable {elt iter target:Expr} {ifs:List Expr} {pos:Pos} {wi:TI} {g:TG} {tc:TT} {te:TE}
theorem Pk {σ:St} {E:AB->AE->Prop} {Qf:AI->Hp->Prop} {RR:AB->AI->Ra->AE->Prop} {it:AI} {J:It} {tn:Nat->BP->Prop} (hc:X.calm=true) (Sc:Lm X scope own N')
  (hg:∀cl C s₁ H₁ ex pn,PG (Dh X scope N' cl C s₁ H₁ ex pn) target g) (hif:∀cl C s₁ H₁ ex pn,Yc (Dh X scope N' cl C s₁ H₁ ex pn) ifs tc) (he:∀cl C s₁ H₁ ex pn,PE (Dh X scope N' cl C s₁ H₁ ex pn) elt te)
  (c1:∀n c,cl.lookup n=some c->X.env.cells.lookup n=some c) (c2:∀y∈scope.names,y.2=.free->∃c,cl.lookup y.1=some c)
  (I2:Inv X pins σ H2 s2) (T:UY X.prog X.w X.K target J fp it tn) (st2:tn 0 s2.heap) (f2:∀b∈fp,Ll X pins H2 b)
  (q2:∀p,H2 p=none->∃W:Nat->Nat->St->Hp->List V->Prop,(∃m,W 0 m (BF own.length none++σ) (upd H2 p (.lst [])) []) /\
   ∀i m σ' H' xs,W i m σ' H' xs->H' p=some (.lst xs)/\((J.stop i H'/\Qf p H')∨(J.go i H'/\xs.length < sizeLine/\∀x H'',J.yld i H' x H''->g x σ' H'' λσ2 H2=>tc σ2 H2 λb H3=>
    if b=true then te σ2 H3 λy H4=>H4 p=some (.lst xs)/\∃m',m' < m/\W (i+1) m' σ2 (upd H4 p (.lst (xs++[y]))) (xs++[y]) else ∃m',m' < m/\W (i+1) m' σ2 H3 xs)))
  (hRR:∀D C σ' H' s',s2.heap.objs.size<=C->Inv (Dh X scope N' cl C s2 H2 fp (X.pn++pins)) [] σ' H' s'->Qf D H'->RR (.ref D) C (.ok .next) s') :
  AZ (AR X.prog X.w) X.A (newList []) (λacc s₃=>AZ (AR X.prog X.w) X.A (newFunctionEnv scope X.env.globals cl [] X.env.qual none .none (some X.env)) (λcenv s₄=>
   G7 (AR X.prog X.w) X.A (.compStart (.ListComp elt [⟨target,iter,ifs,0⟩] scope pos) 0 (.ref it) acc { cenv with scope:=IV scope X.env }) (RR acc cenv.locals) s₄) E s₃) E s2:=by
 have hfl:∀b∈fp,b < s2.heap.objs.size:=λb hb=>by
  obtain ⟨o,e,_⟩:=T.obj _ _ st2 b hb;exact AW e
 refine A3 (wpAny_newFunctionEnv Sc.nocell (by intro y hy;simp at hy) (λh₁ hns₁ hsb₁=>?_) Sc.kind);dsimp only at hns₁ hsb₁ ⊢;generalize hH3:s2.heap.push { cls:=.type "list",dict:=none,data:=.seq ([]:List AB).toArray }=H3 at hns₁ hsb₁ ⊢
 have hC:H3.objs.size=s2.heap.objs.size+1:=by rw [<-hH3,BZ]
 have hDC:s2.heap.objs.size≠H3.objs.size:=by rw [hC];exact Ad (CQ _)
 have hCle:s2.heap.objs.size<=H3.objs.size:=by rw [hC];exact EC _
 have old:∀b o,s2.heap.get? b=some o->h₁.get? b=some o:=λb o e=>hsb₁.extBut b o (Ad (by rw [hC];exact CG (AW e))) (AF _ (hH3▸AF _ e))
 have hacc:h₁.get? s2.heap.objs.size=some { cls:=.type "list",dict:=none,data:=.seq ([]:List AB).toArray }:=hsb₁.extBut _ _ hDC (AF _ (hH3▸AV _ rfl));have hD:H2 s2.heap.objs.size=none:=I2.hok.fresh (AM _);have u:Un (frs X.stack) fp H2 (upd H2 s2.heap.objs.size (.lst [])) s2.heap h₁:=Un.laid old (AM _) hD;have hok:HOk X.prog X.w (upd H2 s2.heap.objs.size (.lst [])) h₁:=I2.hok.laid old (AM _) ⟨CP _,[],0,.nil,hacc⟩
 have hHC:upd H2 s2.heap.objs.size (.lst []) H3.objs.size=none:=by rw [Bm (Bl hDC)];exact I2.hok.fresh hCle
 obtain ⟨W,⟨m0,w0⟩,turn⟩:=q2 s2.heap.objs.size hD
 have loop:∀s₃:AE,s₃={ s2 with heap:=h₁,toks:=s2.toks+([]:List (Str×AB)).length } ->
   G7 (AR X.prog X.w) X.A (.compLoop (.ListComp elt [⟨target,iter,ifs,0⟩] scope pos) 0 (.ref it) (.ref s2.heap.objs.size) (compEnvC scope cl H3.objs.size X.env))
    (RR (.ref s2.heap.objs.size) H3.objs.size) s₃:=by
  rintro s₃ rfl
  have J0:Inv (Dh X scope N' cl H3.objs.size s2 H2 fp (X.pn++pins)) [] (BF own.length none++σ) (upd H2 s2.heap.objs.size (.lst [])) { s2 with heap:=h₁,toks:=s2.toks+([]:List (Str×AB)).length }:=
   V1 (s:={ s2 with heap:=h₁,toks:=s2.toks+([]:List (Str×AB)).length }) Sc I2 f2 hfl c1 c2 hCle hns₁ rfl I2.bare u hok hHC
  refine YT (X':=Dh X scope N' cl H3.objs.size s2 H2 fp (X.pn++pins)) (fp:=fp) (Q:=Qf s2.heap.objs.size) hc rfl T (hg _ _ _ _ _ _) (hif _ _ _ _ _ _) (he _ _ _ _ _ _) W turn (λσ' H' s' J q=>hRR _ _ σ' H' s' hCle J q) J0 (T.keep _ _ _ st2 λb _ o e=>old b o e) (λb hb=>?_) w0;obtain ⟨z0,z1,z2,z3,z4,z5⟩:=f2 b hb;refine ⟨by rw [Bm (Ad (hfl b hb))];exact z0,Ad (Ab (hfl b hb) hCle),λz=>?_,.inl hb,λx c e=>z4 x c (c1 x c e),λp hp=>?_⟩
  ·exact (Ax.mp (I2.stkSub _ z)).elim z1 z2
  ·have hp:p∈(X.pn++pins)++[]:=hp
   rw [B6] at hp;exact z5 p hp
 exact codeAny_compStart_list (loop _ rfl) (T.self X.A 0 _ _ _ (T.keep _ _ _ st2 λb _ o e=>old b o e) (loop _ rfl))
theorem dg (hc:X.calm=true) (Sc:Lm X scope own N') (hi:PI X target iter wi)
  (hg:∀cl C s₁ H₁ ex pn,PG (Dh X scope N' cl C s₁ H₁ ex pn) target g) (hif:∀cl C s₁ H₁ ex pn,Yc (Dh X scope N' cl C s₁ H₁ ex pn) ifs tc) (he:∀cl C s₁ H₁ ex pn,PE (Dh X scope N' cl C s₁ H₁ ex pn) elt te)
  (hs:∀x,FA iter X.env x=pure x:=by intro _;rfl):PE X (.ListComp elt [⟨target,iter,ifs,0⟩] scope pos) (Zb own.length wi g tc te):=by
 intro pins s σ H Q I h;rw [eval_ListComp];obtain ⟨cl,hclos,c1,c2⟩:=W6 (scope:=scope) (env:=X.env) (λy hy hf=>I.ok.has y.1 (Sc.free y hy hf));refine XF (use:=none) rfl hs hclos Sc.kind Sc.names (thn (hi pins s σ H _ I h) λv s1 h1=>thn h1 λitv s2 h2=>?_);obtain ⟨it,fp,tn,J,H2,rfl,I2,T,st2,f2,q2⟩:=h2
 refine Pk (Qf:=λp H'=>Q (.ref p) H') (RR:=λacc C=>compPost (AR X.prog X.w) X.A X.xe none (EP X pins σ Q) acc C) hc Sc hg hif he c1 c2 I2 T st2 f2 q2 λD C σ' H' s' hC J q=>?_
 obtain ⟨m,hn,_⟩:=J.loc;exact ⟨m,hn,λh' sb=>⟨.ref D,H',RN I2 J hC f2 sb,rfl,q⟩⟩
theorem dQ {i:Nat} {y:Str} {py spos:Pos} (hc:X.calm=true) (hsw:FZ (.ListComp elt [⟨target,iter,ifs,0⟩] scope pos) (some (.Name y py)) spos.line X.env=pure true)
  (hN:X.N.Nodup) (hy:X.N[i]?=some y) (hloc:Loc X.env.scope y) (Sc:Lm X scope own N') (hi:PI X target iter wi)
  (hg:∀cl C s₁ H₁ ex pn,PG (Dh X scope N' cl C s₁ H₁ ex pn) target g) (hif:∀cl C s₁ H₁ ex pn,Yc (Dh X scope N' cl C s₁ H₁ ex pn) ifs tc) (he:∀cl C s₁ H₁ ex pn,PE (Dh X scope N' cl C s₁ H₁ ex pn) elt te)
  (hs:∀x,FA iter X.env x=pure x:=by intro _;rfl) (hf:X.fn y=true∨X.env.scope.names.lookup y=some .local:=by first | exact .inl rfl | exact .inr rfl | assumption) :
  PS X (.Assign [.Name y py] (.ListComp elt [⟨target,iter,ifs,0⟩] scope pos) spos) (hV (Zb own.length wi g tc te) (Ww i)):=by
 intro pins s σ H D I h;rw [exec_Assign_Name_used _ _ _ _ hsw];refine AA (XC (AA ?_));show AZ _ X.A (do let _ <-comprehension (.ListComp elt [⟨target,iter,ifs,0⟩] scope pos) scope X.env _ (newList []) false (Bg iter X.env) (some (LS (.Name y py) X.env))) _ _ s;obtain ⟨cl,hclos,c1,c2⟩:=W6 (scope:=scope) (env:=X.env) (λy hy hf=>I.ok.has y.1 (Sc.free y hy hf))
 refine AA (FI (XF (use:=some (LS (.Name y py) X.env)) (Q:=λ_ s'=>SP X pins D .next s') rfl hs hclos Sc.kind Sc.names
  (thn (hi pins s σ H _ I h) λv s1 h1=>thn h1 λitv s2 h2=>?_)) (λ_ s' hq=>AD (AD hq)) λ_ _ e=>e)
 obtain ⟨it,fp,tn,J,H2,rfl,I2,T,st2,f2,q2⟩:=h2
 refine Pk (Qf:=λp H'=>D.nx (σ.set i (some (.ref p))) H') (RR:=λacc C=>compPost (AR X.prog X.w) X.A X.xe (some (LS (.Name y py) X.env)) (λ_ s'=>SP X pins D .next s') acc C) hc Sc hg hif he c1 c2 I2 T st2 f2 q2 λA C σ' H' s' hC J q=>?_
 obtain ⟨m,hn,_⟩:=J.loc;have I3:Inv X pins σ H' s':=RN I2 J hC f2 (Ri ..);have hHC:H' C=none:=J.free
 have hcell:∀x c,X.env.cells.lookup x=some c->c≠C:=λx c e z=>by
  obtain ⟨v,q⟩:=I2.cell x c e;exact zX (Ab q.lt (by rw [z];exact hC)) (EU _)
 have hloc':C≠X.env.locals:=Gc (Ab I2.lt hC);show AZ _ X.A (LS (.Name y py) X.env (.ref A)) _ _ s';refine jj (Qs (v:=.ref A) I3 hN hy hloc rfl (λs4 I4 ⟨a,sb,ha⟩=>?_) hf)
 have haC:C≠a:=by
  rcases ha with e | e
  ·rw [e];exact hloc'
  ·exact Bl (hcell _ _ e)
 refine ⟨m,hn.sameBut sb haC,λh' sb'=>⟨_,H',?_,q⟩⟩
 refine I4.turned (t':=s4.toks) (it:=C) (λb o hb e=>(sb'.2 b hb).trans e) hHC hloc' (.inr (As I2.sz hC)) hcell λp hp z=>?_
 exact zX (Ab (AW (I2.pin p hp).1) (by rw [z];exact hC)) (EU _)
end
def FW (v:IU) (g:MG) (c:MT) (m:ME):Nat->Nat->Lo->Sto->List D->Res (List D)
 | k,i,e,S,acc=>match v S with
  | none=>.bad
  | some ds=>match ds[i]? with
   | none=>.ok acc S
   | some d=>match k with
    | 0=>.bad
    | k+1=>if acc.length < sizeLine then (okR (g d e S)).bind λe1 S1=>(okR (c e1 S1)).bind λb S2=>if b=true then (okR (m e1 S2)).bind λy S3=>FW v g c m k (i+1) e1 S3 (acc++[y]) else FW v g c m k (i+1) e1 S2 acc else .bad
def Fp (n:Nat) (mi:MI) (g:MG) (c:MT) (m:ME):ML:=λe S=>(mi e S).bind λv S1=>FW v g c m (C4 v S1) 0 (BF n none++e) S1 []
def GB:MT:=λ_ S=>.ok true S
section
variable {X:Cx} {E:EW} {scope:Hv} {own N':List Str} {elt iter target:Expr} {ifs:List Expr} {pos:Pos} {mi:MI} {g:MG} {c:MT} {m:ME}
abbrev jf (X:Cx) (E:EW) (ifs:List Expr) (c:MT):Prop:=Yc X ifs (gT X.K E c)
theorem G3:jf X E [] GB:=λpins s σ H Q I ⟨ρ,l,S,hl,hs,hm⟩=>by
 exact Z8 pins s σ H Q I (hm ρ H .refl hs)
theorem E9.grow {K:AC} {ρ:List AI} {H:Hp} {e:Lo} {σ:St} (n:Nat) (h:E9 K ρ H e σ):E9 K ρ H (BF n none++e) (BF n none++σ):=by
 refine ⟨by simp [h.len],λi d q=>?_⟩
 by_cases hi:i < n
 ·rw [Ah (by simpa using hi),Ct,qX hi] at q
  cases q
 ·rw [BB (by simpa using hi)] at q ⊢
  simp only [Ki] at q ⊢;exact h.at' _ d q
theorem Bn.ok_of {α:Type} {K:AC} {E:EH} {ρ:List AI} {H:Hp} {r:Res α} {k:α->Sto->Prop} {a:α} {S:Sto} (e:r=.ok a S) (h:k a S):Bn K E ρ H r k:=by
 subst e;exact h
theorem O9 {α β:Type} {r:Res α} {F:α->Sto->Res β} {b:β} {S:Sto} (h:(okR r).bind F=.ok b S):∃a S1,r=.ok a S1/\F a S1=.ok b S:=by
 cases r with
 | ok a S1=>exact ⟨a,S1,rfl,h⟩
 | err c S1=>cases h
 | bad=>cases h
theorem UU {v:IU} {g:MG} {c:MT} {m:ME} {er:AI} {S':Sto}:∀(k i:Nat) (e:Lo) (S:Sto) (acc:List D),FW v g c m k i e S acc≠.err er S':=by
 intro k
 induction k with
 | zero=>
  intro i e S acc h;unfold FW at h;split at h
  ·cases h
  ·split at h <;> cases h
 | succ k ih=>
  intro i e S acc h;unfold FW at h;split at h
  ·cases h
  ·split at h
   ·cases h
   ·dsimp only at h
    split at h
    ·cases h1:g _ e S with
     | ok e1 S1=>
      rw [h1] at h;dsimp only [okR,Res.bind] at h
      cases h2:c e1 S1 with
      | ok b S2=>
       rw [h2] at h;dsimp only [okR,Res.bind] at h
       cases b with
       | true=>
        rw [qX rfl] at h
        cases h3:m e1 S2 with
        | ok y S3=>rw [h3] at h;exact ih _ _ _ _ h
        | err _ _=>rw [h3] at h;cases h
        | bad=>rw [h3] at h;cases h
       | false=>
        rw [qY AO] at h;exact ih _ _ _ _ h
      | err _ _=>rw [h2] at h;cases h
      | bad=>rw [h2] at h;cases h
     | err _ _=>rw [h1] at h;cases h
     | bad=>rw [h1] at h;cases h
    ·cases h
theorem Tf {K:AC} {n:Nat} {σ:St} {H:Hp} {Q:VK} (h:gL K E (Fp n mi g c m) σ H Q):Zb n (gI K E mi) (gG K g) (gT K noE c) (gE K noE m) σ H Q:=by
 obtain ⟨ρ,l,S,hl,hs,hm⟩:=h;refine ⟨ρ,l,S,hl,hs,hm.seq λv S1 hm ρ1 H1 J l1 s1 vo p hp=>?_⟩
 obtain ⟨ds,S',hm,k⟩:∃ds S',FW v g c m (C4 v S1) 0 (BF n none++l) S1 []=.ok ds S'/\∀ρ' H' p xs,Le K ρ H ρ' H'->Bw K ρ' S' H'->Ao K ρ' H' ds xs->H' p=some (.lst xs)->(∀n:Nat,ρ'[n]?≠some p)->H p=none->Q (.ref p) H':=by
  cases hc:FW v g c m (C4 v S1) 0 (BF n none++l) S1 [] with
  | ok ds S'=>rw [hc] at hm;exact ⟨ds,S',rfl,hm⟩
  | err c S'=>exact (UU _ _ _ _ _ hc).elim
  | bad=>rw [hc] at hm;exact hm.elim
 obtain ⟨s1',l1'⟩:=Fi (ho:=.lst []) s1 hp;have hp0:H p=none:=l1.back hs s1 hp
 refine ⟨λi j σ2 H2 xs=>∃ρ2 e2 S2 acc,Le K ρ1 H1 ρ2 H2/\E9 K ρ2 H2 e2 σ2/\Bw K ρ2 S2 H2/\Ao K ρ2 H2 acc xs/\H2 p=some (.lst xs)/\(∀q:Nat,ρ2[q]?≠some p)/\FW v g c m j i e2 S2 acc=.ok ds S',
  ⟨C4 v S1,ρ1,_,S1,[],l1',(hl.mono (l1.trans l1')).grow n,s1',.nil,Bd,λq e=>s1.notIn hp e,hm⟩,?_⟩
 rintro i j σ2 H2 xs ⟨ρ2,e2,S2,acc,l2,r2,s2,ra,hp2,hn2,hm2⟩;refine ⟨hp2,?_⟩;unfold FW at hm2
 cases hv:v S2 with
 | none=>rw [hv] at hm2;cases hm2
 | some vs=>
  rw [hv] at hm2;dsimp only at hm2;obtain ⟨v1,v2⟩:=vo ρ2 H2 S2 vs i l2 s2 hv
  cases hd:vs[i]? with
  | none=>
   rw [hd] at hm2;cases hm2;exact .inl ⟨v1 hd,k ρ2 H2 p xs (l1.trans l2) s2 ra hp2 hn2 hp0⟩
  | some d=>
   rw [hd] at hm2;dsimp only at hm2;obtain ⟨go,yl⟩:=v2 d hd
   cases j with
   | zero=>cases hm2
   | succ j=>
    dsimp only at hm2;split at hm2
    ·rename_i hz
     obtain ⟨e3,S3,h3,hm2⟩:=O9 hm2;obtain ⟨b,S4,h4,hm2⟩:=O9 hm2;refine .inr ⟨go,by rw [<-ra.length];exact hz,λx H' y=>?_⟩;obtain ⟨ρ3,l3,s3,rd⟩:=yl x H' y;obtain ⟨hp3,hn3⟩:=l3.oth p _ hp2 hn2;refine ⟨ρ3,e2,S2,d,rd,r2.mono l3,s3,Bn.ok_of h3 λρ4 H4 σ4 l4 s4 r4=>?_⟩;obtain ⟨hp4,hn4⟩:=l4.oth p _ hp3 hn3;refine ⟨ρ4,e3,S3,r4,s4,Bn.ok_of h4 λρ5 H5 l5 s5=>?_⟩;obtain ⟨hp5,hn5⟩:=l5.oth p _ hp4 hn4
     cases b with
     | false=>
      rw [qY AO] at hm2 ⊢;exact ⟨j,CQ j,ρ5,e3,S4,acc,l2.trans (l3.trans (l4.trans l5)),r4.mono l5,s5,ra.mono (l3.trans (l4.trans l5)),hp5,hn5,hm2⟩
     | true=>
      rw [qX rfl] at hm2 ⊢;obtain ⟨yv,S5,h5,hm2⟩:=O9 hm2;refine ⟨ρ5,e3,S4,r4.mono l5,s5,Bn.ok_of h5 λρ6 H6 y6 l6 s6 r6=>?_⟩;obtain ⟨hp6,hn6⟩:=l6.oth p _ hp5 hn5
      have l7:∀xs',Le K ρ6 H6 ρ6 (upd H6 p (.lst xs'))->True:=λ_ _=>trivial
      have up7:∀xs':List V,Bw K ρ6 S5 (upd H6 p (.lst xs'))/\(∀a o,E2 K ρ6 H6 a o->a≠p->E2 K ρ6 (upd H6 p (.lst xs')) a o)/\∀e' w',Bo K ρ6 H6 e' w'->Bo K ρ6 (upd H6 p (.lst xs')) e' w':=λxs'=>by
       have kk:=Fq (H:=H6) (p:=p) (ho:=.lst xs') (.inr (by rw [hp6];trivial))
       have mono:∀e' w',Bo K ρ6 H6 e' w'->Bo K ρ6 (upd H6 p (.lst xs')) e' w':=λe' w' r=>r.keep kk.1 kk.2
       have mob:∀a o,E2 K ρ6 H6 a o->a≠p->E2 K ρ6 (upd H6 p (.lst xs')) a o:=λa o r ne=>r.keep kk.1 kk.2 (Bm ne)
       exact ⟨⟨s6.len,s6.nd,λn o a q1 q2=>mob a o (s6.ob n o a q1 q2) λz=>hn6 n (by rw [<-z];exact q2)⟩,mob,mono⟩
      obtain ⟨u1,u2,u3⟩:=up7 (xs++[y6]);refine ⟨hp6,j,CQ j,ρ6,e3,S5,acc++[yv],?_,?_,u1,?_,Bd,hn6,hm2⟩
      ·have lx:=l2.trans (l3.trans (l4.trans (l5.trans l6)))
       have kk:=Fq (H:=H6) (p:=p) (ho:=.lst (xs++[y6])) (.inr (by rw [hp6];trivial))
       exact ⟨lx.pre,λa zs q=>kk.1 a zs (lx.tup a zs q),λa o u q=>kk.2 a o u (lx.frz a o u q),λa o q z=>by
        have nap:a≠p:=B7 q hp;obtain ⟨z1,z2⟩:=lx.oth a o q z
        exact ⟨by rw [Bm nap];exact z1,z2⟩⟩
      ·have rr:=r4.mono (l5.trans l6)
       exact ⟨rr.len,λq d' hq=>by
        obtain ⟨w',z1,z2⟩:=rr.at' q d' hq
        exact ⟨w',z1,u3 _ _ z2⟩⟩
      ·have ra6:=ra.mono (l3.trans (l4.trans (l5.trans l6)))
       have kk:=Fq (H:=H6) (p:=p) (ho:=.lst (xs++[y6])) (.inr (by rw [hp6];trivial));exact (ra6.keep kk.1 kk.2).append (.cons (u3 _ _ r6) .nil)
    ·cases hm2
theorem Kr (hc:X.calm=true) (Sc:Lm X scope own N') (hi:GI X E target iter mi)
  (hg:∀cl C s₁ H₁ ex pn,GG (Dh X scope N' cl C s₁ H₁ ex pn) target g) (hif:∀cl C s₁ H₁ ex pn,jf (Dh X scope N' cl C s₁ H₁ ex pn) noE ifs c) (he:∀cl C s₁ H₁ ex pn,GE (Dh X scope N' cl C s₁ H₁ ex pn) noE elt m)
  (hs:∀x,FA iter X.env x=pure x:=by intro _;rfl):GL X E (.ListComp elt [⟨target,iter,ifs,0⟩] scope pos) (Fp own.length mi g c m):=
 (dg (g:=gG X.K g) (tc:=gT X.K noE c) (te:=gE X.K noE m) hc Sc hi hg hif he hs).imp λ_ _ _ h=>Tf h
theorem Ws {i:Nat} {y:Str} {py spos:Pos} (hc:X.calm=true) (hsw:FZ (.ListComp elt [⟨target,iter,ifs,0⟩] scope pos) (some (.Name y py)) spos.line X.env=pure true)
  (hN:X.N.Nodup) (hy:X.N[i]?=some y) (hloc:Loc X.env.scope y) (Sc:Lm X scope own N') (hi:GI X E target iter mi)
  (hg:∀cl C s₁ H₁ ex pn,GG (Dh X scope N' cl C s₁ H₁ ex pn) target g) (hif:∀cl C s₁ H₁ ex pn,jf (Dh X scope N' cl C s₁ H₁ ex pn) noE ifs c) (he:∀cl C s₁ H₁ ex pn,GE (Dh X scope N' cl C s₁ H₁ ex pn) noE elt m)
  (hs:∀x,FA iter X.env x=pure x:=by intro _;rfl) (hf:X.fn y=true∨X.env.scope.names.lookup y=some .local:=by first | exact .inl rfl | exact .inr rfl | assumption) :
  GS X E (.Assign [.Name y py] (.ListComp elt [⟨target,iter,ifs,0⟩] scope pos) spos) (CB i (C5 (Fp own.length mi g c m))):=by
 refine (dQ (g:=gG X.K g) (tc:=gT X.K noE c) (te:=gE X.K noE m) hc hsw hN hy hloc Sc hi hg hif he hs hf).imp λD σ H ⟨ρ,l,S,hl,hs,hm⟩=>?_
 refine Tf (E:=E) (Q:=λx H'=>D.nx (σ.set i (some x)) H') ⟨ρ,l,S,hl,hs,Bn.seq (F:=λds S1=>Res.ok (L2.D.ref S1.length) (S1++[Ob.lst ds])) (k:=λd S2=>Bn X.K noH ρ H ((tgN i d l S2).bind λe1 S2=>.ok (.nx e1) S2) λfl S'=>Pd X.K E ρ H S' D fl) (Bn.lift hm hl .refl λd S2 h=>h) λds S1 hm ρ1 H1 p xs l1 s1 r1 hp hn hp0=>?_⟩
 have l0:∀(n:Nat) a,ρ1[n]?=some a->(ρ1++[p])[n]?=some a:=λn a h=>by rw [Ah (AK.mp h).1];exact h
 obtain ⟨s2,at2⟩:=s1.adopt (o:=.lst ds) hn ⟨xs,hp,r1.more l0⟩
 have l2:Le X.K ρ H (ρ1++[p]) H1:=⟨λn a h=>l0 n a (l1.pre n a h),l1.tup,l1.frz,λa o e h=>⟨(l1.oth a o e h).1,λn q=>by
  rcases Hh q with ⟨q,_⟩ | ⟨_,q⟩
  ·exact (l1.oth a o e h).2 n q
  ·exact B7 e hp0 q⟩⟩
 exact hm _ _ _ l2 s2 ((hl.mono l2).set (.ref at2) i)
end
end L2
namespace L2
open PySem PySem.Spec PyProof.Rows PySem.SeqAt
def KY:D->D->Option Bool
 | .non,.non=>some true
 | .bl a,.bl b=>some (a==b)
 | .int a,.int b=>some (a==b)
 | .str a,.str b=>some (a==b)
 | .non,.int _=>some false
 | .non,.str _=>some false
 | .non,.bl _=>some false
 | .non,.tup _=>some false
 | .int _,.non=>some false
 | .str _,.non=>some false
 | .bl _,.non=>some false
 | .tup _,.non=>some false
 | .int _,.tup _=>some false
 | .tup _,.int _=>some false
 | _,_=>none
def eqL (f:D->D->Option Bool):List D->List D->Option Bool
 | [],[]=>some true
 | [],_ :: _=>some false
 | _ :: _,[]=>some false
 | x :: xs,y :: ys=>match f x y,eqL f xs ys with
  | some a,some b=>some (a&&b)
  | _,_=>none
def eqP:Nat->D->D->Option Bool
 | 0,x,y=>KY x y
 | n+1,x,y=>match x,y with
  | .tup xs,.tup ys=>eqL (eqP n) xs ys
  | x,y=>KY x y
theorem KW {f:D->D->Option Bool} {x y:D} {xs ys:List D} {b:Bool} (h:eqL f (x :: xs) (y :: ys)=some b):∃a c,f x y=some a/\eqL f xs ys=some c/\b=(a&&c):=by
 unfold eqL at h;split at h
 ·rename_i a c h1 h2
  cases h;exact ⟨a,c,h1,h2,rfl⟩
 ·cases h
theorem W2 {f:D->D->Option Bool}:∀ {xs ys:List D} {b:Bool},eqL f xs ys=some b->(∀(j:Nat) x y,xs[j]?=some x->ys[j]?=some y->∃c,f x y=some c) /\
  b=((BQ (min xs.length ys.length)).all (λj=>match xs[j]?,ys[j]? with | some x,some y=>(f x y).getD false | _,_=>false)&&xs.length==ys.length)
 | [],[],b,h=>by cases h;exact ⟨λj x y h=>by simp at h,by simp⟩
 | [],y :: ys,b,h=>by cases h;exact ⟨λj x y h=>by simp at h,by simp⟩
 | x :: xs,[],b,h=>by cases h;exact ⟨λj x y _ h=>by simp at h,by simp⟩
 | x :: xs,y :: ys,b,h=>by
  obtain ⟨a,c,h1,h2,rfl⟩:=KW h;obtain ⟨i1,i2⟩:=W2 h2;refine ⟨λj x' y' e1 e2=>?_,?_⟩
  ·cases j with
   | zero=>simp at e1 e2;subst e1;subst e2;exact ⟨a,h1⟩
   | succ j=>exact i1 j x' y' (by simpa using e1) (by simpa using e2)
  ·rw [i2,Aq,Aq,show min (xs.length+1) (ys.length+1)=min xs.length ys.length+1 by lia,Ug,List.all_cons,NT]
   simp only [List.getElem?_cons_zero,h1,Yo,Function.comp_def,List.getElem?_cons_succ];rw [Bool.and_assoc]
   congr 1
   congr 1
   rw [Bool.eq_iff_iff];simp
section
variable {K:AC} {ρ:List AI} {H:Hp}
theorem Wy (n k:Nat) (y:D):eqP n (.ref k) y=none:=by cases n <;> cases y <;> rfl
theorem Wz (n:Nat) (ds:List D) (y:D):eqP n (.fro ds) y=none:=by cases n <;> cases y <;> rfl
theorem W0 (n:Nat) (c:AI) (y:D):eqP n (.exc c) y=none:=by cases n <;> cases y <;> rfl
theorem MK {x x':D} {v:V} (r1:Bo K ρ H x v) (r2:Bo K ρ H x' v):x=x'∨(∃ds ds' vs,x=.tup ds/\x'=.tup ds'/\Ao K ρ H ds vs/\Ao K ρ H ds' vs)∨(∀n y,eqP n x y=none)∨∀n y,eqP n x' y=none:=by
 cases r1 with
 | non=>cases r2;exact .inl rfl
 | bl b=>cases r2;exact .inl rfl
 | int b=>cases r2;exact .inl rfl
 | str b=>cases r2;exact .inl rfl
 | fro _ _=>exact .inr (.inr (.inl λn y=>Wz n _ y))
 | ref _=>exact .inr (.inr (.inl λn y=>Wy n _ y))
 | exc _ _=>exact .inr (.inr (.inl λn y=>W0 n _ y))
 | tup u1 u2=>
  cases r2 with
  | fro _ _=>exact .inr (.inr (.inr λn y=>Wz n _ y))
  | ref _=>exact .inr (.inr (.inr λn y=>Wy n _ y))
  | exc _ _=>exact .inr (.inr (.inr λn y=>W0 n _ y))
  | tup w1 w2=>
   rw [u1] at w1;cases w1;exact .inr (.inl ⟨_,_,_,rfl,rfl,u2,w2⟩)
theorem e8:∀(n:Nat) {x x' y:D} {v:V} {b b':Bool},Bo K ρ H x v->Bo K ρ H x' v->eqP n x y=some b->eqP n x' y=some b'->b=b':=by
 intro n
 induction n with
 | zero=>
  intro x x' y v b b' r1 r2 h h'
  rcases MK r1 r2 with rfl | ⟨ds,ds',vs,rfl,rfl,_,_⟩ | q | q
  ·rw [h] at h';cases h';rfl
  ·have:eqP 0 (.tup ds) y=eqP 0 (.tup ds') y:=by cases y <;> rfl
   rw [<-this,h] at h';cases h';rfl
  ·rw [q] at h;cases h
  ·rw [q] at h';cases h'
 | succ n ih=>
  intro x x' y v b b' r1 r2 h h'
  have lists:∀ {xs:List D} {vs:List V} {xs' ys:List D} {b b':Bool},Ao K ρ H xs vs->Ao K ρ H xs' vs->eqL (eqP n) xs ys=some b->eqL (eqP n) xs' ys=some b'->b=b':=by
   intro xs
   induction xs with
   | nil=>
    intro vs xs' ys b b' q1 q2 g g';cases q1;cases q2;rw [g] at g';cases g';rfl
   | cons d ds ihl=>
    intro vs xs' ys b b' q1 q2 g g'
    cases q1 with
    | cons a1 a2=>
     cases q2 with
     | cons c1 c2=>
      cases ys with
      | nil=>cases g;cases g';rfl
      | cons y ys=>
       obtain ⟨p,q,g1,g2,rfl⟩:=KW g;obtain ⟨p',q',g1',g2',rfl⟩:=KW g';rw [ih a1 c1 g1 g1',ihl a2 c2 g2 g2']
  rcases MK r1 r2 with rfl | ⟨ds,ds',vs,rfl,rfl,q1,q2⟩ | q | q
  ·rw [h] at h';cases h';rfl
  ·by_cases c:∃ys,y=.tup ys
   ·obtain ⟨ys,rfl⟩:=c
    exact lists q1 q2 h h'
   ·have:eqP (n+1) (.tup ds) y=eqP (n+1) (.tup ds') y:=by
     cases y <;> first | rfl | exact (c ⟨_,rfl⟩).elim
    rw [<-this,h] at h';cases h';rfl
  ·rw [q] at h;cases h
  ·rw [q] at h';cases h'
theorem D3 {x:D} {b:Bool} (h:KY x x=some b):b=true:=by
 cases x <;> first | (cases h;done) | (cases h;simp)
theorem Pf:∀(n:Nat) {x:D} {b:Bool},eqP n x x=some b->b=true
 | 0,_,_,h=>D3 h
 | n+1,x,b,h=>by
  have lists:∀ {xs:List D} {b:Bool},eqL (eqP n) xs xs=some b->b=true:=by
   intro xs
   induction xs with
   | nil=>intro b g;cases g;rfl
   | cons d ds ih=>
    intro b g;obtain ⟨p,q,g1,g2,rfl⟩:=KW g;rw [Pf n g1,ih g2];rfl
  cases x with
  | tup xs=>exact lists h
  | non=>exact D3 (x:=.non) h
  | bl c=>exact D3 (x:=.bl c) h
  | int c=>exact D3 (x:=.int c) h
  | str c=>exact D3 (x:=.str c) h
  | ref c=>exact D3 (x:=.ref c) h
  | fro c=>exact D3 (x:=.fro c) h
  | exc c=>exact D3 (x:=.exc c) h
theorem Ks {x y:D} (hy:(∃f,y=.fro f)∨(∃r,y=.ref r)∨∃c,y=.exc c) (n:Nat):eqP n x y=none:=by
 rcases hy with ⟨f,rfl⟩ | ⟨r,rfl⟩ | ⟨c,rfl⟩ <;> (cases n <;> cases x <;> rfl)
theorem bP (n:Nat) {x y:D} {v:V} {b:Bool} (h1:Bo K ρ H x v) (h2:Bo K ρ H y v) (h:eqP n x y=some b):b=true:=by
 induction n generalizing x y v b with
 | zero=>
  rcases MK h1 h2 with rfl | ⟨ds,ds',vs,rfl,rfl,_,_⟩ | q | q
  ·exact Pf 0 h
  ·cases h
  ·rw [q] at h;cases h
  ·cases h2 with
   | fro _ _=>rw [Ks (.inl ⟨_,rfl⟩)] at h;cases h
   | ref _=>rw [Ks (.inr (.inl ⟨_,rfl⟩))] at h;cases h
   | exc _ _=>rw [Ks (.inr (.inr ⟨_,rfl⟩))] at h;cases h
   | non=>cases (q 0 .non)
   | bl b=>cases (q 0 (.bl b))
   | int b=>cases (q 0 (.int b))
   | str b=>cases (q 0 (.str b))
   | tup _ _=>cases (q 0 .non)
 | succ n ih=>
  have lists:∀ {xs ys:List D} {vs:List V} {b:Bool},Ao K ρ H xs vs->Ao K ρ H ys vs->eqL (eqP n) xs ys=some b->b=true:=by
   intro xs
   induction xs with
   | nil=>intro ys vs b q1 q2 g;cases q1;cases q2;cases g;rfl
   | cons d ds ihl=>
    intro ys vs b q1 q2 g
    cases q1 with
    | cons a1 a2=>
     cases q2 with
     | cons c1 c2=>
      obtain ⟨p,q,g1,g2,rfl⟩:=KW g;rw [ih a1 c1 g1,ihl a2 c2 g2];rfl
  rcases MK h1 h2 with rfl | ⟨ds,ds',vs,rfl,rfl,q1,q2⟩ | q | q
  ·exact Pf (n+1) h
  ·exact lists q1 q2 h
  ·rw [q] at h;cases h
  ·cases h2 with
   | fro _ _=>rw [Ks (.inl ⟨_,rfl⟩)] at h;cases h
   | ref _=>rw [Ks (.inr (.inl ⟨_,rfl⟩))] at h;cases h
   | exc _ _=>rw [Ks (.inr (.inr ⟨_,rfl⟩))] at h;cases h
   | non=>cases (q 0 .non)
   | bl b=>cases (q 0 (.bl b))
   | int b=>cases (q 0 (.int b))
   | str b=>cases (q 0 (.str b))
   | tup _ _=>cases (q 0 .non)
end
section
variable {X:Cx} {pins:List (AI×Obj)} {σ:St} {H:Hp} {s:AE} {ρ:List AI}
theorem Gk (A:Ay):A.in1.units=A.units+1:=rfl
theorem BL.at_ {vs:List V} {its:List AB} (r:BL vs its) {j:Nat} (h:j < its.toArray.size):∃v,vs[j]?=some v/\RelV v its.toArray[j]:=by
 have hj:j < its.length:=by simpa using h
 have hv:j < vs.length:=by rw [r.length];exact hj
 obtain ⟨u,h1,h2⟩:=r.get (i:=j) (x:=vs[j]) (by simp [hv]);refine ⟨vs[j],by simp [hv],?_⟩
 have:its.toArray[j]=u:=by
  have:=AK.mp h1;obtain ⟨_,e⟩:=this;simpa using e
 rw [this];exact h2
theorem R7 {n:Nat} {A:Ay} (ih:∀(x y:D) (b:Bool) (xv yv:V) (u v:AB),eqP n x y=some b->Bo X.K ρ H x xv->Bo X.K ρ H y yv->RelV xv u->RelV yv v->EqAt A s u v b)
  {xs ys:List D} {vs ws:List V} {us zs:List AB} {b:Bool} (h:eqL (eqP n) xs ys=some b) (r1:Ao X.K ρ H xs vs) (r2:Ao X.K ρ H ys ws) (q1:BL vs us) (q2:BL ws zs) :
  ∃e:Nat->Bool,(∀j (h1:j < us.toArray.size) (h2:j < zs.toArray.size),EqAt A s us.toArray[j] zs.toArray[j] (e j))/\b=((BQ (min us.toArray.size zs.toArray.size)).all e&&us.toArray.size==zs.toArray.size):=by
 obtain ⟨i1,i2⟩:=W2 h;refine ⟨λj=>match xs[j]?,ys[j]? with | some x,some y=>(eqP n x y).getD false | _,_=>false,λj h1 h2=>?_,?_⟩
 ·obtain ⟨v,e1,rv⟩:=BL.at_ q1 h1
  obtain ⟨w,e2,rw'⟩:=BL.at_ q2 h2;obtain ⟨x,e3,rx⟩:=r1.get' e1;obtain ⟨y,e4,ry⟩:=r2.get' e2;obtain ⟨c,hc⟩:=i1 j x y e3 e4;have:=ih x y c v w _ _ hc rx ry rv rw';simp only [e3,e4,hc,Yo];exact this
 ·rw [i2,r1.length,r2.length,q1.length,q2.length]
  simp
theorem NC {A:Ay} {x y:D} {b:Bool} {xv yv:V} {u v:AB} (I:Inv X pins σ H s) (hu:A.units < DL) (h:KY x y=some b) (r1:Bo X.K ρ H x xv) (r2:Bo X.K ρ H y yv) (q1:RelV xv u) (q2:RelV yv v) :
  EqAt A s u v b/\RcAt A s u v b/\RcNeAt A s u v (!b):=by
 cases r1 with
 | non=>
  cases q1
  cases r2 with
  | non=>cases q2;cases h;exact ⟨EqAt.same _,RcAt.none_none,RcNeAt.none_none⟩
  | bl c=>cases q2;cases h;exact ⟨EqAt.none_bool _,RcAt.none_bool _,RcNeAt.none_bool _⟩
  | int i=>obtain ⟨t,rfl⟩:=q2;cases h;exact ⟨EqAt.none_int _ _,RcAt.none_int _ _,RcNeAt.none_int _ _⟩
  | str z=>obtain ⟨t,rfl⟩:=q2;cases h;exact ⟨EqAt.none_str _ _,RcAt.none_str _ _,RcNeAt.none_str _ _⟩
  | tup a1 a2=>
   cases q2;cases h;obtain ⟨its,_,p,_⟩:=I.tuple (.inl (.inl a1));exact ⟨EqAt.none_tuple p hu,RcAt.none_tuple p hu,RcNeAt.none_tuple p hu⟩
  | _=>cases h
 | bl a=>
  cases q1
  cases r2 with
  | non=>cases q2;cases h;exact ⟨EqAt.bool_none _,RcAt.bool_none _,RcNeAt.bool_none _⟩
  | bl c=>cases q2;cases h;exact ⟨EqAt.bool_bool _ _,RcAt.bool_bool _ _,RcNeAt.bool_bool _ _⟩
  | _=>cases h
 | int a=>
  obtain ⟨t,rfl⟩:=q1
  cases r2 with
  | non=>cases q2;cases h;exact ⟨EqAt.int_none _ _,RcAt.int_none _ _,RcNeAt.int_none _ _⟩
  | int i=>obtain ⟨t',rfl⟩:=q2;cases h;exact ⟨EqAt.int_int _ _ _ _,RcAt.int_int _ _ _ _,RcNeAt.int_int _ _ _ _⟩
  | tup a1 a2=>
   cases q2;cases h;obtain ⟨its,_,p,_⟩:=I.tuple (.inl (.inl a1));exact ⟨EqAt.int_tuple _ _ p hu,RcAt.int_tuple _ _ p hu,RcNeAt.int_tuple _ _ p hu⟩
  | _=>cases h
 | str a=>
  obtain ⟨t,rfl⟩:=q1
  cases r2 with
  | non=>cases q2;cases h;exact ⟨EqAt.str_none _ _,RcAt.str_none _ _,RcNeAt.str_none _ _⟩
  | str i=>obtain ⟨t',rfl⟩:=q2;cases h;exact ⟨EqAt.str_str _ _ _ _,RcAt.str_str _ _ _ _,RcNeAt.str_str _ _ _ _⟩
  | _=>cases h
 | tup a1 a2=>
  cases q1;obtain ⟨its,_,p,_⟩:=I.tuple (.inl (.inl a1))
  cases r2 with
  | non=>cases q2;cases h;exact ⟨EqAt.tuple_none p hu,RcAt.tuple_none p hu,RcNeAt.tuple_none p hu⟩
  | int i=>obtain ⟨t',rfl⟩:=q2;cases h;exact ⟨EqAt.tuple_int _ _ p hu,RcAt.tuple_int _ _ p hu,RcNeAt.tuple_int _ _ p hu⟩
  | _=>cases h
 | _=>cases h
theorem V0 (I:Inv X pins σ H s):∀(n:Nat) (A:Ay) (x y:D) (b:Bool) (xv yv:V) (u v:AB),A.units+n < DL->eqP n x y=some b->Bo X.K ρ H x xv->Bo X.K ρ H y yv->RelV xv u->RelV yv v->EqAt A s u v b:=by
 intro n
 induction n with
 | zero=>exact λA x y b xv yv u v hu h r1 r2 q1 q2=>(NC I (by omega) h r1 r2 q1 q2).1
 | succ n ih=>
  intro A x y b xv yv u v hu h r1 r2 q1 q2
  by_cases ht:∃xs ys,x=.tup xs/\y=.tup ys
  ·obtain ⟨xs,ys,rfl,rfl⟩:=ht
   cases r1 with
   | @tup _ a vs a1 a2=>
    cases r2 with
    | @tup _ c ws b1 b2=>
     cases q1;cases q2
     by_cases hac:a=c
     ·subst hac
      rw [bP (n+1) (.tup a1 a2) (.tup b1 b2) h];exact EqAt.same _
     ·obtain ⟨its,rv,p,_⟩:=I.tuple (.inl (.inl a1))
      obtain ⟨its2,rw',p2,_⟩:=I.tuple (.inl (.inl b1));obtain ⟨e,he,rfl⟩:=R7 (A:=A.in1) (λx y b xv yv u v g1 g2 g3 g4 g5=>ih A.in1 x y b xv yv u v (by rw [Gk];lia) g1 g2 g3 g4 g5) h a2 b2 rv rw';exact EqAt.of_refs hac (kC p p2 (by lia) he)
  ·have hf:KY x y=some b:=by
    cases x <;> cases y <;> first | exact h | exact (ht ⟨_,_,rfl,rfl⟩).elim
   exact (NC I (by lia) hf r1 r2 q1 q2).1
def M7 (d:D) (S:Sto):Option (List D):=match d with
 | .fro ds=>some ds
 | .ref n=>match S[n]? with
  | some (.lst ds)=>some ds
  | _=>none
 | _=>none
def eqB (x y:D) (S:Sto):Option Bool:=match M7 x S,M7 y S with
 | some xs,some ys=>if xs.length=ys.length then eqL (eqP 8) xs ys else some false
 | none,none=>eqP 8 x y
 | some _,none=>match y with
  | .tup _=>some false
  | .non=>some false
  | _=>none
 | none,some _=>match x with
  | .tup _=>some false
  | .non=>some false
  | _=>none
def eqD (neg:Bool) (x y:D) (S:Sto):Res D:=match eqB x y S with
 | some b=>.ok (.bl (if neg then !b else b)) S
 | none=>.bad
theorem JU {K:AC} {S:Sto} {d:D} {x:V} {ds:List D} (hs:Bw K ρ S H) (r:Bo K ρ H d x) (h:M7 d S=some ds):∃p xs,x=.ref p/\Ao K ρ H ds xs/\SqL K H p xs:=by
 cases r with
 | fro h1 h2=>cases h;exact ⟨_,_,rfl,h2,h1.sq⟩
 | @ref n a hn=>
  obtain ⟨o,ho,ro⟩:=hs.there hn;unfold M7 at h;simp only [ho] at h
  cases o with
  | lst es=>cases h;obtain ⟨vs,e,rr⟩:=ro;exact ⟨_,_,rfl,rr,.inl (.inl e)⟩
  | _=>cases h
 | _=>cases h
theorem bR {S:Sto} {x y:D} {b:Bool} {xv yv:V} {u v:AB} (I:Inv X pins σ H s) (hu:X.A.units+64 < DL) (hs:Bw X.K ρ S H) (r1:Bo X.K ρ H x xv) (r2:Bo X.K ρ H y yv) (q1:RelV xv u) (q2:RelV yv v) (h:eqB x y S=some b) :
  RcAt X.A s u v b/\RcNeAt X.A s u v (!b):=by
 unfold eqB at h;split at h
 ·rename_i xs ys h1 h2
  obtain ⟨p,vs,rfl,rr,sq⟩:=JU hs r1 h1;obtain ⟨p',vs',rfl,rr',sq'⟩:=JU hs r2 h2;cases q1;cases q2;obtain ⟨its,rv,pl,_⟩:=I.list sq;obtain ⟨its2,rv2,pl2,_⟩:=I.list sq';split at h
  ·rename_i hlen
   obtain ⟨e,he,rfl⟩:=R7 (A:=X.A.in1) (λx y b xv yv u v g1 g2 g3 g4 g5=>V0 I 8 X.A.in1 x y b xv yv u v (by rw [Gk];lia) g1 g2 g3 g4 g5) h rr rr' rv rv2
   have hsz:its.toArray.size=its2.toArray.size:=by
    simp only [AT];rw [<-rv.length,<-rv2.length,<-rr.length,<-rr'.length];exact hlen
   have e1:((BQ (min its.toArray.size its2.toArray.size)).all e&&its.toArray.size==its2.toArray.size)=(BQ its.toArray.size).all e:=by
    rw [<-hsz,Nat.min_self,beq_self_eq_true,Bool.and_true]
   rw [e1];exact ⟨RcAt.lists pl.isList pl2.isList hsz (by lia) he,RcNeAt.lists pl.isList pl2.isList hsz (by lia) he⟩
  ·rename_i hlen
   cases h
   have hsz:(its.toArray.size != its2.toArray.size)=true:=by
    simp only [AT];rw [<-rv.length,<-rv2.length,<-rr.length,<-rr'.length];simpa using hlen
   exact ⟨RcAt.lists_lengths pl.isList pl2.isList hsz (by lia),RcNeAt.lists_lengths pl.isList pl2.isList hsz (by lia)⟩
 ·by_cases ht:∃xs ys,x=.tup xs/\y=.tup ys
  ·obtain ⟨xs,ys,rfl,rfl⟩:=ht
   cases r1 with
   | tup a1 a2=>
    cases r2 with
    | tup b1 b2=>
     cases q1;cases q2;obtain ⟨its,rv,p,_⟩:=I.tuple (.inl (.inl a1));obtain ⟨its2,rw',p2,_⟩:=I.tuple (.inl (.inl b1));obtain ⟨e,he,rfl⟩:=R7 (n:=7) (A:=X.A.in1) (λx y b xv yv u v g1 g2 g3 g4 g5=>V0 I 7 X.A.in1 x y b xv yv u v (by rw [Gk];lia) g1 g2 g3 g4 g5) h a2 b2 rv rw';exact ⟨kC p p2 (by lia) he,RcNeAt.tuples p p2 (by lia) he⟩
  ·have hf:KY x y=some b:=by
    cases x <;> cases y <;> first | exact h | exact (ht ⟨_,_,rfl,rfl⟩).elim
   exact (NC I (by lia) hf r1 r2 q1 q2).2
 ·rename_i xs h1 h2
  obtain ⟨p,vs,rfl,rr,sq⟩:=JU hs r1 h1;cases q1;obtain ⟨its,rv,pl,_⟩:=I.list sq;split at h
  ·cases h
   cases r2 with
   | tup b1 b2=>
    cases q2;obtain ⟨its2,rw',p2,_⟩:=I.tuple (.inl (.inl b1));exact ⟨RcAt.list_tuple pl.isList p2 (by lia),RcNeAt.list_tuple pl.isList p2 (by lia)⟩
  ·cases h
   cases r2;cases q2;exact ⟨RcAt.list_none pl.isList (by lia),RcNeAt.list_none pl.isList (by lia)⟩
  ·cases h
 ·rename_i xs h1 h2
  obtain ⟨p,vs,rfl,rr,sq⟩:=JU hs r2 h2;cases q2;obtain ⟨its,rv,pl,_⟩:=I.list sq;split at h
  ·cases h
   cases r1 with
   | tup b1 b2=>
    cases q1;obtain ⟨its2,rw',p2,_⟩:=I.tuple (.inl (.inl b1));exact ⟨RcAt.tuple_list p2 pl.isList (by lia),RcNeAt.tuple_list p2 pl.isList (by lia)⟩
  ·cases h
   cases r1;cases q1;exact ⟨RcAt.none_list pl.isList (by lia),RcNeAt.none_list pl.isList (by lia)⟩
  ·cases h
theorem Im (hu:X.A.units+64 < DL):OpR X (Bb .Eq) (rD X.K (eqD false)):=by
 intro pins s σ H x y v u Q I rx ry h;obtain ⟨ρ,S,a,b,d,S',hs,ra,rb,hm,k⟩:=h;unfold eqD at hm;split at hm
 ·rename_i c hc
  cases hm;exact (bR I hu hs ra rb rx ry hc).1 _ _ _ _ ⟨.bl c,H,I,rfl,k ρ H _ .refl hs (.bl _)⟩
 ·cases hm
theorem PB (hu:X.A.units+64 < DL):OpR X (Bb .NotEq) (rD X.K (eqD true)):=by
 intro pins s σ H x y v u Q I rx ry h;obtain ⟨ρ,S,a,b,d,S',hs,ra,rb,hm,k⟩:=h;unfold eqD at hm;split at hm
 ·rename_i c hc
  cases hm;exact (bR I hu hs ra rb rx ry hc).2 _ _ _ _ ⟨.bl (!c),H,I,rfl,k ρ H _ .refl hs (.bl _)⟩
 ·cases hm
def LM (x:D):List D->Option Bool
 | []=>some false
 | d :: ds=>match eqP 8 d x,LM x ds with
  | some a,some b=>some (a||b)
  | _,_=>none
def inD (neg:Bool) (x y:D) (S:Sto):Res D:=match Ge y S with
 | some ds=>match LM x ds with
  | some b=>.ok (.bl (if neg then !b else b)) S
  | none=>.bad
 | none=>.bad
theorem V9 {x d:D} {ds:List D} {b:Bool} (h:LM x (d :: ds)=some b):∃a c,eqP 8 d x=some a/\LM x ds=some c/\b=(a||c):=by
 unfold LM at h;split at h
 ·rename_i a c h1 h2
  cases h;exact ⟨a,c,h1,h2,rfl⟩
 ·cases h
open Classical in
theorem Mi {x:D} {xv:V} {v:AB} (I:Inv X pins σ H s) {A:Ay} (hu:A.units+8 < DL) (rx:Bo X.K ρ H x xv) (qx:RelV xv v):∀ {ds:List D} {vs:List V} {us:List AB} {b:Bool},Ao X.K ρ H ds vs->BL vs us->LM x ds=some b ->
  ∃e:AB->Bool,(∀y∈us,EqAt A s y v (e y))/\b=us.any e:=by
 intro ds vs us b r q h
 let e:AB->Bool:=λy=>decide (∃d w,d∈ds/\Bo X.K ρ H d w/\RelV w y/\eqP 8 d x=some true)
 have all:∀ {ds':List D} {vs':List V} {us':List AB} {b':Bool},(∀d∈ds',d∈ds)->Ao X.K ρ H ds' vs'->BL vs' us'->LM x ds'=some b'->(∀y∈us',EqAt A s y v (e y))/\b'=us'.any e:=by
  intro ds'
  induction ds' with
  | nil=>intro vs' us' b' _ r q h;cases r;cases q;cases h;exact ⟨(λ_ z=>nomatch z),rfl⟩
  | cons d ds' ih=>
   intro vs' us' b' hsub r q h
   cases r with
   | cons r1 r2=>
    cases q with
    | @cons w y _ _ q1 q2=>
     obtain ⟨a,c,h1,h2,rfl⟩:=V9 h;obtain ⟨i1,i2⟩:=ih (λz hz=>hsub z (Ac _ hz)) r2 q2 h2
     have ha:e y=a:=by
      by_cases hq:∃d w,d∈ds/\Bo X.K ρ H d w/\RelV w y/\eqP 8 d x=some true
      ·obtain ⟨d',w',_,g1,g2,g3⟩:=id hq
       rw [RelV.inj g2 q1] at g1;have:=e8 8 g1 r1 g3 h1;rw [<-this];exact wX hq
      ·have:a=false:=by
        cases a with
        | false=>rfl
        | true=>exact (hq ⟨d,_,hsub d Ae,r1,q1,h1⟩).elim
       rw [this];exact wY hq
     refine ⟨λz hz=>?_,by rw [G9,ha,<-i2]⟩
     rcases Ax.mp hz with rfl | hz
     ·rw [ha]
      exact V0 I 8 A d x a _ _ _ _ hu h1 r1 rx q1 qx
     ·exact i1 z hz
 obtain ⟨e1,e2⟩:=all (λ_ h=>h) r q h;exact ⟨e,e1,e2⟩
theorem fo (hu:X.A.units+64 < DL):OpR X (Bb .In) (rD X.K (inD false)):=by
 intro pins s σ H x y v u Q I rx ry h;obtain ⟨ρ,S,a,b,d,S',hs,ra,rb,hm,k⟩:=h;unfold inD at hm;split at hm
 ·rename_i ds hq
  split at hm
  ·rename_i c hc
   cases hm;obtain ⟨p,xs,rfl,rr,sq⟩:=Ko hs rb hq;cases ry
   rcases sq with sq | sq
   ·obtain ⟨its,rv,pl,_⟩:=I.list sq
    obtain ⟨e,he,rfl⟩:=Mi I (A:=X.A.in1) (by rw [Gk];lia) ra rx rr rv hc;exact in_listAt e pl.isList (λz hz=>he z (by simpa using hz)) ⟨.bl (its.toArray.any e),H,I,rfl,by rw [Jf];exact k ρ H _ .refl hs (.bl _)⟩
   ·obtain ⟨its,rv,pl,_⟩:=I.tuple sq
    obtain ⟨e,he,rfl⟩:=Mi I (A:=X.A.in1) (by rw [Gk];lia) ra rx rr rv hc;exact in_tupleAt e pl (λz hz=>he z (by simpa using hz)) ⟨.bl (its.toArray.any e),H,I,rfl,by rw [Jf];exact k ρ H _ .refl hs (.bl _)⟩
  ·cases hm
 ·cases hm
theorem Tz (hu:X.A.units+64 < DL):OpR X (Bb .NotIn) (rD X.K (inD true)):=by
 intro pins s σ H x y v u Q I rx ry h;obtain ⟨ρ,S,a,b,d,S',hs,ra,rb,hm,k⟩:=h;unfold inD at hm;split at hm
 ·rename_i ds hq
  split at hm
  ·rename_i c hc
   cases hm;obtain ⟨p,xs,rfl,rr,sq⟩:=Ko hs rb hq;cases ry
   rcases sq with sq | sq
   ·obtain ⟨its,rv,pl,_⟩:=I.list sq
    obtain ⟨e,he,rfl⟩:=Mi I (A:=X.A.in1) (by rw [Gk];lia) ra rx rr rv hc;exact notIn_listAt e pl.isList (λz hz=>he z (by simpa using hz)) ⟨.bl (!its.toArray.any e),H,I,rfl,by rw [Jf];exact k ρ H _ .refl hs (.bl _)⟩
   ·obtain ⟨its,rv,pl,_⟩:=I.tuple sq
    obtain ⟨e,he,rfl⟩:=Mi I (A:=X.A.in1) (by rw [Gk];lia) ra rx rr rv hc;exact notIn_tupleAt e pl (λz hz=>he z (by simpa using hz)) ⟨.bl (!its.toArray.any e),H,I,rfl,by rw [Jf];exact k ρ H _ .refl hs (.bl _)⟩
  ·cases hm
 ·cases hm
end
end L2
namespace L2
open PySem PySem.Spec PyProof.Rows
def GP (mo ma:ME):ME:=λe S=>(mo e S).bind λd S1=>match d with
 | .ref n=>match S1[n]? with
  | some (.lst _)=>(ma e S1).bind λy S2=>match S2[n]? with
   | some (.lst xs)=>if xs.length < sizeLine then .ok .non (S2.set n (.lst (xs++[y]))) else .bad
   | _=>.bad
  | _=>.bad
 | _=>.bad
section
variable {X:Cx} {E:EW} {o e:Expr} {apos cpos:Pos} {mo ma:ME}
theorem Wc {K:AC} {ρ:List AI} {S:Sto} {H:Hp} {n:Nat} {x:V} {xs:List D} (s:Bw K ρ S H) (r:Bo K ρ H (.ref n) x) (h:S[n]?=some (.lst xs)):∃a vs,x=.ref a/\ρ[n]?=some a/\H a=some (.lst vs)/\Ao K ρ H xs vs:=by
 cases r with
 | ref hn=>
  obtain ⟨vs,e,rr⟩:=s.ob n _ _ h hn;exact ⟨_,vs,rfl,hn,e,rr⟩
theorem DU (ho:GE X E o mo) (ha:GE X E e ma) (hbase:DS o "append" X.env (Bg o X.env)=Bg o X.env:=by rfl)
  (hfew:((C1 cpos (AU [e] X.env)).all (λx=>!x.1)&&(Us cpos (Mu [] X.env)).all (λx=>x.1.isSome)
    &&decide ([e].length+([]:List Ib).length+(if ([]:List Ib).isEmpty then 0 else 1) < 30))=true:=by rfl)
  (hline:(apos.endLine==cpos.line)=true:=by rfl) (hs:AU [e] X.env=(false,Bg e X.env) :: AU [] X.env:=by rfl) (hplain:(C1 cpos (AU [] X.env)).any (·.1)=false:=by rfl) :
  GE X E (.Call (.Attribute o "append" apos) [e] [] cpos) (GP mo ma):=(Wh Dq PySem.F.slot_list_append PySem.F.type_list_append RA ho (D7 ha Fm hs) hbase hfew hline hs hplain).imp λσ H Q ⟨ρ,l,S,hl,hs,hm⟩=>by
 refine ⟨ρ,l,S,hl,hs,hm.seq λx S1 hm ρ1 H1 v l1 s1 r1=>?_⟩
 cases x <;> first | exact hm.elim | skip
 rename_i n;dsimp only at hm;split at hm
 ·rename_i xs0 h0
  obtain ⟨a,vs,rfl,hn,e0,_⟩:=Wc s1 r1 h0;refine ⟨.inl ⟨rfl,vs,.inl (.inl e0)⟩,ρ1,l,S1,hl.mono l1,s1,(hm.later l1).seq λy S2 hm ρ2 H2 u l2 s2 r2=>?_⟩;split at hm
  ·rename_i xs h3
   split at hm
   ·rename_i hz
    have hn2:=l2.pre n a hn;obtain ⟨ws,e3,rr⟩:=s2.ob n _ _ h3 hn2;have le:Le X.K ρ2 H2 ρ2 (upd H2 a (.lst (ws++[u]))):=Le.write hn2 (by rw [e3];trivial);obtain ⟨s3,l3⟩:=s2.write (ho:=.lst (ws++[u])) (o:=.lst (xs++[y])) hn2 ⟨_,Bd,(rr.append (.cons r2 .nil)).mono le⟩;exact ⟨a,ws,u,rfl,rfl,e3,by rw [<-rr.length];exact hz,hm ρ2 _ _ (l1.trans (l2.trans l3)) s3 .non⟩
   ·exact hm.elim
  ·exact hm.elim
 ·exact hm.elim
end
def JJ {κ β:Type} [DecidableEq κ] (kvs:List (κ×β)) (k:κ):Option β:=(kvs.find? λkv=>decide (kv.1=k)).map (·.2)
def O3 {κ β:Type} [DecidableEq κ] (kvs:List (κ×β)) (k:κ) (v:β):List (κ×β):=
 if (kvs.any λkv=>decide (kv.1=k))=true then kvs.map (λkv=>if kv.1=k then (kv.1,v) else kv) else kvs++[(k,v)]
section
variable {κ:Type} [DecidableEq κ] {K:AC} {ρ:List AI} {H:Hp}
theorem KVR.val (k:κ):∀ {x:List (κ×D)} {y:List (κ×V)},KVR K ρ H x y->(JJ x k=none->J9 y k=none)/\∀d,JJ x k=some d->∃v,J9 y k=some v/\Bo K ρ H d v
 | _,_,.nil=>⟨λ_=>rfl,λd h=>by cases h⟩
 | (g,a) :: x,(g',b) :: y,.cons r t=>by
  obtain ⟨r1,r2⟩:=r;dsimp only at r1 r2;subst r1;unfold JJ J9;rw [Cy,Cy]
  by_cases e:g=k
  ·simp only [e,decide_true]
   exact ⟨(λh=>nomatch h),(λd h=>by cases h;exact ⟨b,rfl,r2⟩)⟩
  ·simp only [e,decide_false]
   exact KVR.val k t
theorem KVR.any (k:κ):∀ {x:List (κ×D)} {y:List (κ×V)},KVR K ρ H x y->(x.any λkv=>decide (kv.1=k))=y.any λkv=>decide (kv.1=k)
 | _,_,.nil=>rfl
 | (g,a) :: x,(g',b) :: y,.cons r t=>by
  rw [G9,G9,KVR.any k t,show g=g' from r.1]
theorem KVR.repl (k:κ) {d:D} {v:V} (rd:Bo K ρ H d v):∀ {x:List (κ×D)} {y:List (κ×V)},KVR K ρ H x y->KVR K ρ H (x.map λkv=>if kv.1=k then (kv.1,d) else kv) (y.map λkv=>if kv.1=k then (kv.1,v) else kv)
 | _,_,.nil=>.nil
 | (g,a) :: x,(g',b) :: y,.cons r t=>by
  obtain ⟨r1,r2⟩:=r;dsimp only at r1 r2;subst r1;rw [An,An];refine .cons ?_ (KVR.repl k rd t)
  by_cases e:g=k
  ·rw [qX e,qX e];exact ⟨rfl,rd⟩
  ·rw [qY e,qY e];exact ⟨rfl,r2⟩
theorem KVR.put (k:κ) {d:D} {v:V} (rd:Bo K ρ H d v) {x:List (κ×D)} {y:List (κ×V)} (h:KVR K ρ H x y):KVR K ρ H (O3 x k d) (Jt y k v):=by
 unfold O3 Jt;rw [KVR.any k h];split
 ·exact KVR.repl k rd h
 ·exact Uf h ⟨rfl,rd⟩
end
def eM:D->Option Key
 | .int i=>some (.inl i)
 | .str x=>some (.inr x)
 | _=>none
def UF:List D->Option (List Key)
 | []=>some []
 | d :: ds=>match eM d,UF ds with
  | some k,some ks=>some (k :: ks)
  | _,_=>none
theorem SQ {K:AC} {ρ:List AI} {H:Hp} {d:D} {v:V} {k:Key} (r:Bo K ρ H d v) (h:eM d=some k):v=kV k:=by
 cases r <;> first | (cases h;done) | (cases h;rfl)
theorem PY {K:AC} {ρ:List AI} {H:Hp}:∀ {ds:List D} {vs:List V} {ks:List Key},Ao K ρ H ds vs->UF ds=some ks->vs=ks.map kV
 | _,_,_,.nil,h=>by cases h;rfl
 | _,_,_,.cons r t,h=>by
  unfold UF at h;split at h
  ·rename_i k ks h1 h2
   cases h;rw [SQ r h1,PY t h2];rfl
  ·cases h
def YS (x y:D) (S:Sto):Option (Option D):=match x with
 | .ref n=>match S[n]? with
  | some (.dK kvs)=>match eM y with
   | some k=>some (JJ kvs k)
   | none=>none
  | some (.dT kvs)=>match y with
   | .tup ds=>match UF ds with
    | some ks=>some (JJ kvs ks)
    | none=>none
   | _=>none
  | _=>none
 | _=>none
theorem Sh {K:AC} {ρ:List AI} {S:Sto} {H:Hp} {x y:D} {xv yv:V} {o:Option D} (s:Bw K ρ S H) (rx:Bo K ρ H x xv) (ry:Bo K ρ H y yv) (h:YS x y S=some o) :
  ∃a o',xv=.ref a/\Ml H a yv o'/\(o=none->o'=none)/\∀d,o=some d->∃v,o'=some v/\Bo K ρ H d v:=by
 unfold YS at h;split at h
 ·rename_i n
  cases rx with
  | @ref _ a hn=>
   split at h
   ·rename_i kvs h1
    split at h
    ·rename_i k hk
     cases h;obtain ⟨kvs',e,r⟩:=s.ob n _ _ h1 hn;rw [SQ ry hk];obtain ⟨v1,v2⟩:=KVR.val k r;exact ⟨a,J9 kvs' k,rfl,Ml.k e,v1,v2⟩
    ·cases h
   ·rename_i kvs h1
    split at h
    ·rename_i ds
     split at h
     ·rename_i ks hk
      cases h;obtain ⟨kvs',e,r⟩:=s.ob n _ _ h1 hn
      cases ry with
      | tup b1 b2=>
       obtain ⟨v1,v2⟩:=KVR.val ks r;rw [PY b2 hk] at b1;exact ⟨a,J9 kvs' ks,rfl,Ml.t e b1,v1,v2⟩
     ·cases h
    ·cases h
   ·cases h
 ·cases h
def W4 (x y:D) (S:Sto):Res D:=match YS x y S with
 | some (some d)=>.ok d S
 | _=>.bad
def Mf (neg:Bool) (y x:D) (S:Sto):Res D:=match YS x y S with
 | some o=>.ok (.bl (if neg then !o.isSome else o.isSome)) S
 | none=>.bad
section
variable {X:Cx} {E:EW} {o i value:Expr} {pos pos':Pos} {mo mi mv:ME}
theorem en (hu:X.A.units+1 < DL) (ho:GE X E o mo) (hi:GE X E i mi) (hs:je i:=by intro _ _;rfl):GE X E (.Subscript o i pos) (m2 W4 mo mi):=(df hu ho hi hs).imp λσ H Q h=>by
 refine (LW h:tOp (rD X.K W4) (gE X.K E mo) (gE X.K E mi) σ H Q) |> λt=>?_
 obtain ⟨ρ,l,S,hl,hs,k⟩:=t;refine ⟨ρ,l,S,hl,hs,k.imp λx S1 k ρ1 H1 u l1 s1 r1=>?_⟩;obtain ⟨ρ2,l2,S2,hl2,hs2,k2⟩:=k ρ1 H1 u l1 s1 r1;refine ⟨ρ2,l2,S2,hl2,hs2,k2.imp λy S3 k2 ρ3 H3 v l3 s3 r3=>?_⟩;obtain ⟨ρ4,S4,x4,y4,d,S5,s4,r4,r5,hm,k4⟩:=k2 ρ3 H3 v l3 s3 r3;unfold W4 at hm;split at hm
 ·rename_i d' hd
  cases hm;obtain ⟨a,o',rfl,g,_,g2⟩:=Sh s4 r4 r5 hd;obtain ⟨w',rfl,rw'⟩:=g2 _ rfl;exact ⟨a,w',rfl,g,k4 ρ4 H3 w' .refl s4 rw'⟩
 ·cases hm
theorem WY {σ:St} {H:Hp} {Q:VK} (h:gE X.K E (m2 (Mf false) mi mo) σ H Q):kW (gE X.K E mi) (gE X.K E mo) σ H Q:=by
 obtain ⟨ρ,l,S,hl,hs,k⟩:=(LW h:tOp (rD X.K (Mf false)) (gE X.K E mi) (gE X.K E mo) σ H Q);refine ⟨ρ,l,S,hl,hs,k.imp λx S1 k ρ1 H1 u l1 s1 r1=>?_⟩;obtain ⟨ρ2,l2,S2,hl2,hs2,k2⟩:=k ρ1 H1 u l1 s1 r1;refine ⟨ρ2,l2,S2,hl2,hs2,k2.imp λy S3 k2 ρ3 H3 v l3 s3 r3=>?_⟩;obtain ⟨ρ4,S4,x4,y4,d,S5,s4,r4,r5,hm,k4⟩:=k2 ρ3 H3 v l3 s3 r3;unfold Mf at hm;split at hm
 ·rename_i o' hd
  cases hm;obtain ⟨a,o2,rfl,g,g1,g2⟩:=Sh s4 r5 r4 hd;refine ⟨a,o2,rfl,g,?_⟩
  have:o2.isSome=o'.isSome:=by
   cases o' with
   | none=>rw [g1 rfl];rfl
   | some d=>obtain ⟨w',rfl,_⟩:=g2 d rfl;rfl
  rw [this];exact k4 ρ4 H3 _ .refl s4 (.bl _)
 ·cases hm
theorem Ou {σ:St} {H:Hp} {Q:VK} (h:gE X.K E (m2 (Mf true) mi mo) σ H Q):WX (gE X.K E mi) (gE X.K E mo) σ H Q:=by
 obtain ⟨ρ,l,S,hl,hs,k⟩:=(LW h:tOp (rD X.K (Mf true)) (gE X.K E mi) (gE X.K E mo) σ H Q);refine ⟨ρ,l,S,hl,hs,k.imp λx S1 k ρ1 H1 u l1 s1 r1=>?_⟩;obtain ⟨ρ2,l2,S2,hl2,hs2,k2⟩:=k ρ1 H1 u l1 s1 r1;refine ⟨ρ2,l2,S2,hl2,hs2,k2.imp λy S3 k2 ρ3 H3 v l3 s3 r3=>?_⟩;obtain ⟨ρ4,S4,x4,y4,d,S5,s4,r4,r5,hm,k4⟩:=k2 ρ3 H3 v l3 s3 r3;unfold Mf at hm;split at hm
 ·rename_i o' hd
  cases hm;obtain ⟨a,o2,rfl,g,g1,g2⟩:=Sh s4 r5 r4 hd;refine ⟨a,o2,rfl,g,?_⟩
  have:o2.isSome=o'.isSome:=by
   cases o' with
   | none=>rw [g1 rfl];rfl
   | some d=>obtain ⟨w',rfl,_⟩:=g2 d rfl;rfl
  rw [this];exact k4 ρ4 H3 _ .refl s4 (.bl _)
 ·cases hm
theorem jO (hu:X.A.units+1 < DL) (hi:GE X E i mi) (ho:GE X E o mo) (h1:Bq .In o=false:=by rfl):GE X E (.Compare i [.In] [o] pos) (m2 (Mf false) mi mo):=(aC (aD hu hi ho) h1).imp λ_ _ _ h=>WY h
theorem YG (hu:X.A.units+1 < DL) (hi:GE X E i mi) (ho:GE X E o mo) (h1:Bq .NotIn o=false:=by rfl):GE X E (.Compare i [.NotIn] [o] pos) (m2 (Mf true) mi mo):=(aC (Q8 hu hi ho) h1).imp λ_ _ _ h=>Ou h
theorem aU {K:AC} {m:ME} {σ:St} {H:Hp} {Q:Bool->Hp->Prop} (h:gT K E (mB m) σ H Q):gE K E m σ H λx H1=>∃c,x=.bl c/\Q c H1:=by
 obtain ⟨ρ,l,S,hl,hs,hm⟩:=h;refine ⟨ρ,l,S,hl,hs,hm.seq λd S1 hm ρ1 H1 x l1 s1 r1=>?_⟩
 cases d <;> first | exact hm.elim | skip
 cases r1;exact ⟨_,rfl,hm ρ1 H1 l1 s1⟩
theorem jG (hu:X.A.units+1 < DL) (hi:GE X E i mi) (ho:GE X E o mo) (h1:Bq .In o=false:=by rfl):GT X E (.Compare i [.In] [o] pos) (mB (m2 (Mf false) mi mo)):=(Z3 (aD hu hi ho) h1).imp λ_ _ _ h=>WY (aU h)
theorem YC (hu:X.A.units+1 < DL) (hi:GE X E i mi) (ho:GE X E o mo) (h1:Bq .NotIn o=false:=by rfl):GT X E (.Compare i [.NotIn] [o] pos) (mB (m2 (Mf true) mi mo)):=(Z3 (Q8 hu hi ho) h1).imp λ_ _ _ h=>Ou (aU h)
def aT:ME:=λ_ S=>.ok (.ref S.length) (S++[.dT []])
theorem bJ:GE X E (.Dict [] [] pos) aT:=(aB (X:=X) (pos:=pos)).imp λσ H Q ⟨ρ,l,S,hl,hs,k⟩ p hp=>by
 obtain ⟨s2,l2,at2⟩:=hs.alloc (ho:=.dT []) (o:=.dT []) hp ⟨[],Bd,.nil⟩;exact k _ _ _ l2 s2 (.ref at2)
def fB (x y v:D) (S:Sto):Option Sto:=match x with
 | .ref n=>match S[n]? with
  | some (.dK kvs)=>match eM y with
   | some k=>if kvs.length < sizeLine then some (S.set n (.dK (O3 kvs k v))) else none
   | none=>none
  | some (.dT kvs)=>match y with
   | .tup ds=>match UF ds with
    | some ks=>if kvs.length < sizeLine then some (S.set n (.dT (O3 kvs ks v))) else none
    | none=>none
   | _=>none
  | _=>none
 | _=>none
def O1 (mo mi mv:ME):MS:=λe S=>(mv e S).lift e λv S1=>(mo e S1).lift e λx S2=>(mi e S2).lift e λy S3=>match fB x y v S3 with
 | some S4=>.ok (.nx e) S4
 | none=>.bad
theorem eV (hu:X.A.units+1 < DL) (ho:GE X E o mo) (hi:GE X E i mi) (hv:GE X E value mv) (hs:FZ value (some (.Subscript o i pos')) pos.line X.env=pure false:=by rfl):GS X E (.Assign [.Subscript o i pos'] value pos) (O1 mo mi mv):=(dP hu ho hi hv hs).imp λD σ H ⟨ρ,l,S,hl,hs,hm⟩=>by
 refine ⟨ρ,l,S,hl,hs,hm.lift hl .refl λv S1 hm ρ1 H1 vv l1 s1 r1=>⟨ρ1,l,S1,hl.mono l1,s1,(hm.later l1).lift (hl.mono l1) l1 λx S2 hm ρ2 H2 xv l2 s2 r2=>⟨ρ2,l,S2,hl.mono (l1.trans l2),s2,(hm.later l2).lift (hl.mono (l1.trans l2)) (l1.trans l2) λy S3 hm ρ3 H3 yv l3 s3 r3=>?_⟩⟩⟩;have r1':=r1.mono (l2.trans l3);have r2':=r2.mono l3;have hl3:=hl.mono (l1.trans (l2.trans l3));split at hm
 ·rename_i S4 hp
  unfold fB at hp;split at hp
  ·rename_i n
   cases r2' with
   | @ref _ a hn=>
    split at hp
    ·rename_i kvs h4
     split at hp
     ·rename_i ky hk
      split at hp
      ·rename_i hz
       cases hp;obtain ⟨kvs',e,r⟩:=s3.ob n _ _ h4 hn;rw [SQ r3 hk];have le:Le X.K ρ3 H3 ρ3 (upd H3 a (.dK (Jt kvs' ky vv))):=Le.write hn (by rw [e];trivial);obtain ⟨s5,l5⟩:=s3.write (ho:=.dK (Jt kvs' ky vv)) (o:=.dK (O3 kvs ky v)) hn ⟨_,Bd,(KVR.put ky r1' r).mono le⟩;exact ⟨a,_,rfl,Ub.k e (by rw [<-KVR.length r];exact hz),hm ρ3 _ σ (l1.trans (l2.trans (l3.trans l5))) s5 (hl3.mono l5)⟩
      ·cases hp
     ·cases hp
    ·rename_i kvs h4
     split at hp
     ·rename_i ds
      split at hp
      ·rename_i ks hk
       split at hp
       ·rename_i hz
        cases hp;obtain ⟨kvs',e,r⟩:=s3.ob n _ _ h4 hn
        cases r3 with
        | tup b1 b2=>
         rw [PY b2 hk] at b1;have le:Le X.K ρ3 H3 ρ3 (upd H3 a (.dT (Jt kvs' ks vv))):=Le.write hn (by rw [e];trivial);obtain ⟨s5,l5⟩:=s3.write (ho:=.dT (Jt kvs' ks vv)) (o:=.dT (O3 kvs ks v)) hn ⟨_,Bd,(KVR.put ks r1' r).mono le⟩;exact ⟨a,_,rfl,Ub.t e b1 (by rw [<-KVR.length r];exact hz),hm ρ3 _ σ (l1.trans (l2.trans (l3.trans l5))) s5 (hl3.mono l5)⟩
       ·cases hp
      ·cases hp
     ·cases hp
    ·cases hp
  ·cases hp
 ·exact hm.elim
end
section
variable {X:Cx} {E:EW} {a b c:Expr} {pos:Pos} {ma mb mc:ME}
theorem Xg {K:AC} {f g:D->D->Sto->Res D} {σ:St} {H:Hp} {Q:VK} (h:gE K E (m3 f g ma mb mc) σ H Q):Zc (rD K f) (rD K g) (gE K E ma) (gE K E mb) (gE K E mc) σ H Q:=by
 obtain ⟨ρ,l,S,hl,hs,hm⟩:=h;refine ⟨ρ,l,S,hl,hs,hm.seq λx S1 hm ρ1 H1 u l1 s1 r1=>⟨ρ1,l,S1,hl.mono l1,s1,(hm.later l1).seq λy S2 hm ρ2 H2 v l2 s2 r2=>?_⟩⟩
 cases hf:f x y S2 with
 | bad=>rw [hf] at hm;exact hm.elim
 | err _ _=>rw [hf] at hm;exact hm.elim
 | ok z S3=>
  rw [hf] at hm;dsimp only [okR,Res.bind] at hm;refine ⟨ρ2,S2,x,y,z,S3,s2,r1.mono l2,r2,hf,λρ3 H3 w l3 s3 r3=>?_⟩
  cases z with
  | bl k=>
   cases r3;refine ⟨k,rfl,?_⟩
   cases k with
   | true=>
    rw [qX rfl];refine ⟨ρ3,l,S3,hl.mono (l1.trans (l2.trans l3)),s3,Bn.seq (hm.later (l2.trans l3)) λw S4 hm ρ4 H4 wv l4 s4 r4=>?_⟩;obtain ⟨d,S',e,k⟩:=hm.okR;exact ⟨ρ4,S4,y,w,d,S',s4,r2.mono (l3.trans l4),r4,e,λρ' H' z l' s' r'=>k ρ' H' z (l1.trans (l2.trans (l3.trans (l4.trans l')))) s' r'⟩
   | false=>rw [qY AO];exact hm ρ3 H3 _ (l1.trans (l2.trans l3)) s3 (.bl false)
  | _=>exact hm.elim
theorem UK {op op':TJ} {f g:D->D->Sto->Res D} (ho:OpR X (Bb op) (rD X.K f)) (ho':OpR X (Bb op') (rD X.K g)) (ha:GE X E a ma) (hb:GE X E b mb) (hc:GE X E c mc)
  (hm:lastMarks [op,op'] [b,c]=false:=by with_unfolding_all rfl):GT X E (.Compare a [op,op'] [b,c] pos) (mB (m3 f g ma mb mc)):=(Z4 ho ho' ha hb hc hm).imp λ_ _ _ h=>Xg (aU h)
def aS (m:ME):ME:=λe S=>(m e S).bind λd S1=>match d with
 | .int i=>.ok (.int (-i)) S1
 | _=>.bad
theorem bI (h:GE X E a ma):GE X E (.UnaryOp .USub a pos) (aS ma):=(kr gz h).imp λσ H Q ⟨ρ,l,S,hl,hs,hm⟩=>by
 refine ⟨ρ,l,S,hl,hs,hm.seq λd S1 hm ρ1 H1 x l1 s1 r1=>?_⟩
 cases d <;> first | exact hm.elim | skip
 cases r1;exact ⟨_,rfl,hm ρ1 H1 _ l1 s1 (.int _)⟩
end
abbrev MO:=Lo->Sto->Res (Option Int)
def gO (K:AC) (E:EW) (m:MO):TO:=λσ H Q=>∃ρ e S,E9 K ρ H e σ/\Bw K ρ S H/\Bn K (λc=>E c σ) ρ H (m e S) λo S'=>∀ρ' H',Le K ρ H ρ' H'->Bw K ρ' S' H'->Q o H'
abbrev GO (X:Cx) (E:EW) (e:Option Expr) (m:MO):Prop:=PO X e (gO X.K E m)
def Jk:MO:=λ_ S=>.ok none S
def HH (m:ME):MO:=λe S=>(m e S).bind λd S1=>match d with
 | .int i=>.ok (some i) S1
 | _=>.bad
def E7 {α:Type} (xs:List α) (lo hi:Option Int):List α:=(xs.drop (HT.sIx xs.length 0 lo)).take (HT.sIx xs.length xs.length hi - HT.sIx xs.length 0 lo)
def ZC (n:Nat) (lo hi:Option Int):Bool:=decide (HT.sIx n 0 lo=0/\HT.sIx n n hi=n)
def R5 (d:D) (lo hi:Option Int) (S:Sto):Res D:=match d with
 | .tup ds=>if ZC ds.length lo hi=true then .bad else .ok (.tup (E7 ds lo hi)) S
 | _=>match M7 d S with
  | some ds=>.ok (.ref S.length) (S++[.lst (E7 ds lo hi)])
  | none=>.bad
def Lc (m:ME) (ml mh:MO):ME:=λe S=>(m e S).bind λd S1=>(ml e S1).bind λlo S2=>(mh e S2).bind λhi S3=>okR (R5 d lo hi S3)
section
variable {X:Cx} {E:EW} {e:Expr} {lo hi:Option Expr} {pos p2:Pos} {m:ME} {ml mh:MO}
theorem PO.imp {o:Option Expr} {t t':TO} (h:PO X o t) (i:∀σ H Q,t' σ H Q->t σ H Q):PO X o t':=λpins s σ H Q I q=>h pins s σ H Q I (i σ H Q q)
theorem ID:GO X E none Jk:=PO.imp dU λσ H Q ⟨ρ,l,S,hl,hs,hm⟩=>hm ρ H .refl hs
theorem HQ (h:GE X E e m):GO X E (some e) (HH m):=PO.imp (dS h) λσ H Q ⟨ρ,l,S,hl,hs,hm⟩=>by
 refine ⟨ρ,l,S,hl,hs,hm.seq λd S1 hm ρ1 H1 x l1 s1 r1=>?_⟩
 cases d <;> first | exact hm.elim | skip
 cases r1;exact ⟨_,rfl,hm ρ1 H1 l1 s1⟩
theorem Pj {K:AC} {ρ:List AI} {H:Hp} {ds:List D} {vs:List V} (r:Ao K ρ H ds vs) (lo hi:Option Int):Ao K ρ H (E7 ds lo hi) (N5 vs lo hi):=by
 unfold E7 N5;rw [r.length];exact (r.drop _).take _
theorem Mb (he:GE X E e m) (hl:GO X E lo ml) (hu:GO X E hi mh):GE X E (.Subscript e (.Slice lo hi none p2) pos) (Lc m ml mh):=(Tw (dA.or Zj) he hl hu).imp λσ H Q ⟨ρ,l,S,hl,hs,hm⟩=>by
 refine ⟨ρ,l,S,hl,hs,hm.seq λd S1 hm ρ1 H1 x l1 s1 r1=>⟨ρ1,l,S1,hl.mono l1,s1,(hm.later l1).seq λlo S2 hm ρ2 H2 l2 s2=>⟨ρ2,l,S2,hl.mono (l1.trans l2),s2,(hm.later l2).seq λhi S3 hm ρ3 H3 l3 s3=>?_⟩⟩⟩;obtain ⟨d',S',e,k⟩:=hm.okR;have r3:=r1.mono (l2.trans l3)
 have lst:∀ds,M7 d S3=some ds->Res.ok (.ref S3.length) (S3++[.lst (E7 ds lo hi)])=Res.ok d' S'->kf X.K x lo hi H3 Q:=λds hq e=>by
  cases e;obtain ⟨p,xs,rfl,rr,sq⟩:=JU s3 r3 hq;refine ⟨p,xs,rfl,sq,λq hq=>?_⟩;have le:Le X.K ρ3 H3 (ρ3++[q]) (upd H3 q (.lst (N5 xs lo hi))):=Le.alloc hq;obtain ⟨s4,l4,at4⟩:=s3.alloc (ho:=.lst (N5 xs lo hi)) (o:=.lst (E7 ds lo hi)) hq ⟨_,Bd,(Pj rr lo hi).mono le⟩;exact k _ _ _ (l1.trans (l2.trans (l3.trans l4))) s4 (.ref at4)
 cases d with
 | tup ds=>
  unfold R5 at e;dsimp only at e;split at e
  ·cases e
  ·rename_i hw
   cases e
   cases r3 with
   | @tup _ a vs h1 h2=>
    refine .inr ⟨a,vs,rfl,.inl (.inl h1),λz=>hw ?_,λq hq=>?_⟩
    ·unfold ZC
     rw [h2.length];exact wX z
    ·obtain ⟨s4,l4⟩:=Fi (ho:=.tup (N5 vs lo hi)) s3 hq
     exact k _ _ _ (l1.trans (l2.trans (l3.trans l4))) s4 (.tup Bd ((Pj h2 lo hi).mono l4))
 | non=>cases e
 | bl _=>cases e
 | int _=>cases e
 | str _=>cases e
 | exc _=>cases e
 | fro ds=>exact .inl (lst ds rfl e)
 | ref n=>
  unfold R5 at e;dsimp only at e;split at e
  ·rename_i ds hq
   exact .inl (lst ds hq e)
  ·cases e
end
section
variable {X:Cx} {E:EW} {e:Expr} {p pos:Pos} {m:ME} {ml:ML}
def HB (m:ME):ME:=λe S=>(m e S).bind λd S1=>match Ge d S1 with
 | some ds=>.ok (.tup ds) S1
 | none=>.bad
theorem Iv (hg:Gl X "tuple") (hm:X.mg "tuple" = none) (h:GE X E e m) (he:AU [e] X.env=(false,Bg e X.env) :: AU [] X.env:=by rfl):GE X E (.Call (.Name "tuple" p) [e] [] pos) (HB m):=
 (Q7 QW hg hm mD (D7 h Fm he) (by decide) (by decide) he rfl).imp λσ H Q ⟨ρ,l,S,hl,hs,hm⟩=>by
 refine ⟨ρ,l,S,hl,hs,hm.seq λd S1 hm ρ1 H1 x l1 s1 r1=>?_⟩
 cases hq:Ge d S1 with
 | none=>rw [hq] at hm;exact hm.elim
 | some ds=>
  rw [hq] at hm
  have newL:∀a vs,x=.ref a->SqL X.K H1 a vs->Ao X.K ρ1 H1 ds vs->∃p ys,[x]=[.ref p]/\((SqL X.K H1 p ys/\∀l,H1 l=none->Q (.ref l) (upd H1 l (.tup ys)))∨(SqT X.K H1 p ys/\Q (.ref p) H1)):=λa vs e sq rr=>by
   subst e;refine ⟨a,vs,rfl,.inl ⟨sq,λq hq=>?_⟩⟩;obtain ⟨s2,l2⟩:=Fi (ho:=.tup vs) s1 hq;exact hm _ _ _ (l1.trans l2) s2 (.tup Bd (rr.mono l2))
  cases r1 with
  | @tup _ a vs h1 h2=>cases hq;exact ⟨a,vs,rfl,.inr ⟨.inl (.inl h1),hm ρ1 H1 _ l1 s1 (.tup h1 h2)⟩⟩
  | @fro _ a vs h1 h2=>cases hq;exact newL a vs rfl h1.sq h2
  | @ref n a hn=>
   obtain ⟨o,ho,ro⟩:=s1.there hn;unfold Ge at hq;simp only [ho] at hq
   cases o with
   | lst es=>cases hq;obtain ⟨vs,e,rr⟩:=ro;exact newL a vs rfl (.inl (.inl e)) rr
   | _=>cases hq
  | _=>cases hq
variable {o:Expr} {apos cpos:Pos} {mo ma:ME}
def atL (d:D) (S:Sto):Option (Nat×List D):=match d with
 | .ref n=>match S[n]? with
  | some (.lst xs)=>some (n,xs)
  | _=>none
 | _=>none
theorem Jc {K:AC} {ρ:List AI} {S:Sto} {H:Hp} {d:D} {x:V} {n:Nat} {xs:List D} (s:Bw K ρ S H) (r:Bo K ρ H d x) (h:atL d S=some (n,xs)):d=.ref n/\S[n]?=some (.lst xs)/\∃a vs,x=.ref a/\ρ[n]?=some a/\H a=some (.lst vs)/\Ao K ρ H xs vs:=by
 unfold atL at h;split at h
 ·split at h
  ·rename_i ds hd
   cases h;exact ⟨rfl,hd,Wc s r hd⟩
  ·cases h
 ·cases h
theorem MM {K:AC} {ρ:List AI} {S:Sto} {H:Hp} {n:Nat} {a:AI} {vs ws:List V} {ys:List D} (s:Bw K ρ S H) (hn:ρ[n]?=some a) (e:H a=some (.lst vs)) (r:Ao K ρ H ys ws) :
  Bw K ρ (S.set n (.lst ys)) (upd H a (.lst ws))/\Le K ρ H ρ (upd H a (.lst ws)):=by
 have le:Le K ρ H ρ (upd H a (.lst ws)):=Le.write hn (by rw [e];trivial);exact s.write (ho:=.lst ws) (o:=.lst ys) hn ⟨_,Bd,r.mono le⟩
def aR (mo:ME):ME:=λe S=>(mo e S).bind λd S1=>match atL d S1 with
 | some (n,xs)=>.ok .non (S1.set n (.lst xs.reverse))
 | none=>.bad
theorem Vu (ho:GE X E o mo) (hbase:DS o "reverse" X.env (Bg o X.env)=Bg o X.env:=by rfl) (hline:(apos.endLine==cpos.line)=true:=by rfl) :
  GE X E (.Call (.Attribute o "reverse" apos) [] [] cpos) (aR mo):=(ii Dq PySem.F.slot_list_reverse PySem.F.type_list_reverse Vg ho hbase hline).imp λσ H Q ⟨ρ,l,S,hl,hs,hm⟩=>by
 refine ⟨ρ,l,S,hl,hs,hm.seq λd S1 hm ρ1 H1 v l1 s1 r1=>?_⟩
 cases hq:atL d S1 with
 | none=>rw [hq] at hm;exact hm.elim
 | some z=>
  obtain ⟨n,xs⟩:=z;rw [hq] at hm;obtain ⟨rfl,h0,a,vs,rfl,hn,e,rr⟩:=Jc s1 r1 hq;obtain ⟨s2,l2⟩:=MM s1 hn e rr.reverse;exact ⟨.inl ⟨rfl,vs,.inl (.inl e)⟩,a,vs,rfl,rfl,e,hm ρ1 _ _ (l1.trans l2) s2 .non⟩
def JM (mo mi:ME):MG:=λv e S=>(mo e S).bind λd S1=>(mi e S1).bind λk S2=>match atL d S2,k with
 | some (n,xs),.int i=>match ixN xs.length i with
  | some j=>.ok e (S2.set n (.lst (xs.set j v)))
  | none=>.bad
 | _,_=>.bad
theorem Se {i:Expr} {mi:ME} (ho:GE X noE o mo) (hi:GE X noE i mi) (ha:∀v,LS (.Subscript o i pos) X.env v=(do
   let ov <-LP [v] (Bg o X.env)
   let iv <-LP [v,ov] (Bg i X.env)
   jl pos
   LP [v,ov,iv] (jm ov iv v)
   release [v,ov,iv] []):=by intro _;rfl):GG X (.Subscript o i pos) (JM mo mi):=(iU ho hi Zn ha).imp λv σ H Q ⟨ρ,l,S,d,hd,hl,hs,hm⟩=>by
 refine ⟨ρ,l,S,hl,hs,hm.seq λx S1 hm1 ρ1 H1 u l1 s1 r1=>⟨ρ1,l,S1,hl.mono l1,s1,(hm1.later l1).seq λk S2 hm2 ρ2 H2 w l2 s2 r2=>?_⟩⟩;have hm:=hm2
 clear hm2 hm1
 have hl2:=hl.mono (l1.trans l2);split at hm
 ·rename_i n xs i hq
  split at hm
  ·rename_i j hj
   obtain ⟨rfl,h0,a,vs,rfl,hn,e,rr⟩:=Jc s2 (r1.mono l2) hq;cases r2;obtain ⟨s3,l3⟩:=MM s2 hn e (rr.set (hd.mono (l1.trans l2)) j);exact ⟨a,vs,i,j,rfl,rfl,e,by rw [<-rr.length];exact hj,hm ρ2 _ σ (l1.trans (l2.trans l3)) s3 (hl2.mono l3)⟩
  ·exact hm.elim
 ·exact hm.elim
end
section
variable {X:Cx} {E:EW}
theorem range_getD {α:Type} (d:α) (bs:List α):(BQ bs.length).map (λi=>bs.getD i d)=bs:=by
 apply Ef
 intro i;rw [Ag]
 by_cases h:i < bs.length
 ·rw [CC h]
  simp [List.getD,h]
 ·rw [B8.mpr (by simpa using h),B8.mpr (by simpa using h)]
  rfl
theorem cr {bs:List Bool} {its:List AB} (r:BL (bs.map V.bl) its) {i:Nat} {v:AB} (h:its.toArray[i]?=some v):v=.bool (bs.getD i false):=by
 have h':its[i]?=some v:=by simpa using h
 obtain ⟨hi,e⟩:=AK.mp h'
 have hb:i < bs.length:=by have:=r.length;simp at this;lia
 obtain ⟨u,hu,ru⟩:=r.get (show (bs.map V.bl)[i]?=some (V.bl bs[i]) by simp [hb]);rw [h'] at hu;cases hu;rw [show v=Jp bs[i] from ru];simp [List.getD,hb]
def Z2 (K:AC) (f:List Bool->Bool):List V->Hp->VK->Prop:=λxs H Q=>∃p bs,xs=[.ref p]/\(SqL K H p (bs.map V.bl)∨SqT K H p (bs.map V.bl))/\Q (.bl (f bs)) H
theorem V3 {pins:List (AI×Obj)} {s:AE} {σ:St} {H:Hp} {p:AI} {bs:List Bool} {R:AB->AE->Prop} {E:AB->AE->Prop} (hc:X.calm=true) (I:Inv X pins σ H s) (hq:SqL X.K H p (bs.map V.bl)∨SqT X.K H p (bs.map V.bl))
  (h:∀itv s2,(∃I fp wr n P St tr,itv=Av I/\Walks X.prog X.w X.A.in1 I fp wr n P St/\St 0 s2.heap/\TruthOf X.prog X.w X.A.in1 P tr/\(BQ n).map tr=bs /\
   ∀(h':BP) (tk:Nat),(∀b o,¬b∈wr->s2.heap.get? b=some o->h'.get? b=some o)->Inv X pins σ H { s2 with heap:=h',toks:=tk })->R itv s2) :
  AZ (AR X.prog X.w) X.A.in1 (OU (.ref p)) R E s:=by
 have hh:X.A.in1.handled=none:=I.ok.hd hc
 have fin:∀(its:List AB),BL (bs.map V.bl) its->(BQ its.toArray.size).map (λi=>bs.getD i false)=bs:=λits r=>by
  have:its.toArray.size=bs.length:=by have:=r.length;simp at this;simpa using this.symm
  rw [this,range_getD]
 have tru:∀(its:List AB),BL (bs.map V.bl) its->TruthOf X.prog X.w X.A.in1 (λi v=>its.toArray[i]?=some v) (λi=>bs.getD i false):=λits r i v s Q E hv q=>by
  rw [cr r hv];exact DB q
 have kp:∀(ob:Obj) (h':BP) (tk:Nat),(∀b o,¬b∈[s.heap.objs.size]->(s.heap.push ob).get? b=some o->h'.get? b=some o)->Inv X pins σ H { s with heap:=h',toks:=tk }:=λob h' tk k=>
  I.kept λb o e=>k b o (by simpa using Ad (AW e)) (AF _ e)
 rcases hq with hq | hq
 ·obtain ⟨its,r',pl,hz⟩:=I.list hq
  refine P0 pl.isList (h _ _ ⟨s.heap.objs.size,_,_,_,_,_,_,rfl,kB hh _ p (Ad (AW pl.isList.choose_spec.1)) its.toArray,⟨⟨_,AV _ rfl,rfl,rfl⟩,?_⟩,tru its r',fin its r',kp _⟩)
  exact pl.isList.at λo e=>AF _ e
 ·obtain ⟨its,r',pl,hz⟩:=I.tuple hq
  have pt:s.heap.IsTuple p its.toArray:=pl;refine EZ pt (h _ _ ⟨s.heap.objs.size,_,_,_,_,_,_,rfl,jo hh _ p (Ad pl.lt) its.toArray,⟨⟨_,AV _ rfl,rfl,rfl⟩,?_⟩,tru its r',fin its r',kp _⟩);obtain ⟨o,e,c⟩:=pt;exact ⟨o,AF _ e,c⟩
theorem Yb (hc:X.calm=true):Hq X (.builtin "all") (Z2 X.K λbs=>bs.all id):=by
 intro pins s σ H xs us Q I r h;obtain ⟨p,bs,rfl,hq,q⟩:=h;obtain ⟨u,rfl,rx⟩:=vals1 r;cases rx;refine call_all_walk (V3 hc I hq λitv s2 ⟨J,fp,wr,n,P,St,tr,e,W,st,tru,eb,kp⟩=>⟨J,fp,wr,n,P,St,tr,e,W,st,tru,λh' tk k=>⟨.bl _,H,kp h' tk k,rfl,?_⟩⟩);rw [<-eb] at q;dsimp only at q;rw [NT] at q;exact q
def V4:List D->Option (List Bool)
 | []=>some []
 | .bl b :: ds=>(V4 ds).map (b :: ·)
 | _ :: _=>none
theorem W8 {K:AC} {ρ:List AI} {H:Hp}:∀ {ds:List D} {vs:List V} {bs:List Bool},Ao K ρ H ds vs->V4 ds=some bs->vs=bs.map V.bl
 | _,_,_,.nil,h=>by cases h;rfl
 | .bl b :: ds,_,bs,.cons r t,h=>by
  unfold V4 at h
  cases hq:V4 ds with
  | none=>rw [hq] at h;cases h
  | some cs=>rw [hq] at h;cases h;cases r;rw [W8 t hq];rfl
 | .non :: _,_,_,.cons r t,h=>by cases h
 | .int _ :: _,_,_,.cons r t,h=>by cases h
 | .str _ :: _,_,_,.cons r t,h=>by cases h
 | .tup _ :: _,_,_,.cons r t,h=>by cases h
 | .fro _ :: _,_,_,.cons r t,h=>by cases h
 | .ref _ :: _,_,_,.cons r t,h=>by cases h
 | .exc _ :: _,_,_,.cons r t,h=>by cases h
def fJ (f:List Bool->Bool) (ds:List D) (S:Sto):Res D:=match V4 ds with
 | some bs=>.ok (.bl (f bs)) S
 | none=>.bad
theorem Zm {f:List Bool->Bool}:jd X.K (Z2 X.K f) (fJ f):=λρ H S ds q xs d S' Q hs rr sq hm k=>by
 unfold fJ at hm;split at hm
 ·rename_i bs hb
  cases hm;rw [W8 rr hb] at sq;exact ⟨q,bs,rfl,sq,k ρ H _ .refl hs (.bl _)⟩
 ·cases hm
abbrev bi:=fJ λbs=>bs.all id
def c7:List Int->Int:=λns=>gM (λi=>ns.getD i 0) ns.length
theorem MN {f g:Nat->Int}:∀(n:Nat),(∀i,i < n->f i=g i)->gM f n=gM g n
 | 0,_=>rfl
 | n+1,h=>by
  show gM f n+f n=gM g n+g n;rw [MN n λi hi=>h i (by lia),h n (by lia)]
theorem QV {ns:List Int} {its:List AB} (r:BL (ns.map V.int) its):∃xs:Array (Int×Tok),its.toArray=intItems xs/\xs.size=ns.length/\∀i,i < ns.length->numAt xs i=ns.getD i 0:=by
 induction ns generalizing its with
 | nil=>
  cases r;exact ⟨#[],by simp [intItems],rfl,λi hi=>zX hi (by simp)⟩
 | cons n ns ih=>
  cases r with
  | cons r1 r2=>
   obtain ⟨xs,e1,e2,e3⟩:=ih r2;obtain ⟨t,rfl⟩:=r1;refine ⟨#[(n,t)]++xs,?_,by simp [e2];lia,λi hi=>?_⟩
   ·unfold intItems at e1 ⊢
    rw [Array.map_append,<-e1];simp
   ·cases i with
    | zero=>
     unfold numAt;rw [Array.getElem?_append_left (by simp)];simp
    | succ i=>
     have:=e3 i (by simpa using hi);unfold numAt at this ⊢;rw [Array.getElem?_append_right (by simp)];simpa using this
def kh (K:AC) (f:List Int->Int):List V->Hp->VK->Prop:=λxs H Q=>∃p ns,xs=[.ref p]/\SqL K H p (ns.map V.int)/\Q (.int (f ns)) H
theorem YV (hc:X.calm=true):Hq X (.builtin "sum") (kh X.K c7):=by
 intro pins s σ H xs us Q I r h;obtain ⟨p,ns,rfl,hq,q⟩:=h;obtain ⟨u,rfl,rx⟩:=vals1 r;cases rx;obtain ⟨its,r',pl,hz⟩:=I.list hq;obtain ⟨xs,e1,e2,e3⟩:=QV r'
 refine sum_intListG (xs:=xs) (I.ok.hd hc) (by rw [<-e1];exact pl.isList) λh' tk t' kp=>⟨.int _,H,I.kept kp,⟨t',rfl⟩,?_⟩
 rw [e2,MN _ e3];exact q
def G2:List D->Option (List Int)
 | []=>some []
 | .int b :: ds=>(G2 ds).map (b :: ·)
 | _ :: _=>none
theorem Iu:∀ {ds:List D} {ns:List Int},G2 ds=some ns->ds=ns.map D.int
 | [],_,h=>by cases h;rfl
 | .int b :: ds,ns,h=>by
  unfold G2 at h
  cases hq:G2 ds with
  | none=>rw [hq] at h;cases h
  | some cs=>rw [hq] at h;cases h;rw [Iu hq];rfl
 | .non :: _,_,h=>by cases h
 | .bl _ :: _,_,h=>by cases h
 | .str _ :: _,_,h=>by cases h
 | .tup _ :: _,_,h=>by cases h
 | .fro _ :: _,_,h=>by cases h
 | .ref _ :: _,_,h=>by cases h
 | .exc _ :: _,_,h=>by cases h
def Vk (m:ME):ME:=λe S=>(m e S).bind λd S1=>match M7 d S1 with
 | some ds=>match G2 ds with
  | some ns=>.ok (.int (c7 ns)) S1
  | none=>.bad
 | none=>.bad
variable {e:Expr} {m:ME} {ml:ML} {p pos:Pos}
theorem jM (hc:X.calm=true) (hg:Gl X "sum") (hm:X.mg "sum" = none) (h:GE X E e m) (he:AU [e] X.env=(false,Bg e X.env) :: AU [] X.env:=by rfl):GE X E (.Call (.Name "sum" p) [e] [] pos) (Vk m):=
 (Il (YV hc) hg hm mE (D7 h Fm he) (by decide) (by decide) he rfl).imp λσ H Q ⟨ρ,l,S,hl,hs,hm⟩=>by
 refine ⟨ρ,l,S,hl,hs,hm.seq λd S1 hm ρ1 H1 x l1 s1 r1=>?_⟩
 cases hq:M7 d S1 with
 | none=>rw [hq] at hm;exact hm.elim
 | some ds=>
  rw [hq] at hm;dsimp only at hm
  cases hi:G2 ds with
  | none=>rw [hi] at hm;exact hm.elim
  | some ns=>
   rw [hi] at hm;obtain ⟨p,xs,rfl,rr,sq⟩:=JU s1 r1 hq;rw [Iu hi] at rr;rw [rr.ints] at sq;exact ⟨p,ns,rfl,sq,hm ρ1 H1 _ l1 s1 (.int _)⟩
def tyD (d:D) (S:Sto):Option String:=match d with
 | .non=>some "NoneType"
 | .bl _=>some "bool"
 | .int _=>some "int"
 | .str _=>some "str"
 | .tup _=>some "tuple"
 | .ref n=>match S[n]? with
  | some (.lst _)=>some "list"
  | some (.dK _)=>some "dict"
  | some (.dT _)=>some "dict"
  | _=>none
 | .fro _=>none
 | .exc _=>none
theorem g7 {K:AC} {ρ:List AI} {S:Sto} {H:Hp} {d:D} {x:V} {T:String} (s:Bw K ρ S H) (r:Bo K ρ H d x) (h:tyD d S=some T):Mj K H x (.type T):=by
 cases r with
 | non=>cases h;exact .non
 | bl b=>cases h;exact .bl b
 | int i=>cases h;exact .int i
 | str i=>cases h;exact .str i
 | tup h1 _=>cases h;exact .tup h1
 | fro _ _=>cases h
 | exc _ _=>cases h
 | @ref n a hn=>
  obtain ⟨o,ho,ro⟩:=s.there hn;unfold tyD at h;simp only [ho] at h
  cases o with
  | lst es=>cases h;obtain ⟨vs,e,rr⟩:=ro;exact .lst e
  | dK es=>cases h;obtain ⟨vs,e,rr⟩:=ro;exact .dK e
  | dT es=>cases h;obtain ⟨vs,e,rr⟩:=ro;exact .dT e
  | ins _ _=>cases h
def fw (c T:String):Option Bool:=if T==c then some true else if T=="bool"&&c=="int" then some true else if ["NoneType", "bool", "int", "str", "tuple", "list", "dict"].contains T&&["bool", "int", "str", "tuple", "list", "dict"].contains c then some false else none
end
def JQ {α:Type} (r r':Res α):Res α:=match r with
 | .bad=>r'
 | r=>r
theorem Xu {α:Type} (r r':Res α):JQ r r'=r∨JQ r r'=r':=by cases r <;> simp [JQ]
def op2 (f g:D->D->Sto->Res D):D->D->Sto->Res D:=λx y S=>JQ (f x y S) (g x y S)
theorem UC (f g:D->D->Sto->Res D) (ma mb:ME) (l:Lo) (S:Sto):m2 (op2 f g) ma mb l S=m2 f ma mb l S∨m2 (op2 f g) ma mb l S=m2 g ma mb l S:=by
 unfold m2
 cases ma l S with
 | ok x S1=>
  dsimp only [Res.bind]
  cases mb l S1 with
  | ok y S2=>
   dsimp only [Res.bind];unfold op2
   rcases Xu (f x y S2) (g x y S2) with e | e <;> rw [e] <;> simp
  | err c S2=>exact .inl rfl
  | bad=>exact .inl rfl
 | err c S1=>exact .inl rfl
 | bad=>exact .inl rfl
section
variable {X:Cx} {E:EW} {e o i:Expr} {pos:Pos} {m m1 m2':ME}
theorem Vw {m m1 m2:ME} (h1:GE X E e m1) (h2:GE X E e m2) (h:∀l S,m l S=m1 l S∨m l S=m2 l S):GE X E e m:=λpins s σ H Q I ⟨ρ,l,S,hl,hs,a⟩=>by
 rcases h l S with q | q
 ·rw [q] at a;exact h1 pins s σ H Q I ⟨ρ,l,S,hl,hs,a⟩
 ·rw [q] at a;exact h2 pins s σ H Q I ⟨ρ,l,S,hl,hs,a⟩
theorem bA {t t1 t2:MT} (h1:GT X E e t1) (h2:GT X E e t2) (h:∀l S,t l S=t1 l S∨t l S=t2 l S):GT X E e t:=λpins s σ H Q I ⟨ρ,l,S,hl,hs,a⟩=>by
 rcases h l S with q | q
 ·rw [q] at a;exact h1 pins s σ H Q I ⟨ρ,l,S,hl,hs,a⟩
 ·rw [q] at a;exact h2 pins s σ H Q I ⟨ρ,l,S,hl,hs,a⟩
theorem jL {tg:Expr} {t t1 t2:MI} (h1:GI X E tg e t1) (h2:GI X E tg e t2) (h:∀l S,t l S=t1 l S∨t l S=t2 l S):GI X E tg e t:=λpins s σ H R I ⟨ρ,l,S,hl,hs,a⟩=>by
 rcases h l S with q | q
 ·rw [q] at a;exact h1 pins s σ H R I ⟨ρ,l,S,hl,hs,a⟩
 ·rw [q] at a;exact h2 pins s σ H R I ⟨ρ,l,S,hl,hs,a⟩
theorem fu {m m1 m2:ME} (h:∀l S,m l S=m1 l S∨m l S=m2 l S) (l:Lo) (S:Sto):mB m l S=mB m1 l S∨mB m l S=mB m2 l S:=by
 unfold mB
 rcases h l S with q | q <;> rw [q] <;> simp
abbrev inA (neg:Bool):=op2 (inD neg) (Mf neg)
variable {mi mo:ME}
theorem fy (hu:X.A.units+64 < DL) (hi:GE X E i mi) (ho:GE X E o mo) (h1:Bq .In o=false:=by with_unfolding_all rfl):GE X E (.Compare i [.In] [o] pos) (m2 (inA false) mi mo):=
 Vw (NB (fo hu) hi ho h1) (jO (by lia) hi ho h1) λ_ _=>UC _ _ _ _ _ _
theorem bG (hu:X.A.units+64 < DL) (hi:GE X E i mi) (ho:GE X E o mo) (h1:Bq .NotIn o=false:=by with_unfolding_all rfl):GE X E (.Compare i [.NotIn] [o] pos) (m2 (inA true) mi mo):=
 Vw (NB (Tz hu) hi ho h1) (YG (by lia) hi ho h1) λ_ _=>UC _ _ _ _ _ _
theorem lX (hu:X.A.units+64 < DL) (hi:GE X E i mi) (ho:GE X E o mo) (h1:Bq .In o=false:=by with_unfolding_all rfl):GT X E (.Compare i [.In] [o] pos) (mB (m2 (inA false) mi mo)):=
 bA (Cr (fo hu) hi ho h1) (jG (by lia) hi ho h1) (fu λ_ _=>UC _ _ _ _ _ _)
theorem az (hu:X.A.units+64 < DL) (hi:GE X E i mi) (ho:GE X E o mo) (h1:Bq .NotIn o=false:=by with_unfolding_all rfl):GT X E (.Compare i [.NotIn] [o] pos) (mB (m2 (inA true) mi mo)):=
 bA (Cr (Tz hu) hi ho h1) (YC (by lia) hi ho h1) (fu λ_ _=>UC _ _ _ _ _ _)
abbrev ixA:=op2 ixD W4
theorem DY (hu:X.A.units+64 < DL) (ho:GE X E o mo) (hi:GE X E i mi) (hs:Sv i:=by intro _ _;rfl):GE X E (.Subscript o i pos) (m2 ixA mo mi):=
 Vw (lY lD ho hi hs) (en (by lia) ho hi hs) λ_ _=>UC _ _ _ _ _ _
def FE (d:D):IU:=match d with
 | .tup ds=>Fh ds
 | d=>NZ d
def Fb (m:ME):MI:=λe S=>(m e S).bind λd S1=>match FE d S1 with
 | some _=>.ok (FE d) S1
 | none=>.bad
theorem FP {tg:Expr} (h:GE X E e m):GI X E tg e (Fb m):=jL (jK h) (jJ h) λl S=>by
 unfold Fb lU fx
 cases m l S with
 | ok d S1=>
  dsimp only [Res.bind]
  cases d <;> first | exact .inl rfl | exact .inr rfl
 | err c S1=>exact .inl rfl
 | bad=>exact .inl rfl
def Gj (m:ME):ME:=λe S=>(m e S).bind λd S1=>match Ge d S1 with
 | some ds=>.ok (.int ds.length) S1
 | none=>.bad
variable {p:Pos} {ml:ML} {es:List Expr}
theorem Hi (hg:Gl X "len") (hm:X.mg "len" = none) (h:GE X E e m) (he:AU [e] X.env=(false,Bg e X.env) :: AU [] X.env:=by rfl):GE X E (.Call (.Name "len" p) [e] [] pos) (Gj m):=
 (Wt Ss iB hg hm PySem.boot_len (bC h) (by decide) (by decide) he).imp λσ H Q ⟨ρ,l,S,hl,hs,a⟩=>⟨ρ,l,S,hl,hs,by
  have q:mQ lP (IN m) l S=Gj m l S:=by
   unfold mQ IN Gj
   cases m l S with
   | ok d S1=>
    dsimp only [Res.bind]
    cases Ge d S1 <;> rfl
   | err c S1=>rfl
   | bad=>rfl
  rw [q];exact a⟩
theorem ef {a b:Expr} (hc:X.calm=true) (hg:Gl X "min") (hm:X.mg "min" = none) (h:GA X E [a,b] ml) (he:AU [a,b] X.env=(false,Bg a X.env) :: AU [b] X.env:=by rfl) (hpl:(C1 pos (AU [b] X.env)).any (·.1)=false:=by rfl):GE X E (.Call (.Name "min" p) [a,b] [] pos) (mQ RB ml):=
 Wu (YZ hc) fR hg hm mG h (by decide) (by decide) he hpl
theorem eh {a b:Expr} (hc:X.calm=true) (hg:Gl X "max") (hm:X.mg "max" = none) (h:GA X E [a,b] ml) (he:AU [a,b] X.env=(false,Bg a X.env) :: AU [b] X.env:=by rfl) (hpl:(C1 pos (AU [b] X.env)).any (·.1)=false:=by rfl):GE X E (.Call (.Name "max" p) [a,b] [] pos) (mQ RC ml):=
 Wu (Ya hc) fS hg hm mH h (by decide) (by decide) he hpl
theorem Mc (hg:Gl X "list") (hm:X.mg "list" = none) (h:GE X E e m) (he:AU [e] X.env=(false,Bg e X.env) :: AU [] X.env:=by rfl):GE X E (.Call (.Name "list" p) [e] [] pos) (C5 (mN Iq (IN m))):=
 DQ (eW Sr c9 hg hm OA (bC h) (by decide) (by decide) he)
theorem bL (hc:X.calm=true) (hg:Gl X "all") (hm:X.mg "all" = none) (h:GE X E e m) (he:AU [e] X.env=(false,Bg e X.env) :: AU [] X.env:=by rfl):GE X E (.Call (.Name "all" p) [e] [] pos) (mQ bi (IN m)):=
 Wt (Yb hc) Zm hg hm mK (bC h) (by decide) (by decide) he
end
abbrev MJ:=Str->Lo->Sto->Res Str
def jB:MJ:=λacc _ S=>if acc.length<=sizeLine then .ok acc S else .bad
def Wo (m:ME) (r:MJ):MJ:=λacc e S=>(m e S).bind λd S1=>match d with
 | .str y=>if (acc++y).length<=sizeLine then r (acc++y) e S1 else .bad
 | _=>.bad
def gJ (K:AC) (E:EW) (m:MJ) (acc:Str):TE:=λσ H Q=>∃ρ e S,E9 K ρ H e σ/\Bw K ρ S H/\Bn K (λc=>E c σ) ρ H (m acc e S) λy S'=>∀ρ' H',Le K ρ H ρ' H'->Bw K ρ' S' H'->Q (.str y) H'
def GJ (X:Cx) (E:EW) (es:List Expr) (m:MJ):Prop:=∀(acc:Str) (pins:List (AI×Obj)) (s:AE) (σ:St) (H:Hp) (Q:VK),Inv X pins σ H s->gJ X.K E m acc σ H Q->AZ (AR X.prog X.w) X.A (joinParts acc (evalEach es X.env)) (EP X pins σ Q) X.xe s
def ft (m:MJ):ME:=λe S=>(m Uc e S).bind λy S1=>.ok (.str y) S1
def lL (m:ME):ME:=λe S=>(m e S).bind λd S1=>match d with
 | .int i=>if i.natAbs.log2 < 1920 then .ok (.str (toString i)) S1 else .bad
 | _=>.bad
section
variable {X:Cx} {E:EW} {e a b:Expr} {es:List Expr} {pos:Pos} {m:ME} {mj:MJ}
theorem jI:GJ X E [] jB:=λacc pins s σ H Q I ⟨ρ,l,S,hl,hs,hm⟩=>by
 unfold jB at hm;split at hm
 ·rename_i hz
  exact joinParts_nil ⟨.str acc,H,I.tok _,⟨_,rfl⟩,hm ρ H .refl hs⟩ hz
 ·exact hm.elim
theorem Sb (h:GE X E e m) (hr:GJ X E es mj):GJ X E (e :: es) (Wo m mj):=λacc pins s σ H Q I ⟨ρ,l,S,hl,hs,hm⟩=>by
 show AZ _ _ (joinParts acc (Bg e X.env :: evalEach es X.env)) _ _ s;refine joinParts_cons (thn (h pins s σ H (λx H1=>∃y,x=.str y/\(acc++y).length<=sizeLine/\gJ X.K E mj (acc++y) σ H1 Q) I ⟨ρ,l,S,hl,hs,Bn.seq hm λd S1 hm ρ1 H1 x l1 s1 r1=>?_⟩) λu s1 ⟨x,H1,I1,rx,y,ex,hz,q⟩=>?_)
 ·cases d <;> first | exact hm.elim | skip
  dsimp only at hm;split at hm
  ·rename_i y hz
   cases r1;exact ⟨y,rfl,hz,ρ1,l,S1,hl.mono l1,s1,hm.go l1 λ_ _ k ρ2 H2 l2 s2=>k ρ2 H2 (l1.trans l2) s2⟩
  ·exact hm.elim
 ·subst ex
  obtain ⟨t,rfl⟩:=rx;exact ⟨hz,hr _ pins s1 σ H1 Q I1 q⟩
theorem ej (h:GJ X E (a :: b :: es) mj):GE X E (.JoinedStr (a :: b :: es) pos) (ft mj):=λpins s σ H Q I ⟨ρ,l,S,hl,hs,hm⟩=>by
 refine JoinedStr_many (h Uc pins s σ H Q I ⟨ρ,l,S,hl,hs,Bn.seq hm λy S1 hm ρ1 H1 l1 s1=>hm ρ1 H1 _ l1 s1 (.str y)⟩)
theorem jN (h:GE X E e m):GE X E (.FormattedValue e (-1) none pos) (lL m):=λpins s σ H Q I ⟨ρ,l,S,hl,hs,hm⟩=>by
 refine FormattedValue_plain (thn (h pins s σ H (λx H1=>∃i:Int,x=.int i/\i.natAbs.log2 < 1920/\Q (.str (toString i)) H1) I ⟨ρ,l,S,hl,hs,Bn.seq hm λd S1 hm ρ1 H1 x l1 s1 r1=>?_⟩) λu s1 ⟨x,H1,I1,rx,i,ex,hz,q⟩=>?_)
 ·cases d <;> first | exact hm.elim | skip
  dsimp only at hm;split at hm
  ·rename_i hz
   cases r1;exact ⟨_,rfl,hz,hm ρ1 H1 _ l1 s1 (.str _)⟩
  ·exact hm.elim
 ·subst ex
  obtain ⟨t,rfl⟩:=rx;exact wpAny_formatField_int hz ⟨.str (toString i),H1,I1.tok _,⟨_,rfl⟩,q⟩
end
def MV (mo ma:ME):ME:=λe S=>(mo e S).bind λd S1=>match atL d S1 with
 | some (n,_)=>(ma e S1).bind λy S2=>match atL d S2,atL y S2 with
  | some (_,xs),some (k,ys)=>if k≠n/\xs.length+ys.length<=sizeLine then .ok .non (S2.set n (.lst (xs++ys))) else .bad
  | _,_=>.bad
 | none=>.bad
section
variable {X:Cx} {E:EW} {o e:Expr} {apos cpos:Pos} {mo ma:ME}
theorem YF (ho:GE X E o mo) (ha:GE X E e ma) (hbase:DS o "extend" X.env (Bg o X.env)=Bg o X.env:=by rfl)
  (hfew:((C1 cpos (AU [e] X.env)).all (λx=>!x.1)&&(Us cpos (Mu [] X.env)).all (λx=>x.1.isSome)
    &&decide ([e].length+([]:List Ib).length+(if ([]:List Ib).isEmpty then 0 else 1) < 30))=true:=by rfl)
  (hline:(apos.endLine==cpos.line)=true:=by rfl) (hs:AU [e] X.env=(false,Bg e X.env) :: AU [] X.env:=by rfl) (hplain:(C1 cpos (AU [] X.env)).any (·.1)=false:=by rfl) :
  GE X E (.Call (.Attribute o "extend" apos) [e] [] cpos) (MV mo ma):=(Wh Dq P9 P8 Xx ho (D7 ha Fm hs) hbase hfew hline hs hplain).imp λσ H Q ⟨ρ,l,S,hl,hs,hm⟩=>by
 refine ⟨ρ,l,S,hl,hs,hm.seq λd S1 hm ρ1 H1 v l1 s1 r1=>?_⟩
 cases hq:atL d S1 with
 | none=>rw [hq] at hm;exact hm.elim
 | some z=>
  obtain ⟨n,xs0⟩:=z;rw [hq] at hm;dsimp only at hm;obtain ⟨rfl,h0,a,vs0,rfl,hn,e0,_⟩:=Jc s1 r1 hq;refine ⟨.inl ⟨rfl,vs0,.inl (.inl e0)⟩,ρ1,l,S1,hl.mono l1,s1,(hm.later l1).seq λy S2 hm ρ2 H2 u l2 s2 r2=>?_⟩;split at hm
  ·rename_i n' xs k ys h2 h3
   split at hm
   ·rename_i hz
    obtain ⟨e',h4,a',vs,ea,hn2,e2,rr⟩:=Jc s2 (r1.mono l2) h2;cases e';cases ea;obtain ⟨ey,h5,p,ws,rfl,hk,e3,rw'⟩:=Jc s2 r2 h3;obtain ⟨s3,l3⟩:=MM s2 hn2 e2 (rr.append rw');exact ⟨a,p,vs,ws,rfl,rfl,e2,e3,by rw [<-rr.length,<-rw'.length];exact hz.2,hm ρ2 _ _ (l1.trans (l2.trans l3)) s3 .non⟩
   ·exact hm.elim
  ·exact hm.elim
end
def isB (t A:String):Option Bool:=if ["NoneType", "bool", "int", "str", "tuple", "list", "dict"].contains A then fw t A else none
def mIs (tab:String->Option Bool) (tabC:AI->Option Bool) (m:ME):ME:=λe S=>(m e S).bind λd S1=>match d with
 | .exc C=>match tabC C with
  | some b=>.ok (.bl b) S1
  | none=>.bad
 | d=>match tyD d S1 with
  | some T=>match tab T with
   | some b=>.ok (.bl b) S1
   | none=>.bad
  | none=>.bad
def cj (sc:Hv) (x:Str):Bool:=decide (sc.names.lookup x=some .local)||decide (sc.names.lookup x=some .cell)||decide (sc.names.lookup x=some .free)
def bW (X:Cx) (scope:Hv) (own N':List Str):Bool:=
 decide (scope.kind=.function)&&scope.names.all (λy=>!decide (y.2=.cell))&&scope.names.all (λy=>!decide (y.2=.local)||decide (scope.names.lookup y.1=some .local)) &&
 scope.names.all (λy=>!decide (y.2=.free)||decide (X.env.kindOf y.1=some .cell)||decide (X.env.kindOf y.1=some .free))&&decide (N'.length=own.length+X.N.length) &&
 ((N'.drop own.length).zip X.N).all (λp=>!cj (IV scope X.env) p.1||(decide (p.1=p.2)&&cj X.env.scope p.1&&(decide ((IV scope X.env).names.lookup p.1=some .cell)||decide ((IV scope X.env).names.lookup p.1=some .free))&&!decide (X.env.kindOf p.1=some .local))) &&
 (IV scope X.env).names.all (λy=>(!decide (y.2=.cell)&&!decide (y.2=.free))||scope.names.any (λz=>decide (z=(y.1,Hy))))
theorem TZ {sc:Hv} {x:Str}:cj sc x=true↔Vis sc x:=by
 unfold cj Vis;simp [or_assoc]
theorem IG {X:Cx} {scope:Hv} {own N':List Str} (h:bW X scope own N'=true):Lm X scope own N':=by
 unfold bW at h;simp only [FB] at h;obtain ⟨⟨⟨⟨⟨⟨h1,h2⟩,h3⟩,h4⟩,h5⟩,h6⟩,h7⟩:=h;rw [D2] at h2 h3 h4 h6 h7;refine ⟨of_decide_eq_true h1,λy hy=>?_,λy hy e=>?_,λy hy e=>?_,of_decide_eq_true h5,λi x e v=>?_,λx hx=>?_⟩
 ·simpa using h2 y hy
 ·have:=h3 y hy
  simpa [e] using this
 ·have:=h4 y hy
  simpa [e] using this
 ·have hlen:=of_decide_eq_true h5
  have hi:own.length+i < N'.length:=(AK.mp e).1
  have hx:i < X.N.length:=by lia
  have hm:(x,X.N[i])∈(N'.drop own.length).zip X.N:=by
   rw [List.mem_iff_getElem?];refine ⟨i,?_⟩;rw [List.getElem?_zip_eq_some];exact ⟨by rw [Hz];exact e,by simp [hx]⟩
  have:=h6 _ hm;rw [TZ.mpr v] at this;simp only [L3,gi,FB,Bool.or_eq_true,decide_eq_true_eq,ZB,decide_eq_false_iff_not] at this;obtain ⟨⟨⟨z1,z2⟩,z3⟩,z4⟩:=this;exact ⟨by rw [z1];simp [hx],TZ.mp z2,z3,z4⟩
 ·have key:∀k,(IV scope X.env).names.lookup x=some k->(k=.cell∨k=.free)->(x,Hy)∈scope.names:=λk e hk=>by
   have:=h7 _ (Dz e)
   rcases hk with rfl | rfl
   ·simpa using this
   ·simpa using this
  rcases hx with e | e
  ·exact key _ e (.inl rfl)
  ·exact key _ e (.inr rfl)
structure Dfn (K:AC) (mg:Str->Option AB) (x qual:Str) (st:C2) (ps:List Str) where
 f:AI
 fd:De
 F:Fun K x qual st f fd
 b:Binds K fd ps []
 m:mg x=some (.ref f)
theorem Dfn.kp {K:AC} {mg:Str->Option AB} {x qual:Str} {st:C2} {ps:List Str} (d:Dfn K mg x qual st ps):Fg K (.ref d.f)=true:=d.F.kp
structure Mtd (K:AC) (x qual:Str) (st:C2) (ps:List Str) where
 f:AI
 fd:De
 F:Fun K x qual st f fd
 b:Binds K fd ps []
structure Own (K:AC) (mg:Str->Option AB) (x:Str) (C f:AI):Prop where
 cl:Cls K C
 mk':Mk K C f
 m:mg x=some (.ref C)
structure Xcl (K:AC) (mg:Str->Option AB) (x:Str) (C:AI):Prop where
 xc:XCl K C
 m:mg x=some (.ref C)
abbrev wN:Nat:=1000000
structure XIs (K:AC) (C:AI):Prop where
 cl:(K9 K C).isSome=true
 ga:CS K (.ref C) "__getattribute__" = some (some (.builtin "BaseException.__getattribute__"))
 gn:CS K (.ref C) "__getattr__" = some none
 ca:CS K (.ref C) "__class__" = some (some (.builtin "object.__class__"))
 sp:WD K (.builtin "object.__class__") "__get__" = some (some (.builtin "getset_descriptor.__get__"))
 tk:Yl K (.builtin "object.__class__")=some true
 ob:K0 K C (.type "object")=some true
 be:K0 K C (.type "BaseException")=some true
theorem UZ.inst {h:BP} {a C:AI} {o:Obj} (g:h.get? a=some o) (x:UZ o C):Y3 h a o C none:=by
 obtain ⟨x1,x2,vs,x3⟩:=x;refine ⟨g,x1,?_,?_⟩
 ·unfold PySem.W.notCls;rw [x3]
 ·rw [x2];trivial
section
variable {prog:Al} {w:A2} {A:Ay} {E:AB->AE->Prop} {s:AE} {K:AC} {a C:AI} {o:Obj}
theorem YN {M:TB} {nameV:AB} {Q:Unit->AE->Prop} (c:XIs K C) (X:K.In s.heap) (g:s.heap.get? a=some o) (x:UZ o C) (h:Q () s):AZ M A (RZ "BaseException.__getattribute__" ⟨[.ref a,nameV],[]⟩) Q E s:=by
 have I:=x.inst g;obtain ⟨hh,gg,d,t,os⟩:=s;have L0:=I.type (M:=M);have LI:PySem.W.Looks M hh (isInstance (.ref a) (.type "BaseException")) true:=L0.andThen (PySem.W.looks_mroIn X c.be)
 have k1:builtinKind "BaseException.__getattribute__" = some .slot:=by decide +kernel
 have k2:splitId "BaseException.__getattribute__" = some ("BaseException", "__getattribute__"):=by decide +kernel
 have k3:=PySem.F.args_bexc_ga (.ref a) nameV;simp only [RZ,k1,k2];refine AA (LI.at ?_)
 repeat (any_goals (first | assumption | wp_step))
theorem YL {tk:Tok} {Q:Fin->AE->Prop} (c:XIs K C) (X:K.In s.heap) (g:s.heap.get? a=some o) (x:UZ o C) (h:Q (.done (.ret (.ref C))) s) :
  AZ (AR prog w) A (Builtin.«object.__getattribute__» ⟨[.ref a,.str "__class__" tk],[]⟩) Q E s:=by
 have I:=x.inst g;obtain ⟨hh,gg,d,t,os⟩:=s;have L0:=I.type (M:=AR prog w)
 have hf:Yn K C none "__class__" = some (.bind (.builtin "getset_descriptor.__get__") (.builtin "object.__class__")):=by
  obtain ⟨cd,hcd⟩:=Qd.mp c.cl;unfold Yn;rw [hcd,c.ca];simp only [AQ];rw [c.sp];simp only [AQ];rw [c.tk];rfl
 have L1:=PySem.W.looks_find (M:=AR prog w) X I hf;unfold Builtin.«object.__getattribute__»;refine AA (AD ?_);dsimp only;refine AA (AD (AA (L0.at (AA (L1.at ?_)))));dsimp only;unfold bz;dsimp only;refine AA (Bh (LO (PySem.W.class_get X I c.ob ?_)));exact AD h
theorem YM {Q:Option AB->AE->Prop} (c:XIs K C) (X:K.In s.heap) (g:s.heap.get? a=some o) (x:UZ o C) (h:Q (some (.ref C)) { s with toks:=s.toks+1 }):AZ (AR prog w) A (getAttr? (.ref a) "__class__") Q E s:=by
 have I:=x.inst g;obtain ⟨hh,gg,d,t,os⟩:=s;have L0:=I.type (M:=AR prog w);have L1:=J3 (M:=AR prog w) X c.ga;have L2:=J3 (M:=AR prog w) X c.gn;unfold getAttr? getAttrBy? getAttrBy;refine AA (wpAny_mkText (AA (DR (Bh (AA (L0.at (AA (L1.at ?_))))))))
 have hx:(onTheHeap (Av C)&&fY "BaseException.__getattribute__"==fY "object.__getattribute__")=false:=by show (true&&_)=false;decide +kernel
 dsimp only;rw [qY (by rw [hx];exact AO)];unfold getAttrByItsOwn hookBefore;refine AA ?_;rw [qX (show onTheHeap (Av C)=true from rfl)];refine L2.at (AA (DR (Bh ?_)));unfold callGetattribute;rw [qY (by simp)];unfold boundAndCalled;refine AA (Jx (OY.ga.bind (.ref a)) ?_);refine LO (Mw OY.ga.plain PySem.F.entry_bexc_ga (YN c X g x (YL c X g x ?_)));exact AD (AD h)
theorem ae (c:XIs K C):PySem.W.KitX K (.ref a) (.ref C) (λh=>∃o,h.get? a=some o/\UZ o C) where
 ty:=λM h X ⟨o,g,x⟩=>(x.inst g).type
 it:=λM h X _=>by
  have z:=c.cl;unfold K9 at z;split at z
  ·rename_i hk
   intro A' Q' E' s' k q;unfold isType loadHead;exact AA (wpAny_loadPart (k _ _ (X _ _ hk)) (AD q))
  ·cases z
 ne:=λh tp dd its n sl X htp=>by
  refine Bool.eq_false_iff.mpr λq=>?_
  have e:C=tp:=Av.inj (beq_iff_eq.mp q);subst e;have z:=c.cl;unfold K9 at z;split at z
  ·rename_i hk
   have y:=(X _ _ hk).symm.trans htp;cases y
  ·cases z
 ca:=λX ⟨o,g,x⟩ k=>YM c X g x k
end
def rIs (K:AC) (c:V) (cv:AB):List V->Hp->VK->Prop:=λxs H Q=>(∃x t b,xs=[x,c]/\Mj K H x t/\Dp K t cv=some b/\Q (.bl b) H) ∨
 ∃a o u C b,xs=[.ref a,c]/\H a=some (.frz o u)/\UZ o C/\XIs K C/\Dp K (.ref C) cv=some b/\Q (.bl b) H
section
variable {X:Cx} {E:EW} {e ce:Expr} {p pos:Pos} {m:ME} {c:V} {cv:AB} {tab:String->Option Bool} {tabC:AI->Option Bool}
theorem fI (hv:∀u,RelV c u->u=cv):Hq X (.builtin "isinstance") (rIs X.K c cv):=by
 intro pins s σ H xs us Q I r h
 rcases h with ⟨x,t,b,rfl,ty,e,q⟩ | ⟨a,o,u,C,b,rfl,ha,xo,xc,e,q⟩
 ·obtain ⟨v,w,rfl,r1,r2⟩:=vals2 r
  rw [hv w r2]
  exact X6 I r1 ty e λtk=>⟨.bl b,H,I.tok tk,rfl,q⟩
 ·obtain ⟨v,w,rfl,r1,r2⟩:=vals2 r
  rw [hv w r2];cases (show v=Av a from r1);obtain ⟨g,_⟩:=(show Ca X.prog X.w H s.heap a (.frz o u) from I.hok a _ ha)
  exact B1 (ae xc) I.kIn ⟨o,g,xo⟩ e (λz=>nomatch z) λtk=>⟨.bl b,H,I.tok tk,rfl,q⟩
theorem lZ (hv:∀u,RelV c u->u=cv) (ht:∀T b,tab T=some b->Dp X.K (.type T) cv=some b) (hC:∀C b,tabC C=some b->XIs X.K C/\Dp X.K (.ref C) cv=some b)
  (hg:Gl X "isinstance") (hm:X.mg "isinstance" = none) (h:GE X E e m) (hce:PE X ce (tC c))
  (he:AU [e,ce] X.env=(false,Bg e X.env) :: AU [ce] X.env:=by rfl) (he2:AU [ce] X.env=(false,Bg ce X.env) :: AU [] X.env:=by rfl) (hpl:(C1 pos (AU [ce] X.env)).any (·.1)=false:=by rfl) :
  GE X E (.Call (.Name "isinstance" p) [e,ce] [] pos) (mIs tab tabC m):=
 (Il (fI hv) hg hm mI (D7 h (D7 hce Fm he2) he) (by decide) (by decide) he hpl).imp λσ H Q ⟨ρ,l,S,hl,hs,hm⟩=>by
 refine ⟨ρ,l,S,hl,hs,hm.seq λd S1 hm ρ1 H1 x l1 s1 r1=>?_⟩
 have plainD:∀(z:Bn X.K (λc=>E c σ) ρ H (match tyD d S1 with | some T=>(match tab T with | some b=>Res.ok (D.bl b) S1 | none=>.bad) | none=>.bad) λd S'=>∀ρ' H' x,Le X.K ρ H ρ' H'->Bw X.K ρ' S' H'->Bo X.K ρ' H' d x->Q x H'),rIs X.K c cv [x,c] H1 Q:=λhm=>by
  cases hq:tyD d S1 with
  | none=>rw [hq] at hm;exact hm.elim
  | some T=>
   rw [hq] at hm;dsimp only at hm
   cases hb:tab T with
   | none=>rw [hb] at hm;exact hm.elim
   | some b=>
    rw [hb] at hm;exact .inl ⟨x,_,b,rfl,g7 s1 r1 hq,ht T b hb,hm ρ1 H1 _ l1 s1 (.bl _)⟩
 cases d with
 | exc C=>
  dsimp only at hm
  cases hb:tabC C with
  | none=>rw [hb] at hm;exact hm.elim
  | some b=>
   rw [hb] at hm
   cases r1 with
   | exc g x=>exact .inr ⟨_,_,_,C,b,rfl,g,x,(hC C b hb).1,(hC C b hb).2,hm ρ1 H1 _ l1 s1 (.bl _)⟩
 | _=>exact plainD hm
end
end L2
namespace Srt
open PySem PyProof.Rows
structure Ord (U:Ak->Prop) (lt:Ak->Ak->Bool):Prop where
 asym:∀x y,U x->U y->lt x y=true->lt y x=false
 ntr:∀x y z,U x->U y->U z->lt y x=false->lt z y=false->lt z x=false
theorem Ord.irr {U:Ak->Prop} {lt:Ak->Ak->Bool} (o:Ord U lt) {x:Ak} (h:U x):lt x x=false:=by
 cases e:lt x x with
 | false=>rfl
 | true=>exact (o.asym x x h h e).symm.trans e |>.symm▸rfl
def ix (xs:Array Ak) (i:Nat):Ak:=xs.getD i (.none,.none)
theorem Ir {xs ys:Array Ak} {i j:Nat} (h:xs[i]?=ys[j]?):ix xs i=ix ys j:=by
 unfold ix;rw [EY,EY,h]
theorem C6 {xs:Array Ak} {i:Nat} (h:i < xs.size):xs[i]?=some (ix xs i):=by
 unfold ix;rw [EY,getElem?_pos xs i h];rfl
theorem X5 {xs:Array Ak} {src d:Nat} (hs:src < xs.size) (hd:d<=src) (k:Nat) :
  ix (gY xs src d) k=if k=src - d then ix xs src else if src - d < k/\k<=src then ix xs (k - 1) else ix xs k:=by
 have e:=getElem?_bubble hs d hd k;split
 ·rename_i h;rw [qX h] at e;exact Ir e
 ·rename_i h
  rw [qY h] at e;split
  ·rename_i h2;rw [qX h2] at e;exact Ir e
  ·rename_i h2;rw [qY h2] at e;exact Ir e
theorem Dv {xs:Array Ak} {i j:Nat} (hj:j<=xs.size) (k:Nat) :
  ix (JA xs i j ((j - i) / 2)) k=if i<=k/\k < j then ix xs (i+j - 1 - k) else ix xs k:=by
 have e:=getElem?_mirror_all (i:=i) hj k;split
 ·rename_i h;rw [qX h] at e;exact Ir e
 ·rename_i h;rw [qY h] at e;exact Ir e
section
variable {prog:Al} {w:A2} {A:Ay} {E:AB->AE->Prop} {s:AE} {a₀:Array Ak} {κ:FK} {lt:Ak->Ak->Bool}
def Jo (prog:Al) (w:A2) (A:Ay) (s:AE) (a₀:Array Ak) (κ:FK) (lt:Ak->Ak->Bool):Prop:=
 ∀x y,x∈a₀->y∈a₀->∀(Q:Bool->AE->Prop) (E:AB->AE->Prop),Q (lt x y) s->AZ (AR prog w) A (keyLt' κ x.1 y.1) Q E s
structure Good (a₀:Array Ak) (κ:FK) (st:BA):Prop where
 perm:(AY st).Perm a₀
 kind:kindOf st=κ
 failed:Hu st=none
theorem Good.size {st:BA} (g:Good a₀ κ st):(AY st).size=a₀.size:=g.perm.size_eq
theorem Good.mem {st:BA} (g:Good a₀ κ st) {i:Nat} (h:i < a₀.size):ix (AY st) i∈a₀:=by
 have h':i < (AY st).size:=by rw [g.size];exact h
 have e:=C6 h';have:=Cc e;exact BK.mp ((Er.mp g.perm).mem_iff.mp (BK.mpr this))
theorem Good.setArr {st:BA} (g:Good a₀ κ st) {xs:Array Ak} (hp:xs.Perm (AY st)):Good a₀ κ (setArr st xs):=⟨hp.trans g.perm,g.kind,g.failed⟩
theorem Od {st:BA} {x y:Ak} {Q:Option Bool->BA->Prop} (C:Jo prog w A s a₀ κ lt) (g:Good a₀ κ st) (hx:x∈a₀) (hy:y∈a₀) (h:Q (some (lt x y)) st):wpS (AR prog w) A E s (lt' x y) Q st:=by
 rw [lt'_eq];refine AL (G6 ?_);rw [g.kind];refine AL (wpS_lift (DR ?_));refine C x y hx hy _ _ ⟨rfl,?_⟩;exact AN h
theorem M2 {st:BA} {i j:Nat} {Q:Option Bool->BA->Prop} (C:Jo prog w A s a₀ κ lt) (g:Good a₀ κ st) (hi:i < a₀.size) (hj:j < a₀.size) (h:Q (some (lt (ix (AY st) i) (ix (AY st) j))) st) :
  wpS (AR prog w) A E s (jn i j) Q st:=by
 rw [ltAt'_eq];refine AL (G6 ?_);show wpS _ _ _ _ (do let x <-elem' (AY st) i;let y <-elem' (AY st) j;lt' x y) Q st;rw [cG,cG,C6 (by rw [g.size];exact hi),C6 (by rw [g.size];exact hj)];exact AL (AN (AL (AN (Od C g (g.mem hi) (g.mem hj) h))))
def Up (lt:Ak->Ak->Bool) (xs:Array Ak) (lo hi:Nat):Prop:=∀i j,lo<=i->i<=j->j < hi->lt (ix xs j) (ix xs i)=false
def Dn (lt:Ak->Ak->Bool) (xs:Array Ak) (lo hi:Nat):Prop:=∀i j,lo<=i->i<=j->j < hi->lt (ix xs i) (ix xs j)=false
def Out (xs ys:Array Ak) (lo hi:Nat):Prop:=∀i,(i < lo∨hi<=i)->ix ys i=ix xs i
theorem Out.refl {xs:Array Ak} {lo hi:Nat}:Out xs xs lo hi:=λ_ _=>rfl
theorem Out.trans {xs ys zs:Array Ak} {lo hi:Nat} (a:Out xs ys lo hi) (b:Out ys zs lo hi):Out xs zs lo hi:=λi h=>(b i h).trans (a i h)
theorem Up.out {xs ys:Array Ak} {lo hi l h:Nat} (u:Up lt xs l h) (o:Out xs ys lo hi) (d:h<=lo∨hi<=l):Up lt ys l h:=λi j h1 h2 h3=>by
 rw [o i (by lia),o j (by lia)];exact u i j h1 h2 h3
theorem Up.grow {st:BA} (O:Ord (·∈a₀) lt) (g:Good a₀ κ st) {lo hi:Nat} (hs:hi < a₀.size) (u:Up lt (AY st) lo hi) (h0:lo < hi) (h:lt (ix (AY st) hi) (ix (AY st) (hi - 1))=false):Up lt (AY st) lo (hi+1):=λi j h1 h2 h3=>by
 by_cases hj:j < hi
 ·exact u i j h1 h2 hj
 ·have:j=hi:=by lia
  subst this
  by_cases hi':i=j
  ·subst hi';exact O.irr (g.mem hs)
  ·exact O.ntr _ _ _ (g.mem (by lia)) (g.mem (show j - 1 < _ by omega)) (g.mem hs) (u i (j - 1) h1 (by lia) (by lia)) h
theorem wpS_binarySort {st:BA} {lo n ok:Nat} {Q:Bool->BA->Prop} (C:Jo prog w A s a₀ κ lt) (O:Ord (·∈a₀) lt) (hn:lo+n<=a₀.size) (hok:ok<=n) (g:Good a₀ κ st) (u:Up lt (AY st) lo (lo+ok))
  (h:∀st',Good a₀ κ st'->Up lt (AY st') lo (lo+n)->Out (AY st) (AY st') lo (lo+n)->Aa st'=Aa st->Q true st'):wpS (AR prog w) A E s (binarySort' lo n ok) Q st:=by
 rw [binarySort'_eq]
 refine AL (Cz (Bs (I:=λk c st'=>c=(none,())/\Good a₀ κ st'/\Up lt (AY st') lo (lo+min k n)/\Out (AY st) (AY st') lo (lo+n)/\Aa st'=Aa st)
  (Q:=λc st'=>c=(none,())/\Good a₀ κ st'/\Up lt (AY st') lo (lo+n)/\Out (AY st) (AY st') lo (lo+n)/\Aa st'=Aa st) ?step ?fin ?init) ?post)
 case post=>
  rintro c st' ⟨rfl,g',u',o',p'⟩;exact AN (h st' g' u' o' p')
 case init=>
  refine ⟨rfl,g,λi j h1 h2 h3=>?_,.refl,rfl⟩
  by_cases h0:ok=0
  ·have:i=j:=by lia
   subst this;exact O.irr (g.mem (by omega))
  ·exact u i j h1 h2 (by lia)
 case fin=>
  rintro c st' ⟨hc,g',u',o',p'⟩;refine ⟨hc,g',?_,o',p'⟩;rwa [show min (max (max ok 1) n) n=n by lia] at u'
 case step=>
  rintro k c st1 hak hkn ⟨rfl,g1,u1,o1,p1⟩;rw [show min k n=k by lia] at u1
  have hk:lo+k < a₀.size:=by lia
  refine AL (Cz (Bs (I:=λx c st2=>st2=st1/\∃l r,c=(none,l,r)/\l<=r/\r<=k/\r - l<=k - x /\
    (∀i,i < l->lt (ix (AY st1) (lo+k)) (ix (AY st1) (lo+i))=false)/\(∀i,r<=i->i < k->lt (ix (AY st1) (lo+k)) (ix (AY st1) (lo+i))=true))
   (Q:=λc st2=>st2=st1/\∃l r,c=(none,l,r)/\l<=k /\
    (∀i,i < l->lt (ix (AY st1) (lo+k)) (ix (AY st1) (lo+i))=false)/\(∀i,l<=i->i < k->lt (ix (AY st1) (lo+k)) (ix (AY st1) (lo+i))=true)) ?istep ?ifin ?iinit) ?ipost)
  case iinit=>exact ⟨rfl,0,k,rfl,by lia,by lia,by lia,λi hi=>by lia,λi h1 h2=>by lia⟩
  case ifin=>
   rintro c st2 ⟨rfl,l,r,rfl,hlr,hrk,hm,hlo,hhi⟩
   have:l=r:=by lia
   subst this;exact ⟨rfl,l,l,rfl,hrk,hlo,hhi⟩
  case istep=>
   rintro x c st2 _ hxk ⟨rfl,l,r,rfl,hlr,hrk,hm,hlo,hhi⟩;dsimp only
   by_cases hge:l ≥ r
   ·rw [qX hge]
    have:l=r:=by lia
    subst this;exact AN ⟨rfl,l,l,rfl,hrk,hlo,hhi⟩
   ·rw [qY hge]
    refine AL (M2 C g1 hk (by lia) ?_)
    cases hless:lt (ix (AY st2) (lo+k)) (ix (AY st2) (lo+(l+r) / 2)) with
    | true=>
     refine AN ⟨rfl,l,(l+r) / 2,rfl,by lia,by lia,by omega,hlo,λi h1 h2=>?_⟩
     cases e:lt (ix (AY st2) (lo+k)) (ix (AY st2) (lo+i)) with
     | true=>rfl
     | false=>
      have:=O.ntr _ _ _ (g1.mem (show lo+(l+r) / 2 < _ by lia)) (g1.mem (show lo+i < _ by lia)) (g1.mem hk) (u1 (lo+(l+r) / 2) (lo+i) (by lia) (by lia) (by lia)) e;rw [hless] at this;cases this
    | false=>
     refine AN ⟨rfl,(l+r) / 2+1,r,rfl,by lia,by omega,by omega,λi h1=>?_,hhi⟩;exact O.ntr _ _ _ (g1.mem (show lo+i < _ by lia)) (g1.mem (show lo+(l+r) / 2 < _ by lia)) (g1.mem hk) (u1 (lo+i) (lo+(l+r) / 2) (by lia) (by lia) (by lia)) hless
  case ipost=>
   rintro c st2 ⟨rfl,l,r,rfl,hlk,hlo,hhi⟩;show wpS _ _ _ _ (do moveDown' (lo+k) (lo+l);pure (Gy (none,()))) _ _;rw [moveDown'_eq]
   have hks:lo+k < (AY st2).size:=by rw [g1.size];exact hk
   have e:∀i,ix (gY (AY st2) (lo+k) (lo+k - (lo+l))) i=if i=lo+l then ix (AY st2) (lo+k) else if lo+l < i/\i<=lo+k then ix (AY st2) (i - 1) else ix (AY st2) i:=λi=>by
    rw [X5 hks (by lia),show lo+k - (lo+k - (lo+l))=lo+l by lia]
   refine AL (DG (AN ⟨rfl,g1.setArr (bubble_perm _ _ _),?_,o1.trans λi hi=>?_,p1⟩))
   ·rw [show min (k+1) n=k+1 by lia]
    intro i j h1 h2 h3;show lt (ix (gY (AY st2) (lo+k) (lo+k - (lo+l))) j) (ix (gY (AY st2) (lo+k) (lo+k - (lo+l))) i)=false;rw [e,e]
    repeat' split
    all_goals first
     | (exfalso;lia)
     | exact O.irr (g1.mem hk)
     | (have q:=hlo (i - lo) (by lia);rw [show lo+(i - lo)=i by lia] at q;exact q)
     | (have q:=hhi (j - 1 - lo) (by omega) (by omega);rw [show lo+(j - 1 - lo)=j - 1 by lia] at q;exact O.asym _ _ (g1.mem hk) (g1.mem (by lia)) q)
     | exact u1 _ _ (by omega) (by omega) (by lia)
   ·show ix (gY (AY st2) (lo+k) (lo+k - (lo+l))) i=ix (AY st2) i
    rw [e,qY (by lia),qY (by lia)]
end
section
variable {prog:Al} {w:A2} {A:Ay} {E:AB->AE->Prop} {s:AE} {a₀:Array Ak} {κ:FK} {lt:Ak->Ak->Bool}
theorem Ic {σ:Type} {M:TB} {r:String} {Q:PUnit->σ->Prop} {st:σ} (h:Q ⟨⟩ st):wpS M A E s (liftM (rule r):StateT σ Sem PUnit) Q st:=wpS_lift (Ga ⟨rfl,h⟩)
theorem Dn.flip {xs:Array Ak} {lo hi:Nat} (hs:hi<=xs.size) (d:Dn lt xs lo hi):Up lt (JA xs lo hi ((hi - lo) / 2)) lo hi:=λi j h1 h2 h3=>by
 rw [Dv hs,Dv hs,qX (by lia),qX (by lia)];exact d _ _ (by omega) (by omega) (by omega)
theorem Dn.part {xs:Array Ak} {lo hi m:Nat} (hs:hi<=xs.size) (hm:lo<=m) (hmh:m<=hi) (d:Dn lt xs lo hi) (e:Up lt xs m hi):Dn lt (JA xs m hi ((hi - m) / 2)) lo hi:=λi j h1 h2 h3=>by
 rw [Dv hs,Dv hs]
 by_cases hi':m<=i
 ·rw [qX (by lia),qX (by lia)]
  exact e _ _ (by omega) (by omega) (by omega)
 ·rw [qY (by lia)]
  split
  ·exact d _ _ (by omega) (by lia) (by omega)
  ·exact d _ _ (by omega) (by omega) (by omega)
theorem JP {xs:Array Ak} {i j lo hi:Nat} (hj:j<=xs.size) (h1:lo<=i) (h2:j<=hi):Out xs (JA xs i j ((j - i) / 2)) lo hi:=λk hk=>by
 rw [Dv hj,qY (by lia)]
theorem Dn.grow {st:BA} (O:Ord (·∈a₀) lt) (g:Good a₀ κ st) {lo hi:Nat} (hs:hi < a₀.size) (u:Dn lt (AY st) lo hi) (h0:lo < hi) (h:lt (ix (AY st) (hi - 1)) (ix (AY st) hi)=false):Dn lt (AY st) lo (hi+1):=λi j h1 h2 h3=>by
 by_cases hj:j < hi
 ·exact u i j h1 h2 hj
 ·have:j=hi:=by lia
  subst this
  by_cases hi':i=j
  ·subst hi';exact O.irr (g.mem hs)
  ·exact O.ntr _ _ _ (g.mem hs) (g.mem (show j - 1 < _ by omega)) (g.mem (by lia)) h (u i (j - 1) h1 (by lia) (by lia))
theorem U8 (O:Ord (·∈a₀) lt) {st:BA} (g:Good a₀ κ st) {lo:Nat} (h:lo < a₀.size):Up lt (AY st) lo (lo+1):=λi j h1 h2 h3=>by
 have e1:i=lo:=by lia
 have e2:j=lo:=by lia
 rw [e1,e2];exact O.irr (g.mem h)
theorem cV {st:BA} {lo nrem n:Nat} {Q:Option Nat->BA->Prop} (C:Jo prog w A s a₀ κ lt) (O:Ord (·∈a₀) lt) (h1:1<=n) (h2:n<=nrem) (hn:lo+nrem<=a₀.size) (g:Good a₀ κ st) (u:Up lt (AY st) lo (lo+n))
  (h:∀n,1<=n->n<=nrem->Up lt (AY st) lo (lo+n)->Q (some n) st):wpS (AR prog w) A E s (do
   let mut n:=n
   for _ in [n:nrem] do
    let some smaller <-jn (lo+n) (lo+n - 1) | return none
    if smaller then break
    n:=n+1
   return some n) Q st:=by
 refine AL (Cz (Bs (I:=λx c st'=>st'=st/\c=(none,x)/\Up lt (AY st) lo (lo+x))
  (Q:=λc st'=>st'=st/\∃n,c=(none,n)/\1<=n/\n<=nrem/\Up lt (AY st) lo (lo+n)) ?step ?fin ⟨rfl,rfl,u⟩) ?post)
 case fin=>
  rintro c st' ⟨rfl,rfl,u⟩
  have e:max n nrem=nrem:=by lia
  rw [e] at u ⊢;exact ⟨rfl,nrem,rfl,by lia,AM _,u⟩
 case step=>
  rintro x c st' hx1 hx2 ⟨rfl,rfl,u⟩;dsimp only;refine AL (M2 C g (by lia) (by lia) ?_)
  cases hq:lt (ix (AY st') (lo+x)) (ix (AY st') (lo+x - 1)) with
  | true=>exact AN ⟨rfl,x,rfl,by lia,by lia,u⟩
  | false=>exact AN ⟨rfl,rfl,Up.grow (hi:=lo+x) O g (by lia) u (by lia) hq⟩
 case post=>
  rintro c st' ⟨rfl,n,rfl,hn1,hn2,u⟩;exact AN (h n hn1 hn2 u)
theorem wpS_countRun {st:BA} {lo nrem:Nat} {Q:Option Nat->BA->Prop} (C:Jo prog w A s a₀ κ lt) (O:Ord (·∈a₀) lt) (h1:1<=nrem) (hn:lo+nrem<=a₀.size) (g:Good a₀ κ st)
  (h:∀st' n,Good a₀ κ st'->1<=n->n<=nrem->Up lt (AY st') lo (lo+n)->Out (AY st) (AY st') lo (lo+nrem)->Aa st'=Aa st->Q (some n) st'):wpS (AR prog w) A E s (countRun' lo nrem) Q st:=by
 rw [countRun'_eq]
 refine AL (Cz (Bs (I:=λx c st'=>st'=st/\c=(none,x)/\Up lt (AY st) lo (lo+x))
  (Q:=λc st'=>st'=st/\∃n,c=(none,n)/\1<=n/\n<=nrem/\Up lt (AY st) lo (lo+n)/\(n=nrem∨lt (ix (AY st) (lo+n)) (ix (AY st) (lo+n - 1))=true)) ?step ?fin ?init) ?post)
 case init=>
  refine ⟨rfl,rfl,λi j a1 a2 a3=>?_⟩
  have:i=j:=by lia
  subst this;exact O.irr (g.mem (by lia))
 case fin=>
  rintro c st' ⟨rfl,rfl,u⟩
  have e:max 1 nrem=nrem:=by lia
  rw [e] at u ⊢;exact ⟨rfl,nrem,rfl,h1,AM _,u,.inl rfl⟩
 case step=>
  rintro x c st' hx1 hx2 ⟨rfl,rfl,u⟩;dsimp only;refine AL (M2 C g (by lia) (by lia) ?_)
  cases hq:lt (ix (AY st') (lo+x)) (ix (AY st') (lo+x - 1)) with
  | true=>exact AN ⟨rfl,x,rfl,hx1,by lia,u,.inr hq⟩
  | false=>exact AN ⟨rfl,rfl,Up.grow (hi:=lo+x) O g (by lia) u (by lia) hq⟩
 case post=>
  rintro c st' ⟨rfl,n,rfl,hn1,hn2,u,hd⟩;dsimp only
  by_cases hnn:n=nrem
  ·rw [qX (by simpa using hnn)]
   exact AN (h st' n g hn1 hn2 u .refl rfl)
  ·rw [qY (by simpa using hnn)]
   have hd':=hd.resolve_left hnn
   have desc:∀(st1:BA),Good a₀ κ st1->Dn lt (AY st1) lo (lo+(n+1))->Out (AY st') (AY st1) lo (lo+nrem)->Aa st1=Aa st' ->
     wpS (AR prog w) A E s (do
      liftM (rule "list.sort.descending-run")
      let mut n:=n+1
      let mut neq:=0
      for _ in [n:nrem] do
       let some smaller <-jn (lo+n) (lo+n - 1) | return none
       if smaller then
        if neq > 0 then N9 (lo+n - (neq+1)) (lo+n)
        neq:=0
       else
        let some larger <-jn (lo+n - 1) (lo+n) | return none
        if larger then break
        neq:=neq+1
       n:=n+1
      if neq > 0 then N9 (lo+n - (neq+1)) (lo+n)
      N9 lo (lo+n)
      for _ in [n:nrem] do
       let some smaller <-jn (lo+n) (lo+n - 1) | return none
       if smaller then break
       n:=n+1
      return some n) Q st1:=by
    intro st1 g1 d1 o1 p1;refine AL (Ic ?_)
    refine AL (Cz (Bs (I:=λx c st2=>Good a₀ κ st2/\∃q,c=(none,x,q)/\q+1<=x/\Dn lt (AY st2) lo (lo+x)/\Up lt (AY st2) (lo+x - (q+1)) (lo+x)/\Out (AY st') (AY st2) lo (lo+nrem)/\Aa st2=Aa st')
     (Q:=λc st2=>Good a₀ κ st2/\∃n q,c=(none,n,q)/\n<=nrem/\q+1<=n/\Dn lt (AY st2) lo (lo+n)/\Up lt (AY st2) (lo+n - (q+1)) (lo+n)/\Out (AY st') (AY st2) lo (lo+nrem)/\Aa st2=Aa st') ?dstep ?dfin ?dinit) ?dpost)
    case dinit=>
     refine ⟨g1,0,rfl,by lia,d1,?_,o1,p1⟩;have:=U8 O g1 (lo:=lo+n) (by lia);rwa [show lo+(n+1) - (0+1)=lo+n by lia,show lo+(n+1)=lo+n+1 by lia]
    case dfin=>
     rintro c st2 ⟨g2,q,rfl,hq,d2,u2,o2,p2⟩
     have e:max (n+1) nrem=nrem:=by lia
     rw [e] at d2 u2 hq ⊢;exact ⟨g2,nrem,q,rfl,AM _,hq,d2,u2,o2,p2⟩
    case dstep=>
     rintro x c st2 hx1 hx2 ⟨g2,q,rfl,hq,d2,u2,o2,p2⟩;dsimp only;refine AL (M2 C g2 (by lia) (by lia) ?_)
     cases hs:lt (ix (AY st2) (lo+x)) (ix (AY st2) (lo+x - 1)) with
     | true=>
      dsimp only;rw [qX rfl];have hlt:=O.asym _ _ (g2.mem (show lo+x < _ by lia)) (g2.mem (show lo+x - 1 < _ by lia)) hs
      by_cases hq0:q > 0
      ·rw [qX hq0,Ku]
       have hsz:lo+x<=(AY st2).size:=by rw [g2.size];lia
       have g3:Good a₀ κ (setArr st2 (JA (AY st2) (lo+x - (q+1)) (lo+x) ((lo+x - (lo+x - (q+1))) / 2))):=g2.setArr (Sz _ _ _ _);have d3:=Dn.part (lt:=lt) (lo:=lo) hsz (show lo<=lo+x - (q+1) by lia) (by omega) d2 u2;refine AL (DG (AN ⟨g3,0,rfl,by lia,?_,?_,o2.trans (JP hsz (by lia) (by lia)),p2⟩))
       ·refine Dn.grow (hi:=lo+x) O g3 (by lia) d3 (by lia) ?_
        show lt (ix (JA (AY st2) (lo+x - (q+1)) (lo+x) ((lo+x - (lo+x - (q+1))) / 2)) (lo+x - 1)) (ix (JA (AY st2) (lo+x - (q+1)) (lo+x) ((lo+x - (lo+x - (q+1))) / 2)) (lo+x))=false;rw [Dv hsz,Dv hsz,qX (by omega),qY (by lia)];exact O.ntr _ _ _ (g2.mem (by lia)) (g2.mem (show lo+x - 1 < _ by lia)) (g2.mem (by omega)) hlt (d2 _ _ (by lia) (by omega) (by lia))
       ·have:=U8 O g3 (lo:=lo+x) (by lia)
        rwa [show lo+(x+1) - (0+1)=lo+x by lia,show lo+(x+1)=lo+x+1 by lia]
      ·rw [qY hq0]
       refine AN ⟨g2,0,rfl,by lia,Dn.grow (hi:=lo+x) O g2 (by lia) d2 (by lia) hlt,?_,o2,p2⟩;have:=U8 O g2 (lo:=lo+x) (by lia);rwa [show lo+(x+1) - (0+1)=lo+x by lia,show lo+(x+1)=lo+x+1 by lia]
     | false=>
      dsimp only;rw [qY AO];refine AL (M2 C g2 (by lia) (by lia) ?_)
      cases hl:lt (ix (AY st2) (lo+x - 1)) (ix (AY st2) (lo+x)) with
      | true=>exact AN ⟨g2,x,q,rfl,by lia,hq,d2,u2,o2,p2⟩
      | false=>
       refine AN ⟨g2,q+1,rfl,by lia,Dn.grow (hi:=lo+x) O g2 (by lia) d2 (by lia) hl,?_,o2,p2⟩;rw [show lo+(x+1) - (q+1+1)=lo+x - (q+1) by lia];exact Up.grow (hi:=lo+x) O g2 (by lia) u2 (by omega) hs
    case dpost=>
     rintro c st2 ⟨g2,m,q,rfl,hm,hq,d2,u2,o2,p2⟩;dsimp only
     have hsz:lo+m<=(AY st2).size:=by rw [g2.size];lia
     have last:∀st3,Good a₀ κ st3->Dn lt (AY st3) lo (lo+m)->Out (AY st') (AY st3) lo (lo+nrem)->Aa st3=Aa st'->∀(R:StateT BA Sem (Option Nat)),R=(do
        let mut n:=m
        for _ in [n:nrem] do
         let some smaller <-jn (lo+n) (lo+n - 1) | return none
         if smaller then break
         n:=n+1
        return some n)->wpS (AR prog w) A E s (do N9 lo (lo+m);R) Q st3:=by
      rintro st3 g3 d3 o3 p3 R rfl
      have hsz3:lo+m<=(AY st3).size:=by rw [g3.size];lia
      rw [Ku];refine AL (DG ?_);have g4:Good a₀ κ (setArr st3 (JA (AY st3) lo (lo+m) ((lo+m - lo) / 2))):=g3.setArr (Sz _ _ _ _)
      exact cV C O (by lia) hm hn g4 (Dn.flip hsz3 d3) λk k1 k2 k3=>h _ k g4 k1 k2 k3 (o3.trans (JP hsz3 (by lia) (by lia))) p3
     by_cases hq0:q > 0
     ·rw [qX hq0,Ku]
      refine AL (DG ?_);exact last _ (g2.setArr (Sz _ _ _ _)) (Dn.part hsz (by lia) (by omega) d2 u2) (o2.trans (JP hsz (by lia) (by lia))) p2 _ rfl
     ·rw [qY hq0]
      exact last _ g2 d2 o2 p2 _ rfl
   have hlt:=O.asym _ _ (g.mem (show lo+n < _ by lia)) (g.mem (show lo+n - 1 < _ by omega)) hd'
   by_cases hn0:n > 1
   ·rw [qX hn0]
    refine AL (M2 C g (by lia) (by omega) ?_)
    cases hr:lt (ix (AY st') lo) (ix (AY st') (lo+n - 1)) with
    | true=>exact AN (h st' n g hn1 hn2 u .refl rfl)
    | false=>
     dsimp only;rw [qY AO,Ku]
     have hsz:lo+n<=(AY st').size:=by rw [g.size];lia
     have g1:Good a₀ κ (setArr st' (JA (AY st') lo (lo+n) ((lo+n - lo) / 2))):=g.setArr (Sz _ _ _ _)
     have al:∀i j,lo<=i->i < lo+n->lo<=j->j < lo+n->lt (ix (AY st') i) (ix (AY st') j)=false:=λi j i1 i2 j1 j2=>by
      have q1:=u j (lo+n - 1) (by omega) (by lia) (by omega);have q2:=u lo i (by lia) (by omega) (by omega);exact O.ntr _ _ _ (g.mem (by lia)) (g.mem (show lo < _ by lia)) (g.mem (by lia)) (O.ntr _ _ _ (g.mem (by lia)) (g.mem (show lo+n - 1 < _ by lia)) (g.mem (by lia)) q1 hr) q2
     refine AL (DG ?_);refine desc _ g1 ?_ (JP hsz (by lia) (by lia)) rfl;refine Dn.grow (hi:=lo+n) O g1 (by lia) (λi j a1 a2 a3=>?_) (by lia) ?_
     ·show lt (ix (JA (AY st') lo (lo+n) ((lo+n - lo) / 2)) i) (ix (JA (AY st') lo (lo+n) ((lo+n - lo) / 2)) j)=false
      rw [Dv hsz,Dv hsz,qX (by lia),qX (by lia)];exact al _ _ (by omega) (by omega) (by omega) (by omega)
     ·show lt (ix (JA (AY st') lo (lo+n) ((lo+n - lo) / 2)) (lo+n - 1)) (ix (JA (AY st') lo (lo+n) ((lo+n - lo) / 2)) (lo+n))=false
      rw [Dv hsz,Dv hsz,qX (by omega),qY (by lia),show lo+(lo+n) - 1 - (lo+n - 1)=lo by omega];exact O.ntr _ _ _ (g.mem (by lia)) (g.mem (show lo+n - 1 < _ by lia)) (g.mem (by lia)) hlt hr
   ·rw [qY hn0]
    have e:n=1:=by lia
    subst e;refine desc _ g (Dn.grow (hi:=lo+1) O g (by lia) (λi j a1 a2 a3=>?_) (by lia) hlt) .refl rfl
    have e1:i=lo:=by lia
    have e2:j=lo:=by lia
    rw [e1,e2];exact O.irr (g.mem (by lia))
end
def lb:Bool->Ak->Array Ak->Nat->Nat->Nat->StateT BA Sem (Option Nat):=sortPriv% PySem.Builtin.gallop
section
variable {prog:Al} {w:A2} {A:Ay} {E:AB->AE->Prop} {s:AE} {a₀:Array Ak} {κ:FK} {lt:Ak->Ak->Bool}
abbrev BS:=Option (Option Nat)×Nat×Nat
theorem fK {st:BA} {p:Nat->Bool} {n lo hi:Nat} {F:Nat->BS->StateT BA Sem (ForInStep BS)} {T:BS->StateT BA Sem (Option Nat)} {Q:Option Nat->BA->Prop} (hlh:lo<=hi) (hhn:hi<=n)
  (hlo:∀i,i < lo->p i=true) (hhi:∀i,hi<=i->i < n->p i=false) (mono:∀i j,i<=j->j < n->p j=true->p i=true)
  (hF:∀x l h (R:ForInStep BS->BA->Prop),l<=h->h<=n->(l ≥ h->R (.done (none,l,h)) st)->(l < h->p (l+(h - l) / 2)=true->R (.yield (none,l+(h - l) / 2+1,h)) st)->(l < h->p (l+(h - l) / 2)=false->R (.yield (none,l,l+(h - l) / 2)) st) ->
   wpS (AR prog w) A E s (F x (none,l,h)) R st)
  (hT:∀l h,h<=n->(∀i,i < h->p i=true)->(∀i,h<=i->i < n->p i=false)->wpS (AR prog w) A E s (T (none,l,h)) Q st):wpS (AR prog w) A E s (forIn [0:n] (none,lo,hi) F >>= T) Q st:=by
 refine AL (Cz (Bs (I:=λx c st'=>st'=st/\∃l h,c=(none,l,h)/\l<=h/\h<=n/\h - l<=n - x/\(∀i,i < l->p i=true)/\(∀i,h<=i->i < n->p i=false))
  (Q:=λc st'=>st'=st/\∃l h,c=(none,l,h)/\h<=n/\(∀i,i < h->p i=true)/\(∀i,h<=i->i < n->p i=false)) ?step ?fin ⟨rfl,lo,hi,rfl,hlh,hhn,by lia,hlo,hhi⟩) ?post)
 case fin=>
  rintro c st' ⟨rfl,l,h,rfl,h1,h2,h3,h4,h5⟩
  have:l=h:=by lia
  subst this;exact ⟨rfl,l,l,rfl,h2,h4,h5⟩
 case step=>
  rintro x c st' _ hx ⟨rfl,l,h,rfl,h1,h2,h3,h4,h5⟩
  refine hF x l h _ h1 h2 (λhge=>?_) (λhlt hp=>?_) λhlt hp=>?_
  ·have:l=h:=by lia
   subst this;exact ⟨rfl,l,l,rfl,h2,h4,h5⟩
  ·exact ⟨rfl,_,_,rfl,by lia,h2,by omega,λi hi=>mono i (l+(h - l) / 2) (by lia) (by lia) hp,h5⟩
  ·refine ⟨rfl,_,_,rfl,by lia,by lia,by omega,h4,λi hi1 hi2=>?_⟩
   cases e:p i with
   | false=>rfl
   | true=>rw [mono _ i hi1 hi2 e] at hp;cases hp
 case post=>
  rintro c st' ⟨rfl,l,h,rfl,h2,h4,h5⟩;exact hT l h h2 h4 h5
theorem Wv {st:BA} {q:Nat->Bool} {n mx:Nat} {F:Nat->BS->StateT BA Sem (ForInStep BS)} {T:BS->StateT BA Sem (Option Nat)} {Q:Option Nat->BA->Prop} (hm:mx<=n) (q0:q 0=true)
  (hF:∀x a b (R:ForInStep BS->BA->Prop),a < b->(b ≥ mx->R (.done (none,a,b)) st)->(b < mx->q b=false->R (.done (none,a,b)) st)->(b < mx->q b=true->R (.yield (none,b,2 * b+1)) st)->wpS (AR prog w) A E s (F x (none,a,b)) R st)
  (hT:∀a b,a < b->q a=true->(a=0∨a < mx)->(b < mx->q b=false)->wpS (AR prog w) A E s (T (none,a,b)) Q st):wpS (AR prog w) A E s (forIn [0:n] (none,0,1) F >>= T) Q st:=by
 refine AL (Cz (Bs (I:=λx c st'=>st'=st/\∃a b,c=(none,a,b)/\a < b/\x+1<=b/\q a=true/\(a=0∨a < mx))
  (Q:=λc st'=>st'=st/\∃a b,c=(none,a,b)/\a < b/\q a=true/\(a=0∨a < mx)/\(b < mx->q b=false)) ?step ?fin ⟨rfl,0,1,rfl,by lia,by lia,q0,.inl rfl⟩) ?post)
 case fin=>
  rintro c st' ⟨rfl,a,b,rfl,h1,h2,h3,h4⟩;exact ⟨rfl,a,b,rfl,h1,h3,h4,λh=>by lia⟩
 case step=>
  rintro x c st' _ hx ⟨rfl,a,b,rfl,h1,h2,h3,h4⟩
  refine hF x a b _ h1 (λhge=>?_) (λhlt hp=>?_) λhlt hp=>?_
  ·exact ⟨rfl,a,b,rfl,h1,h3,h4,λh=>by lia⟩
  ·exact ⟨rfl,a,b,rfl,h1,h3,h4,λ_=>hp⟩
  ·exact ⟨rfl,b,2 * b+1,rfl,by lia,by lia,hp,.inr hlt⟩
 case post=>
  rintro c st' ⟨rfl,a,b,rfl,h1,h3,h4,h5⟩;exact hT a b h1 h3 h4 h5
theorem Eh {st:BA} {left:Bool} {key:Ak} {arr:Array Ak} {base n hint:Nat} {Q:Option Nat->BA->Prop} (C:Jo prog w A s a₀ κ lt) (g:Good a₀ κ st) (p:Nat->Bool)
  (hkey:key∈a₀) (harr:∀i,i < n->base+i < arr.size/\ix arr (base+i)∈a₀) (hp:∀i,i < n->p i=if left=true then lt (ix arr (base+i)) key else !lt key (ix arr (base+i)))
  (mono:∀i j,i<=j->j < n->p j=true->p i=true) (hh:hint < n)
  (h:∀k,k<=n->(∀i,i < k->p i=true)->(∀i,k<=i->i < n->p i=false)->Q (some k) st):wpS (AR prog w) A E s (lb left key arr base n hint) Q st:=by
 have bey:∀i,i < n->∀R:Option Bool->BA->Prop,R (some (p i)) st->wpS (AR prog w) A E s (do let x <-elem' arr (base+i);if left=true then lt' x key else do let y <-lt' key x;pure (y.map (!·))) R st:=by
  intro i hi R hR;obtain ⟨h1,h2⟩:=harr i hi;rw [cG,C6 h1];refine AL (AN ?_);rw [hp i hi] at hR
  cases left with
  | true=>exact Od C g h2 hkey hR
  | false=>exact AL (Od C g hkey h2 (AN hR))
 refine (AL ?_:wpS _ _ _ _ (lb left key arr base n hint) Q st);refine bey hint hh _ ?_
 have fin:∀(lo hi:Nat) {F:Nat->BS->StateT BA Sem (ForInStep BS)} {T:BS->StateT BA Sem (Option Nat)},lo<=hi->hi<=n->(∀i,i < lo->p i=true)->(∀i,hi<=i->i < n->p i=false) ->
   (∀x l h' (R:ForInStep BS->BA->Prop),l<=h'->h'<=n->(l ≥ h'->R (.done (none,l,h')) st)->(l < h'->p (l+(h' - l) / 2)=true->R (.yield (none,l+(h' - l) / 2+1,h')) st)->(l < h'->p (l+(h' - l) / 2)=false->R (.yield (none,l,l+(h' - l) / 2)) st) ->
    wpS (AR prog w) A E s (F x (none,l,h')) R st)->(∀l h',T (none,l,h')=pure (some h'))->wpS (AR prog w) A E s (forIn [0:n] (none,lo,hi) F >>= T) Q st:=λlo hi F T h1 h2 h3 h4 hF hT=>
  fK h1 h2 h3 h4 mono hF λl h' q1 q2 q3=>by rw [hT];exact AN (h h' q1 q2 q3)
 cases hq:p hint with
 | true=>
  dsimp only;rw [qX rfl]
  refine Wv (q:=λi=>decide (hint+i < n)&&p (hint+i)) (mx:=n - hint) (by lia) (by simp [hq,hh]) (λx a b R hab r1 r2 r3=>?_) λa b hab qa ha hb=>?_
  ·dsimp only
   by_cases hge:b ≥ n - hint
   ·rw [qX hge];exact AN (r1 hge)
   ·rw [qY hge]
    refine AL (bey (hint+b) (by lia) _ ?_);have hd:decide (hint+b < n)=true:=wX (by lia)
    cases e:p (hint+b) with
    | true=>exact AN (r3 (by lia) (by simp [hd,e]))
    | false=>exact AN (r2 (by lia) (by simp [hd,e]))
  ·dsimp only
   have pa:p (hint+a)=true:=by simp at qa;exact qa.2
   have han:hint+a < n:=by simp at qa;exact qa.1
   refine fin (hint+a+1) (hint+min b (n - hint)) (by omega) (by omega) (λi hi=>mono i (hint+a) (by lia) han pa) (λi h1 h2=>?_) (λx l h' R l1 l2 r1 r2 r3=>?_) λl h'=>rfl
   ·by_cases hbm:b < n - hint
    ·have:=hb hbm
     have hd:decide (hint+b < n)=true:=wX (by lia);rw [hd,gh] at this
     cases e:p i with
     | false=>rfl
     | true=>rw [mono (hint+b) i (by lia) h2 e] at this;cases this
    ·omega
   ·dsimp only
    by_cases hge:l ≥ h'
    ·rw [qX hge];exact AN (r1 hge)
    ·rw [qY hge]
     refine AL (bey (l+(h' - l) / 2) (by lia) _ ?_)
     cases e:p (l+(h' - l) / 2) with
     | true=>exact AN (r2 (by lia) e)
     | false=>exact AN (r3 (by lia) e)
 | false=>
  dsimp only;rw [qY AO]
  refine Wv (q:=λi=>decide (i<=hint)&&!p (hint - i)) (mx:=hint+1) (by lia) (by simp [hq]) (λx a b R hab r1 r2 r3=>?_) λa b hab qa ha hb=>?_
  ·dsimp only
   by_cases hge:b ≥ hint+1
   ·rw [qX hge];exact AN (r1 hge)
   ·rw [qY hge]
    refine AL (bey (hint - b) (by omega) _ ?_);have hd:decide (b<=hint)=true:=wX (by lia)
    cases e:p (hint - b) with
    | true=>exact AN (r2 (by lia) (by simp [hd,e]))
    | false=>exact AN (r3 (by lia) (by simp [hd,e]))
  ·dsimp only
   have pa:p (hint - a)=false:=by simp at qa;exact qa.2
   have han:a<=hint:=by simp at qa;exact qa.1
   refine fin (hint+1 - min b (hint+1)) (hint - a) (by omega) (by omega) (λi hi=>?_) (λi h1 h2=>?_) (λx l h' R l1 l2 r1 r2 r3=>?_) λl h'=>rfl
   ·by_cases hbm:b < hint+1
    ·have:=hb hbm
     have hd:decide (b<=hint)=true:=wX (by lia);rw [hd,gh] at this;exact mono i (hint - b) (by omega) (by lia) (by simpa using this)
    ·omega
   ·cases e:p i with
    | false=>rfl
    | true=>rw [mono (hint - a) i h1 h2 e] at pa;cases pa
   ·dsimp only
    by_cases hge:l ≥ h'
    ·rw [qX hge];exact AN (r1 hge)
    ·rw [qY hge]
     refine AL (bey (l+(h' - l) / 2) (by lia) _ ?_)
     cases e:p (l+(h' - l) / 2) with
     | true=>exact AN (r2 (by lia) e)
     | false=>exact AN (r3 (by lia) e)
end
structure MI (R:Ak->Ak->Prop) (T o ra rb:List Ak):Prop where
 perm:(o++(ra++rb)).Perm T
 srt:o.Pairwise R
 low:∀x∈o,∀y∈ra++rb,R x y
 sa:ra.Pairwise R
 sb:rb.Pairwise R
structure HU (R:Ak->Ak->Prop) (T r:List Ak):Prop where
 perm:r.Perm T
 srt:r.Pairwise R
section
variable {R:Ak->Ak->Prop} {T o ra rb xs:List Ak}
theorem MI.takeA (m:MI R T o (xs++ra) rb) (h:∀x∈xs,∀y∈rb,R x y):MI R T (o++xs) ra rb:=by
 have sa:=BE.mp m.sa;refine ⟨by simpa [BC] using m.perm,BE.mpr ⟨m.srt,sa.1,λx hx y hy=>m.low x hx y (by simp [hy])⟩,λx hx y hy=>?_,sa.2.1,m.sb⟩
 rcases Ap.mp hx with hx | hx
 ·exact m.low x hx y (by rcases Ap.mp hy with h | h <;> simp [h])
 ·rcases Ap.mp hy with hy | hy
  ·exact sa.2.2 x hx y hy
  ·exact h x hx y hy
theorem MI.takeB (m:MI R T o ra (xs++rb)) (h:∀x∈xs,∀y∈ra,R x y):MI R T (o++xs) ra rb:=by
 have sb:=BE.mp m.sb;refine ⟨?_,BE.mpr ⟨m.srt,sb.1,λx hx y hy=>m.low x hx y (by simp [hy])⟩,λx hx y hy=>?_,m.sa,sb.2.1⟩
 ·refine WJ ?_ m.perm
  rw [BC];refine DE o ?_;rw [<-BC,<-BC];exact Ia rb Kg
 ·rcases Ap.mp hx with hx | hx
  ·exact m.low x hx y (by rcases Ap.mp hy with h | h <;> simp [h])
  ·rcases Ap.mp hy with hy | hy
   ·exact h x hx y hy
   ·exact sb.2.2 x hx y hy
theorem MI.endA (m:MI R T o ra []):HU R T (o++ra):=by
 refine ⟨by simpa using m.perm,BE.mpr ⟨m.srt,m.sa,λx hx y hy=>m.low x hx y (by simp [hy])⟩⟩
theorem MI.endB (m:MI R T o [] rb):HU R T (o++rb):=by
 refine ⟨by simpa using m.perm,BE.mpr ⟨m.srt,m.sb,λx hx y hy=>m.low x hx y (by simp [hy])⟩⟩
theorem MI.last (m:MI R T o ra rb) (h:∀y∈rb,∀x∈ra,R y x):HU R T (o++(rb++ra)):=by
 refine ⟨(DE o Kg).trans m.perm,BE.mpr ⟨m.srt,BE.mpr ⟨m.sb,m.sa,h⟩,λx hx y hy=>m.low x hx y (by rcases Ap.mp hy with h | h <;> simp [h])⟩⟩
end
theorem OQ {a:Array Ak} {i:Nat} (h:i < a.size):a.toList.drop i=ix a i :: a.toList.drop (i+1):=by
 rw [FC (by simpa using h)]
 congr 1
 have:=C6 h;rw [getElem?_pos a i h] at this;simpa using this
theorem Hl {a:Array Ak} {i k:Nat} (h:i+k<=a.size):a.toList.drop i=(a.extract i (i+k)).toList++a.toList.drop (i+k):=by
 have e:(a.extract i (i+k)).toList=(a.toList.drop i).take k:=by simp [NS]
 rw [e,<-Qk,EV]
theorem OM {a:Array Ak} {i k:Nat} (h:i+k<=a.size) {x:Ak} (hx:x∈(a.extract i (i+k)).toList):∃j,j < k/\x=ix a (i+j):=by
 rw [BK,OC] at hx;obtain ⟨j,hj,rfl⟩:=hx;refine ⟨j,by lia,?_⟩;have:=C6 (xs:=a) (i:=i+j) (by lia);rw [getElem?_pos a _ (by lia)] at this;simpa using this
theorem JY (a:Array Ak) (i:Nat):(a.extract i a.size).toList=a.toList.drop i:=by
 simp [NS];exact DD (by simp)
theorem FV {a:Array Ak} {i:Nat} {x:Ak} (hx:x∈a.toList.drop i):∃j,i<=j/\j < a.size/\x=ix a j:=by
 obtain ⟨k,hk,rfl⟩:=B2.mp hx;simp at hk;refine ⟨i+k,by lia,by omega,?_⟩;have:=C6 (xs:=a) (i:=i+k) (by omega);rw [getElem?_pos a _ (by omega)] at this;simpa using this
section
variable {prog:Al} {w:A2} {A:Ay} {E:AB->AE->Prop} {s:AE} {a₀:Array Ak} {κ:FK} {lt:Ak->Ak->Bool}
theorem BW {st:BA} {a:Array Ak} {i:Nat} {Q:Ak->BA->Prop} (h:i < a.size) (hq:Q (ix a i) st):wpS (AR prog w) A E s (elem' a i) Q st:=by
 rw [cG,C6 h];exact AN hq
def mLo:Array Ak->Array Ak->StateT BA Sem (Array Ak):=sortPriv% PySem.Builtin.mergeLo
def mHi:Array Ak->Array Ak->StateT BA Sem (Array Ak):=sortPriv% PySem.Builtin.mergeHi
structure Jv (a₀:Array Ak) (κ:FK) (st st':BA):Prop where
 good:Good a₀ κ st'
 arr:AY st'=AY st
 pend:Aa st'=Aa st
theorem Jv.gal {st st':BA} (h:Jv a₀ κ st st') (n:Nat):Jv a₀ κ st (Gq (kindOf st') (AY st') (Aa st') n (Hu st')):=⟨⟨h.good.perm,h.good.kind,h.good.failed⟩,h.arr,h.pend⟩
abbrev Rl (lt:Ak->Ak->Bool) (x y:Ak):Prop:=lt y x=false
theorem Td (O:Ord (·∈a₀) lt) {a:Array Ak} (ma:∀i,i < a.size->ix a i∈a₀) (sa:a.toList.Pairwise (Rl lt)):∀i j,i<=j->j < a.size->Rl lt (ix a i) (ix a j):=λi j hij hj=>by
 by_cases e:i=j
 ·subst e;exact O.irr (ma i hj)
 ·have hd:=OQ (a:=a) (i:=i) (by lia)
  have:=sa.sublist (Y7 i a.toList);rw [hd] at this;refine (Yr.mp this).1 _ ?_;rw [show a.toList.drop (i+1)=(a.extract (i+1) (i+1+(j - (i+1)))).toList++a.toList.drop (i+1+(j - (i+1))) from Hl (by lia),show i+1+(j - (i+1))=j by lia,OQ hj];simp
theorem SS {a:Array Ak} (ma:∀x∈a.toList,x∈a₀):∀i,i < a.size->ix a i∈a₀:=λi hi=>ma _ (BK.mpr (Cc (C6 hi)))
theorem OD {st:BA} {n:Nat} {Q:Unit->BA->Prop} (h:Q () (Gq (kindOf st) (AY st) (Aa st) n (Hu st))):wpS (AR prog w) A E s ((sortPriv% PySem.Builtin.setMinGallop) n) Q st:=DG h
abbrev L7:=Option (Array Ak)×Array Ak×Nat×Nat×Nat×Nat×Nat
theorem cT {st:BA} {a b:Array Ak} {Q:Array Ak->BA->Prop} (C:Jo prog w A s a₀ κ lt) (O:Ord (·∈a₀) lt) (g:Good a₀ κ st)
  (ma:∀x∈a.toList,x∈a₀) (mb:∀x∈b.toList,x∈a₀) (sa:a.toList.Pairwise (Rl lt)) (sb:b.toList.Pairwise (Rl lt)) (na:0 < a.size) (nb:0 < b.size)
  (h0:∀x∈a.toList,Rl lt (ix b 0) x) (h1:∀y∈b.toList,Rl lt y (ix a (a.size - 1)))
  (h:∀r st',Jv a₀ κ st st'->HU (Rl lt) (a.toList++b.toList) r.toList->Q r st'):wpS (AR prog w) A E s (mLo a b) Q st:=by
 have ia0:=SS ma;have ib0:=SS mb;have ua:=Td O ia0 sa;have ub:=Td O ib0 sb
 have tr:∀x y z:Ak,x∈a₀->y∈a₀->z∈a₀->Rl lt x y->Rl lt y z->Rl lt x z:=λx y z hx hy hz h1 h2=>O.ntr x y z hx hy hz h1 h2
 let M (out:Array Ak) (ia ib:Nat):Prop:=MI (Rl lt) (a.toList++b.toList) out.toList (a.toList.drop ia) (b.toList.drop ib)
 have tA:∀out ia ib,M out ia ib->ia < a.size->(∀j,ib<=j->j < b.size->Rl lt (ix a ia) (ix b j))->M (out.push (ix a ia)) (ia+1) ib:=λout ia ib m hia hr=>by
  have m':MI (Rl lt) (a.toList++b.toList) out.toList ([ix a ia]++a.toList.drop (ia+1)) (b.toList.drop ib):=by rw [Gx,<-OQ hia];exact m
  have:=m'.takeA λx hx y hy=>by
   obtain ⟨j,j1,j2,rfl⟩:=FV hy;rw [AS.mp hx];exact hr j j1 j2
  simpa [M] using this
 have tB:∀out ia ib,M out ia ib->ib < b.size->(∀j,ia<=j->j < a.size->Rl lt (ix b ib) (ix a j))->M (out.push (ix b ib)) ia (ib+1):=λout ia ib m hib hr=>by
  have m':MI (Rl lt) (a.toList++b.toList) out.toList (a.toList.drop ia) ([ix b ib]++b.toList.drop (ib+1)):=by rw [Gx,<-OQ hib];exact m
  have:=m'.takeB λx hx y hy=>by
   obtain ⟨j,j1,j2,rfl⟩:=FV hy;rw [AS.mp hx];exact hr j j1 j2
  simpa [M] using this
 have sA:∀out ia ib k,M out ia ib->ia+k<=a.size->(∀i j,i < k->ib<=j->j < b.size->Rl lt (ix a (ia+i)) (ix b j))->M (out++a.extract ia (ia+k)) (ia+k) ib:=λout ia ib k m hk hr=>by
  have m':MI (Rl lt) (a.toList++b.toList) out.toList ((a.extract ia (ia+k)).toList++a.toList.drop (ia+k)) (b.toList.drop ib):=by rw [<-Hl hk];exact m
  have:=m'.takeA λx hx y hy=>by
   obtain ⟨j,j1,j2,rfl⟩:=FV hy;obtain ⟨i,i1,rfl⟩:=OM hk hx;exact hr i j i1 j1 j2
  show MI _ _ (out++a.extract ia (ia+k)).toList _ _;rw [A6];exact this
 have sB:∀out ia ib k,M out ia ib->ib+k<=b.size->(∀i j,i < k->ia<=j->j < a.size->Rl lt (ix b (ib+i)) (ix a j))->M (out++b.extract ib (ib+k)) ia (ib+k):=λout ia ib k m hk hr=>by
  have m':MI (Rl lt) (a.toList++b.toList) out.toList (a.toList.drop ia) ((b.extract ib (ib+k)).toList++b.toList.drop (ib+k)):=by rw [<-Hl hk];exact m
  have:=m'.takeB λx hx y hy=>by
   obtain ⟨j,j1,j2,rfl⟩:=FV hy;obtain ⟨i,i1,rfl⟩:=OM hk hx;exact hr i j i1 j1 j2
  show MI _ _ (out++b.extract ib (ib+k)).toList _ _;rw [A6];exact this
 have eB:∀out ia ib,M out ia ib->ib=b.size->HU (Rl lt) (a.toList++b.toList) (out++a.extract ia a.size++b.extract ib b.size).toList:=λout ia ib m e=>by
  subst e
  have m':MI (Rl lt) (a.toList++b.toList) out.toList (a.toList.drop ia) []:=by
   have:b.toList.drop b.size=[]:=by simp
   rw [<-this];exact m
  rw [A6,A6,JY,JY,show b.toList.drop b.size=[] by simp,B6];exact m'.endA
 have eA:∀out ia ib,M out ia ib->ia=a.size->HU (Rl lt) (a.toList++b.toList) (out++a.extract ia a.size++b.extract ib b.size).toList:=λout ia ib m e=>by
  subst e
  have m':MI (Rl lt) (a.toList++b.toList) out.toList [] (b.toList.drop ib):=by
   have:a.toList.drop a.size=[]:=by simp
   rw [<-this];exact m
  rw [A6,A6,JY,JY,show a.toList.drop a.size=[] by simp,B6];exact m'.endB
 have eL:∀out ia ib,M out ia ib->ia+1=a.size->HU (Rl lt) (a.toList++b.toList) (out++b.extract ib b.size++a.extract ia a.size).toList:=λout ia ib m e=>by
  have:=m.last λy hy x hx=>by
   obtain ⟨j,j1,j2,rfl⟩:=FV hx;obtain ⟨i,i1,i2,rfl⟩:=FV hy
   have:j=a.size - 1:=by lia
   subst this;exact h1 _ (BK.mpr (Cc (C6 i2)))
  rw [A6,A6,JY,JY,BC];exact this
 have m0:M #[] 0 0:=⟨by simp,by simp,by simp,by simpa using sa,by simpa using sb⟩
 have m1:M #[ix b 0] 0 1:=by
  have:=tB #[] 0 0 m0 nb λj _ hj=>h0 _ (BK.mpr (Cc (C6 hj)))
  simpa using this
 refine (AL (Ic ?_):wpS _ _ _ _ (mLo a b) Q st);refine AL (BW nb ?_)
 by_cases c1:1=b.size
 ·refine (show wpS (AR prog w) A E s (if (1==b.size)=true then _ else _) Q st from ?_)
  rw [qX (by simpa using c1)];exact AN (h _ st ⟨g,rfl,rfl⟩ (eB _ _ _ m1 c1))
 refine (show wpS (AR prog w) A E s (if (1==b.size)=true then _ else _) Q st from ?_);rw [qY (by simpa using c1)]
 by_cases c2:0+1=a.size
 ·rw [qX (by simpa using c2)]
  exact AN (h _ st ⟨g,rfl,rfl⟩ (eL _ _ _ m1 c2))
 rw [qY (by simpa using c2)];refine AL (G6 ?_)
 refine AL (Cz (Bs (I:=λx c st'=>Jv a₀ κ st st'/\∃out ia ib mg,c=(none,out,ia,ib,mg)/\M out ia ib/\ia+1 < a.size/\ib < b.size/\1+x<=ia+ib)
  (Q:=λc st'=>Jv a₀ κ st st'/\∃r z,c=(some r,z)/\HU (Rl lt) (a.toList++b.toList) r.toList) ?step ?fin ?init) ?post)
 case init=>exact ⟨⟨g,rfl,rfl⟩,_,_,_,_,rfl,m1,by lia,by lia,by lia⟩
 case fin=>
  rintro c st' ⟨_,out,ia,ib,mg,_,_,k1,k2,k3⟩
  lia
 case post=>
  rintro c st' ⟨s1,r,z,rfl,f⟩;exact AN (h r st' s1 f)
 case step=>
  rintro x c st1 _ _ ⟨s1,out,ia,ib,mg,rfl,m,k1,k2,k3⟩
  refine AL (Cz (Bs (I:=λy c st'=>st'=st1/\∃out' ia' ib' ac bc,c=(none,out',ia',ib',ac,bc)/\M out' ia' ib'/\ia'+1 < a.size/\ib' < b.size/\ia+ib+y<=ia'+ib')
   (Q:=λc st'=>st'=st1/\((∃r z,c=(some r,z)/\HU (Rl lt) (a.toList++b.toList) r.toList)∨∃out' ia' ib' ac bc,c=(none,out',ia',ib',ac,bc)/\M out' ia' ib'/\ia'+1 < a.size/\ib' < b.size/\ia+ib+1<=ia'+ib')) ?step1 ?fin1 ?init1) ?post1)
  case init1=>exact ⟨rfl,out,ia,ib,0,0,rfl,m,k1,k2,by lia⟩
  case fin1=>
   rintro c st' ⟨rfl,out',ia',ib',ac,bc,rfl,m',q1,q2,q3⟩;exact ⟨rfl,.inr ⟨out',ia',ib',ac,bc,rfl,m',q1,q2,by lia⟩⟩
  case step1=>
   rintro y c st' _ _ ⟨rfl,out',ia',ib',ac,bc,rfl,m',q1,q2,q3⟩;refine AL (BW (i:=ib') q2 ?_);refine AL (BW (i:=ia') (show ia' < a.size by lia) ?_);refine AL (Od C s1.good (ib0 _ q2) (ia0 _ (by lia)) ?_)
   cases e:lt (ix b ib') (ix a ia') with
   | true=>
    refine AL (BW q2 ?_);have r0:Rl lt (ix b ib') (ix a ia'):=O.asym _ _ (ib0 _ q2) (ia0 _ (by lia)) e
    have m2:=tB out' ia' ib' m' q2 λj j1 j2=>tr _ _ _ (ib0 _ q2) (ia0 _ (by lia)) (ia0 _ j2) r0 (ua ia' j j1 j2)
    refine (show wpS (AR prog w) A E s (if (ib'+1==b.size)=true then _ else _) _ st' from ?_)
    by_cases d:ib'+1=b.size
    ·rw [qX (by simpa using d)]
     exact AN ⟨rfl,.inl ⟨_,_,rfl,eB _ _ _ m2 d⟩⟩
    ·rw [qY (by simpa using d)]
     split
     ·exact AN ⟨rfl,.inr ⟨_,ia',ib'+1,_,_,rfl,m2,by omega,by lia,by lia⟩⟩
     ·exact AN ⟨rfl,_,ia',ib'+1,_,_,rfl,m2,by omega,by lia,by lia⟩
   | false=>
    refine AL (BW (show ia' < a.size by lia) ?_)
    have m2:=tA out' ia' ib' m' (by lia) λj j1 j2=>tr _ _ _ (ia0 _ (by lia)) (ib0 _ q2) (ib0 _ j2) e (ub ib' j j1 j2)
    refine (show wpS (AR prog w) A E s (if (ia'+1+1==a.size)=true then _ else _) _ st' from ?_)
    by_cases d:ia'+1+1=a.size
    ·rw [qX (by simpa using d)]
     exact AN ⟨rfl,.inl ⟨_,_,rfl,eL _ _ _ m2 d⟩⟩
    ·rw [qY (by simpa using d)]
     split
     ·exact AN ⟨rfl,.inr ⟨_,ia'+1,ib',_,_,rfl,m2,by lia,by omega,by lia⟩⟩
     ·exact AN ⟨rfl,_,ia'+1,ib',_,_,rfl,m2,by lia,by omega,by lia⟩
  case post1=>
   rintro c st' ⟨rfl,⟨r,z,rfl,f⟩ | ⟨out',ia',ib',ac,bc,rfl,m',q1,q2,q3⟩⟩
   ·exact AN ⟨s1,_,_,rfl,f⟩
   refine AL (Ic ?_)
   refine AL (Cz (Bs (I:=λy c st2=>Jv a₀ κ st st2/\∃out2 ia2 ib2 mg2 ac bc,c=(none,out2,ia2,ib2,mg2,ac,bc)/\M out2 ia2 ib2/\ia2+1 < a.size/\ib2 < b.size/\ia+ib+1<=ia2+ib2)
    (Q:=λc st2=>Jv a₀ κ st st2/\((∃r z,c=(some r,z)/\HU (Rl lt) (a.toList++b.toList) r.toList)∨∃out2 ia2 ib2 mg2 ac bc,c=(none,out2,ia2,ib2,mg2,ac,bc)/\M out2 ia2 ib2/\ia2+1 < a.size/\ib2 < b.size/\ia+ib+1<=ia2+ib2)) ?step2 ?fin2 ?init2) ?post2)
   case init2=>exact ⟨s1,out',ia',ib',mg+1,ac,bc,rfl,m',q1,q2,q3⟩
   case fin2=>
    rintro c st2 ⟨s2,out2,ia2,ib2,mg2,ac2,bc2,rfl,m2,p1,p2,p3⟩;exact ⟨s2,.inr ⟨out2,ia2,ib2,mg2,ac2,bc2,rfl,m2,p1,p2,p3⟩⟩
   case post2=>
    rintro c st2 ⟨s2,⟨r,z,rfl,f⟩ | ⟨out2,ia2,ib2,mg2,ac2,bc2,rfl,m2,p1,p2,p3⟩⟩
    ·exact AN ⟨s2,_,_,rfl,f⟩
    ·exact AL (OD (AN ⟨s2.gal _,out2,ia2,ib2,mg2+1,rfl,m2,p1,p2,by lia⟩))
   case step2=>
    rintro y c st2 _ _ ⟨s2,out2,ia2,ib2,mg2,ac2,bc2,rfl,m2,p1,p2,p3⟩
    let P:ForInStep L7->BA->Prop:=λr st'=>match r with
     | .done c'=>Jv a₀ κ st st'/\((∃r z,c'=(some r,z)/\HU (Rl lt) (a.toList++b.toList) r.toList)∨∃out2 ia2 ib2 mg2 ac bc,c'=(none,out2,ia2,ib2,mg2,ac,bc)/\M out2 ia2 ib2/\ia2+1 < a.size/\ib2 < b.size/\ia+ib+1<=ia2+ib2)
     | .yield c'=>Jv a₀ κ st st'/\∃out2 ia2 ib2 mg2 ac bc,c'=(none,out2,ia2,ib2,mg2,ac,bc)/\M out2 ia2 ib2/\ia2+1 < a.size/\ib2 < b.size/\ia+ib+1<=ia2+ib2
    refine Cz (Q:=P) ?_ λr st' h=>by cases r <;> exact h
    refine (show wpS (AR prog w) A E s (if mg2 > 1 then _ else _) P st2 from ?_);split
    all_goals
     refine AL (OD ?_);refine AL (BW (i:=ib2) p2 ?_);refine AL (Eh (base:=ia2) (n:=a.size - ia2) (hint:=0) (arr:=a) (key:=ix b ib2) (left:=false) C (s2.gal _).good (λi=>!lt (ix b ib2) (ix a (ia2+i))) (ib0 _ p2) (λi hi=>⟨by lia,ia0 _ (by lia)⟩) (λi hi=>rfl) (λi j hij hj e=>?_) (by lia) λk hk k1 k2=>?_)
     ·have e':lt (ix b ib2) (ix a (ia2+j))=false:=by simpa using e
      have:=tr _ _ _ (ia0 _ (by lia)) (ia0 _ (by lia)) (ib0 _ p2) (ua (ia2+i) (ia2+j) (by lia) (by lia)) e';simpa using this
     ·have far:∀j,ia2+k<=j->j < a.size->Rl lt (ix b ib2) (ix a j):=λj j1 j2=>by
       have:=k2 (j - ia2) (by lia) (by lia);rw [show ia2+(j - ia2)=j by lia] at this;exact O.asym _ _ (ib0 _ p2) (ia0 _ j2) (by simpa using this)
      have m5:=sA out2 ia2 ib2 k m2 (by lia) λi j hi j1 j2=>tr _ _ _ (ia0 _ (by lia)) (ib0 _ p2) (ib0 _ j2) (by simpa using k1 i hi) (ub ib2 j j1 j2)
      refine (show wpS (AR prog w) A E s (if k > 0 then _ else _) P _ from ?_)
      by_cases hk0:k > 0
      ·rw [qX hk0]
       refine (show wpS (AR prog w) A E s (if (ia2+k+1==a.size)=true then _ else _) P _ from ?_)
       by_cases d1:ia2+k+1=a.size
       ·rw [qX (by simpa using d1)]
        exact AN ⟨s2.gal _,.inl ⟨_,_,rfl,eL _ _ _ m5 d1⟩⟩
       rw [qY (by simpa using d1)]
       by_cases d2:ia2+k=a.size
       ·rw [qX (by simpa using d2)]
        exact AN ⟨s2.gal _,.inl ⟨_,_,rfl,eA _ _ _ m5 d2⟩⟩
       rw [qY (by simpa using d2)]
       have c1:ia2+k+1 < a.size:=by lia
       have c3:ia+ib+1<=ia2+k+ib2:=by lia
       have m4:=tB _ _ _ m5 p2 far;refine AL (BW (i:=ib2) p2 ?_);refine (show wpS (AR prog w) A E s (if (ib2+1==b.size)=true then _ else _) P _ from ?_)
       by_cases d:ib2+1=b.size
       ·rw [qX (by simpa using d)]
        exact AN ⟨s2.gal _,.inl ⟨_,_,rfl,eB _ _ _ m4 d⟩⟩
       rw [qY (by simpa using d)];refine AL (BW (i:=ia2+k) (by lia) ?_);refine AL (Eh (base:=ib2+1) (n:=b.size - (ib2+1)) (hint:=0) (arr:=b) (key:=ix a (ia2+k)) (left:=true) C (s2.gal _).good (λi=>lt (ix b (ib2+1+i)) (ix a (ia2+k))) (ia0 _ (by lia)) (λi hi=>⟨by lia,ib0 _ (by lia)⟩) (λi hi=>rfl) (λi j hij hj e=>?_) (by lia) λk3 hk3 k4 k5=>?_)
       ·cases e2:lt (ix b (ib2+1+i)) (ix a (ia2+k)) with
        | true=>rfl
        | false=>
         have:=tr _ _ _ (ia0 _ (by lia)) (ib0 _ (by lia)) (ib0 _ (by lia)) e2 (ub (ib2+1+i) (ib2+1+j) (by lia) (by lia));exact nomatch (show true=false from (show lt (ix b (ib2+1+j)) (ix a (ia2+k))=true from e).symm.trans this)
       ·have far2:∀j,ib2+1+k3<=j->j < b.size->Rl lt (ix a (ia2+k)) (ix b j):=λj j1 j2=>by
         have:=k5 (j - (ib2+1)) (by lia) (by omega);rwa [show ib2+1+(j - (ib2+1))=j by lia] at this
        have m6:=sB _ (ia2+k) (ib2+1) k3 m4 (by lia) λi j hi j1 j2=>tr _ _ _ (ib0 _ (by lia)) (ia0 _ (by lia)) (ia0 _ j2) (O.asym _ _ (ib0 _ (by lia)) (ia0 _ (by lia)) (k4 i hi)) (ua (ia2+k) j j1 j2)
        refine (show wpS (AR prog w) A E s (if k3 > 0 then _ else _) P _ from ?_)
        by_cases hk3:k3 > 0
        ·rw [qX hk3]
         refine (show wpS (AR prog w) A E s (if (ib2+1+k3==b.size)=true then _ else _) P _ from ?_)
         by_cases d2:ib2+1+k3=b.size
         ·rw [qX (by simpa using d2)]
          exact AN ⟨s2.gal _,.inl ⟨_,_,rfl,eB _ _ _ m6 d2⟩⟩
         rw [qY (by simpa using d2)];have m7:=tA _ _ _ m6 (by lia) far2;refine AL (BW (i:=ia2+k) (by lia) ?_);refine (show wpS (AR prog w) A E s (if (ia2+k+1+1==a.size)=true then _ else _) P _ from ?_)
         by_cases d3:ia2+k+1+1=a.size
         ·rw [qX (by simpa using d3)]
          exact AN ⟨s2.gal _,.inl ⟨_,_,rfl,eL _ _ _ m7 d3⟩⟩
         rw [qY (by simpa using d3)];split
         ·exact AN ⟨s2.gal _,.inr ⟨_,ia2+k+1,ib2+1+k3,_,_,_,rfl,m7,by lia,by lia,by lia⟩⟩
         ·exact AN ⟨s2.gal _,_,ia2+k+1,ib2+1+k3,_,_,_,rfl,m7,by lia,by lia,by lia⟩
        ·rw [qY hk3]
         have:k3=0:=by lia
         subst this;have m7:=tA _ _ _ m4 (by lia) far2;refine AL (BW (i:=ia2+k) (by lia) ?_);refine (show wpS (AR prog w) A E s (if (ia2+k+1+1==a.size)=true then _ else _) P _ from ?_)
         by_cases d3:ia2+k+1+1=a.size
         ·rw [qX (by simpa using d3)]
          exact AN ⟨s2.gal _,.inl ⟨_,_,rfl,eL _ _ _ m7 d3⟩⟩
         rw [qY (by simpa using d3)];split
         ·exact AN ⟨s2.gal _,.inr ⟨_,ia2+k+1,ib2+1,_,_,_,rfl,m7,by lia,by lia,by lia⟩⟩
         ·exact AN ⟨s2.gal _,_,ia2+k+1,ib2+1,_,_,_,rfl,m7,by lia,by lia,by lia⟩
      ·rw [qY hk0]
       have:k=0:=by lia
       subst this
       have c1:ia2+1 < a.size:=by omega
       have c3:ia+ib+1<=ia2+ib2:=by omega
       have m4:=tB _ _ _ m2 p2 far;refine AL (BW (i:=ib2) p2 ?_);refine (show wpS (AR prog w) A E s (if (ib2+1==b.size)=true then _ else _) P _ from ?_)
       by_cases d:ib2+1=b.size
       ·rw [qX (by simpa using d)]
        exact AN ⟨s2.gal _,.inl ⟨_,_,rfl,eB _ _ _ m4 d⟩⟩
       rw [qY (by simpa using d)];refine AL (BW (i:=ia2) (by lia) ?_);refine AL (Eh (base:=ib2+1) (n:=b.size - (ib2+1)) (hint:=0) (arr:=b) (key:=ix a ia2) (left:=true) C (s2.gal _).good (λi=>lt (ix b (ib2+1+i)) (ix a ia2)) (ia0 _ (by lia)) (λi hi=>⟨by lia,ib0 _ (by lia)⟩) (λi hi=>rfl) (λi j hij hj e=>?_) (by lia) λk3 hk3 k4 k5=>?_)
       ·cases e2:lt (ix b (ib2+1+i)) (ix a ia2) with
        | true=>rfl
        | false=>
         have:=tr _ _ _ (ia0 _ (by lia)) (ib0 _ (by lia)) (ib0 _ (by lia)) e2 (ub (ib2+1+i) (ib2+1+j) (by lia) (by lia));exact nomatch (show true=false from (show lt (ix b (ib2+1+j)) (ix a ia2)=true from e).symm.trans this)
       ·have far2:∀j,ib2+1+k3<=j->j < b.size->Rl lt (ix a ia2) (ix b j):=λj j1 j2=>by
         have:=k5 (j - (ib2+1)) (by lia) (by omega);rwa [show ib2+1+(j - (ib2+1))=j by lia] at this
        have m6:=sB _ ia2 (ib2+1) k3 m4 (by lia) λi j hi j1 j2=>tr _ _ _ (ib0 _ (by lia)) (ia0 _ (by lia)) (ia0 _ j2) (O.asym _ _ (ib0 _ (by lia)) (ia0 _ (by lia)) (k4 i hi)) (ua ia2 j j1 j2)
        refine (show wpS (AR prog w) A E s (if k3 > 0 then _ else _) P _ from ?_)
        by_cases hk3:k3 > 0
        ·rw [qX hk3]
         refine (show wpS (AR prog w) A E s (if (ib2+1+k3==b.size)=true then _ else _) P _ from ?_)
         by_cases d2:ib2+1+k3=b.size
         ·rw [qX (by simpa using d2)]
          exact AN ⟨s2.gal _,.inl ⟨_,_,rfl,eB _ _ _ m6 d2⟩⟩
         rw [qY (by simpa using d2)];have m7:=tA _ _ _ m6 (by lia) far2;refine AL (BW (i:=ia2) (by lia) ?_);refine (show wpS (AR prog w) A E s (if (ia2+1+1==a.size)=true then _ else _) P _ from ?_)
         by_cases d3:ia2+1+1=a.size
         ·rw [qX (by simpa using d3)]
          exact AN ⟨s2.gal _,.inl ⟨_,_,rfl,eL _ _ _ m7 d3⟩⟩
         rw [qY (by simpa using d3)];split
         ·exact AN ⟨s2.gal _,.inr ⟨_,ia2+1,ib2+1+k3,_,_,_,rfl,m7,by lia,by lia,by lia⟩⟩
         ·exact AN ⟨s2.gal _,_,ia2+1,ib2+1+k3,_,_,_,rfl,m7,by lia,by lia,by lia⟩
        ·rw [qY hk3]
         have:k3=0:=by lia
         subst this;have m7:=tA _ _ _ m4 (by lia) far2;refine AL (BW (i:=ia2) (by lia) ?_);refine (show wpS (AR prog w) A E s (if (ia2+1+1==a.size)=true then _ else _) P _ from ?_)
         by_cases d3:ia2+1+1=a.size
         ·rw [qX (by simpa using d3)]
          exact AN ⟨s2.gal _,.inl ⟨_,_,rfl,eL _ _ _ m7 d3⟩⟩
         rw [qY (by simpa using d3)];split
         ·exact AN ⟨s2.gal _,.inr ⟨_,ia2+1,ib2+1,_,_,_,rfl,m7,by lia,by lia,by lia⟩⟩
         ·exact AN ⟨s2.gal _,_,ia2+1,ib2+1,_,_,_,rfl,m7,by lia,by lia,by lia⟩
end
theorem MI.last2 {R:Ak->Ak->Prop} {T o ra rb:List Ak} (m:MI R T o ra rb) (h:∀x∈ra,∀y∈rb,R x y):HU R T (o++(ra++rb)):=by
 refine ⟨m.perm,BE.mpr ⟨m.srt,BE.mpr ⟨m.sa,m.sb,h⟩,λx hx y hy=>m.low x hx y hy⟩⟩
theorem HU.rev {lt:Ak->Ak->Bool} {T r:List Ak} (f:HU (λx y=>Rl lt y x) T r):HU (Rl lt) T r.reverse:=⟨r.reverse_perm.trans f.perm,Kh.mpr f.srt⟩
theorem WW {a:Array Ak} {i:Nat} (h:i < a.size):(a.toList.take (i+1)).reverse=ix a i :: (a.toList.take i).reverse:=by
 have:=C6 h;rw [getElem?_pos a i h] at this;rw [IX,show a.toList[i]?=some (ix a i) by simpa using C6 h];simp
theorem Te {a:Array Ak} {i n:Nat} (h:i<=n) (hn:n<=a.size):(a.toList.take n).reverse=(a.extract i n).toList.reverse++(a.toList.take i).reverse:=by
 have e:(a.extract i n).toList=(a.toList.take n).drop i:=by simp [NS,List.drop_take]
 rw [e,<-List.reverse_append]
 congr 1
 have:=EV i (a.toList.take n);rw [List.take_take,show min i n=i by lia] at this;exact this.symm
theorem FU {a:Array Ak} {n:Nat} {x:Ak} (hx:x∈(a.toList.take n).reverse):∃j,j < n/\j < a.size/\x=ix a j:=by
 rw [br] at hx;obtain ⟨k,hk,rfl⟩:=B2.mp hx;simp at hk;refine ⟨k,by lia,by lia,?_⟩;have:=C6 (xs:=a) (i:=k) (by lia);rw [getElem?_pos a _ (by lia)] at this;simpa using this
theorem T9 {a:Array Ak} {i n:Nat} {x:Ak} (hx:x∈(a.extract i n).toList.reverse):∃j,i<=j/\j < n/\j < a.size/\x=ix a j:=by
 rw [br,BK,OC] at hx;obtain ⟨j,hj,rfl⟩:=hx;refine ⟨i+j,by lia,by omega,by omega,?_⟩;have:=C6 (xs:=a) (i:=i+j) (by omega);rw [getElem?_pos a _ (by omega)] at this;simpa using this
theorem HZ (a:Array Ak) (n:Nat):(a.extract 0 n).toList=a.toList.take n:=by simp [NS]
section
variable {prog:Al} {w:A2} {A:Ay} {E:AB->AE->Prop} {s:AE} {a₀:Array Ak} {κ:FK} {lt:Ak->Ak->Bool}
theorem cU {st:BA} {a b:Array Ak} {Q:Array Ak->BA->Prop} (C:Jo prog w A s a₀ κ lt) (O:Ord (·∈a₀) lt) (g:Good a₀ κ st)
  (ma:∀x∈a.toList,x∈a₀) (mb:∀x∈b.toList,x∈a₀) (sa:a.toList.Pairwise (Rl lt)) (sb:b.toList.Pairwise (Rl lt)) (pa:0 < a.size) (pb:0 < b.size)
  (h0:∀x∈a.toList,Rl lt (ix b 0) x) (h1:∀y∈b.toList,Rl lt y (ix a (a.size - 1)))
  (h:∀r st',Jv a₀ κ st st'->HU (Rl lt) (a.toList++b.toList) r.toList->Q r st'):wpS (AR prog w) A E s (mHi a b) Q st:=by
 have ia0:=SS ma;have ib0:=SS mb;have ua:=Td O ia0 sa;have ub:=Td O ib0 sb
 have tr:∀x y z:Ak,x∈a₀->y∈a₀->z∈a₀->Rl lt x y->Rl lt y z->Rl lt x z:=λx y z hx hy hz h1 h2=>O.ntr x y z hx hy hz h1 h2
 let M (out:Array Ak) (na nb:Nat):Prop:=MI (λx y=>Rl lt y x) (a.toList++b.toList) out.toList (a.toList.take na).reverse (b.toList.take nb).reverse
 have tA0:∀out na nb,M out (na+1) nb->na < a.size->nb<=b.size->(∀j,j < nb->Rl lt (ix b j) (ix a na))->M (out.push (ix a na)) na nb:=λout na nb m hna hnb hr=>by
  have m':MI (λx y=>Rl lt y x) (a.toList++b.toList) out.toList ([ix a na]++(a.toList.take na).reverse) (b.toList.take nb).reverse:=by rw [Gx,<-WW hna];exact m
  have:=m'.takeA λx hx y hy=>by
   obtain ⟨j,j1,j2,rfl⟩:=FU hy;rw [AS.mp hx];exact hr j j1
  simpa [M] using this
 have tB0:∀out na nb,M out na (nb+1)->nb < b.size->na<=a.size->(∀j,j < na->Rl lt (ix a j) (ix b nb))->M (out.push (ix b nb)) na nb:=λout na nb m hnb hna hr=>by
  have m':MI (λx y=>Rl lt y x) (a.toList++b.toList) out.toList (a.toList.take na).reverse ([ix b nb]++(b.toList.take nb).reverse):=by rw [Gx,<-WW hnb];exact m
  have:=m'.takeB λx hx y hy=>by
   obtain ⟨j,j1,j2,rfl⟩:=FU hy;rw [AS.mp hx];exact hr j j1
  simpa [M] using this
 have tA:∀out na nb,M out na nb->0 < na->na<=a.size->nb<=b.size->(∀j,j < nb->Rl lt (ix b j) (ix a (na - 1)))->M (out.push (ix a (na - 1))) (na - 1) nb:=λout na nb m h0 hna hnb hr=>
  tA0 out (na - 1) nb (by rw [show na - 1+1=na by lia];exact m) (by omega) hnb hr
 have tB:∀out na nb,M out na nb->0 < nb->nb<=b.size->na<=a.size->(∀j,j < na->Rl lt (ix a j) (ix b (nb - 1)))->M (out.push (ix b (nb - 1))) na (nb - 1):=λout na nb m h0 hnb hna hr=>
  tB0 out na (nb - 1) (by rw [show nb - 1+1=nb by lia];exact m) (by omega) hna hr
 have sA:∀out na nb k,M out na nb->k<=na->na<=a.size->nb<=b.size->(∀i j,k<=i->i < na->j < nb->Rl lt (ix b j) (ix a i))->M (out++(a.extract k na).reverse) k nb:=λout na nb k m hk hna hnb hr=>by
  have m':MI (λx y=>Rl lt y x) (a.toList++b.toList) out.toList ((a.extract k na).toList.reverse++(a.toList.take k).reverse) (b.toList.take nb).reverse:=by rw [<-Te hk hna];exact m
  have:=m'.takeA λx hx y hy=>by
   obtain ⟨j,j1,j2,rfl⟩:=FU hy;obtain ⟨i,i1,i2,i3,rfl⟩:=T9 hx;exact hr i j i1 i2 j1
  show MI _ _ (out++(a.extract k na).reverse).toList _ _;rw [A6,Ep];exact this
 have sB:∀out na nb k,M out na nb->k<=nb->nb<=b.size->na<=a.size->(∀i j,k<=i->i < nb->j < na->Rl lt (ix a j) (ix b i))->M (out++(b.extract k nb).reverse) na k:=λout na nb k m hk hnb hna hr=>by
  have m':MI (λx y=>Rl lt y x) (a.toList++b.toList) out.toList (a.toList.take na).reverse ((b.extract k nb).toList.reverse++(b.toList.take k).reverse):=by rw [<-Te hk hnb];exact m
  have:=m'.takeB λx hx y hy=>by
   obtain ⟨j,j1,j2,rfl⟩:=FU hy;obtain ⟨i,i1,i2,i3,rfl⟩:=T9 hx;exact hr i j i1 i2 j1
  show MI _ _ (out++(b.extract k nb).reverse).toList _ _;rw [A6,Ep];exact this
 have eA:∀out na nb,M out na nb->na=0->HU (Rl lt) (a.toList++b.toList) (a.extract 0 na++b.extract 0 nb++out.reverse).toList:=λout na nb m e=>by
  subst e
  have m':MI (λx y=>Rl lt y x) (a.toList++b.toList) out.toList [] (b.toList.take nb).reverse:=by simpa [M] using m
  have:=m'.endB.rev;rw [A6,A6,HZ,HZ,Ep];simpa using this
 have eB:∀out na nb,M out na nb->nb=0->HU (Rl lt) (a.toList++b.toList) (a.extract 0 na++b.extract 0 nb++out.reverse).toList:=λout na nb m e=>by
  subst e
  have m':MI (λx y=>Rl lt y x) (a.toList++b.toList) out.toList (a.toList.take na).reverse []:=by simpa [M] using m
  have:=m'.endA.rev;rw [A6,A6,HZ,HZ,Ep];simpa using this
 have eF:∀out na nb,M out na nb->nb=1->HU (Rl lt) (a.toList++b.toList) (b.extract 0 nb++a.extract 0 na++out.reverse).toList:=λout na nb m e=>by
  have:=m.last2 λx hx y hy=>by
   obtain ⟨j,j1,j2,rfl⟩:=FU hx;obtain ⟨i,i1,i2,rfl⟩:=FU hy
   have:i=0:=by lia
   subst this;exact h0 _ (BK.mpr (Cc (C6 j2)))
  have:=this.rev;rw [A6,A6,HZ,HZ,Ep];simpa using this
 have m0:M #[] a.size b.size:=by
  refine ⟨?_,by simp,by simp,?_,?_⟩
  ·rw [DD (by simp),DD (by simp)]
   simpa using U3 a.toList.reverse_perm b.toList.reverse_perm
  ·rw [DD (by simp)];exact Kh.mpr sa
  ·rw [DD (by simp)];exact Kh.mpr sb
 have m1:M #[ix a (a.size - 1)] (a.size - 1) b.size:=by
  have:=tA #[] a.size b.size m0 pa (AM _) (AM _) λj hj=>h1 _ (BK.mpr (Cc (C6 hj)))
  simpa using this
 refine (AL (Ic ?_):wpS _ _ _ _ (mHi a b) Q st);refine AL (BW (i:=a.size - 1) (by omega) ?_)
 by_cases c1:a.size - 1=0
 ·refine (show wpS (AR prog w) A E s (if (a.size - 1==0)=true then _ else _) Q st from ?_)
  rw [qX (by simpa using c1)];exact AN (h _ st ⟨g,rfl,rfl⟩ (eA _ _ _ m1 c1))
 refine (show wpS (AR prog w) A E s (if (a.size - 1==0)=true then _ else _) Q st from ?_);rw [qY (by simpa using c1)]
 by_cases c2:b.size=1
 ·rw [qX (by simpa using c2)]
  exact AN (h _ st ⟨g,rfl,rfl⟩ (eF _ _ _ m1 c2))
 rw [qY (by simpa using c2)];refine AL (G6 ?_)
 refine AL (Cz (Bs (I:=λx c st'=>Jv a₀ κ st st'/\∃out na nb mg,c=(none,na,nb,out,mg)/\M out na nb/\0 < na/\1 < nb/\na<=a.size/\nb<=b.size/\na+nb+1+x<=a.size+b.size)
  (Q:=λc st'=>Jv a₀ κ st st'/\∃r z,c=(some r,z)/\HU (Rl lt) (a.toList++b.toList) r.toList) ?step ?fin ?init) ?post)
 case init=>exact ⟨⟨g,rfl,rfl⟩,_,a.size - 1,b.size,_,rfl,m1,by lia,by lia,by omega,by lia,by lia⟩
 case fin=>
  rintro c st' ⟨_,out,na,nb,mg,_,_,k1,k2,k3,k4,k5⟩
  lia
 case post=>
  rintro c st' ⟨s1,r,z,rfl,f⟩;exact AN (h r st' s1 f)
 case step=>
  rintro x c st1 _ _ ⟨s1,out,na,nb,mg,rfl,m,k1,k2,k3,k4,k5⟩
  refine AL (Cz (Bs (I:=λy c st'=>st'=st1/\∃out' na' nb' ac bc,c=(none,na',nb',out',ac,bc)/\M out' na' nb'/\0 < na'/\1 < nb'/\na'<=a.size/\nb'<=b.size/\na'+nb'+y<=na+nb)
   (Q:=λc st'=>st'=st1/\((∃r z,c=(some r,z)/\HU (Rl lt) (a.toList++b.toList) r.toList)∨∃out' na' nb' ac bc,c=(none,na',nb',out',ac,bc)/\M out' na' nb'/\0 < na'/\1 < nb'/\na'<=a.size/\nb'<=b.size/\na'+nb'+1<=na+nb)) ?step1 ?fin1 ?init1) ?post1)
  case init1=>exact ⟨rfl,out,na,nb,0,0,rfl,m,k1,k2,k3,k4,by lia⟩
  case fin1=>
   rintro c st' ⟨rfl,out',na',nb',ac,bc,rfl,m',q1,q2,q3,q4,q5⟩;exact ⟨rfl,.inr ⟨out',na',nb',ac,bc,rfl,m',q1,q2,q3,q4,by lia⟩⟩
  case step1=>
   rintro y c st' _ _ ⟨rfl,out',na',nb',ac,bc,rfl,m',q1,q2,q3,q4,q5⟩;refine AL (BW (i:=nb' - 1) (by lia) ?_);refine AL (BW (i:=na' - 1) (by lia) ?_);refine AL (Od C s1.good (ib0 _ (by lia)) (ia0 _ (by lia)) ?_)
   cases e:lt (ix b (nb' - 1)) (ix a (na' - 1)) with
   | true=>
    refine AL (BW (i:=na' - 1) (by lia) ?_);have r0:Rl lt (ix b (nb' - 1)) (ix a (na' - 1)):=O.asym _ _ (ib0 _ (by lia)) (ia0 _ (by lia)) e
    have m2:=tA out' na' nb' m' q1 q3 q4 λj j1=>tr _ _ _ (ib0 _ (by lia)) (ib0 _ (by lia)) (ia0 _ (by lia)) (ub j (nb' - 1) (by lia) (by lia)) r0
    refine (show wpS (AR prog w) A E s (if (na' - 1==0)=true then _ else _) _ st' from ?_)
    by_cases d:na' - 1=0
    ·rw [qX (by simpa using d)]
     exact AN ⟨rfl,.inl ⟨_,_,rfl,eA _ _ _ m2 d⟩⟩
    ·rw [qY (by simpa using d)]
     split
     ·exact AN ⟨rfl,.inr ⟨_,na' - 1,nb',_,_,rfl,m2,by lia,by omega,by lia,by omega,by lia⟩⟩
     ·exact AN ⟨rfl,_,na' - 1,nb',_,_,rfl,m2,by lia,by omega,by lia,by omega,by lia⟩
   | false=>
    refine AL (BW (i:=nb' - 1) (by lia) ?_)
    have m2:=tB out' na' nb' m' (by lia) q4 q3 λj j1=>tr _ _ _ (ia0 _ (by lia)) (ia0 _ (by lia)) (ib0 _ (by lia)) (ua j (na' - 1) (by lia) (by lia)) e
    refine (show wpS (AR prog w) A E s (if (nb' - 1==1)=true then _ else _) _ st' from ?_)
    by_cases d:nb' - 1=1
    ·rw [qX (by simpa using d)]
     exact AN ⟨rfl,.inl ⟨_,_,rfl,eF _ _ _ m2 d⟩⟩
    ·rw [qY (by simpa using d)]
     split
     ·exact AN ⟨rfl,.inr ⟨_,na',nb' - 1,_,_,rfl,m2,by omega,by lia,by omega,by lia,by lia⟩⟩
     ·exact AN ⟨rfl,_,na',nb' - 1,_,_,rfl,m2,by omega,by lia,by omega,by lia,by lia⟩
  case post1=>
   rintro c st' ⟨rfl,⟨r,z,rfl,f⟩ | ⟨out',na',nb',ac,bc,rfl,m',q1,q2,q3,q4,q5⟩⟩
   ·exact AN ⟨s1,_,_,rfl,f⟩
   refine AL (Ic ?_)
   refine AL (Cz (Bs (I:=λy c st2=>Jv a₀ κ st st2/\∃out2 na2 nb2 mg2 ac bc,c=(none,na2,nb2,out2,mg2,ac,bc)/\M out2 na2 nb2/\0 < na2/\1 < nb2/\na2<=a.size/\nb2<=b.size/\na2+nb2+1<=na+nb)
    (Q:=λc st2=>Jv a₀ κ st st2/\((∃r z,c=(some r,z)/\HU (Rl lt) (a.toList++b.toList) r.toList)∨∃out2 na2 nb2 mg2 ac bc,c=(none,na2,nb2,out2,mg2,ac,bc)/\M out2 na2 nb2/\0 < na2/\1 < nb2/\na2<=a.size/\nb2<=b.size/\na2+nb2+1<=na+nb)) ?step2 ?fin2 ?init2) ?post2)
   case init2=>exact ⟨s1,out',na',nb',mg+1,ac,bc,rfl,m',q1,q2,q3,q4,q5⟩
   case fin2=>
    rintro c st2 ⟨s2,out2,na2,nb2,mg2,ac2,bc2,rfl,m2,p1⟩;exact ⟨s2,.inr ⟨out2,na2,nb2,mg2,ac2,bc2,rfl,m2,p1⟩⟩
   case post2=>
    rintro c st2 ⟨s2,⟨r,z,rfl,f⟩ | ⟨out2,na2,nb2,mg2,ac2,bc2,rfl,m2,p1,p2,p3,p4,p5⟩⟩
    ·exact AN ⟨s2,_,_,rfl,f⟩
    ·exact AL (OD (AN ⟨s2.gal _,out2,na2,nb2,mg2+1,rfl,m2,p1,p2,p3,p4,by lia⟩))
   case step2=>
    rintro y c st2 _ _ ⟨s2,out2,na2,nb2,mg2,ac2,bc2,rfl,m2,p1,p2,p3,p4,p5⟩
    let P:ForInStep (Option (Array Ak)×Nat×Nat×Array Ak×Nat×Nat×Nat)->BA->Prop:=λr st'=>match r with
     | .done c'=>Jv a₀ κ st st'/\((∃r z,c'=(some r,z)/\HU (Rl lt) (a.toList++b.toList) r.toList)∨∃out2 na2 nb2 mg2 ac bc,c'=(none,na2,nb2,out2,mg2,ac,bc)/\M out2 na2 nb2/\0 < na2/\1 < nb2/\na2<=a.size/\nb2<=b.size/\na2+nb2+1<=na+nb)
     | .yield c'=>Jv a₀ κ st st'/\∃out2 na2 nb2 mg2 ac bc,c'=(none,na2,nb2,out2,mg2,ac,bc)/\M out2 na2 nb2/\0 < na2/\1 < nb2/\na2<=a.size/\nb2<=b.size/\na2+nb2+1<=na+nb
    refine Cz (Q:=P) ?_ λr st' h=>by cases r <;> exact h
    refine (show wpS (AR prog w) A E s (if mg2 > 1 then _ else _) P st2 from ?_);split
    all_goals
     refine AL (OD ?_);refine AL (BW (i:=nb2 - 1) (by lia) ?_);refine AL (Eh (base:=0) (n:=na2) (hint:=na2 - 1) (arr:=a) (key:=ix b (nb2 - 1)) (left:=false) C (s2.gal _).good (λi=>!lt (ix b (nb2 - 1)) (ix a (0+i))) (ib0 _ (by lia)) (λi hi=>⟨by lia,ia0 _ (by lia)⟩) (λi hi=>rfl) (λi j hij hj e=>?_) (by lia) λk hk k1 k2=>?_)
     ·have e':lt (ix b (nb2 - 1)) (ix a (0+j))=false:=by simpa using e
      have:=tr _ _ _ (ia0 _ (by lia)) (ia0 _ (by lia)) (ib0 _ (by lia)) (ua (0+i) (0+j) (by lia) (by lia)) e';simpa using this
     ·have near:∀j,j < k->Rl lt (ix a j) (ix b (nb2 - 1)):=λj j1=>by
       have:=k1 j j1;rw [Gb] at this;simpa using this
      have m5:=sA out2 na2 nb2 k m2 hk p3 p4 λi j i1 i2 j1=>by
       have:=k2 i i1 i2;rw [Gb] at this;exact tr _ _ _ (ib0 _ (by lia)) (ib0 _ (by lia)) (ia0 _ (by lia)) (ub j (nb2 - 1) (by lia) (by lia)) (O.asym _ _ (ib0 _ (by lia)) (ia0 _ (by lia)) (by simpa using this))
      refine (show wpS (AR prog w) A E s (if na2 - k > 0 then _ else _) P _ from ?_)
      by_cases hk0:na2 - k > 0
      ·rw [qX hk0]
       refine (show wpS (AR prog w) A E s (if (k==0)=true then _ else _) P _ from ?_)
       by_cases d1:k=0
       ·rw [qX (by simpa using d1)]
        exact AN ⟨s2.gal _,.inl ⟨_,_,rfl,eA _ _ _ m5 d1⟩⟩
       rw [qY (by simpa using d1)];have m4:=tB _ _ _ m5 (by lia) p4 (by lia) near;refine AL (BW (i:=nb2 - 1) (by lia) ?_);refine (show wpS (AR prog w) A E s (if (nb2 - 1==1)=true then _ else _) P _ from ?_)
       by_cases d:nb2 - 1=1
       ·rw [qX (by simpa using d)]
        exact AN ⟨s2.gal _,.inl ⟨_,_,rfl,eF _ _ _ m4 d⟩⟩
       rw [qY (by simpa using d)];refine AL (BW (i:=k - 1) (by omega) ?_);refine AL (Eh (base:=0) (n:=nb2 - 1) (hint:=nb2 - 1 - 1) (arr:=b) (key:=ix a (k - 1)) (left:=true) C (s2.gal _).good (λi=>lt (ix b (0+i)) (ix a (k - 1))) (ia0 _ (by omega)) (λi hi=>⟨by lia,ib0 _ (by lia)⟩) (λi hi=>rfl) (λi j hij hj e=>?_) (by lia) λk3 hk3 k4 k5=>?_)
       ·cases e2:lt (ix b (0+i)) (ix a (k - 1)) with
        | true=>rfl
        | false=>
         have:=tr _ _ _ (ia0 _ (by lia)) (ib0 _ (by lia)) (ib0 _ (by lia)) e2 (ub (0+i) (0+j) (by lia) (by lia));exact nomatch (show true=false from (show lt (ix b (0+j)) (ix a (k - 1))=true from e).symm.trans this)
       ·have near2:∀j,j < k3->Rl lt (ix b j) (ix a (k - 1)):=λj j1=>by
         have:=k4 j j1;rw [Gb] at this;exact O.asym _ _ (ib0 _ (by lia)) (ia0 _ (by omega)) this
        have m6:=sB _ k (nb2 - 1) k3 m4 hk3 (by lia) (by lia) λi j i1 i2 j1=>by
         have:=k5 i i1 i2;rw [Gb] at this;exact tr _ _ _ (ia0 _ (by lia)) (ia0 _ (by lia)) (ib0 _ (by lia)) (ua j (k - 1) (by lia) (by lia)) this
        refine (show wpS (AR prog w) A E s (if nb2 - 1 - k3 > 0 then _ else _) P _ from ?_)
        by_cases hk4:nb2 - 1 - k3 > 0
        ·rw [qX hk4]
         refine (show wpS (AR prog w) A E s (if (k3==1)=true then _ else _) P _ from ?_)
         by_cases d2:k3=1
         ·rw [qX (by simpa using d2)]
          exact AN ⟨s2.gal _,.inl ⟨_,_,rfl,eF _ _ _ m6 d2⟩⟩
         rw [qY (by simpa using d2)]
         by_cases d4:k3=0
         ·rw [qX (by simpa using d4)]
          exact AN ⟨s2.gal _,.inl ⟨_,_,rfl,eB _ _ _ m6 d4⟩⟩
         rw [qY (by simpa using d4)];have m7:=tA _ _ _ m6 (by lia) (by lia) (by lia) near2;refine AL (BW (i:=k - 1) (by lia) ?_);refine (show wpS (AR prog w) A E s (if (k - 1==0)=true then _ else _) P _ from ?_)
         by_cases d3:k - 1=0
         ·rw [qX (by simpa using d3)]
          exact AN ⟨s2.gal _,.inl ⟨_,_,rfl,eA _ _ _ m7 d3⟩⟩
         rw [qY (by simpa using d3)];split
         ·exact AN ⟨s2.gal _,.inr ⟨_,k - 1,k3,_,_,_,rfl,m7,by lia,by lia,by lia,by lia,by lia⟩⟩
         ·exact AN ⟨s2.gal _,_,k - 1,k3,_,_,_,rfl,m7,by lia,by lia,by lia,by lia,by lia⟩
        ·rw [qY hk4]
         have:k3=nb2 - 1:=by lia
         subst this;have m7:=tA _ _ _ m4 (by lia) (by lia) (by lia) near2;refine AL (BW (i:=k - 1) (by lia) ?_);refine (show wpS (AR prog w) A E s (if (k - 1==0)=true then _ else _) P _ from ?_)
         by_cases d3:k - 1=0
         ·rw [qX (by simpa using d3)]
          exact AN ⟨s2.gal _,.inl ⟨_,_,rfl,eA _ _ _ m7 d3⟩⟩
         rw [qY (by simpa using d3)];split
         ·exact AN ⟨s2.gal _,.inr ⟨_,k - 1,nb2 - 1,_,_,_,rfl,m7,by lia,by lia,by lia,by lia,by lia⟩⟩
         ·exact AN ⟨s2.gal _,_,k - 1,nb2 - 1,_,_,_,rfl,m7,by lia,by lia,by lia,by lia,by lia⟩
      ·rw [qY hk0]
       have:k=na2:=by lia
       subst this;have m4:=tB _ _ _ m2 (by lia) p4 (by omega) near;refine AL (BW (i:=nb2 - 1) (by lia) ?_);refine (show wpS (AR prog w) A E s (if (nb2 - 1==1)=true then _ else _) P _ from ?_)
       by_cases d:nb2 - 1=1
       ·rw [qX (by simpa using d)]
        exact AN ⟨s2.gal _,.inl ⟨_,_,rfl,eF _ _ _ m4 d⟩⟩
       rw [qY (by simpa using d)];refine AL (BW (i:=k - 1) (by lia) ?_);refine AL (Eh (base:=0) (n:=nb2 - 1) (hint:=nb2 - 1 - 1) (arr:=b) (key:=ix a (k - 1)) (left:=true) C (s2.gal _).good (λi=>lt (ix b (0+i)) (ix a (k - 1))) (ia0 _ (by lia)) (λi hi=>⟨by lia,ib0 _ (by lia)⟩) (λi hi=>rfl) (λi j hij hj e=>?_) (by lia) λk3 hk3 k4 k5=>?_)
       ·cases e2:lt (ix b (0+i)) (ix a (k - 1)) with
        | true=>rfl
        | false=>
         have:=tr _ _ _ (ia0 _ (by lia)) (ib0 _ (by lia)) (ib0 _ (by lia)) e2 (ub (0+i) (0+j) (by lia) (by lia));exact nomatch (show true=false from (show lt (ix b (0+j)) (ix a (k - 1))=true from e).symm.trans this)
       ·have near2:∀j,j < k3->Rl lt (ix b j) (ix a (k - 1)):=λj j1=>by
         have:=k4 j j1;rw [Gb] at this;exact O.asym _ _ (ib0 _ (by lia)) (ia0 _ (by lia)) this
        have m6:=sB _ k (nb2 - 1) k3 m4 hk3 (by lia) (by omega) λi j i1 i2 j1=>by
         have:=k5 i i1 i2;rw [Gb] at this;exact tr _ _ _ (ia0 _ (by lia)) (ia0 _ (by lia)) (ib0 _ (by lia)) (ua j (k - 1) (by lia) (by lia)) this
        refine (show wpS (AR prog w) A E s (if nb2 - 1 - k3 > 0 then _ else _) P _ from ?_)
        by_cases hk4:nb2 - 1 - k3 > 0
        ·rw [qX hk4]
         refine (show wpS (AR prog w) A E s (if (k3==1)=true then _ else _) P _ from ?_)
         by_cases d2:k3=1
         ·rw [qX (by simpa using d2)]
          exact AN ⟨s2.gal _,.inl ⟨_,_,rfl,eF _ _ _ m6 d2⟩⟩
         rw [qY (by simpa using d2)]
         by_cases d4:k3=0
         ·rw [qX (by simpa using d4)]
          exact AN ⟨s2.gal _,.inl ⟨_,_,rfl,eB _ _ _ m6 d4⟩⟩
         rw [qY (by simpa using d4)];have m7:=tA _ _ _ m6 (by omega) (by omega) (by lia) near2;refine AL (BW (i:=k - 1) (by lia) ?_);refine (show wpS (AR prog w) A E s (if (k - 1==0)=true then _ else _) P _ from ?_)
         by_cases d3:k - 1=0
         ·rw [qX (by simpa using d3)]
          exact AN ⟨s2.gal _,.inl ⟨_,_,rfl,eA _ _ _ m7 d3⟩⟩
         rw [qY (by simpa using d3)];split
         ·exact AN ⟨s2.gal _,.inr ⟨_,k - 1,k3,_,_,_,rfl,m7,by lia,by lia,by lia,by lia,by lia⟩⟩
         ·exact AN ⟨s2.gal _,_,k - 1,k3,_,_,_,rfl,m7,by lia,by lia,by lia,by lia,by lia⟩
        ·rw [qY hk4]
         have:k3=nb2 - 1:=by lia
         subst this;have m7:=tA _ _ _ m4 (by omega) (by omega) (by lia) near2;refine AL (BW (i:=k - 1) (by lia) ?_);refine (show wpS (AR prog w) A E s (if (k - 1==0)=true then _ else _) P _ from ?_)
         by_cases d3:k - 1=0
         ·rw [qX (by simpa using d3)]
          exact AN ⟨s2.gal _,.inl ⟨_,_,rfl,eA _ _ _ m7 d3⟩⟩
         rw [qY (by simpa using d3)];split
         ·exact AN ⟨s2.gal _,.inr ⟨_,k - 1,nb2 - 1,_,_,_,rfl,m7,by lia,by lia,by lia,by lia,by lia⟩⟩
         ·exact AN ⟨s2.gal _,_,k - 1,nb2 - 1,_,_,_,rfl,m7,by lia,by lia,by lia,by lia,by lia⟩
end
def wr (arr:Array Ak) (sa:Nat) (l:List (Ak×Nat)):Array Ak:=l.foldl (λa (x:Ak×Nat)=>match x with | (p,j)=>a.setIfInBounds (sa+j) p) arr
theorem Ro (sa:Nat):∀(l:List Ak) (k:Nat) (arr:Array Ak),sa+k+l.length<=arr.size->(wr arr sa (l.zipIdx k)).toList=arr.toList.take (sa+k)++l++arr.toList.drop (sa+k+l.length)
 | [],k,arr,h=>by simp [wr]
 | x :: l,k,arr,h=>by
  rw [Aq] at h;have e:wr arr sa ((x :: l).zipIdx k)=wr (arr.setIfInBounds (sa+k) x) sa (l.zipIdx (k+1)):=rfl;rw [e,Ro sa l (k+1) _ (by simp;lia)]
  have hk:sa+k < arr.toList.length:=by simp;lia
  rw [QD,Aq,show sa+(k+1)=sa+k+1 by lia];rw [IX,List.take_set_of_le (AM _),BI hk,List.drop_set_of_lt (by lia)];simp [show sa+k+1+l.length=sa+k+(l.length+1) by lia]
theorem ix_list (a:Array Ak) (i:Nat):ix a i=(a.toList[i]?).getD (.none,.none):=by
 unfold ix;rw [EY];simp
theorem aj {arr m:Array Ak} {sa:Nat} (h:sa+m.size<=arr.size) (i:Nat):ix (wr arr sa m.toList.zipIdx) i=if i < sa then ix arr i else if i < sa+m.size then ix m (i - sa) else ix arr i:=by
 have e:=Ro sa m.toList 0 arr (by simpa using h);rw [ix_list,show m.toList.zipIdx=m.toList.zipIdx 0 from rfl,e,kE]
 have hl:(arr.toList.take sa).length=sa:=by simp;lia
 split
 ·rename_i h1
  rw [BC,Ah (by lia),TF h1,ix_list]
 ·rename_i h1
  split
  ·rename_i h2
   rw [BC,BB (by lia),hl,Ah (by simp;lia),ix_list]
  ·rename_i h2
   rw [BB (by simp;lia),Hz,ix_list]
   congr 2
   simp
   lia
theorem da {arr m:Array Ak} {sa:Nat} (h:sa+m.size<=arr.size) (hp:m.toList.Perm (arr.extract sa (sa+m.size)).toList):(wr arr sa m.toList.zipIdx).Perm arr:=by
 rw [Er];have e:=Ro sa m.toList 0 arr (by simpa using h);rw [show m.toList.zipIdx=m.toList.zipIdx 0 from rfl,e,kE]
 have e2:arr.toList=arr.toList.take sa++(arr.extract sa (sa+m.size)).toList++arr.toList.drop (sa+m.toList.length):=by
  rw [BC,Az,<-Hl h,EV]
 conv=>rhs;rw [e2]
 exact Ia _ (DE _ hp)
theorem Vn {a:Array Ak} {lo hi i:Nat} (h:hi<=a.size) (hi':i < hi - lo):ix (a.extract lo hi) i=ix a (lo+i):=by
 apply Ir
 rw [Array.getElem?_extract];simp
 lia
section
variable {prog:Al} {w:A2} {A:Ay} {E:AB->AE->Prop} {s:AE} {a₀:Array Ak} {κ:FK} {lt:Ak->Ak->Bool}
theorem ZU {a:Array Ak} {lo hi:Nat} (h:hi<=a.size) (u:Up lt a lo hi):(a.extract lo hi).toList.Pairwise (Rl lt):=by
 rw [Da];intro i j hi' hj hij;simp at hi' hj
 have e:∀k (hk:k < (a.extract lo hi).toList.length),(a.extract lo hi).toList[k]=ix a (lo+k):=λk hk=>by
  have hk':k < (a.extract lo hi).size:=by rw [Az] at hk;exact hk
  have:=C6 hk';rw [getElem?_pos (a.extract lo hi) k hk'] at this
  have hs:(a.extract lo hi).size=hi - lo:=by simp;lia
  rw [<-Vn h (by lia)];simpa using this
 rw [e,e];exact u _ _ (by lia) (by lia) (by omega)
theorem cS {st st1:BA} {Q:PUnit->BA->Prop} (h:Q ⟨⟩ st1):wpS (AR prog w) A E s (set st1:StateT BA Sem PUnit) Q st:=AN h
theorem TX {st:BA} {i sa na pw sb nb pw2:Nat} {Q:Bool->BA->Prop} (C:Jo prog w A s a₀ κ lt) (O:Ord (·∈a₀) lt) (g:Good a₀ κ st)
  (e1:(Aa st)[i]?=some (sa,na,pw)) (e2:(Aa st)[i+1]?=some (sb,nb,pw2)) (hab:sb=sa+na) (hna:1<=na) (hnb:1<=nb) (hs:sb+nb<=a₀.size)
  (ua:Up lt (AY st) sa (sa+na)) (ub:Up lt (AY st) sb (sb+nb))
  (h:∀st',Good a₀ κ st'->Aa st'=((Aa st).setIfInBounds i (sa,na+nb,pw)).eraseIdxIfInBounds (i+1)->Up lt (AY st') sa (sa+(na+nb))->Out (AY st) (AY st') sa (sa+(na+nb))->Q true st') :
  wpS (AR prog w) A E s (mergeAt' i) Q st:=by
 subst hab;have hsz:=g.size
 have mem:∀j,j < a₀.size->ix (AY st) j∈a₀:=λj hj=>g.mem hj
 have tr:∀x y z:Ak,x∈a₀->y∈a₀->z∈a₀->Rl lt x y->Rl lt y z->Rl lt x z:=λx y z hx hy hz h1 h2=>O.ntr x y z hx hy hz h1 h2
 refine (AL (G6 ?_):wpS _ _ _ _ (mergeAt' i) Q st);rw [show (sortPriv% PySem.Builtin.SortState.pending) st=Aa st from rfl,e1,e2];refine AL (cS ?_);generalize hst1:((sortPriv% PySem.Builtin.SortState.mk) (kindOf st) (AY st) (((Aa st).setIfInBounds i (sa,na+nb,pw)).eraseIdxIfInBounds (i+1)) (gallopOf st) (Hu st))=st1
 have g1:Good a₀ κ st1:=by subst hst1;exact ⟨g.perm,g.kind,g.failed⟩
 have a1:AY st1=AY st:=by subst hst1;rfl
 have p1:Aa st1=((Aa st).setIfInBounds i (sa,na+nb,pw)).eraseIdxIfInBounds (i+1):=by subst hst1;rfl
 refine AL (BW (a:=AY st) (i:=sa+na) (by lia) ?_);refine AL (Eh (base:=sa) (n:=na) (hint:=0) (arr:=AY st) (key:=ix (AY st) (sa+na)) (left:=false) C g1 (λj=>!lt (ix (AY st) (sa+na)) (ix (AY st) (sa+j))) (mem _ (by lia)) (λj hj=>⟨by lia,mem _ (by lia)⟩) (λj hj=>rfl) (λx y hxy hy e=>?_) (by lia) λk hk k1 k2=>?_)
 ·have e':lt (ix (AY st) (sa+na)) (ix (AY st) (sa+y))=false:=by simpa using e
  have:=tr _ _ _ (mem _ (by lia)) (mem _ (by lia)) (mem _ (by lia)) (ua (sa+x) (sa+y) (by lia) (by lia) (by lia)) e';simpa using this
 have low:∀j,sa<=j->j < sa+k->Rl lt (ix (AY st) j) (ix (AY st) (sa+na)):=λj j1 j2=>by
  have:=k1 (j - sa) (by lia);rw [show sa+(j - sa)=j by lia] at this;simpa using this
 have lowb:∀i j,sa<=i->i < sa+k->sa+na<=j->j < sa+na+nb->Rl lt (ix (AY st) i) (ix (AY st) j):=λi j i1 i2 j1 j2=>tr _ _ _ (mem _ (by lia)) (mem _ (by lia)) (mem _ (by lia)) (low i i1 i2) (ub _ _ (by lia) (by omega) (by omega))
 have whole:(∀j,sa<=j->j < sa+na->Rl lt (ix (AY st) j) (ix (AY st) (sa+na)))->Up lt (AY st) sa (sa+(na+nb)):=λhh x y h1 h2 h3=>by
  by_cases c1:y < sa+na
  ·exact ua x y h1 h2 c1
  by_cases c2:x < sa+na
  ·exact tr _ _ _ (mem _ (by lia)) (mem _ (by lia)) (mem _ (by lia)) (hh x h1 c2) (ub _ _ (by lia) (by lia) (by lia))
  ·exact ub x y (by lia) h2 (by lia)
 refine (show wpS (AR prog w) A E s (if (na - k==0)=true then _ else _) Q st1 from ?_)
 by_cases c1:na - k=0
 ·rw [qX (by simpa using c1)]
  refine AN (h st1 g1 p1 ?_ (by rw [a1];exact .refl));rw [a1]
  exact whole λj j1 j2=>low j j1 (by lia)
 rw [qY (by simpa using c1)];refine AL (BW (a:=AY st) (i:=sa+k+(na - k) - 1) (by omega) ?_);rw [show sa+k+(na - k) - 1=sa+na - 1 by lia];refine AL (Eh (base:=sa+na) (n:=nb) (hint:=nb - 1) (arr:=AY st) (key:=ix (AY st) (sa+na - 1)) (left:=true) C g1 (λj=>lt (ix (AY st) (sa+na+j)) (ix (AY st) (sa+na - 1))) (mem _ (by lia)) (λj hj=>⟨by lia,mem _ (by lia)⟩) (λj hj=>rfl) (λx y hxy hy e=>?_) (by omega) λk3 hk3 k4 k5=>?_)
 ·cases e2:lt (ix (AY st) (sa+na+x)) (ix (AY st) (sa+na - 1)) with
  | true=>rfl
  | false=>
   have:=tr _ _ _ (mem _ (by lia)) (mem _ (by lia)) (mem _ (by lia)) e2 (ub (sa+na+x) (sa+na+y) (by lia) (by lia) (by lia));exact nomatch (show true=false from (show lt (ix (AY st) (sa+na+y)) (ix (AY st) (sa+na - 1))=true from e).symm.trans this)
 have high:∀j,sa+na+k3<=j->j < sa+na+nb->Rl lt (ix (AY st) (sa+na - 1)) (ix (AY st) j):=λj j1 j2=>by
  have:=k5 (j - (sa+na)) (by lia) (by lia);rwa [show sa+na+(j - (sa+na))=j by lia] at this
 refine (show wpS (AR prog w) A E s (if (k3==0)=true then _ else _) Q st1 from ?_)
 by_cases c2:k3=0
 ·rw [qX (by simpa using c2)]
  refine AN (h st1 g1 p1 ?_ (by rw [a1];exact .refl));rw [a1]
  exact whole λj j1 j2=>tr _ _ _ (mem _ (by lia)) (mem _ (by lia)) (mem _ (by lia)) (ua j (sa+na - 1) (by omega) (by lia) (by lia)) (high _ (by lia) (by lia))
 rw [qY (by simpa using c2)]
 let x:=(AY st).extract (sa+k) (sa+na)
 let y:=(AY st).extract (sa+na) (sa+na+k3)
 have xs:x.size=na - k:=by simp [x];lia
 have ys:y.size=k3:=by simp [y];lia
 have ixx:∀j,j < na - k->ix x j=ix (AY st) (sa+k+j):=λj hj=>Vn (by lia) (by lia)
 have ixy:∀j,j < k3->ix y j=ix (AY st) (sa+na+j):=λj hj=>Vn (by lia) (by lia)
 have memx:∀z∈x.toList,∃j,j < na - k/\z=ix (AY st) (sa+k+j):=λz hz=>by
  have hz:z∈((AY st).extract (sa+k) (sa+k+(na - k))).toList:=by rw [show sa+k+(na - k)=sa+na by lia];exact hz
  exact OM (by lia) hz
 have memy:∀z∈y.toList,∃j,j < k3/\z=ix (AY st) (sa+na+j):=λz hz=>OM (by lia) hz
 have fin:∀(r:Array Ak) (st':BA),Jv a₀ κ st1 st'->HU (Rl lt) (x.toList++y.toList) r.toList->∀st2:BA,AY st2=wr (AY st') (sa+k) r.toList.zipIdx->kindOf st2=kindOf st'->Hu st2=Hu st'->Aa st2=Aa st'->Q true st2:=by
  intro r st' sm f st2 q1 q2 q3 q4
  have hr:r.size=na - k+k3:=by
   have:=f.perm.length_eq;simp only [Af,Az] at this
   lia
  have ha:AY st'=AY st:=sm.arr.trans a1;rw [ha] at q1
  have hb:sa+k+r.size<=(AY st).size:=by lia
  have mm:∀t,t < r.size->∃t',ix r t=ix (AY st) t'/\sa+k<=t'/\t' < sa+na+k3:=λt ht=>by
   have:ix r t∈r.toList:=BK.mpr (Cc (C6 ht))
   rcases Ap.mp (f.perm.mem_iff.mp this) with h | h
   ·obtain ⟨j,j1,e⟩:=memx _ h
    exact ⟨_,e,by lia,by lia⟩
   ·obtain ⟨j,j1,e⟩:=memy _ h
    exact ⟨_,e,by lia,by lia⟩
  have rs:=Td O (a:=r) (λt ht=>by
   obtain ⟨t',e,_,_⟩:=mm t ht;rw [e]
   exact mem _ (by lia)) f.srt
  refine h st2 ⟨?_,?_,?_⟩ (q4.trans (sm.pend.trans p1)) ?_ ?_
  ·rw [q1]
   refine (da hb (f.perm.trans ?_)).trans g.perm
   have:(AY st).toList.drop (sa+k)=x.toList++(AY st).toList.drop (sa+na):=by
    have:=Hl (a:=AY st) (i:=sa+k) (k:=na - k) (by lia);rw [show sa+k+(na - k)=sa+na by lia] at this;exact this
   have h2:(AY st).toList.drop (sa+na)=y.toList++(AY st).toList.drop (sa+na+k3):=Hl (by lia);have h3:(AY st).toList.drop (sa+k)=((AY st).extract (sa+k) (sa+k+r.size)).toList++(AY st).toList.drop (sa+k+r.size):=Hl hb;rw [this,h2,<-BC,show sa+k+r.size=sa+na+k3 by lia] at h3;rw [show sa+k+r.size=sa+na+k3 by lia];exact WK (List.append_cancel_right h3)
  ·rw [q2];exact sm.good.kind
  ·rw [q3];exact sm.good.failed
  ·rw [q1]
   intro i j h1 h2 h3;show Rl lt _ _;rw [aj hb,aj hb]
   by_cases i1:i < sa+k
   ·rw [qX i1]
    by_cases j1:j < sa+k
    ·rw [qX j1];exact ua i j h1 h2 (by lia)
    rw [qY j1]
    by_cases j2:j < sa+k+r.size
    ·rw [qX j2]
     obtain ⟨t,e,t1,t2⟩:=mm (j - (sa+k)) (by omega);rw [e]
     by_cases t3:t < sa+na
     ·exact ua i t h1 (by lia) t3
     ·exact lowb i t h1 i1 (by lia) (by lia)
    ·rw [qY j2];exact lowb i j h1 i1 (by lia) (by lia)
   rw [qY i1,qY (show ¬j < sa+k by lia)]
   by_cases i2:i < sa+k+r.size
   ·rw [qX i2]
    by_cases j2:j < sa+k+r.size
    ·rw [qX j2];exact rs _ _ (by lia) (by omega)
    ·rw [qY j2]
     obtain ⟨t,e,t1,t2⟩:=mm (i - (sa+k)) (by omega);rw [e]
     by_cases t3:t < sa+na
     ·exact tr _ _ _ (mem _ (by lia)) (mem _ (by lia)) (mem _ (by lia)) (ua t (sa+na - 1) (by lia) (by lia) (by lia)) (high j (by lia) (by lia))
     ·exact ub t j (by lia) (by lia) (by lia)
   ·rw [qY i2,qY (show ¬j < sa+k+r.size by lia)]
    exact ub i j (by lia) h2 (by lia)
  ·rw [q1]
   intro i hi;rw [aj hb]
   by_cases i1:i < sa+k
   ·rw [qX i1]
   ·rw [qY i1,qY (by lia)]
 have args:∀ {P:Prop},((∀z∈x.toList,z∈a₀)->(∀z∈y.toList,z∈a₀)->x.toList.Pairwise (Rl lt)->y.toList.Pairwise (Rl lt)->0 < x.size->0 < y.size->(∀z∈x.toList,Rl lt (ix y 0) z)->(∀z∈y.toList,Rl lt z (ix x (x.size - 1)))->P)->P:=by
  intro P hP
  refine hP (λz hz=>?_) (λz hz=>?_) (ZU (by lia) λi j h1 h2 h3=>ua i j (by lia) h2 h3) (ZU (by lia) λi j h1 h2 h3=>ub i j h1 h2 (by lia)) (by lia) (by lia) (λz hz=>?_) λz hz=>?_
  ·obtain ⟨j,j1,rfl⟩:=memx z hz
   exact mem _ (by lia)
  ·obtain ⟨j,j1,rfl⟩:=memy z hz
   exact mem _ (by lia)
  ·obtain ⟨j,j1,rfl⟩:=memx z hz
   rw [ixy 0 (by lia)];have:=k2 (k+j) (by lia) (by lia);rw [show sa+(k+j)=sa+k+j by lia] at this;exact O.asym _ _ (mem _ (by lia)) (mem _ (by lia)) (by simpa using this)
  ·obtain ⟨j,j1,rfl⟩:=memy z hz
   rw [xs,ixx _ (by lia),show sa+k+(na - k - 1)=sa+na - 1 by lia];exact O.asym _ _ (mem _ (by lia)) (mem _ (by lia)) (k4 j j1)
 refine (show wpS (AR prog w) A E s (if na - k<=k3 then mLo x y >>= _ else mHi x y >>= _) Q st1 from ?_);split
 ·refine AL (args λb1 b2 b3 b4 b5 b6 b7 b8=>cT C O g1 b1 b2 b3 b4 b5 b6 b7 b8 λr st' sm f=>?_)
  refine AL (DG (AL (G6 (AN ?_))));have q:=fin r st' sm f (setArr st' (wr (AY st') (sa+k) r.toList.zipIdx)) rfl rfl rfl rfl;rw [<-show (Hu st').isNone=true by rw [sm.good.failed];rfl] at q;exact q
 ·refine AL (args λb1 b2 b3 b4 b5 b6 b7 b8=>cU C O g1 b1 b2 b3 b4 b5 b6 b7 b8 λr st' sm f=>?_)
  refine AL (DG (AL (G6 (AN ?_))));have q:=fin r st' sm f (setArr st' (wr (AY st') (sa+k) r.toList.zipIdx)) rfl rfl rfl rfl;rw [<-show (Hu st').isNone=true by rw [sm.good.failed];rfl] at q;exact q
end
theorem eN {c:Prop} [Decidable c] {z:Nat} (h:1 < z):(if c then z - 2 - 1 else z - 2)+1 < z:=by split <;> omega
def Stk (lt:Ak->Ak->Bool) (arr:Array Ak):List (Nat×Nat×Nat)->Nat->Nat->Prop
 | [],lo,hi=>lo=hi
 | (s,n,_) :: r,lo,hi=>s=lo/\1<=n/\Up lt arr s (s+n)/\Stk lt arr r (s+n) hi
section
variable {lt:Ak->Ak->Bool} {arr arr':Array Ak}
theorem Stk.le:∀ {l:List (Nat×Nat×Nat)} {lo hi:Nat},Stk lt arr l lo hi->lo+l.length<=hi
 | [],lo,hi,h=>by cases h;simp
 | (s,n,_) :: r,lo,hi,⟨h1,h2,_,h4⟩=>by
  have:=Stk.le h4;rw [Aq]
  lia
theorem Stk.app:∀ {l r:List (Nat×Nat×Nat)} {lo hi:Nat},Stk lt arr (l++r) lo hi↔∃mid,Stk lt arr l lo mid/\Stk lt arr r mid hi
 | [],r,lo,hi=>⟨λh=>⟨lo,rfl,h⟩,λ⟨_,e,h⟩=>by cases e;exact h⟩
 | (s,n,_) :: l,r,lo,hi=>by
  constructor
  ·rintro ⟨h1,h2,h3,h4⟩
   obtain ⟨mid,a,b⟩:=Stk.app.mp h4;exact ⟨mid,⟨h1,h2,h3,a⟩,b⟩
  ·rintro ⟨mid,⟨h1,h2,h3,h4⟩,b⟩
   exact ⟨h1,h2,h3,Stk.app.mpr ⟨mid,h4,b⟩⟩
theorem Stk.pw {f:Nat×Nat×Nat->Nat×Nat×Nat} (hf:∀x,(f x).1=x.1/\(f x).2.1=x.2.1):∀ {l:List (Nat×Nat×Nat)} {lo hi:Nat} (i:Nat),Stk lt arr l lo hi->Stk lt arr (l.modify i f) lo hi
 | [],lo,hi,i,h=>by cases i <;> exact h
 | (s,n,p) :: r,lo,hi,0,h=>by
  obtain ⟨e1,e2⟩:=hf (s,n,p);show Stk lt arr (f (s,n,p) :: r) lo hi;generalize f (s,n,p)=q at e1 e2;obtain ⟨s',n',p'⟩:=q;dsimp only at e1 e2;subst e1 e2;exact h
 | (s,n,p) :: r,lo,hi,i+1,⟨h1,h2,h3,h4⟩=>⟨h1,h2,h3,Stk.pw hf i h4⟩
theorem Stk.out:∀ {l:List (Nat×Nat×Nat)} {lo hi x y:Nat},Stk lt arr l lo hi->Out arr arr' x y->(hi<=x∨y<=lo)->Stk lt arr' l lo hi
 | [],lo,hi,x,y,h,o,d=>h
 | (s,n,_) :: r,lo,hi,x,y,⟨h1,h2,h3,h4⟩,o,d=>by
  have:=h4.le;exact ⟨h1,h2,h3.out o (by lia),Stk.out h4 o (by lia)⟩
end
section
variable {prog:Al} {w:A2} {A:Ay} {E:AB->AE->Prop} {s:AE} {a₀:Array Ak} {κ:FK} {lt:Ak->Ak->Bool}
theorem Out.wide {xs ys:Array Ak} {l h l' h':Nat} (o:Out xs ys l h) (h1:l'<=l) (h2:h<=h'):Out xs ys l' h':=λi hi=>o i (by lia)
theorem JE {st:BA} {i hi:Nat} {Q:Bool->BA->Prop} (C:Jo prog w A s a₀ κ lt) (O:Ord (·∈a₀) lt) (g:Good a₀ κ st) (k:Stk lt (AY st) (Aa st).toList 0 hi) (hs:hi<=a₀.size) (hi1:i+1 < (Aa st).size)
  (h:∀st',Good a₀ κ st'->Stk lt (AY st') (Aa st').toList 0 hi->(Aa st').size+1=(Aa st).size->Out (AY st) (AY st') 0 hi->Q true st'):wpS (AR prog w) A E s (mergeAt' i) Q st:=by
 obtain ⟨sa,na,pw,e1⟩:∃sa na pw,(Aa st)[i]?=some (sa,na,pw):=⟨_,_,_,getElem?_pos (Aa st) i (by lia)⟩
 obtain ⟨sb,nb,pw2,e2⟩:∃sa na pw,(Aa st)[i+1]?=some (sa,na,pw):=⟨_,_,_,getElem?_pos (Aa st) (i+1) hi1⟩
 obtain ⟨l,r,el,hl⟩:∃l r,(Aa st).toList=l++(sa,na,pw) :: (sb,nb,pw2) :: r/\l.length=i:=by
  have a1:(Aa st).toList[i]?=some (sa,na,pw):=by simpa using e1
  have a2:(Aa st).toList[i+1]?=some (sb,nb,pw2):=by simpa using e2
  obtain ⟨b1,c1⟩:=AK.mp a1;obtain ⟨b2,c2⟩:=AK.mp a2;refine ⟨(Aa st).toList.take i,(Aa st).toList.drop (i+2),?_,by rw [Ch];lia⟩
  conv=>lhs;rw [<-EV i (Aa st).toList,FC b1,FC b2,c1,c2]
 rw [el] at k;obtain ⟨mid,k1,⟨q1,q2,q3,⟨q4,q5,q6,q7⟩⟩⟩:=Stk.app.mp k;have hle:=q7.le;have hle1:=k1.le
 refine TX C O g e1 e2 q4 q2 q5 (by lia) q3 q6 λst' g' p' u' o'=>?_
 have pl:(Aa st').toList=l++(sa,na+nb,pw) :: r:=by
  rw [p',Array.toList_eraseIdxIfInBounds,QD,el];rw [U2 _ _ (by lia),hl,Uz,List.set_cons_zero,List.eraseIdx_append_of_length_le (by lia),show i+1 - l.length=1 by lia];rfl
 refine h st' g' ?_ ?_ (o'.wide (by lia) (by lia))
 ·rw [pl]
  refine Stk.app.mpr ⟨mid,k1.out o' (.inl (by lia)),q1,by lia,u',?_⟩
  have e:sb+nb=sa+(na+nb):=by lia
  rw [e] at q7;exact q7.out o' (.inr (by lia))
 ·have z1:=congrArg IZ pl
  have z2:=congrArg IZ el;simp at z1 z2
  lia
theorem wpS_sortRuns {st:BA} {Q:Unit->BA->Prop} (C:Jo prog w A s a₀ κ lt) (O:Ord (·∈a₀) lt) (g:Good a₀ κ st) (hp:Aa st = #[])
  (h:∀st',Good a₀ κ st'->Up lt (AY st') 0 a₀.size->Q () st'):wpS (AR prog w) A E s sortRuns' Q st:=by
 rw [sortRuns'_eq];refine AL (G6 ?_);dsimp only;rw [g.size];generalize minRun' a₀.size a₀.size 0=mr
 refine AL (Cz (Bs (I:=λx c st'=>∃lo,c=(none,lo)/\Good a₀ κ st'/\Stk lt (AY st') (Aa st').toList 0 lo/\lo<=a₀.size/\min x a₀.size<=lo)
  (Q:=λc st'=>c=(none,a₀.size)/\Good a₀ κ st'/\Stk lt (AY st') (Aa st').toList 0 a₀.size) ?step ?fin ?init) ?post)
 case init=>exact ⟨0,rfl,g,by rw [hp];rfl,by lia,by lia⟩
 case fin=>
  rintro c st' ⟨lo,rfl,g',k',h1,h2⟩
  have:lo=a₀.size:=by lia
  subst this;exact ⟨rfl,g',k'⟩
 case step=>
  rintro x c st1 _ hx ⟨lo,rfl,g1,k1,h1,h2⟩;dsimp only
  by_cases hge:lo ≥ a₀.size
  ·rw [qX hge]
   have:lo=a₀.size:=by lia
   subst this;exact AN ⟨rfl,g1,k1⟩
  rw [qY hge];refine AL (wpS_countRun C O (by lia) (by lia) g1 λst2 n g2 n1 n2 u2 o2 p2=>?_);dsimp only
  have k2:Stk lt (AY st2) (Aa st2).toList 0 lo:=by
   rw [p2];exact k1.out o2 (.inl (AM _))
  by_cases hm:n < mr
  ·rw [qX hm]
   refine AL (Ic ?_);refine AL (wpS_binarySort C O (by lia) (by omega) g2 u2 λst3 g3 u3 o3 p3=>?_)
   have k3:Stk lt (AY st3) (Aa st3).toList 0 lo:=by
    rw [p3];exact k2.out o3 (.inl (AM _))
   rw [qY (by simp)];refine AL (G6 ?_)
   cases hb:(Aa st3).back? with
   | none=>
    dsimp only;refine AL (DG (AN ⟨lo+min (a₀.size - lo) mr,rfl,⟨g3.perm,g3.kind,g3.failed⟩,?_,by lia,by lia⟩));show Stk lt (AY st3) ((Aa st3).push (lo,min (a₀.size - lo) mr,0)).toList 0 (lo+min (a₀.size - lo) mr);rw [EX];exact Stk.app.mpr ⟨lo,k3,rfl,by omega,u3,rfl⟩
   | some t=>
    obtain ⟨s1,n1,z⟩:=t;dsimp only;generalize power' a₀.size (2 * s1+n1) (2 * s1+n1+n1+min (a₀.size - lo) mr) a₀.size=pw
    refine AL (Cz (Bs (I:=λ_ c st4=>c=(none,())/\Good a₀ κ st4/\Stk lt (AY st4) (Aa st4).toList 0 lo/\Up lt (AY st4) lo (lo+min (a₀.size - lo) mr))
     (Q:=λc st4=>c=(none,())/\Good a₀ κ st4/\Stk lt (AY st4) (Aa st4).toList 0 lo/\Up lt (AY st4) lo (lo+min (a₀.size - lo) mr)) ?_ (λc st4 h=>h) ⟨rfl,g3,k3,u3⟩) ?_)
    ·rintro x' c' st4 _ _ ⟨rfl,g4,k4,u4⟩
     refine AL (G6 ?_)
     by_cases hz:(Aa st4).size > 1
     ·rw [qX hz]
      obtain ⟨s2,n2,older,e2⟩:∃s2 n2 older,(Aa st4)[(Aa st4).size - 2]?=some (s2,n2,older):=⟨_,_,_,getElem?_pos (Aa st4) ((Aa st4).size - 2) (by lia)⟩
      rw [e2];dsimp only
      by_cases ho:older<=pw
      ·rw [qX ho]
       exact AN ⟨rfl,g4,k4,u4⟩
      ·rw [qY ho]
       refine AL (JE C O g4 k4 (by omega) (by lia) λst5 g5 k5 _ o5=>?_);exact AN ⟨rfl,g5,k5,u4.out o5 (.inr (by lia))⟩
     ·rw [qY hz]
      exact AN ⟨rfl,g4,k4,u4⟩
    ·rintro c' st4 ⟨rfl,g4,k4,u4⟩
     dsimp only;refine AL (DG (AL (DG (AN ⟨lo+min (a₀.size - lo) mr,rfl,⟨g4.perm,g4.kind,g4.failed⟩,?_,by lia,by lia⟩))));show Stk lt (AY st4) ((((Aa st4).modify ((Aa st4).size - 1) λx=>(x.fst,x.2.fst,pw))).push (lo,min (a₀.size - lo) mr,0)).toList 0 (lo+min (a₀.size - lo) mr);rw [EX,WO];exact Stk.app.mpr ⟨lo,Stk.pw (f:=λx=>(x.fst,x.2.fst,pw)) (λx=>⟨rfl,rfl⟩) _ k4,rfl,by omega,u4,rfl⟩
  ·rw [qY hm]
   refine AL (G6 ?_)
   cases hb:(Aa st2).back? with
   | none=>
    dsimp only;refine AL (DG (AN ⟨lo+n,rfl,⟨g2.perm,g2.kind,g2.failed⟩,?_,by lia,by lia⟩));show Stk lt (AY st2) ((Aa st2).push (lo,n,0)).toList 0 (lo+n);rw [EX];exact Stk.app.mpr ⟨lo,k2,rfl,by omega,u2,rfl⟩
   | some t=>
    obtain ⟨s1,n1,z⟩:=t;dsimp only;generalize power' a₀.size (2 * s1+n1) (2 * s1+n1+n1+n) a₀.size=pw
    refine AL (Cz (Bs (I:=λ_ c st4=>c=(none,())/\Good a₀ κ st4/\Stk lt (AY st4) (Aa st4).toList 0 lo/\Up lt (AY st4) lo (lo+n))
     (Q:=λc st4=>c=(none,())/\Good a₀ κ st4/\Stk lt (AY st4) (Aa st4).toList 0 lo/\Up lt (AY st4) lo (lo+n)) ?_ (λc st4 h=>h) ⟨rfl,g2,k2,u2⟩) ?_)
    ·rintro x' c' st4 _ _ ⟨rfl,g4,k4,u4⟩
     refine AL (G6 ?_)
     by_cases hz:(Aa st4).size > 1
     ·rw [qX hz]
      obtain ⟨s2,n2,older,e2⟩:∃s2 n2 older,(Aa st4)[(Aa st4).size - 2]?=some (s2,n2,older):=⟨_,_,_,getElem?_pos (Aa st4) ((Aa st4).size - 2) (by lia)⟩
      rw [e2];dsimp only
      by_cases ho:older<=pw
      ·rw [qX ho]
       exact AN ⟨rfl,g4,k4,u4⟩
      ·rw [qY ho]
       refine AL (JE C O g4 k4 (by omega) (by lia) λst5 g5 k5 _ o5=>?_);exact AN ⟨rfl,g5,k5,u4.out o5 (.inr (by lia))⟩
     ·rw [qY hz]
      exact AN ⟨rfl,g4,k4,u4⟩
    ·rintro c' st4 ⟨rfl,g4,k4,u4⟩
     dsimp only;refine AL (DG (AL (DG (AN ⟨lo+n,rfl,⟨g4.perm,g4.kind,g4.failed⟩,?_,by lia,by lia⟩))));show Stk lt (AY st4) ((((Aa st4).modify ((Aa st4).size - 1) λx=>(x.fst,x.2.fst,pw))).push (lo,n,0)).toList 0 (lo+n);rw [EX,WO];exact Stk.app.mpr ⟨lo,Stk.pw (f:=λx=>(x.fst,x.2.fst,pw)) (λx=>⟨rfl,rfl⟩) _ k4,rfl,by omega,u4,rfl⟩
 case post=>
  rintro c st1 ⟨rfl,g1,k1⟩;dsimp only
  refine AL (Cz (Bs (I:=λx c st4=>c=(none,())/\Good a₀ κ st4/\Stk lt (AY st4) (Aa st4).toList 0 a₀.size/\((Aa st4).size<=1∨(Aa st4).size+x<=a₀.size))
   (Q:=λc st4=>c=(none,())/\Good a₀ κ st4/\Stk lt (AY st4) (Aa st4).toList 0 a₀.size/\(Aa st4).size<=1) ?_ ?_ ?_) ?_)
  ·rintro x c st4 _ _ ⟨rfl,g4,k4,d⟩
   refine AL (G6 ?_)
   by_cases hz:(Aa st4).size<=1
   ·rw [qX hz]
    exact AN ⟨rfl,g4,k4,hz⟩
   ·rw [qY hz]
    refine AL (JE C O g4 k4 (AM _) (eN (by lia)) λst5 g5 k5 z5 o5=>?_);exact AN ⟨rfl,g5,k5,.inr (by lia)⟩
  ·rintro c st4 ⟨rfl,g4,k4,d⟩
   exact ⟨rfl,g4,k4,by lia⟩
  ·refine ⟨rfl,g1,k1,.inr ?_⟩
   have:=k1.le;simp at this;omega
  ·rintro c st4 ⟨rfl,g4,k4,d⟩
   refine AN (h st4 g4 ?_);generalize hl:(Aa st4).toList=l at k4
   have hd:l.length<=1:=by rw [<-hl];simpa using d
   match l,k4,hd with
   | [],k4,_=>exact λi j h1 h2 h3=>by have:(0:Nat)=a₀.size:=k4;lia
   | [(s,n,_)],⟨e1,_,u,e2⟩,_=>
    have e2:s+n=a₀.size:=e2;rw [e2,e1] at u;exact u
end
def ltL:List Int->List Int->Bool
 | [],[]=>false
 | [],_ :: _=>true
 | _ :: _,[]=>false
 | x :: xs,y :: ys=>if x=y then ltL xs ys else decide (x < y)
theorem PP:∀x y,ltL x y=true->ltL y x=false
 | [],[],h=>by cases h
 | [],_ :: _,_=>rfl
 | _ :: _,[],h=>by cases h
 | x :: xs,y :: ys,h=>by
  unfold ltL at h ⊢
  by_cases e:x=y
  ·rw [qX e] at h;rw [qX e.symm];exact PP xs ys h
  ·rw [qY e] at h;rw [qY (Bl e)];simp at h ⊢;lia
theorem SM:∀x y z,ltL y x=false->ltL z y=false->ltL z x=false
 | [],y,[],_,_=>rfl
 | [],[],_ :: _,_,_=>rfl
 | [],_ :: _,_ :: _,_,_=>rfl
 | x :: xs,[],z,h,_=>by cases h
 | _,y :: ys,[],_,h=>by cases h
 | x :: xs,y :: ys,z :: zs,h1,h2=>by
  unfold ltL at h1 h2 ⊢
  by_cases e1:y=x
  ·rw [qX e1] at h1
   subst e1
   by_cases e2:z=y
   ·rw [qX e2] at h2 ⊢
    exact SM xs ys zs h1 h2
   ·rw [qY e2] at h2 ⊢;exact h2
  ·rw [qY e1] at h1
   by_cases e2:z=y
   ·subst e2;rw [qY e1];exact h1
   ·rw [qY e2] at h2
    by_cases e3:z=x
    ·subst e3;simp at h1 h2;lia
    ·rw [qY e3];simp at h1 h2 ⊢;lia
theorem Wl:∀x y,ltL x y=false->ltL y x=false->x=y
 | [],[],_,_=>rfl
 | [],_ :: _,h,_=>by cases h
 | _ :: _,[],_,h=>by cases h
 | x :: xs,y :: ys,h1,h2=>by
  unfold ltL at h1 h2
  by_cases e:x=y
  ·rw [qX e] at h1;rw [qX e.symm] at h2;rw [e,Wl xs ys h1 h2]
  ·rw [qY e] at h1;rw [qY (Bl e)] at h2;simp at h1 h2;lia
def ltK (f:AB->List Int) (x y:Ak):Bool:=ltL (f x.1) (f y.1)
theorem dq (f:AB->List Int) (U:Ak->Prop):Ord U (ltK f):=⟨λx y _ _ h=>PP _ _ h,λx y z _ _ _ h1 h2=>SM _ _ _ h1 h2⟩
section
variable {prog:Al} {w:A2} {A:Ay} {E:AB->AE->Prop} {s:AE}
theorem Vc {a b:Int} {t u:Tok} (o:Bool) {Q:Bool->AE->Prop} (h:Q (decide (a < b)) s):AZ (AR prog w) A (oneLt' o (.int a t) (.int b u)) Q E s:=by
 cases o with
 | true=>exact oneLt_int h
 | false=>
  rw [oneLt'_eq];simp only [BN,if_false];exact AA (wpAny_lt_int (DB h))
def Ps (s:AE) (v:AB) (ns:List Int):Prop:=∃a its,v=.ref a/\s.heap.IsTuple a its/\IntsAre its.toList ns
def lj (o:Bool):(AB×AB)×Nat->Option Bool×Unit->Sem (ForInStep (Option Bool×Unit)):=λe _=>match e with
 | ((p,q),i)=>eqBool p q >>= λc=>if (!c)=true then oneLt' (o&&i==0) p q >>= λb=>pure (.done (some b,())) else pure (.yield (none,()))
theorem ai (o:Bool) (x y:AB):keyLt' (jk o) x y=(IA x >>= λr=>IA y >>= λq=>forIn (r.toList.zip q.toList).zipIdx ((none,()):Option Bool×Unit) (lj o) >>= λz=>match z.1 with
  | some b=>pure b
  | none=>pure (decide (r.size < q.size))):=by kernel_rfl
theorem bZ (o:Bool) {n0:Nat}:∀ {is js:List AB} {ns ms:List Int} (k:Nat) {Q:Bool->AE->Prop},IntsAre is ns->IntsAre js ms->Q (ltL ns ms) s ->
  AZ (AR prog w) A (forIn ((is.zip js).zipIdx k) ((none,()):Option Bool×Unit) (lj o) >>= λz=>match z.1 with
   | some b=>pure b
   | none=>pure (decide (n0+is.length < n0+js.length))) Q E s:=by
 intro is
 induction is with
 | nil=>
  intro js ns ms k Q h1 h2 hq;cases h1;rw [Y4,cK,fZ];refine AA (AD (AD ?_))
  cases h2 with
  | nil=>simpa [ltL] using hq
  | cons m t h=>simpa [ltL] using hq
 | cons v is ih=>
  intro js ns ms k Q h1 h2 hq
  cases h1 with
  | cons n t h1=>
   cases h2 with
   | nil=>
    rw [Yq,cK,fZ];refine AA (AD (AD ?_));rw [wY (by rw [Aq,EJ];lia)];exact hq
   | cons m u h2=>
    rw [Mp,List.zipIdx_cons,cM];rw [bind_assoc];unfold ltL at hq;refine AA ?_;refine AA (j4 ?_)
    by_cases e:n=m
    ·rw [qX e] at hq
     rw [qY (by simp [e])];refine AD ?_;have:=ih (k+1) h1 h2 hq;simpa [Nat.add_lt_add_iff_left] using this
    ·rw [qY e] at hq
     rw [qX (by simp [e])];refine AA (Vc _ (AD ?_));exact AA (AD (AD hq))
end
section
variable {prog:Al} {w:A2} {A:Ay} {E:AB->AE->Prop} {s:AE}
theorem Km {v:AB} {ns:List Int} (h:Ps s v ns):∃its:Array AB,IntsAre its.toList ns/\s.TypeIs v "tuple"/\∀(E:AB->AE->Prop) (Q:Array AB->AE->Prop),Q its s->AZ (AR prog w) A (IA v) Q E s:=by
 obtain ⟨a,its,rfl,⟨o,ho,hc,n,hd⟩,hi⟩:=h;exact ⟨its,hi,⟨o,ho,hc⟩,λE Q q=>listItems_at ho hd q⟩
theorem fE {x y:AB} {ns ms:List Int} (o:Bool) (hx:Ps s x ns) (hy:Ps s y ms) {Q:Bool->AE->Prop} (h:Q (ltL ns ms) s):AZ (AR prog w) A (keyLt' (jk o) x y) Q E s:=by
 obtain ⟨r,hr,_,wr⟩:=Km (prog:=prog) (w:=w) (A:=A) hx;obtain ⟨q,hq,_,wq⟩:=Km (prog:=prog) (w:=w) (A:=A) hy;rw [ai];refine AA (wr E _ (AA (wq E _ ?_)));have:=bZ (prog:=prog) (w:=w) (A:=A) (E:=E) (n0:=0) o 0 hr hq h;simp only [Gb,Az] at this;exact this
theorem RK {v:AB} {n:Int} {ns:List Int} (h:Ps s v (n :: ns)) {Q:Option AB->AE->Prop} (hq:∀t,Q (some (.int n t)) s):AZ (AR prog w) A (Hs v) Q E s:=by
 obtain ⟨r,hr,ty,wr⟩:=Km (prog:=prog) (w:=w) (A:=A) h;refine (AA (FX ty ?_):AZ _ _ (Hs v) Q E s);refine (show AZ (AR prog w) A (if (Bc "tuple" != Bc "tuple")=true then _ else _) Q E s from ?_);rw [qY (by simp)];refine AA (wr E _ (AD ?_));generalize hl:r.toList=l at hr
 cases hr with
 | cons _ t h2=>
  have:r[0]?=some (.int n t):=by
   rw [<-DN,hl];rfl
  rw [this];exact hq t
theorem Pe:∀ {vs:List AB},(∀v∈vs,∃n ns,Ps s v (n :: ns))->∀ {Q:List (Option AB)->AE->Prop},(∀is ns,IntsAre is ns->is.length=vs.length->Q (is.map some) s)->AZ (AR prog w) A (vs.mapM Hs) Q E s
 | [],_,Q,h=>by
  rw [TD];exact AD (h [] [] .nil rfl)
 | v :: vs,hv,Q,h=>by
  obtain ⟨n,ns,hn⟩:=hv v Ae;rw [Qi];refine AA (RK hn λt=>AA (Pe (λv hv'=>hv v (Ac _ hv')) λis ms h1 h2=>AD ?_));exact h (.int n t :: is) (n :: ms) (.cons n t h1) (by rw [Aq,h2,Aq])
theorem SE {is:List AB} {ns:List Int} (h:IntsAre is ns) (h0:is≠[]):oneTypeOnly' is.toArray=pure (some (.type "int")):=by
 rw [lv,GX,mapM_typeOf_ints h];simp only [map_pure,pure_bind]
 cases is with
 | nil=>exact zX rfl h0
 | cons v is=>
  have e0:(LC (λ_=>Bc "int") (v :: is)).toArray[0]?=some (Bc "int"):=by simp
  have e1:((LC (λ_=>Bc "int") (v :: is)).toArray.all λx=>x==Bc "int")=true:=by
   simp only [bv,NT,D2]
   exact λ_ _=>rfl
  rw [e0];simp only [e1,if_true]
theorem ag {vs:List AB} (hv:∀v∈vs,∃n ns,Ps s v (n :: ns)) (h0:vs≠[]) {Q:FK->AE->Prop} (h:Q (jk true) s):AZ (AR prog w) A (keyKind' vs.toArray) Q E s:=by
 rw [cF,GX];refine AA ?_;rw [map_eq_pure_bind];refine AA (Pe hv λis ns h1 h2=>AD ?_)
 have hall:((is.map some).toArray.all λx=>x.isSome)=true:=by simp
 rw [qX hall];refine AA (Ga ?_)
 have hf:(is.map some).toArray.filterMap id=is.toArray:=by simp
 rw [hf,SE h1 (by intro e;subst e;cases vs with | nil=>exact h0 rfl | cons=>simp at h2)];refine AA (AD (AD ?_));exact h
end
section
variable {prog:Al} {w:A2} {A:Ay} {E:AB->AE->Prop} {s:AE}
theorem Ey {vs:List AB} {x:Ak} (h:x∈Hr vs):x.1∈vs/\x.1=x.2:=by
 have:x∈(Hr vs).toList:=BK.mpr h;rw [pairsOf_toList] at this;exact ⟨(mem_zip_self this).2,(mem_zip_self this).1⟩
theorem Xt (vs:List AB):(Hr vs).map (·.2)=vs.toArray:=by
 apply Array.ext'
 rw [JD,pairsOf_toList];simp [List.map_snd_zip]
def Pt (prog:Al) (w:A2) (A:Ay) (s:AE) (vs:List AB) (f:AB->List Int):Prop:=
 ∃κ:FK,(∀(Q:FK->AE->Prop) (E:AB->AE->Prop),Q κ s->AZ (AR prog w) A (keyKind' vs.toArray) Q E s)/\Jo prog w A s (Hr vs) κ (ltK f)
theorem IP {a:AI} {vs:List AB} {n:Nat} {P:Fin->AE->Prop} {f:AB->List Int} (ho:s.heap.get? a=some (E3 "list" vs.toArray n)) (hz:vs.length<=sizeLine)
  (hk:2<=vs.length->∀s':AE,(∀b o,b≠a->s.heap.get? b=some o->s'.heap.get? b=some o)->Pt prog w A s' vs f)
  (h:∀out:Array AB,out.toList.Perm vs->out.toList.Pairwise (λx y=>ltL (f y) (f x)=false)->P (.done (.ret .none)) { s with heap:=OT s.heap a vs out }) :
  AZ (AR prog w) A (Builtin.«list.sort» ⟨[.ref a],[]⟩) P E s:=by
 have ha:a < s.heap.objs.size:=AW ho
 have hsz:vs.toArray.size=vs.length:=by simp
 obtain ⟨e1,ho1⟩:∃e1,(s.heap.update a (DO λ_=>#[])).get? a=some (E3 "list" #[] e1):=⟨_,get?_update_seq ho (λ_=>#[])⟩
 have ho6:(((s.heap.update a (DO λ_=>#[])).push (E3 "tuple" vs.toArray 0)).push (E3 "list" #[] 0)).get? a=some (E3 "list" #[] e1):=
  AF _ (AF _ ho1)
 have old:∀b o,b≠a->s.heap.get? b=some o->(((s.heap.update a (DO λ_=>#[])).push (E3 "tuple" vs.toArray 0)).push (E3 "list" #[] 0)).get? b=some o:=λb o hb hg=>
  AF _ (AF _ (by rw [XS _ _ _ _ hb];exact hg))
 have fin:∀st':BA,(AY st').Perm (Hr vs)->(AY st').toList.Pairwise (Rl (ltK f))->P (.done (.ret .none)) { s with heap:=OT s.heap a vs ((AY st').map (·.2)) }:=by
  intro st' hp hs
  have hmem:∀x∈(AY st').toList,x.1=x.2:=λx hx=>by
   have:x∈(Hr vs).toList:=(Er.mp hp).mem_iff.mp hx;exact (Ey (BK.mp this)).2
  refine h _ ?_ ?_
  ·have:=(Er.mp hp).map (·.2)
   rw [<-JD,<-JD,Xt] at this;simpa using this
  ·rw [JD,BR]
   refine hs.imp_of_mem λ{x y} hx hy r=>?_
   rw [<-hmem x hx,<-hmem y hy];exact r
 have last:∀st':BA,(AY st').Perm (Hr vs)->Hu st'=none->(AY st').toList.Pairwise (Rl (ltK f))->(((AY st').map (·.2)).size<=sizeLine+1):=λst' hp _ _=>by
  rw [Array.size_map,hp.size_eq,pairsOf_size]
  lia
 rw [list_sort_plain];refine AA (listItems_at ho rfl (AA (XI ho rfl (AA (cB ho1 rfl (AA (wpAny_newTuple (AA (N6 (Bh ?_)))))) ) (by rw [hsz];exact hz) (CP _))));show AZ (AR prog w) A _ P E { s with heap:=((s.heap.update a (DO λ_=>#[])).push (E3 "tuple" vs.toArray 0)).push (E3 "list" #[] 0) };dsimp only
 by_cases h2:vs.toArray.size < 2
 ·rw [qX h2,qX h2]
  refine AA (AD ?_);rw [StateT.run_pure]
  have hs0:(AY (Gq P5 (vs.toArray.zip vs.toArray) #[] 7 none)).toList.Pairwise (Rl (ltK f)):=by
   have:(AY (Gq P5 (vs.toArray.zip vs.toArray) #[] 7 none)).toList.length < 2:=by
    rw [Az];show (Hr vs).size < 2;rw [pairsOf_size];omega
   generalize (AY (Gq P5 (vs.toArray.zip vs.toArray) #[] 7 none)).toList=l at this
   match l,this with
   | [],_=>exact .nil
   | [x],_=>exact Bz _ _
   | _ :: _ :: _,h=>simp at h;lia
  refine AA (AD (AA (cB ho6 rfl (AA (XI ho6 rfl ?_ (CP _) (last (Gq P5 (vs.toArray.zip vs.toArray) #[] 7 none) (Mr _) rfl hs0))))));simp only [bne_self_eq_false,BN,if_false];exact AD (fin (Gq P5 (vs.toArray.zip vs.toArray) #[] 7 none) (Mr _) hs0)
 ·rw [qY h2,qY h2]
  obtain ⟨κ,kk,C⟩:=hk (by lia) { s with heap:=((s.heap.update a (DO λ_=>#[])).push (E3 "tuple" vs.toArray 0)).push (E3 "list" #[] 0) } old;refine AA (kk _ _ ?_)
  refine AA (FI (Srt.wpS_sortRuns (a₀:=Hr vs) (st:=Gq κ (vs.toArray.zip vs.toArray) #[] 7 none)
   (Q:=λ_ st'=>(AY st').Perm (Hr vs)/\Hu st'=none/\(AY st').toList.Pairwise (Rl (ltK f))) C (dq f _) ⟨Mr _,rfl,rfl⟩ rfl λst' g u=>⟨g.perm,g.failed,?_⟩) ?_ λ_ _ e=>e)
  ·have:=ZU (a:=AY st') (lo:=0) (hi:=(AY st').size) (AM _) (by rw [g.size];exact u)
   rwa [JY,List.drop_zero] at this
  rintro ⟨⟨⟩,st'⟩ s' ⟨rfl,hp,hf,hs⟩;refine AA (cB ho6 rfl (AA (XI ho6 rfl ?_ (CP _) (last st' hp hf hs))));rw [hf];simp only [bne_self_eq_false,BN,if_false];exact AD (fin st' hp hs)
theorem Qt {vs:List AB} {f:AB->List Int} (h:∀v∈vs,Ps s v (f v)/\f v≠[]) (h0:vs≠[]):Pt prog w A s vs f:=
 ⟨jk true,λQ E q=>ag (λv hv=>by
  obtain ⟨h1,h2⟩:=h v hv
  cases e:f v with
  | nil=>exact zX e h2
  | cons n ns=>exact ⟨n,ns,by rw [<-e];exact h1⟩) h0 q,λx y hx hy Q E q=>fE true (h _ (Ey hx).1).1 (h _ (Ey hy).1).1 q⟩
def aE (v:AB):List Int:=[numOf v]
theorem Xh {vs:List AB} {ns:List Int} (h:IntsAre vs ns) (h2:2<=vs.length):Pt prog w A s vs aE:=by
 refine ⟨oneType',λQ E q=>?_,λx y hx hy Q E q=>?_⟩
 ·match vs,h2,h with
  | v :: u :: r,_,h=>rw [keyKind_ints h];exact AD q
 ·obtain ⟨n,t,e1⟩:=h.all _ (Ey hx).1
  obtain ⟨m,u,e2⟩:=h.all _ (Ey hy).1;rw [keyLt'_oneType,e1,e2];refine oneLt_int ?_
  have:ltK aE x y=decide (n < m):=by
   unfold ltK aE;rw [e1,e2];show (if n=m then false else decide (n < m))=_;split
   ·rename_i e;simp [e]
   ·rfl
  rw [<-this];exact q
end
def QY (h:BP) (d:AI) (es:Array NU) (ep:Nat):Prop:=∃o,h.get? d=some o/\o.ExactDict/\o.data=.dict es ep
theorem QY.at' {h h':BP} {d:AI} {es:Array NU} {ep:Nat} (x:QY h d es ep) (e:∀o,h.get? d=some o->h'.get? d=some o):QY h' d es ep:=let ⟨o,ho,r⟩:=x;⟨o,e _ ho,r⟩
theorem QY.ty {s:AE} {d:AI} {es:Array NU} {ep:Nat} (x:QY s.heap d es ep):s.TypeIs (.ref d) "dict":=let ⟨o,ho,hc,_⟩:=x;⟨o,ho,hc.1⟩
section
variable {prog:Al} {w:A2} {A:Ay} {E:AB->AE->Prop} {s:AE} {d it:AI} {es:Array NU} {ep i:Nat}
theorem Zz {Q:AB->AE->Prop} (hd:(d==Ea)=false) (hm:QY s.heap d es ep)
  (kq:Q (.ref s.heap.objs.size) { s with heap:=s.heap.push { cls:=.type "dict_keyiterator",data:=.fields #[.ref d,.int 0 0,.int es.size 0,.int ep 0] } }):AZ (AR prog w) A (OU (.ref d)) Q E s:=by
 have hT:=hm.ty;obtain ⟨o,ho,hc,hdat⟩:=hm;refine Pz hT Rc (BJ Rc hT PySem.F.entry_dict_iter ?_ (PySem.F.args_dict_iter_1 _));unfold Builtin.«dict.__iter__»;refine AA ?_;unfold mM;refine AA (wpAny_notOrdered_dict hT (show AZ _ _ (pure (Av d)) _ _ s from AD ?_));refine (show AZ _ _ (Oc d >>= _) _ _ s from ?_);unfold Oc;rw [qY (by simp [hd])];refine AA (AD (AA (P1 ho hdat (AA (TN ho hdat (AA (A3 (AD ⟨_,rfl, "dict_keyiterator",_,⟨_,AV _ rfl,rfl⟩,CI.lookup,?_⟩))))))));simpa [Do] using kq
theorem Zy {Q:Option AB->AE->Prop} (ki:s.heap.IsKeyIter it d i es.size ep) (hm:QY s.heap d es ep) (hi:i < es.size)
  (kq:∀h',h'.IsKeyIter it d (i+1) es.size ep->CK it s.heap h'->Q (some es[i].key) { s with heap:=h' }):AZ (AR prog w) A (Ff (.ref it)) Q E s:=by
 obtain ⟨o,ho,hc,hd⟩:=id ki;obtain ⟨od,hod,hcd,hdd⟩:=hm;unfold Ff;refine AA (DR (BO (name:=DH "__next__") ki.typeIs CI (BJ CI ki.typeIs LA (AA (AD (AA (AA ?_)))) (Kv _))))
 first | refine AA (ER ki.typeIs (AD (AA (EF ho hd ?_)))) | refine AA (GH ki.typeIs (AD (AA (EF ho hd ?_))))
 simp only [show J1 "dict_keyiterator" = false by decide,BN,if_false];refine (show AZ _ _ (if (Av d==A4)=true then _ else _) _ _ s from ?_);rw [qY (λz:(Av d==A4)=true=>AO z)];refine AA (AD (AA (P1 hod hdd ?_)));rw [qY (by simp)];refine AA (AD (AA (TN hod hdd ?_)));rw [qY (by simp)];refine AD ?_;simp only [show ¬((i:Int) < 0) by lia,if_false,A7,DV hi];refine AA ?_
 first | refine AA (ER ki.typeIs (AD (AA (Ls ki.typeIs ?_)))) | refine AA (GH ki.typeIs (AD (AA (Ls ki.typeIs ?_))))
 refine (show AZ _ _ (b0 (.ref it) 1 (Do ((i:Int)+1)) >>= _) _ _ s from ?_);have ki':(s.heap.update it (Cj (·.setIfInBounds 1 (Do ((i:Int)+1))))).IsKeyIter it d (i+1) es.size ep:=⟨_,By _ ho (Ee (B4 hd _)),(Ix ..).trans hc,by rw [B4 hd];simp [Do]⟩;refine AA (Db ho hd (by simp) (AA (Bh (AA (Ls (s:={ s with heap:=s.heap.update it (Cj (·.setIfInBounds 1 (Do ((i:Int)+1)))) }) ki'.typeIs ?_)))));exact (show AZ _ _ (pure es[i].key) _ _ _ from AD (AD ⟨_,rfl,AD (kq _ ki' (CM ..))⟩))
theorem dG {Q:Option AB->AE->Prop} (h0:A.handled=none) (ki:s.heap.IsKeyIter it d i es.size ep) (hm:QY s.heap d es ep) (hi:es.size<=i)
  (kq:∀h',LD it s.heap h'->Q none { s with heap:=h' }):AZ (AR prog w) A (Ff (.ref it)) Q E s:=by
 obtain ⟨o,ho,hc,hd⟩:=id ki;obtain ⟨od,hod,hcd,hdd⟩:=hm;unfold Ff;refine AA (DR (BO (name:=DH "__next__") ki.typeIs CI (BJ CI ki.typeIs LA (AA (AD (AA (AA ?_)))) (Kv _))))
 first | refine AA (ER ki.typeIs (AD (AA (EF ho hd ?_)))) | refine AA (GH ki.typeIs (AD (AA (EF ho hd ?_))))
 simp only [show J1 "dict_keyiterator" = false by decide,BN,if_false];refine (show AZ _ _ (if (Av d==A4)=true then _ else _) _ _ s from ?_);rw [qY (λz:(Av d==A4)=true=>AO z)];refine AA (AD (AA (P1 hod hdd ?_)));rw [qY (by simp)];refine AA (AD (AA (TN hod hdd ?_)));rw [qY (by simp)];refine AD ?_;simp only [show ¬((i:Int) < 0) by lia,if_false,A7,GM hi];refine AA ?_
 first | refine AA (ER ki.typeIs (AD (show AZ _ _ (b0 (.ref it) 0 .none >>= _) _ _ s from ?_))) | refine AA (GH ki.typeIs (AD (show AZ _ _ (b0 (.ref it) 0 .none >>= _) _ _ s from ?_)))
 refine AA (Db ho hd (by simp) (show AZ _ _ (RY (.type "StopIteration") [] >>= _) _ _ _ from AA ?_));simp only [RY,Ur];refine AA (A3 (AA (m:=EG _ _) (Jx (a:=A4) (by first | rfl | (simp only [EG];rfl)) (A3 ?_ (by size_fits)))) (by size_fits));simp only [cC];refine AA (N7 ?_);rw [show A.in1.handled=none from h0];refine AA (AD (Sx ?_));refine AA (Ha (T:="StopIteration") (b:=true) ⟨_,AV _ rfl,rfl⟩ Mv (AD ?_));exact kq _ (((CM ..).extBut.push _).push _)
theorem Xk (h0:A.handled=none) (I:AI) (hne:d≠I):Walks prog w A I [I,d] [I] es.size (λi v=>∃h:i < es.size,v=es[i].key) (λi h=>h.IsKeyIter I d i es.size ep/\QY h d es ep) where
 sub:=λx hx=>by simp at hx;simp [hx]
 frame:=λ_ _ _ st keep=>⟨st.1.at λo e=>keep I (by simp) o e,st.2.at' λo e=>keep d (by simp) o e⟩
 item:=λi s Q E hi st kq=>Zy st.1 st.2 hi λh' ki' hs'=>kq _ h' s.toks ⟨hi,rfl⟩ ⟨ki',st.2.at' λo e=>hs'.extBut d o hne e⟩ λb o hb e=>hs'.extBut b o (λh=>hb (by simp [h])) e
 done:=λs Q E st kq=>dG h0 st.1 st.2 (AM _) λh' he'=>kq h' s.toks λb o hb e=>he' b o (λh=>hb (by simp [h])) e
 self:=λ_ _ _ _ st kq=>wpAny_pyIter_keyiter st.1 kq
theorem We (lo:(d==Ea)=false):PySem.W.KdlSrc prog w "dict" d d es.size (λi v=>∃h:i < es.size,v=es[i].key) (λh=>QY h d es ep) where
 type:=λ_ hm=>hm.ty
 there:=λ_ hm=>⟨let ⟨_,ho,_⟩:=hm;AW ho,let ⟨_,ho,_⟩:=hm;AW ho⟩
 keep:=λ_ _ hm hk=>hm.at' λo e=>hk d (.inl rfl) o e
 notList:=by decide
 notTuple:=by decide
 hint:=λ_ _ _ _ hm hq=>PySem.W.kdl_hint_dict hm.ty hq
 iter:=λ_ _ h0 hm=>⟨_,_,(λ_ _ hq=>Zz lo hm hq),Xk h0 _ (Ad (let ⟨_,ho,_⟩:=hm;AW ho)),⟨⟨_,AV _ rfl,rfl,rfl⟩,hm.at' λo e=>AF _ e⟩⟩
end
end Srt
namespace PySem.SetTable
def Up (xs:Array Nat):Prop:=xs.toList.Pairwise (· < ·)
theorem Up.lt {xs:Array Nat} (u:Up xs) {i k:Nat} (h:i < k) (hk:k < xs.size):xs[i] < xs[k]:=by
 have:=Da.mp u i k (by rw [Az];omega) (by rw [Az];exact hk) h;simpa using this
structure At (xs:Array Nat) (j r:Nat):Prop where
 le:r<=xs.size
 lo:∀i (h:i < xs.size),i < r->xs[i] < j
 hi:∀i (h:i < xs.size),r<=i->j<=xs[i]
theorem At.eq {xs:Array Nat} {j r r':Nat} (a:At xs j r) (b:At xs j r'):r=r':=by
 rcases Nat.lt_trichotomy r r' with h | h | h
 ·have hr:r < xs.size:=Ab h b.le
  have h1:=b.lo r hr h;have h2:=a.hi r hr (AM _);lia
 ·exact h
 ·have hr:r' < xs.size:=Ab h a.le
  have h1:=a.lo r' hr h;have h2:=b.hi r' hr (AM _);lia
theorem Pn {xs:Array Nat} (u:Up xs) (j:Nat):∀(fuel lo hi:Nat),lo<=hi->hi<=xs.size->hi - lo<=fuel ->
  (∀i (h:i < xs.size),i < lo->xs[i] < j)->(∀i (h:i < xs.size),hi<=i->j<=xs[i])->At xs j (GK.go xs j fuel lo hi)
 | 0,lo,hi,h1,h2,h3,h4,h5=>by
  have:lo=hi:=by lia
  subst this;exact ⟨h2,h4,h5⟩
 | fuel+1,lo,hi,h1,h2,h3,h4,h5=>by
  unfold GK.go
  by_cases h:lo < hi
  ·rw [qX h]
   have hm:(lo+hi) / 2 < xs.size:=by lia
   have e:xs.getD ((lo+hi) / 2) j=xs[(lo+hi) / 2]:=by simp [L5,hm]
   simp only [e]
   by_cases h6:xs[(lo+hi) / 2] < j
   ·rw [qX h6]
    refine Pn u j fuel _ _ (by lia) h2 (by omega) (λi hi' hl=>?_) h5
    by_cases h7:i=(lo+hi) / 2
    ·subst h7;exact h6
    ·exact U0 (u.lt (by lia:i < (lo+hi) / 2) hm) h6
   ·rw [qY h6]
    refine Pn u j fuel _ _ (by lia) (by lia) (by omega) h4 λi hi' hl=>?_
    by_cases h7:i=(lo+hi) / 2
    ·subst h7;lia
    ·have:=u.lt (by lia:(lo+hi) / 2 < i) hi';omega
  ·rw [qY h]
   have:lo=hi:=by lia
   subst this;exact ⟨h2,h4,h5⟩
theorem Po {xs:Array Nat} (u:Up xs) (j:Nat):At xs j (GK xs j):=
 Pn u j _ _ _ (CP _) (AM _) (by lia) (λ_ _ h=>zX h (by lia)) λi h h'=>zX h (by lia)
theorem V5 {xs:Array Nat} (u:Up xs):GK xs 0=0:=(Po u 0).eq ⟨CP _,λ_ _ h=>zX h (by lia),λ_ _ _=>CP _⟩
theorem V6 {xs:Array Nat} (u:Up xs) {i:Nat} (h:i < xs.size):GK xs (xs[i]+1)=i+1:=
 (Po u _).eq ⟨h,λk hk h'=>by
  by_cases e:k=i
  ·subst e;lia
  ·have:=u.lt (by lia:k < i) h;omega,λk hk h'=>u.lt (by lia:i < k) hk⟩
theorem Xa {xs:Array Nat} (u:Up xs) {j:Nat} (h:xs[GK xs j]?≠some j):Up (insertAt xs (GK xs j) j):=by
 have a:=Po u j;unfold Up;rw [toList_insertAt,BE,Yr];refine ⟨kF u,⟨λy hy=>?_,kH u⟩,λx hx y hy=>?_⟩
 ·obtain ⟨k,hk,e⟩:=B2.mp hy
  have hk':GK xs j+k < xs.size:=by simp at hk;omega
  have e':xs[GK xs j+k]=y:=by simpa using e
  have h1:=a.hi _ hk' (by lia)
  by_cases hz:k=0
  ·subst hz
   have h2:xs[GK xs j]?=some y:=by simp at e';simp at hk';simp [hk',e']
   rcases Nat.lt_or_eq_of_le h1 with h3 | h3
   ·lia
   ·rw [e'] at h3;rw [h2,<-h3] at h;exact zX rfl h
  ·have hb:GK xs j < xs.size:=by lia
   have h2:=a.hi _ hb (AM _);have h3:=u.lt (by lia:GK xs j < GK xs j+k) hk'
   lia
 ·have hxj:x < j:=by
   obtain ⟨k,hk,e⟩:=B2.mp hx
   have hk':k < xs.size:=by simp at hk;lia
   have hk2:k < GK xs j:=by simp at hk;lia
   have e':xs[k]=x:=by simpa using e
   have:=a.lo k hk' hk2
   lia
  rcases Ax.mp hy with e | hy
  ·subst e;exact hxj
  ·obtain ⟨k,hk,e⟩:=B2.mp hy
   have hk':GK xs j+k < xs.size:=by simp at hk;lia
   have e':xs[GK xs j+k]=y:=by simpa using e
   have h1:=a.hi _ hk' (by lia)
   lia
theorem Qu {t:Cb} {j:Nat} (h:t.slot j=.empty∨t.slot j=.dummy):t.place[GK t.place j]?≠some j:=by
 intro e;unfold slot at h;simp only [e,beq_self_eq_true,if_true] at h
 rcases h with h | h <;> cases h
theorem O4 {t:Cb} {ha:Nat->Int} {h:Int} {j:Nat} {dm:Option Nat}:∀(fuel:Nat) (p:Probe),(∀d,p.dummy=some d->t.slot d=.dummy) ->
  cD t ha h fuel p=some (.empty j dm)->t.slot j=.empty/\∀d,dm=some d->t.slot d=.dummy
 | 0,p,_,e=>by simp [cD] at e
 | fuel+1,p,hd,e=>by
  have adv:∀q:Probe,(t.advance q).dummy=q.dummy:=λq=>by
   unfold advance;split <;> rfl
  unfold cD at e;split at e
  ·rename_i he
   cases e;exact ⟨he,hd⟩
  ·rename_i he
   exact O4 fuel _ (λd q=>by rw [adv] at q;cases q;exact he) e
  ·rename_i i he
   split at e
   ·cases e
   ·exact O4 fuel _ (λd q=>by rw [adv] at q;exact hd d q) e
theorem YH {t:Cb} {h:Int} {j:Nat} {b:Bool} (e:t.freeSlot h=some (j,b)):t.place[GK t.place j]?≠some j:=by
 unfold freeSlot at e;split at e
 ·rename_i j' dm hp
  cases e;obtain ⟨h1,h2⟩:=O4 _ _ (λd q=>by cases q) hp
  cases dm with
  | none=>exact Qu (.inl h1)
  | some d=>exact Qu (.inr (h2 d rfl))
 ·cases e
theorem ZT (n:Nat):Up (Array.range n):=by unfold Up;rw [Array.toList_range];exact Jz
theorem JK (t:Cb) (n:Nat):Up (t.standIn n).place:=ZT n
theorem R0 {t:Cb} (u:Up t.place) (n:Nat):Up (t.orStandIn n).place:=by
 unfold orStandIn;split
 ·exact u
 ·exact JK t n
theorem QU (t:Cb) (n:Nat):(t.orStandIn n).led=t.led:=by
 unfold orStandIn;split <;> rfl
end PySem.SetTable
namespace PySem
open SetTable
theorem X1 {t:Cb} (u:Up t.place) (es:Array (Int×AB)) (h:Int) (x:AB):Up (layNew t es h x).2.1.place/\(layNew t es h x).2.1.led=t.led:=by
 unfold layNew;split
 ·rename_i j b e
  exact ⟨R0 (Xa u (YH e)) _,QU _ _⟩
 ·exact ⟨JK _ _,rfl⟩
theorem eK {mask finger moves:Nat} {led plain:Bool} {hs:Array Int} {t:Cb} {o:Array Nat} (e:laid mask finger moves led plain hs=some (t,o)):Up t.place/\t.led=led:=by
 unfold laid at e
 cases hc:layClean mask hs with
 | none=>rw [hc] at e;cases e
 | some ow=>
  rw [hc] at e;cases e;refine ⟨?_,rfl⟩;unfold Up;simp only [Mq];refine kG (S:=(· < ·)) _ (λa a' h b hb b' hb'=>?_) Jz
  have key:∀(k c:Nat),(Lq (λx:Nat×Nat=>x.1) (Lq (λx=>(k,x)) (ow.getD k none)))=some c->c=k:=λk c q=>by
   cases hk:ow.getD k none with
   | none=>rw [hk] at q;cases q
   | some _=>rw [hk] at q;cases q;rfl
  rw [key _ _ hb,key _ _ hb'];exact h
theorem Tr {t:Cb} (u:Up t.place) (es:Array (Int×AB)) (n:Nat):Up (Mt t es n).2.1.place/\(Mt t es n).2.1.led=t.led:=by
 unfold Mt;split
 ·rename_i t' o e
  dsimp only;split
  ·exact eK e
  ·exact ⟨JK _ _,rfl⟩
 ·exact ⟨JK _ _,rfl⟩
theorem Li {α:Type}:∀(l:List α) (i:Nat) (h:i < l.length),Cu (l[i] :: l.eraseIdx i) l
 | [],i,h=>zX h (QA _)
 | a :: l,0,_=>.rfl
 | a :: l,i+1,h=>(XR _ _ _).trans ((Li l i (Nat.lt_of_succ_lt_succ h)).cons a)
theorem Wg {α:Type} (next:Nat->Nat):∀(fuel k:Nat) (left:List α) (out:Array α),left.length=fuel->Cu (P4 next fuel k left out).toList (out.toList++left)
 | 0,k,left,out,h=>by
  have:left=[]:=HF h;subst this;simp [P4]
 | fuel+1,k,left,out,h=>by
  unfold P4;have hl:next k % left.length < left.length:=Nat.mod_lt _ (by lia);rw [A0 hl];dsimp only;refine (Wg next fuel (k+1) _ _ (by rw [Qj hl];lia)).trans ?_;rw [EX,BC];refine DE _ ?_;exact Li _ _ hl
theorem Xn {α:Type} (next:Nat->Nat) (xs:Array α):Cu (NK next xs).toList xs.toList:=by
 have:=Wg next xs.size 0 xs.toList #[] (by simp);simpa [NK] using this
end PySem
namespace PySem
open Sem (wp)
open SetTable PyProof.Rows
def iv:AB->Option Int
 | .int n _=>some n
 | _=>none
def Ju (prog:Al) (w:A2) (h:BP) (a:AI) (ns:List Int):Prop:=
 ∃o es ep t,h.get? a=some o/\o.ExactSet/\o.data=.set es ep t/\jx (GU prog w) es.toList/\t.fits es.size=true/\Up t.place/\t.led=(!(w.params.followText "set-order"))/\Cu (es.toList.map λe=>iv e.2) (ns.map some)
section
variable {prog:Al} {w:A2} {A:Ay} {E:AB->AE->Prop} {s:AE}
theorem Ju.at' {h h':BP} {a:AI} {ns:List Int} (x:Ju prog w h a ns) (e:∀o,h.get? a=some o->h'.get? a=some o):Ju prog w h' a ns:=let ⟨o,es,ep,t,ho,r⟩:=x;⟨o,es,ep,t,e _ ho,r⟩
theorem Oz {h:BP} {a:AI} {led:Bool} (hl:led=(!(w.params.followText "set-order"))) (hg:h.get? a=some { cls:=.type "set",dict:=none,data:=.set #[] 0 (.fresh 0 0 led) }):Ju prog w h a []:=
 ⟨_,#[],0,_,hg,⟨rfl,rfl,rfl⟩,rfl,λe he=>by simp at he,by rfl,HG,hl,.nil⟩
theorem Oy {h:BP} {a:AI} {o:Obj} {es:Array (Int×AB)} {ep:Nat} {t:Cb} (ho:h.get? a=some o) (hex:o.ExactSet) (hd:o.data=.set es ep t)
  {es':Array (Int×AB)} {t':Cb} {ns:List Int} (hel:jx (GU prog w) es'.toList) (hf:t'.fits es'.size=true) (hu:Up t'.place) (hl:t'.led=(!(w.params.followText "set-order"))) (hp:Cu (es'.toList.map λe=>iv e.2) (ns.map some)) :
  (h.update a (Mz es' t')).get? a=some { o with data:=.set es' (ep+1) t' }/\Ju prog w (h.update a (Mz es' t')) a ns:=by
 have hg:(h.update a (Mz es' t')).get? a=some { o with data:=.set es' (ep+1) t' }:=by
  have:=By (Mz es' t') ho (by rw [putSet_of es' t' hd];rfl);rw [putSet_of es' t' hd] at this;exact this
 exact ⟨hg,_,es',ep+1,t',hg,hex,rfl,hel,hf,hu,hl,hp⟩
theorem Qw {g:Bool->Sem Unit} (hg:∀(b:Bool) (s₁:AE) (Q':Unit->AE->Prop),Q' () s₁->AZ (AR prog w) A (g b) Q' E s₁)
  {a:AI} {o:Obj} {es:Array (Int×AB)} {ep:Nat} {t:Cb} (ho:s.heap.get? a=some o) (hex:o.ExactSet) (hd:o.data=.set es ep t)
  {es1:Array (Int×AB)} {t2:Cb} {ns:List Int} (hel1:jx (GU prog w) es1.toList) (hb1:es1.size < Gp) (hf2:t2.fits es1.size=true) (hu:Up t2.place) (hl:t2.led=(!(w.params.followText "set-order")))
  (hp:Cu (es1.toList.map λe=>iv e.2) (ns.map some)) {wasDummy:Bool} {R:Option Bool->AE->Prop}
  (h:∀h',CK a s.heap h'->Ju prog w h' a ns->R (some true) { s with heap:=h' }) :
  AZ (AR prog w) A (do
    storeSet a es1 t2
    if (!wasDummy&&t2.tooFull)=true then do
      g (Mt t2 es1 (ET es1.size)).2.2
      storeSet a (Mt t2 es1 (ET es1.size)).1 (Mt t2 es1 (ET es1.size)).2.1
      pure (some true)
     else pure (some true)) R E s:=by
 refine AA (jh ho hd ?_ (P6 hb1));obtain ⟨ho1,hS1⟩:=Oy (prog:=prog) (w:=w) ho hex hd hel1 hf2 hu hl hp;have hsb1:=CM s.heap a (Mz es1 t2);split
 ·have hpr:=relayAll_perm t2 es1 (ET es1.size)
  have hfr:=relayAll_fits t2 es1 (ET es1.size);have hur:=Tr hu es1 (ET es1.size);generalize hRl:Mt t2 es1 (ET es1.size)=Rl at hpr hfr hur ⊢;obtain ⟨es2,t3,gave2⟩:=Rl;dsimp only at hpr hfr hur ⊢
  have hsz:es2.size=es1.size:=by rw [<-Az,hpr.length_eq,Az]
  refine AA (hg _ _ _ ?_);refine AA (jh ho1 rfl ?_ (P6 (by rw [hsz];exact hb1)));obtain ⟨_,hS2⟩:=Oy (prog:=prog) (w:=w) ho1 hex rfl (hel1.perm hpr) hfr hur.1 (hur.2.trans hl) ((hpr.map _).trans hp);exact AD (h _ (hsb1.trans (CM _ a _)) hS2)
 ·exact AD (h _ hsb1 hS1)
theorem Zp {a:AI} {ns:List Int} {n:Int} {tk:Tok} {Q:Bool->AE->Prop} (hS:Ju prog w s.heap a ns) (hroom:ns.length+1 < Gp)
  (h:∀h' b,CK a s.heap h'->Ju prog w h' a (step_dedup ns n)->Q b { s with heap:=h' }) :
  AZ (AR prog w) A (setAddHashed a (.int n tk) ((GU prog w).hash n)) Q E s:=by
 obtain ⟨o,es,ep,t,ho,hex,hd,hel,hf,hu,hl,hp⟩:=hS
 have hn:es.size=ns.length:=by have:=hp.length_eq;simpa using this
 have hb:es.size < Gp:=by lia
 have hkey:(GU prog w).is n (.int n tk)=true:=gP _ _ _ _;have hsc:(Fd n tk).scannable=true:=rfl;unfold setAddHashed setAddHashedIn;refine Bh (AA (DC ho hd hf ?_));dsimp only;rw [byScan_of hsc hb hel];simp only [↓reduceIte];unfold setAddByScan;refine AA ?_;refine AA (Ga ?_);refine AA (wpAny_setScan_of hkey ho hd hf hel ?_)
 cases hr:List.findIdx? (λe=>(GU prog w).is n e.2) es.toList with
 | some j=>
  dsimp only;obtain ⟨hj,hpj,_⟩:=List.findIdx?_eq_some_iff_getElem.mp hr
  have hm:ns.any (·==n)=true:=by
   obtain ⟨tj,e⟩:=Yk hpj;have:some n∈ns.map some:=hp.mem_iff.mp (A5.mpr ⟨es.toList[j],OB hj,by rw [e];rfl⟩);obtain ⟨m,hm,e⟩:=A5.mp this;cases e;exact Jg.mpr ⟨n,hm,by simp⟩
  refine AD (AD ?_)
  have e:s={ s with heap:=s.heap }:=by cases s;rfl
  have:=h s.heap false (Ri a s.heap) (by unfold step_dedup;rw [qX hm];exact ⟨o,es,ep,t,ho,hex,hd,hel,hf,hu,hl,hp⟩);rw [e];exact this
 | none=>
  dsimp only
  have hm:¬ns.any (·==n)=true:=by
   intro hm;obtain ⟨m,hmm,e⟩:=Jg.mp hm
   have e:m=n:=by simpa using e
   subst e;obtain ⟨x,hx,e⟩:=A5.mp (hp.mem_iff.mpr (A5.mpr ⟨m,hmm,rfl⟩));have h1:=List.findIdx?_eq_none_iff.mp hr x hx
   have h2:(GU prog w).is m x.2=true:=by
    obtain ⟨x1,x2⟩:=x
    cases x2 <;> simp [iv] at e
    subst e;exact gP _ _ _ _
   rw [h2] at h1;cases h1
  have hgw:∀(b:Bool) {s₁:AE} {Q':Unit->AE->Prop},Q' () s₁->AZ (AR prog w) A (match b with | true=>rule "set.scan.the-table-gave-way" | false=>pure ()) Q' E s₁:=
   λb s₁ Q' hq=>by cases b <;> first | exact AD hq | exact Ga hq
  have hperm:=layNew_perm t es ((GU prog w).hash n) (.int n tk);have hfits:=layNew_fits t es ((GU prog w).hash n) (.int n tk);have hup:=X1 hu es ((GU prog w).hash n) (.int n tk);generalize hL:layNew t es ((GU prog w).hash n) (.int n tk)=L at hperm hfits hup ⊢;obtain ⟨es1,t1,wasDummy,gave⟩:=L;dsimp only at hperm hfits hup ⊢;rw [EX] at hperm;have hel1:jx (GU prog w) es1.toList:=(hel.push hkey hsc).perm hperm
  have hp1:Cu (es1.toList.map λe=>iv e.2) ((ns++[n]).map some):=by
   refine (hperm.map _).trans ?_;rw [BM,BM];exact hp.append_right _
  have hb1':es1.size < Gp:=by rw [<-Az,hperm.length_eq,Af,Az,hn];simpa using hroom
  refine AA (hgw _ ?_)
  have hend:∀h',CK a s.heap h'->Ju prog w h' a (ns++[n])->Q true { s with heap:=h' }:=λh' hsb hS'=>h h' true hsb (by unfold step_dedup;rw [qY hm];exact hS')
  split
  ·refine AA ?_
   rw [hashByValue_scannable 8 hsc];refine AD ?_;refine Qw ?_ ho hex hd hel1 hb1' ?_ ?_ ?_ hp1 ?_
   ·intro b s₁ Q' hq;cases b <;> first | exact AD hq | exact Ga hq
   ·split
    ·exact hfits
    ·exact Cb.fits_plain_off hfits
   ·split
    ·exact hup.1
    ·exact hup.1
   ·split
    ·exact hup.2.trans hl
    ·exact hup.2.trans hl
   ·intro h' hsb hS';dsimp only;exact AD (hend h' hsb hS')
  ·refine AA (AD ?_)
   simp only [↓reduceIte];refine Qw ?_ ho hex hd hel1 hb1' hfits hup.1 (hup.2.trans hl) hp1 ?_
   ·intro b s₁ Q' hq;cases b <;> first | exact AD hq | exact Ga hq
   ·intro h' hsb hS';dsimp only;exact AD (hend h' hsb hS')
theorem Qx {R:Ra->AE->Prop} {I:AI} {fp wr:List AI} {G:Array JC->Array JC->Prop} {n:Nat} {P:Nat->AB->Prop} {St:Nat->AE->Prop} (W:WalksS prog w A.in1 I fp wr G n P St) (S:AI) (hSf:S∉fp)
  (val:Nat->Int) (hval:∀i v,P i v->∃t,v=.int (val i) t) (hb:n+1 < Gp) :
  ∀(k i:Nat) (s:AE),n - i=k->i<=n->St i s->Ju prog w s.heap S (firstMet val i) ->
   (∀s',Moved (S :: wr) G s s'->Ju prog w s'.heap S (firstMet val n)->R (.ok (.ret .none)) s') ->
   G7 (AR prog w) A (.builtin "set.update.loop" ⟨[.ref S,.ref I],[]⟩) R s:=by
 have hSw:S∉wr:=λh=>hSf (W.sub _ h)
 have hsub:∀b∈wr,b∈S :: wr:=λb hb=>Ac _ hb
 intro k
 induction k with
 | zero=>
  intro i s hk hi hst hS hR
  have hin:i=n:=by lia
  subst hin;refine En WM ?_;rw [El J7 _];show AZ _ A.in1 (Ff (.ref I) >>= _) _ _ s;refine AA (W.done s _ _ hst λs' hm=>?_);show AZ _ A.in1 (ret A4) _ _ s';exact AD (hR s' (hm.mono hsub) (hS.at' λo e=>hm.heap S _ hSw e))
 | succ k ih=>
  intro i s hk hi hst hS hR
  have hlt:i < n:=by omega
  refine En WM ?_;rw [El J7 _];show AZ _ A.in1 (Ff (.ref I) >>= _) _ _ s;refine AA (W.item i s _ _ hlt hst λv s' hP hst' hm=>?_);obtain ⟨t,rfl⟩:=hval i v hP
  have hS':=hS.at' λo e=>hm.heap S _ hSw e
  show AZ _ A.in1 (LP [Fd (val i) t] (setAdd S (.int (val i) t)) >>= _) _ _ s';refine AA (Bh ?_);unfold setAdd;refine Bh ?_;refine AA ((GU prog w).pyHash (k:=val i) (gP _ _ _ _) ?_)
  have hroom:(firstMet val i).length+1 < Gp:=by have:=gR val i;lia
  refine Zp (s:={ s' with toks:=s'.toks+1 }) hS' hroom λh' bb hsb hS2=>?_
  rw [<-firstMet_succ] at hS2;refine AD ⟨J2 J7 _,ih (i+1) _ (by lia) hlt (W.frame _ s' _ _ hst' (EC _) λb hb o e=>?_) hS2 λs'' hm'' hS''=>?_⟩
  ·rw [hsb.2 b (λh:b=S=>hSf (by rw [<-h];exact hb))];exact e
  ·refine hR s'' (Moved.trans W.gtrans ((hm.mono hsub).then_heap (EC _) λb o hb e=>?_) hm'') hS''
   rw [hsb.2 b (λh:b=S=>hb (by rw [h];exact Ae))];exact e
theorem LL (a:AB) {Q₁:AB->AE->Prop}
  (h:Q₁ (.ref s.heap.objs.size) { s with heap:=s.heap.push { cls:=.type "set",dict:=none,data:=.set #[] 0 (.fresh 0 0 (!(w.params.followText "set-order"))) } }) :
  G7 (AR prog w) A (.call (.builtin "set.__new__") ⟨[.type "set",a],[]⟩) (wants Q₁ E) s:=by
 refine TR ?_;show AZ _ A.in1 (do RZ "set.__new__" ⟨[.type "set",a],[]⟩;again (.builtin "set.__new__" ⟨[.type "set",a],[]⟩)) _ _ s;refine AA (Jx (F.newCall_set_1 a) (AD ⟨J2 jw _,En F.entry_set_new ?_⟩));rw [El jw _];unfold Builtin.«set.__new__» cQ;have hsub:=sub_set_self;obtain ⟨hp,g,d,tk,os⟩:=s;dsimp only
 wp_walk
 refine FY (AD ?_);dsimp only;simp only [newObj];refine AA (wpAny_alloc (AD ?_));exact AD h
theorem YX {l:AI} {items:Array AB} {ns:List Int} {Q:AB->AE->Prop} (hh:A.handled=none) (hl:s.heap.IsTuple l items) (hi:Pw items.toList ns) (hb:items.size+1 < Gp)
  (h:∀(h':BP) (tk:Nat),Ju prog w h' s.heap.objs.size (C3 (λi=>ns.getD i 0) items.size) ->
   (∀b o,b < s.heap.objs.size->s.heap.get? b=some o->h'.get? b=some o)->Q (.ref s.heap.objs.size) { s with heap:=h',toks:=tk }):AZ (AR prog w) A (call (.type "set") [.ref l]) Q E s:=by
 obtain ⟨c,tl,hmro⟩:=B0.mro;have hmade:=B0.made;have hsub:=B0.sub;refine LO (TR ?_);show AZ _ _ (callAny (.type "set") _) _ _ _;refine AD ⟨Yw _ (by decide +kernel),En ff ?_⟩;rw [WP (bo "set" [.ref l] []) rfl];have h1:=B0.notType;have h2:=B0.canCreate;have hct:=ge (.ref l);(repeat (any_goals (first | assumption | wp_step)))
 refine Eb (LL (.ref l) (E:=E) (Q₁:=λobj s₁=>∃led:Bool,led=(!(w.params.followText "set-order"))/\obj=.ref s.heap.objs.size/\s₁={ s with heap:=s.heap.push { cls:=.type "set",dict:=none,data:=.set #[] 0 (.fresh 0 0 led) } }) ⟨_,rfl,rfl,rfl⟩) λr s₁ hr=>?_
 cases r with
 | error e=>exact hr
 | ok fl=>
  cases fl with
  | ret obj=>
   obtain ⟨led,hled,rfl,rfl⟩:=hr;have hS:(s.heap.push { cls:=.type "set",dict:=none,data:=.set #[] 0 (.fresh 0 0 led) }).get? s.heap.objs.size=some { cls:=.type "set",dict:=none,data:=.set #[] 0 (.fresh 0 0 led) }:=AV _ rfl;have hT:cH { s with heap:=s.heap.push { cls:=.type "set",dict:=none,data:=.set #[] 0 (.fresh 0 0 led) } } (.ref s.heap.objs.size) "set":=⟨_,hS,rfl⟩;have hli:=B0.init.lookup;have hbi:=B0.init.bind (.ref s.heap.objs.size);(repeat (any_goals (first | assumption | wp_step)))
   refine Eb (Mw (R:=wants (λr s₂=>r=.none/\∃h' tk,s₂={ s with heap:=h',toks:=tk } /\
     Ju prog w h' s.heap.objs.size (C3 (λi=>ns.getD i 0) items.size) /\
     (∀b o,b < s.heap.objs.size->s.heap.get? b=some o->h'.get? b=some o)) E) B0.init.plain gf (j9 hT ?_)) λr₂ s₂ hr₂=>?_
   ·obtain ⟨ol,hol,hcl,nl,hdl⟩:=hl
    obtain ⟨ocls,odict,odata,oslots⟩:=ol;simp only at hcl hdl;subst hcl;subst hdl;have hol':(s.heap.push { cls:=.type "set",dict:=none,data:=.set #[] 0 (.fresh 0 0 led) }).get? l=some { cls:=.type "tuple",dict:=odict,data:=.seq items nl,slots:=oslots }:=AF _ hol
    have hsls:Yh (.type "tuple") (.type "set")=pure false:=by rw [FJ];kernel_rfl
    have hslf:Yh (.type "tuple") (.type "frozenset")=pure false:=by rw [FJ];kernel_rfl
    have hne:(Bc "tuple"==Bc "dict")=false:=by decide
    have hl1:(s.heap.push { cls:=.type "set",dict:=none,data:=.set #[] 0 (.fresh 0 0 led) }).IsTuple l items:=⟨_,hol',rfl,nl,rfl⟩;unfold Builtin.«set.__init__» noKeywords J8;generalize hPI:OU=PI
    wp_walk
    subst hPI;refine EZ hl1 (AA (Uk ?_));have hlS:l < s.heap.objs.size:=AW hol
    have hh3:A.in1.in1.in1.handled=none:=by simp [hh]
    have hneI:l≠(s.heap.push { cls:=.type "set",dict:=none,data:=.set #[] 0 (.fresh 0 0 led) }).objs.size:=by
     rw [BZ];exact Ad (CG hlS)
    have hSf:s.heap.objs.size∉[(s.heap.push { cls:=.type "set",dict:=none,data:=.set #[] 0 (.fresh 0 0 led) }).objs.size,l]:=by
     rw [BZ];simp only [Ax,AS,CN,or_false,not_or];exact ⟨Ad (CQ _),Gc hlS⟩
    have hval:∀(i:Nat) (v:AB),items[i]?=some v->∃t,v=.int ((λi=>ns.getD i 0) i) t:=λi v hv=>
     Jr hi i v (by rw [DN];exact hv)
    refine Qx ((jo hh3 _ l hneI items).toS) s.heap.objs.size hSf (λi=>ns.getD i 0) hval hb (items.size - 0) 0 _ (by lia) (CP _)
     ⟨⟨_,AV _ rfl,rfl,rfl⟩,(hl1.push _)⟩ ?hS0 ?hR
    case hS0=>
     have hget:((s.heap.push { cls:=.type "set",dict:=none,data:=.set #[] 0 (.fresh 0 0 led) }).push { cls:=.type "tuple_iterator",data:=.fields #[.ref l,.int 0 0] }).get? s.heap.objs.size
       = some { cls:=.type "set",dict:=none,data:=.set #[] 0 (.fresh 0 0 led) }:=AF _ hS
     exact Oz hled hget
    case hR=>
     intro s' hm hS';obtain ⟨h',g',d',tk',os'⟩:=s';have eg:g'=s.gens:=hm.gens;have ed:d'=s.drawn:=hm.drawn;have eo:os'=s.os:=hm.os;subst eg;subst ed;subst eo;show AZ _ _ _ _ _ _;refine AD ?_;show AZ _ _ (ret A4) _ _ _;refine AD ⟨rfl,h',tk',rfl,hS',λb o hb e=>?_⟩;have hb1:b≠s.heap.objs.size:=Ad hb
     have hb2:b≠(s.heap.push { cls:=.type "set",dict:=none,data:=.set #[] 0 (.fresh 0 0 led) }).objs.size:=by
      rw [BZ];exact Ad (CG hb)
     exact hm.heap b o (by simp only [Ax,AS,CN,or_false,not_or];exact ⟨hb1,hb2⟩) (AF _ (AF _ e))
   ·cases r₂ with
    | error e=>exact hr₂
    | ok fl₂=>
     cases fl₂ with
     | ret r=>
      obtain ⟨rfl,h',tk,rfl,hS',hk'⟩:=hr₂;(repeat (any_goals (first | assumption | wp_step)));exact h _ _ hS' hk'
     | _=>exact hr₂.elim
  | _=>exact hr.elim
theorem YY {l:AI} {items:Array AB} {ns:List Int} {Q:AB->AE->Prop} (hh:A.handled=none) (hl:s.heap.IsList l items) (hi:Pw items.toList ns) (hb:items.size+1 < Gp)
  (h:∀(h':BP) (tk:Nat),Ju prog w h' s.heap.objs.size (C3 (λi=>ns.getD i 0) items.size) ->
   (∀b o,b < s.heap.objs.size->s.heap.get? b=some o->h'.get? b=some o)->Q (.ref s.heap.objs.size) { s with heap:=h',toks:=tk }):AZ (AR prog w) A (call (.type "set") [.ref l]) Q E s:=by
 obtain ⟨c,tl,hmro⟩:=B0.mro;have hmade:=B0.made;have hsub:=B0.sub;refine LO (TR ?_);show AZ _ _ (callAny (.type "set") _) _ _ _;refine AD ⟨Yw _ (by decide +kernel),En ff ?_⟩;rw [WP (bo "set" [.ref l] []) rfl];have h1:=B0.notType;have h2:=B0.canCreate;have hct:=ge (.ref l);(repeat (any_goals (first | assumption | wp_step)))
 refine Eb (LL (.ref l) (E:=E) (Q₁:=λobj s₁=>∃led:Bool,led=(!(w.params.followText "set-order"))/\obj=.ref s.heap.objs.size/\s₁={ s with heap:=s.heap.push { cls:=.type "set",dict:=none,data:=.set #[] 0 (.fresh 0 0 led) } }) ⟨_,rfl,rfl,rfl⟩) λr s₁ hr=>?_
 cases r with
 | error e=>exact hr
 | ok fl=>
  cases fl with
  | ret obj=>
   obtain ⟨led,hled,rfl,rfl⟩:=hr;have hS:(s.heap.push { cls:=.type "set",dict:=none,data:=.set #[] 0 (.fresh 0 0 led) }).get? s.heap.objs.size=some { cls:=.type "set",dict:=none,data:=.set #[] 0 (.fresh 0 0 led) }:=AV _ rfl;have hT:cH { s with heap:=s.heap.push { cls:=.type "set",dict:=none,data:=.set #[] 0 (.fresh 0 0 led) } } (.ref s.heap.objs.size) "set":=⟨_,hS,rfl⟩;have hli:=B0.init.lookup;have hbi:=B0.init.bind (.ref s.heap.objs.size);(repeat (any_goals (first | assumption | wp_step)))
   refine Eb (Mw (R:=wants (λr s₂=>r=.none/\∃h' tk,s₂={ s with heap:=h',toks:=tk } /\
     Ju prog w h' s.heap.objs.size (C3 (λi=>ns.getD i 0) items.size) /\
     (∀b o,b < s.heap.objs.size->s.heap.get? b=some o->h'.get? b=some o)) E) B0.init.plain gf (j9 hT ?_)) λr₂ s₂ hr₂=>?_
   ·obtain ⟨ol,hol,hcl,nl,hdl⟩:=hl
    obtain ⟨ocls,odict,odata,oslots⟩:=ol;simp only at hcl hdl;subst hcl;subst hdl;have hol':(s.heap.push { cls:=.type "set",dict:=none,data:=.set #[] 0 (.fresh 0 0 led) }).get? l=some { cls:=.type "list",dict:=odict,data:=.seq items nl,slots:=oslots }:=AF _ hol
    have hsls:Yh (.type "list") (.type "set")=pure false:=by rw [FJ];kernel_rfl
    have hslf:Yh (.type "list") (.type "frozenset")=pure false:=by rw [FJ];kernel_rfl
    have hne:(Bc "list"==Bc "dict")=false:=by decide
    have hl1:(s.heap.push { cls:=.type "set",dict:=none,data:=.set #[] 0 (.fresh 0 0 led) }).IsList l items:=⟨_,hol',rfl,nl,rfl⟩;unfold Builtin.«set.__init__» noKeywords J8;generalize hPI:OU=PI
    wp_walk
    subst hPI;refine P0 hl1 (AA (Uk ?_));have hlS:l < s.heap.objs.size:=AW hol
    have hh3:A.in1.in1.in1.handled=none:=by simp [hh]
    have hneI:l≠(s.heap.push { cls:=.type "set",dict:=none,data:=.set #[] 0 (.fresh 0 0 led) }).objs.size:=by
     rw [BZ];exact Ad (CG hlS)
    have hSf:s.heap.objs.size∉[(s.heap.push { cls:=.type "set",dict:=none,data:=.set #[] 0 (.fresh 0 0 led) }).objs.size,l]:=by
     rw [BZ];simp only [Ax,AS,CN,or_false,not_or];exact ⟨Ad (CQ _),Gc hlS⟩
    have hval:∀(i:Nat) (v:AB),items[i]?=some v->∃t,v=.int ((λi=>ns.getD i 0) i) t:=λi v hv=>
     Jr hi i v (by rw [DN];exact hv)
    refine Qx ((kB hh3 _ l hneI items).toS) s.heap.objs.size hSf (λi=>ns.getD i 0) hval hb (items.size - 0) 0 _ (by lia) (CP _)
     ⟨⟨_,AV _ rfl,rfl,rfl⟩,(hl1.push _)⟩ ?hS0 ?hR
    case hS0=>
     have hget:((s.heap.push { cls:=.type "set",dict:=none,data:=.set #[] 0 (.fresh 0 0 led) }).push { cls:=.type "list_iterator",data:=.fields #[.ref l,.int 0 0] }).get? s.heap.objs.size
       = some { cls:=.type "set",dict:=none,data:=.set #[] 0 (.fresh 0 0 led) }:=AF _ hS
     exact Oz hled hget
    case hR=>
     intro s' hm hS';obtain ⟨h',g',d',tk',os'⟩:=s';have eg:g'=s.gens:=hm.gens;have ed:d'=s.drawn:=hm.drawn;have eo:os'=s.os:=hm.os;subst eg;subst ed;subst eo;show AZ _ _ _ _ _ _;refine AD ?_;show AZ _ _ (ret A4) _ _ _;refine AD ⟨rfl,h',tk',rfl,hS',λb o hb e=>?_⟩;have hb1:b≠s.heap.objs.size:=Ad hb
     have hb2:b≠(s.heap.push { cls:=.type "set",dict:=none,data:=.set #[] 0 (.fresh 0 0 led) }).objs.size:=by
      rw [BZ];exact Ad (CG hb)
     exact hm.heap b o (by simp only [Ax,AS,CN,or_false,not_or];exact ⟨hb1,hb2⟩) (AF _ (AF _ e))
   ·cases r₂ with
    | error e=>exact hr₂
    | ok fl₂=>
     cases fl₂ with
     | ret r=>
      obtain ⟨rfl,h',tk,rfl,hS',hk'⟩:=hr₂;(repeat (any_goals (first | assumption | wp_step)));exact h _ _ hS' hk'
     | _=>exact hr₂.elim
  | _=>exact hr.elim
end
theorem Q9:Manifest.owners.lookup (String.ofList ['r','o','t','a','r','e','t','i','_','t','e','s'].reverse)=some Manifest.sig_set_iterator:=by kernel_rfl
theorem CD:Slot "set_iterator" "__next__" "set_iterator.__next__" :=
 .of (owner:="set_iterator") (n:="__next__") (by rw [lu,bp];kernel_rfl) (by decide +kernel) (by decide +kernel) (by decide +kernel)
  (by first | exact .inl (by decide +kernel) | exact .inr (by decide +kernel)) (by rw [FJ];kernel_rfl)
theorem LG:Slot "set_iterator" "__iter__" "set_iterator.__iter__" :=
 .of (owner:="set_iterator") (n:="__iter__") (by rw [lu,bp];kernel_rfl) (by decide +kernel) (by decide +kernel) (by decide +kernel)
  (by first | exact .inl (by decide +kernel) | exact .inr (by decide +kernel)) (by rw [FJ];kernel_rfl)
theorem F0:entryFor table "set_iterator.__next__" = some Builtin.«set_iterator.__next__»:=entryFor_of_tree (by kernel_rfl)
theorem Ph:entryFor table "set_iterator.__iter__" = some Builtin.«dict_keyiterator.__iter__»:=entryFor_alias (id':="dict_keyiterator.__iter__") (by kernel_rfl) rfl (by decide +kernel) (by kernel_rfl)
theorem Pi:entryFor table "set.__iter__" = some Builtin.«frozenset.__iter__»:=entryFor_alias (id':="frozenset.__iter__") (by kernel_rfl) rfl (by decide +kernel) (by kernel_rfl)
theorem Gw (a:AB):argsOk "set_iterator.__next__" ⟨[a],[]⟩:=by
 unfold argsOk;rw [signature?_of (id:="set_iterator.__next__") (n:=['_','_','t','x','e','n','_','_']) (o:=['r','o','t','a','r','e','t','i','_','t','e','s']) (by kernel_rfl) Q9];kernel_rfl
theorem QX (a:AB):argsOk "set_iterator.__iter__" ⟨[a],[]⟩:=by
 unfold argsOk;rw [signature?_of (id:="set_iterator.__iter__") (n:=['_','_','r','e','t','i','_','_']) (o:=['r','o','t','a','r','e','t','i','_','t','e','s']) (by kernel_rfl) Q9];kernel_rfl
def NJ (h:BP) (a:AI) (es:Array (Int×AB)) (ep:Nat) (t:Cb):Prop:=∃o,h.get? a=some o/\o.ExactSet/\o.data=.set es ep t/\t.fits es.size=true
def SIt (h:BP) (it:AI) (f:AB) (i:Nat) (a:AI) (n ep:Nat):Prop:=h.get? it=some { cls:=.type "set_iterator",dict:=none,data:=.fields #[f,.int i 0,.ref a,.int n 0,.int ep 0],slots:=#[] }
theorem NJ.at' {h h':BP} {a:AI} {es:Array (Int×AB)} {ep:Nat} {t:Cb} (x:NJ h a es ep t) (e:∀o,h.get? a=some o->h'.get? a=some o):NJ h' a es ep t:=let ⟨o,ho,r⟩:=x;⟨o,e _ ho,r⟩
section
variable {prog:Al} {w:A2} {A:Ay} {E:AB->AE->Prop} {s:AE} {a it T:AI} {es:Array (Int×AB)} {ep i:Nat} {t:Cb}
theorem SIt.ty {f:AB} {n:Nat} (x:SIt s.heap it f i a n ep):s.TypeIs (.ref it) "set_iterator":=⟨_,x,rfl⟩
def Nxt (prog:Al) (w:A2) (a:AI) (es:Array (Int×AB)) (ep:Nat) (t:Cb) (sl i:Nat) (r:Option (AB×Nat)):Prop:=
 ∀(A:Ay) (E:AB->AE->Prop) (s:AE) (Q:Option (AB×Nat)->AE->Prop),NJ s.heap a es ep t->Q r s->AZ (AR prog w) A (setNext a sl i ep) Q E s
theorem T1 (hb:w.params.followText "set-order" = true):Nxt prog w a es ep t 0 i (((NK (w.params.setOrder a ep) es)[i]?).map λe=>(e.2,0)):=by
 intro A E s Q hS hq;obtain ⟨o,ho,hex,hd,hf⟩:=hS;unfold setNext;refine AA (DC ho hd hf ?_);dsimp only;unfold Uq;refine AA (AA (FY (AD ?_)));dsimp only;rw [show (AR prog w).w.params.followText "set-order" = true from hb];simp only [if_true,bne_self_eq_false,BN,if_false];unfold setWalk Uq;refine AA ?_;refine AA (DC ho hd hf ?_);dsimp only;refine AA (AA (FY (AD ?_)));dsimp only;rw [show (AR prog w).w.params.followText "set-order" = true from hb];simp only [if_true];refine AA (FY (AD ?_));exact AD hq
theorem T3 (hb:w.params.followText "set-order" = false) (hl:t.led=true) (hp:t.plain=true∨es.size<=1) (sl:Nat) :
  Nxt prog w a es ep t sl i (match es[GK t.place sl]?,t.place[GK t.place sl]? with | some (_,x),some j=>some (x,j+1) | _,_=>none):=by
 intro A E s Q hS hq;obtain ⟨o,ho,hex,hd,hf⟩:=hS;unfold setNext;refine AA (DC ho hd hf ?_);dsimp only;unfold Uq;refine AA (AA (FY (AD ?_)));dsimp only;rw [show (AR prog w).w.params.followText "set-order" = false from hb];simp only [BN,if_false]
 have hdr:(!t.plain&&decide (es.size > 1))=false:=by
  rcases hp with hp | hp
  ·rw [hp];rfl
  ·rw [show decide (es.size > 1)=false from wY (by omega),Qm]
 refine (show AZ _ _ (if (!t.plain&&decide (es.size > 1))=true then _ else _) _ _ s from ?_);rw [hdr];simp only [BN,if_false];refine AA (show AZ _ _ (if (!t.led&&!es.isEmpty)=true then _ else _) _ _ s from ?_);rw [hl];simp only [L3,fg,BN,if_false];exact AD (AD hq)
theorem Zk {sl sl':Nat} {x:AB} {Q:Option AB->AE->Prop} (hI:SIt s.heap it (.int sl 0) i a es.size ep) (hS:NJ s.heap a es ep t) (hN:Nxt prog w a es ep t sl i (some (x,sl')))
  (kq:∀h',SIt h' it (.int sl' 0) (i+1) a es.size ep->CK it s.heap h'->Q (some x) { s with heap:=h' }):AZ (AR prog w) A (Ff (.ref it)) Q E s:=by
 obtain ⟨o,ho,hex,hd,hf⟩:=id hS;unfold Ff;refine AA (DR (BO (name:=DH "__next__") hI.ty CD (BJ CD hI.ty F0 ?_ (Gw _))));unfold Builtin.«set_iterator.__next__» Uo;refine AA (AD ?_);dsimp only;refine AA (EF hI rfl ?_);dsimp only;refine AA (Fe ho hd hf ?_);rw [qY (by simp)];refine AA (hN _ _ _ _ hS ?_);dsimp only;refine AA (Iy hI (by simp) λh1 e1 sb1=>?_);refine AA (Iy e1 (by simp) λh2 e2 sb2=>?_);refine AD ⟨_,rfl,AD (kq _ ?_ (sb1.trans sb2))⟩;unfold SIt;rw [e2];simp [Do]
theorem dB {sl:Nat} {Q:Option AB->AE->Prop} (h0:A.handled=none) (hI:SIt s.heap it (.int sl 0) i a es.size ep) (hS:NJ s.heap a es ep t) (hN:Nxt prog w a es ep t sl i none)
  (kq:∀h',LD it s.heap h'->Q none { s with heap:=h' }):AZ (AR prog w) A (Ff (.ref it)) Q E s:=by
 obtain ⟨o,ho,hex,hd,hf⟩:=id hS;unfold Ff;refine AA (DR (BO (name:=DH "__next__") hI.ty CD (BJ CD hI.ty F0 ?_ (Gw _))));unfold Builtin.«set_iterator.__next__» Uo;refine AA (AD ?_);dsimp only;refine AA (EF hI rfl ?_);dsimp only;refine AA (Fe ho hd hf ?_);rw [qY (by simp)];refine AA (hN _ _ _ _ hS ?_);dsimp only;refine AA (Db hI rfl (by simp) (show AZ _ _ (RY (.type "StopIteration") [] >>= _) _ _ _ from AA ?_));simp only [RY,Ur];refine AA (A3 (AA (m:=EG _ _) (Jx (a:=A4) (by first | rfl | (simp only [EG];rfl)) (A3 ?_ (by size_fits)))) (by size_fits));simp only [cC];refine AA (N7 ?_);rw [show A.in1.handled=none from h0];refine AA (AD (Sx ?_));refine AA (Ha (T:="StopIteration") (b:=true) ⟨_,AV _ rfl,rfl⟩ Mv (AD ?_));exact kq _ (((CM ..).extBut.push _).push _)
end
section
variable {prog:Al} {w:A2} {A:Ay} {E:AB->AE->Prop} {s:AE} {a it T:AI} {es:Array (Int×AB)} {ep i:Nat} {t:Cb}
theorem QE {M:TB} {src:Source} {n:Nat} {Q:Nat->AE->Prop} (hn:n≠0) (h:∀d',Q (M.w.draws src (s.drawn.get src) % n) { s with drawn:=d' }):AZ M A (choose src n) Q E s:=λ_ _ _=>⟨hn,h _⟩
theorem RM {α:Type}:∀(n:Nat) (xs:List α) (s:AE) (Q:List α->AE->Prop),xs.length=n->(∀ys d',Cu ys xs->Q ys { s with drawn:=d' })->AZ (AR prog w) A (j8 n xs) Q E s
 | 0,xs,s,Q,hl,h=>by
  have:xs=[]:=HF hl;subst this;unfold j8;exact AD (h [] s.drawn .nil)
 | n+1,[],s,Q,hl,h=>by cases hl
 | n+1,x :: xs,s,Q,hl,h=>by
  unfold j8;refine AA (QE (by simp) λd1=>?_);have hlt:(AR prog w).w.draws Mm (s.drawn.get Mm) % (x :: xs).length < (x :: xs).length:=Nat.mod_lt _ (by simp);generalize (AR prog w).w.draws Mm (s.drawn.get Mm) % (x :: xs).length=i at hlt;rw [A0 hlt];dsimp only;refine AA (RM n _ _ _ (by rw [Qj hlt];lia) λys d' hp=>?_);exact AD (h _ d' ((hp.cons _).trans (Li _ _ hlt)))
def TP (h:BP) (T:AI) (ps:List Nat):Prop:=∃o c,h.get? T=some o/\o.data=.seq (ps.map λ(i:Nat)=>Fd i 0).toArray c
theorem TP.at' {h h':BP} {ps:List Nat} (x:TP h T ps) (e:∀o,h.get? T=some o->h'.get? T=some o):TP h' T ps:=let ⟨o,c,ho,r⟩:=x;⟨o,c,e _ ho,r⟩
theorem Xi {ps:List Nat} {p:Nat} {e:Int×AB} {Q:Option AB->AE->Prop} (hI:SIt s.heap it (.ref T) i a es.size ep) (hS:NJ s.heap a es ep t) (hT:TP s.heap T ps) (hp:ps[i]?=some p) (he:es[p]?=some e)
  (kq:∀h',SIt h' it (.ref T) (i+1) a es.size ep->CK it s.heap h'->Q (some e.2) { s with heap:=h' }):AZ (AR prog w) A (Ff (.ref it)) Q E s:=by
 obtain ⟨o,ho,hex,hd,hf⟩:=id hS;obtain ⟨oT,c,hoT,hdT⟩:=hT;unfold Ff;refine AA (DR (BO (name:=DH "__next__") hI.ty CD (BJ CD hI.ty F0 ?_ (Gw _))));unfold Builtin.«set_iterator.__next__» Uo;refine AA (AD ?_);dsimp only;refine AA (EF hI rfl ?_);dsimp only;refine AA (Fe ho hd hf ?_);rw [qY (by simp)];refine AA (Ms hoT hdT ?_);dsimp only
 have hat:(ps.map λ(i:Nat)=>Fd i 0).toArray[(Int.toNat (i:Int))]?=some (.int p 0):=by
  rw [A7];simp [hp]
 rw [hat];dsimp only;unfold setNextDrawn;refine AA (AA (DC ho hd hf ?_));dsimp only;rw [qY (by simp),A7,he];refine AD ?_;refine AA (Iy hI (by simp) λh1 e1 sb1=>?_);refine AD ⟨_,rfl,AD (kq _ ?_ sb1)⟩;unfold SIt;rw [e1];simp [Do]
theorem Zl {ps:List Nat} {Q:Option AB->AE->Prop} (h0:A.handled=none) (hI:SIt s.heap it (.ref T) i a es.size ep) (hS:NJ s.heap a es ep t) (hT:TP s.heap T ps) (hp:ps[i]?=none)
  (kq:∀h',LD it s.heap h'->Q none { s with heap:=h' }):AZ (AR prog w) A (Ff (.ref it)) Q E s:=by
 obtain ⟨o,ho,hex,hd,hf⟩:=id hS;obtain ⟨oT,c,hoT,hdT⟩:=hT;unfold Ff;refine AA (DR (BO (name:=DH "__next__") hI.ty CD (BJ CD hI.ty F0 ?_ (Gw _))));unfold Builtin.«set_iterator.__next__» Uo;refine AA (AD ?_);dsimp only;refine AA (EF hI rfl ?_);dsimp only;refine AA (Fe ho hd hf ?_);rw [qY (by simp)];refine AA (Ms hoT hdT ?_);dsimp only
 have hat:(ps.map λ(i:Nat)=>Fd i 0).toArray[(Int.toNat (i:Int))]?=none:=by
  rw [A7];simp at hp ⊢;exact hp
 rw [hat];dsimp only;refine AA (Iy hI (by simp) λh1 e1 sb1=>?_);refine AA (Db e1 rfl (by simp) (show AZ _ _ (RY (.type "StopIteration") [] >>= _) _ _ _ from AA ?_));simp only [RY,Ur];refine AA (A3 (AA (m:=EG _ _) (Jx (a:=A4) (by first | rfl | (simp only [EG];rfl)) (A3 ?_ (by size_fits)))) (by size_fits));simp only [cC];refine AA (N7 ?_);rw [show A.in1.handled=none from h0];refine AA (AD (Sx ?_));refine AA (Ha (T:="StopIteration") (b:=true) ⟨_,AV _ rfl,rfl⟩ Mv (AD ?_));exact kq _ (((sb1.trans (CM ..)).extBut.push _).push _)
theorem Tj {f:AB} {n:Nat} {Q:AB->AE->Prop} (hI:SIt s.heap it f i a n ep) (h:Q (.ref it) s):AZ (AR prog w) A (OU (.ref it)) Q E s:=by
 refine Pz hI.ty LG (BJ LG hI.ty Ph ?_ (QX _));show AZ _ _ (ret (.ref it)) _ _ s;exact AD ⟨_,rfl, "set_iterator",_,hI.ty,CD.lookup,h⟩
theorem TY (h0:A.handled=none) (hne:a≠it) (sl:Nat->Nat) (ord:List AB) (hlen:ord.length=es.size)
  (hN:∀i x,ord[i]?=some x->Nxt prog w a es ep t (sl i) i (some (x,sl (i+1)))) (hZ:Nxt prog w a es ep t (sl es.size) es.size none) :
  Walks prog w A it [it,a] [it] es.size (λi v=>ord[i]?=some v) (λi h=>SIt h it (.int (sl i) 0) i a es.size ep/\NJ h a es ep t) where
 sub:=λx hx=>by simp at hx;simp [hx]
 frame:=λ_ _ _ st keep=>⟨keep it (by simp) _ st.1,st.2.at' λo e=>keep a (by simp) o e⟩
 item:=λi s Q E hi st kq=>by
  have hx:ord[i]?=some ord[i]:=A0 (by omega)
  exact Zk st.1 st.2 (hN i _ hx) λh' ki' hs'=>kq _ h' s.toks hx ⟨ki',st.2.at' λo e=>hs'.extBut a o hne e⟩ λb o hb e=>hs'.extBut b o (λh=>hb (by simp [h])) e
 done:=λs Q E st kq=>dB h0 st.1 st.2 hZ λh' he'=>kq h' s.toks λb o hb e=>he' b o (λh=>hb (by simp [h])) e
 self:=λ_ _ _ _ st kq=>Tj st.1 kq
theorem XV (h0:A.handled=none) (hne:a≠it) (hneT:T≠it) (ps:List Nat) (hp:Cu ps (BQ es.size)) :
  Walks prog w A it [it,a,T] [it] es.size (λi v=>(ps.filterMap λp=>(es[p]?).map (·.2))[i]?=some v) (λi h=>SIt h it (.ref T) i a es.size ep/\NJ h a es ep t/\TP h T ps) where
 sub:=λx hx=>by simp at hx;simp [hx]
 frame:=λ_ _ _ st keep=>⟨keep it (by simp) _ st.1,st.2.1.at' λo e=>keep a (by simp) o e,st.2.2.at' λo e=>keep T (by simp) o e⟩
 item:=λi s Q E hi st kq=>by
  have hl:ps.length=es.size:=by have:=hp.length_eq;simpa using this
  have hall:∀p∈ps,p < es.size:=λp h=>by simpa using hp.mem_iff.mp h
  have hpi:ps[i]?=some (ps[i]'(by lia)):=A0 (by lia);have hlt:=hall _ (OB (by lia:i < ps.length));have he:es[ps[i]'(by lia)]?=some (es[ps[i]'(by lia)]'hlt):=DV hlt
  have key:∀(l:List Nat),(∀p∈l,p < es.size)->(l.filterMap λp=>(es[p]?).map (·.2))=l.map λp=>(es.getD p (0,.none)).2:=λl=>by
   induction l with
   | nil=>intro _;rfl
   | cons p l ih=>
    intro h;have hp:=h p Ae;rw [Dl (b:=(es[p]).2) (by simp [hp]),ih λq hq=>h q (Ac _ hq)];simp [L5,hp]
  refine Xi st.1 st.2.1 st.2.2 hpi he λh' ki' hs'=>kq _ h' s.toks ?_ ⟨ki',st.2.1.at' λo e=>hs'.extBut a o hne e,st.2.2.at' λo e=>hs'.extBut T o hneT e⟩ λb o hb e=>hs'.extBut b o (λh=>hb (by simp [h])) e
  rw [key ps hall,Ag,hpi];simp [L5,hlt]
 done:=λs Q E st kq=>by
  have hl:ps.length=es.size:=by have:=hp.length_eq;simpa using this
  exact Zl h0 st.1 st.2.1 st.2.2 (Bx (by lia)) λh' he'=>kq h' s.toks λb o hb e=>he' b o (λh=>hb (by simp [h])) e
 self:=λ_ _ _ _ st kq=>Tj st.1 kq
theorem Oe {Q:Bool->AE->Prop} (hS:NJ s.heap a es ep t) (hq:Q (!(w.params.followText "set-order")&&(!t.plain&&decide (es.size > 1))) s):AZ (AR prog w) A (setDrawn a) Q E s:=by
 obtain ⟨o,ho,hex,hd,hf⟩:=hS;unfold setDrawn Uq;refine AA (DC ho hd hf ?_);dsimp only;refine AA (AA (FY (AD ?_)));exact AD hq
def VR (t:Cb):Nat->Nat
 | 0=>0
 | i+1=>t.place.getD i 0+1
theorem Pm {t:Cb} (hu:Up t.place):∀ {i:Nat},i<=t.place.size->GK t.place (VR t i)=i
 | 0,_=>V5 hu
 | i+1,h=>by
  have:t.place.getD i 0=t.place[i]'(by lia):=by simp [L5,show i < t.place.size by lia]
  show GK t.place (t.place.getD i 0+1)=i+1;rw [this];exact V6 hu _
theorem Zo {Q:AB->AE->Prop} (h0:A.handled=none) (hS:NJ s.heap a es ep t) (hu:Up t.place) (hl:t.led=(!(w.params.followText "set-order"))) (hz:es.size<=sizeLine)
  (kq:∀(h':BP) (d':_) (I:AI) (fp:List AI) (St:Nat->BP->Prop) (ord:List AB),Cu ord (es.toList.map (·.2))->(∀b o,s.heap.get? b=some o->h'.get? b=some o) ->
   (∀b∈fp,b=a∨s.heap.objs.size<=b)->s.heap.objs.size<=I->Walks prog w A I fp [I] es.size (λi v=>ord[i]?=some v) St->St 0 h'->Q (.ref I) { s with heap:=h',drawn:=d' }) :
  AZ (AR prog w) A (OU (.ref a)) Q E s:=by
 obtain ⟨o,ho,hex,hd,hf⟩:=id hS;have hT:s.TypeIs (.ref a) "set":=⟨o,ho,hex.1⟩;have hlt:a < s.heap.objs.size:=AW ho
 have hps:t.place.size=es.size:=by
  unfold Cb.fits at hf;simp at hf;exact hf.1
 refine Pz hT jv (BJ jv hT Pi ?_ (F.args_set_iter_1 _));unfold Builtin.«frozenset.__iter__» cO Uo cR cP;refine AA (AD ?_);refine AA (AA (Fe ho hd hf (AD ?_)));refine AA (Oe hS ?_);dsimp only
 by_cases hb:(!(w.params.followText "set-order")&&(!t.plain&&decide (es.size > 1)))=true
 ·rw [qX hb]
  refine AA (RM es.size (BQ es.size) s _ (by simp) λps d' hp=>?_)
  have hpl:ps.length=es.size:=by have:=hp.length_eq;simpa using this
  unfold Ur;refine AA (A3 ?_ (show _<=sizeLine by simp [hpl];exact hz));unfold setEpoch;refine AA (AA (DC (AF _ ho) hd hf (AD ?_)));unfold j7;refine AA (A3 (AD ⟨_,rfl, "set_iterator",_,⟨_,AV _ rfl,rfl⟩,CD.lookup,?_⟩) (by size_fits));refine kq _ d' _ _ _ (ps.filterMap λp=>(es[p]?).map (·.2)) ?_ (λb o e=>AF _ (AF _ e)) ?_ ?_ (XV h0 (a:=a) (T:=s.heap.objs.size) (t:=t) (ep:=ep) ?_ ?_ ps hp) ⟨?_,?_,?_⟩
  ·refine (hp.filterMap _).trans ?_
   have:(BQ es.size).filterMap (λp=>(es[p]?).map (·.2))=es.toList.map (·.2):=by
    have e:=filterMap_getElem?_range es;rw [<-e,Mq]
   rw [this]
  ·intro b hb
   simp only [Ax,CN,or_false,BZ] at hb
   rcases hb with rfl | rfl | rfl
   ·right;lia
   ·left;rfl
   ·right;lia
  ·rw [BZ];exact EC _
  ·rw [BZ];exact Ad (CG hlt)
  ·rw [BZ];exact Ad (CQ _)
  ·exact AV _ rfl
  ·exact hS.at' λo e=>AF _ (AF _ e)
  ·exact ⟨_,_,AF _ (AV _ rfl),rfl⟩
 ·rw [qY hb]
  refine AA (AD ?_);unfold setEpoch;refine AA (AA (DC ho hd hf (AD ?_)));unfold j7;refine AA (A3 (AD ⟨_,rfl, "set_iterator",_,⟨_,AV _ rfl,rfl⟩,CD.lookup,?_⟩) (by size_fits))
  have hfp:∀b∈[s.heap.objs.size,a],b=a∨s.heap.objs.size<=b:=λb hb=>by
   simp only [Ax,CN,or_false] at hb
   rcases hb with rfl | rfl
   ·right;exact AM _
   ·left;rfl
  cases ht:w.params.followText "set-order" with
  | true=>
   have hp:=Xn (w.params.setOrder a ep) es
   have hsz:(NK (w.params.setOrder a ep) es).size=es.size:=by have:=hp.length_eq;simpa using this
   refine kq _ s.drawn _ _ _ ((NK (w.params.setOrder a ep) es).toList.map (·.2)) (hp.map _) (λb o e=>AF _ e) hfp (AM _)
    (TY h0 (a:=a) (t:=t) (ep:=ep) (Ad hlt) (λ_=>0) _ (by simp [hsz]) (λi x hx=>?_) ?_) ⟨AV _ rfl,hS.at' λo e=>AF _ e⟩
   ·have:=T1 (prog:=prog) (a:=a) (es:=es) (ep:=ep) (i:=i) (t:=t) ht
    rw [Ag,DN] at hx
    cases hq:(NK (w.params.setOrder a ep) es)[i]? with
    | none=>rw [hq] at hx;cases hx
    | some e=>
     rw [hq] at hx this;cases hx;exact this
   ·have:=T1 (prog:=prog) (a:=a) (es:=es) (ep:=ep) (i:=es.size) (t:=t) ht
    rw [GM (by lia)] at this;exact this
  | false=>
   have hl':t.led=true:=by rw [hl,ht];rfl
   have hpl:t.plain=true∨es.size<=1:=by
    rw [ht] at hb
    cases hh:t.plain with
    | true=>exact .inl rfl
    | false=>rw [hh] at hb;simp at hb;exact .inr hb
   refine kq _ s.drawn _ _ _ (es.toList.map (·.2)) .rfl (λb o e=>AF _ e) hfp (AM _)
    (TY h0 (a:=a) (t:=t) (ep:=ep) (Ad hlt) (VR t) _ (by simp) (λi x hx=>?_) ?_) ⟨AV _ rfl,hS.at' λo e=>AF _ e⟩
   ·have:=T3 (prog:=prog) (a:=a) (es:=es) (ep:=ep) (i:=i) (t:=t) ht hl' hpl (VR t i)
    rw [Ag,DN] at hx
    have hi:i < es.size:=by
     rcases Nat.lt_or_ge i es.size with h | h
     ·exact h
     ·rw [GM h] at hx;cases hx
    have hb':GK t.place (VR t i)=i:=Pm hu (by lia);rw [hb',DV hi,DV (by lia:i < t.place.size)] at this;rw [DV hi] at hx;cases hx
    have e2:t.place.getD i 0=t.place[i]'(by lia):=by simp [L5,show i < t.place.size by lia]
    show Nxt prog w a es ep t (VR t i) i (some (_,t.place.getD i 0+1));rw [e2];exact this
   ·have:=T3 (prog:=prog) (a:=a) (es:=es) (ep:=ep) (i:=es.size) (t:=t) ht hl' hpl (VR t es.size)
    have hb':GK t.place (VR t es.size)=es.size:=Pm hu (by lia);rw [hb',GM (AM _)] at this;exact this
end
section
variable {prog:Al} {w:A2} {A:Ay} {E:AB->AE->Prop} {s:AE} {a:AI} {es:Array (Int×AB)} {ep:Nat} {t:Cb}
theorem ao {Q:Bool->AE->Prop} (hT:s.TypeIs (.ref a) "set") (h:Q false s):AZ (AR prog w) A (Lz (.ref a)) Q E s:=by
 unfold Lz;refine AA (ls hT PySem.F.slot_set_len.lookup ?_);generalize hid:("set.__len__" : String)=id0
 wp_delta
 rw [show splitId id0=some ("set", "__len__") from by subst hid;decide +kernel];subst hid;refine AA (Ha (T:="set") (b:=true) hT (by rw [FJ];kernel_rfl) ?_);refine TM (λhab=>zX hab (by decide)) (λ_=>?_);refine TM (λ_=>?_) (λhab=>zX (by decide +kernel) hab);refine AA (FX hT ?_);exact AD h
theorem VW {R:Ra->AE->Prop} (hh:A.handled=none) (hS:NJ s.heap a es ep t) (hu:Up t.place) (hl:t.led=(!(w.params.followText "set-order"))) (hz:es.size<=sizeLine)
  (S:AI) (hSa:S≠a) (res:AB) (c₀:Nat) (hL:s.heap.get? S=some { cls:=.type "list",data:=.seq #[] c₀ })
  (hR:∀h' tk d' (acc':Array AB) c' (ord:List AB),Cu ord (es.toList.map (·.2))->(∀b o,b≠S->s.heap.get? b=some o->h'.get? b=some o)->h'.get? S=some { cls:=.type "list",dict:=none,data:=.seq acc' c',slots:=#[] } ->
   acc'.toList=ord->R (.ok (.ret res)) { s with heap:=h',toks:=tk,drawn:=d' }) :
  AZ (AR prog w) A.in1 (Gr (.ref S) (.ref a) res)
   (λfin s'=>match fin with | .done f=>R (.ok f) s' | .again c'=>c'.quiet=true/\G7 (AR prog w) A c' R s') (λe s'=>R (.error e) s') s:=by
 have hT:s.TypeIs (.ref a) "set":=let ⟨o,ho,hex,_⟩:=hS;⟨o,ho,hex.1⟩
 have hSl:S < s.heap.objs.size:=AW hL;unfold Gr;refine AA (FX (T:="set") hT ?_)
 have h1:NW (.ref S) (.ref a)=false:=by simp [NW,hSa]
 simp only [h1,show (Bc "set"==Bc "list")=false by decide,show (Bc "set"==Bc "tuple")=false by decide,Bool.or_false,BN,if_false];refine AA (Zo (A:=A.in1) hh hS hu hl hz λh1 d1 I fp St ord hp hk hfp hI W st=>?_)
 have hSf:S∉fp:=λh=>by
  rcases hfp S h with e | e
  ·exact hSa e
  ·exact zX hSl (II.mpr e)
 have key:∀(h:BP) (c₁ tk:Nat),St 0 h->(∀b o,b≠S->s.heap.get? b=some o->h.get? b=some o) ->
   h.get? S=some { cls:=.type "list",data:=.seq #[] c₁ }->G7 (AR prog w) A (.builtin "list.extend.loop" ⟨[.ref S,.ref I,res],[]⟩) R { s with heap:=h,toks:=tk,drawn:=d1 }:=by
  intro h c₁ tk hst hk hS₁
  refine codeAny_extend_loopS W.toS hz S hSf res es.size 0 _ #[] c₁ rfl (CP _) hst hS₁ (ItemsOf.nil _) λs' acc' c' hm hS' hacc=>?_
  rw [Moved.eq_with hm];refine hR s'.heap s'.toks d1 acc' c' ord hp (λb o hb e=>hm.heap b o (λhmem=>?_) (hk b o hb e)) hS' ?_
  ·rcases Ax.mp hmem with e' | hmem
   ·exact hb e'
   ·exact zX (AW e) (by rw [AS.mp hmem];exact II.mpr hI)
  ·have hol:ord.length=es.size:=by have:=hp.length_eq;simpa using this
   apply Ef
   intro j
   by_cases hj:j < es.size
   ·have hj2:j < acc'.size:=by rw [hacc.1];exact hj
    have:=hacc.2 j acc'[j] (by simp [hj2]);rw [this];simp [hj2]
   ·have hj2:¬j < acc'.size:=by rw [hacc.1];exact hj
    simp [hj2,hol,hj]
 have hS₁:=hk S _ hL;refine AA (Bh (ao (let ⟨o,ho,hex,_⟩:=hS;⟨o,hk _ _ ho,hex.1⟩) ?_));refine TM (λ_=>?_) (λ_=>AD ⟨J2 Pv _,key _ c₀ _ st (λb o _ e=>hk b o e) hS₁⟩);refine AA (Ga ?_);refine AA ?_;show AZ _ _ (updateSeq S (·.push .none) >>= λ_=>updateSeq S (·.pop)) _ _ _;refine AA (TL hS₁ rfl ?_);have hS₂:=By (DO (·.push A4)) hS₁ rfl;refine TL (hz:=by seq_fits) hS₂ rfl ?_;have hS₃:=By (DO (·.pop)) hS₂ rfl;refine AD ⟨J2 Pv _,key _ _ _ ?_ (λb o hb e=>?_) hS₃⟩
 ·refine W.frame 0 _ _ st λb hb o e=>?_
  have hbS:b≠S:=λh=>hSf (h▸hb)
  exact (Ba _ _ (Bl hbS)).trans ((Ba _ _ (Bl hbS)).trans e)
 ·exact (Ba _ _ (Bl hb)).trans ((Ba _ _ (Bl hb)).trans (hk b o e))
theorem Tk {ns:List Int} {R:List AB->AE->Prop} (hh:A.handled=none) (hS:Ju prog w s.heap a ns) (hn:ns.length<=sizeLine)
  (h:∀(h':BP) (tk:Nat) d' (acc:List AB),(∀b o,s.heap.get? b=some o->h'.get? b=some o)->Cu (acc.map iv) (ns.map some)->R acc { s with heap:=h',toks:=tk,drawn:=d' }) :
  AZ (AR prog w) A (collect (.ref a)) R E s:=by
 obtain ⟨o,es,ep,t,ho,hex,hd,hel,hf,hu,hl,hp⟩:=hS;have hlt:a < s.heap.objs.size:=AW ho
 have hz:es.size<=sizeLine:=by have:=hp.length_eq;simp at this;omega
 unfold collect;refine AA (Uk (En entry_proto_collect' ?_));rw [El PySem.F.plain_proto_collect _];show AZ _ A.in1 (newList [] >>= λl=>again (.builtin "list.__iadd__" ⟨[l,.ref a],[]⟩)) _ _ s;refine AA (A3 ?_);refine AD ⟨J2 Qb _,En entry_list_iadd' ?_⟩;rw [El Qb _];have hS₁:(s.heap.push { cls:=.type "list",data:=.seq ([]:List AB).toArray }).get? s.heap.objs.size=some { cls:=.type "list",data:=.seq #[] }:=AV _ rfl;show AZ _ A.in1 (Gr (.ref s.heap.objs.size) (.ref a) (.ref s.heap.objs.size)) _ _ _
 have key:=VW (prog:=prog) (A:=A) (s:={ s with heap:=s.heap.push { cls:=.type "list",data:=.seq ([]:List AB).toArray } })
  (R:=λ(q:Ra) (s':AE)=>∃(h':BP) (tk:Nat) (d':_) (acc':Array AB) (c':Nat),q=.ok (.ret (.ref s.heap.objs.size))/\s'={ s with heap:=h',toks:=tk,drawn:=d' } /\
   (∀b o,s.heap.get? b=some o->h'.get? b=some o)/\h'.get? s.heap.objs.size=some { cls:=.type "list",dict:=none,data:=.seq acc' c',slots:=#[] }/\Cu acc'.toList (es.toList.map (·.2)))
  hh ⟨o,AF _ ho,hex,hd,hf⟩ hu hl hz s.heap.objs.size (Gc hlt) (.ref s.heap.objs.size) 0 hS₁
  (λh' tk d' acc' c' ord hp hk hS' hacc=>⟨h',tk,d',acc',c',rfl,rfl,λb o e=>hk b o (Ad (AW e)) (AF _ e),hS',hacc▸hp⟩)
 have fin:∀ {l:List AB},Cu l (es.toList.map (·.2))->Cu (l.map iv) (ns.map some):=λhl=>(hl.map iv).trans (by rw [Bk];exact hp)
 refine FI key (λfin' s' x=>?_) λe s' x=>?_
 ·cases fin' with
  | done f=>
   obtain ⟨h',tk,d',acc',c',e,rfl,hk,hS',hacc⟩:=x;cases e;show AZ _ A (load s.heap.objs.size >>= _) _ _ _;refine AA (gF hS' ?_);exact AD (h h' tk d' _ hk (fin hacc))
  | again c₁=>
   refine ⟨x.1,Eb x.2 λq s₂ y=>?_⟩;obtain ⟨h',tk,d',acc',c',rfl,rfl,hk,hS',hacc⟩:=y;show AZ _ A (load s.heap.objs.size >>= _) _ _ _;refine AA (gF hS' ?_);exact AD (h h' tk d' _ hk (fin hacc))
 ·obtain ⟨_,_,_,_,_,e',_⟩:=x
  cases e'
end
end PySem
namespace L2
open PySem PySem.Spec PyProof.Rows
open Srt (ltL)
theorem KH {α β:Type} {R:α->β->Prop} {l2 l2':List β} (p:l2.Perm l2'):∀ {l1:List α},G8 R l1 l2->∃l1',G8 R l1' l2'/\l1'.Perm l1:=by
 induction p with
 | nil=>intro l1 h;cases h;exact ⟨[],.nil,.refl _⟩
 | cons x _ ih=>
  intro l1 h
  cases h with
  | cons r t=>
   obtain ⟨l',h1,h2⟩:=ih t;exact ⟨_ :: l',.cons r h1,h2.cons _⟩
 | swap x y l=>
  intro l1 h
  cases h with
  | cons r t=>
   cases t with
   | cons r2 t=>exact ⟨_ :: _ :: _,.cons r2 (.cons r t),XR _ _ _⟩
 | trans _ _ ih1 ih2=>
  intro l1 h;obtain ⟨a,h1,h2⟩:=ih1 h;obtain ⟨b,h3,h4⟩:=ih2 h1;exact ⟨b,h3,h4.trans h2⟩
theorem HN {α β γ:Type} {R:α->β->Prop} {f:α->γ} {g:β->γ}:∀ {l1:List α} {l2:List β},G8 R l1 l2->(∀a∈l1,∀b,R a b->g b=f a)->l2.map g=l1.map f
 | _,_,.nil,_=>rfl
 | _,_,.cons r t,h=>by rw [An,An,h _ Ae _ r,HN t λa ha=>h a (Ac _ ha)]
theorem LZ {α β:Type} {R:α->β->Prop}:∀ {l1:List α} {l2:List β} {b:β},G8 R l1 l2->b∈l2->∃a∈l1,R a b
 | _,_,_,.nil,h=>nomatch h
 | _,_,b,.cons r t,h=>by
  rcases Ax.mp h with h | h
  ·subst h;exact ⟨_,Ae,r⟩
  ·obtain ⟨a,ha,e⟩:=LZ t h
   exact ⟨a,Ac _ ha,e⟩
def Hx:V->Int
 | .int n=>n
 | _=>0
def M6 (H:Hp):AB->List Int
 | .int n _=>[n]
 | .ref b=>match H b with
  | some (.tup xs)=>xs.map Hx
  | _=>[]
 | _=>[]
theorem HY (r:List Int):(r.map V.int).map Hx=r:=by
 rw [Bk];exact (D0 λa _=>rfl).trans (ju r)
def lp (K:AC) (H:Hp) (p:AI) (G:List V->Prop):Prop:=
 (∃vs,(SqL K H p vs∨SqT K H p vs)/\G vs)∨(∃kvs,H p=some (.dK kvs)/\G (kvs.map λx=>kV x.1)) ∨
  ∃kvs,H p=some (.dT kvs)/\∀bs:List AI,G8 (λ(k:List Key×V) b=>H b=some (.tup (k.1.map kV))) kvs bs->G (bs.map V.ref)
def Pu (H:Hp) (f:V->List Int) (vs:List V):Prop:=(∀v∈vs,∃n,v=.int n/\f v=[n])∨∀v∈vs,∃b,v=.ref b/\H b=some (.tup ((f v).map V.int))/\f v≠[]
def ke (K:AC):List V->Hp->VK->Prop:=λxs H Q=>∃p,xs=[.ref p]/\lp K H p λvs=>∃f:V->List Int,Pu H f vs /\
 ∀out,out.Perm vs->out.Pairwise (λx y=>ltL (f y) (f x)=false)->∀l,H l=none->Q (.ref l) (upd H l (.lst out))
theorem Pu.rel {H:Hp} {f:V->List Int} {vs:List V} (h:Pu H f vs):∀v∈vs,∀u,RelV v u->M6 H u=f v:=λv hv u r=>by
 rcases h with h | h
 ·obtain ⟨n,rfl,e⟩:=h v hv
  obtain ⟨t,rfl⟩:=r;exact e.symm
 ·obtain ⟨b,rfl,e,_⟩:=h v hv
  cases r;show (match H b with | some (.tup xs)=>xs.map Hx | _=>[])=_;rw [e];exact HY _
theorem Nd {X:Cx} {pins:List (AI×Obj)} {s:AE} {σ:St} {H:Hp} {p:AI} {G:List V->Prop} (hc:X.calm=true) (I:Inv X pins σ H s) (h:lp X.K H p G) :
  ∃vs its,G vs/\BL vs its/\its.length<=sizeLine/\∀(R:List AB->AE->Prop) (E:AB->AE->Prop),(∀(g:BP) (tk:Nat),(∀b o,s.heap.get? b=some o->g.get? b=some o)->R its { s with heap:=g,toks:=tk })->AZ (AR X.prog X.w) X.A.in1 (collect (.ref p)) R E s:=by
 have hh:X.A.handled=none:=I.ok.hd hc
 rcases h with ⟨vs,sq,g⟩ | ⟨kvs,e,g⟩ | ⟨kvs,e,g⟩
 ·rcases sq with sq | sq
  ·obtain ⟨its,rv,pl,hz⟩:=I.list sq
   refine ⟨vs,its,g,rv,by rw [<-rv.length];exact hz,λR E k=>collect_list pl.isList (k _ s.toks λb o e=>?_) (by rw [<-rv.length];exact hz)⟩;rw [XS _ _ _ _ (Ad (AW e))];exact AF _ e
  ·obtain ⟨its,rv,⟨o,ho,hcl,n,hd⟩,hz⟩:=I.tuple sq
   have hz':its.length<=sizeLine:=by rw [<-rv.length];exact hz
   exact ⟨vs,its,g,rv,hz',λR E k=>wpAny_collect_seq p (.inr rfl) ho hcl hd (λh' kp=>by simpa using k h' s.toks kp) (by simpa using hz')⟩
 ·obtain ⟨hz,sm,us,kv,o,es,ep,g1,g2,g3,g5,g6,_⟩:=(show Ca X.prog X.w H s.heap p (.dK kvs) from I.hok p _ e)
  have hlen:es.size=kvs.length:=by
   have a1:=g6.length;have a2:kvs.length=us.length:=FG kv;rw [Az] at a1
   lia
  have hv:BL (kvs.map λx=>kV x.1) (es.toList.map (·.key)):=by
   have key:∀ {l:List NU} {us:List (Key×AB)} {kvs:List (Key×V)},Pairs (EN X.prog X.w) l us->KV kvs us->BL (kvs.map λx=>kV x.1) (l.map (·.key)):=by
    intro l us kvs hp
    induction hp generalizing kvs with
    | nil=>intro h;cases h;exact .nil
    | cons q1 q2 _ ih=>
     intro h
     cases h with
     | cons r t=>
      refine .cons ?_ (ih t);dsimp only;rw [r.1]
      rcases C9 q1 with ⟨i,t,e1,e2⟩ | ⟨x,t,e1,e2⟩
      ·rw [e1,e2];exact ⟨t,rfl⟩
      ·rw [e1,e2];exact ⟨t,rfl⟩
   exact key g6 kv
  refine ⟨_,es.toList.map (·.key),g,hv,by rw [AJ,Az,hlen];exact hz,λR E k=>?_⟩
  refine Ud (Srt.We (es:=es) (ep:=ep) sm) hh ⟨o,g1,g2,g3⟩ (by rw [hlen];exact hz) λg' tk acc kp ac=>?_
  have:acc.toList=es.toList.map (·.key):=by
   apply Ef
   intro j
   by_cases hj:j < es.size
   ·have hj2:j < acc.size:=by rw [ac.1];exact hj
    obtain ⟨_,e2⟩:=ac.2 j acc[j] (by simp [hj2]);simp [hj,hj2,e2]
   ·have hj2:¬j < acc.size:=by rw [ac.1];exact hj
    simp [hj,hj2]
  rw [this];exact k g' tk kp
 ·obtain ⟨hz,sm,xs,rr,o,es,ep,g1,g2,g3,g4,_⟩:=(show Ca X.prog X.w H s.heap p (.dT kvs) from I.hok p _ e)
  have hlen:es.size=kvs.length:=by
   have a1:=congrArg IZ g4;have a2:kvs.length=xs.length:=FG rr;rw [Az,AJ] at a1
   lia
  have hb:G8 (λ(k:List Key×V) b=>H b=some (.tup (k.1.map kV))) kvs (xs.map (·.2.1)):=by
   have key:∀ {kvs:List (List Key×V)} {xs:List (List Key×AI×AB)},G8 (λ(p:List Key×V) (q:List Key×AI×AB)=>p.1=q.1/\H q.2.1=some (.tup (p.1.map kV))/\RelV p.2 q.2.2) kvs xs->G8 (λ(k:List Key×V) b=>H b=some (.tup (k.1.map kV))) kvs (xs.map (·.2.1)):=by
    intro kvs xs h
    induction h with
    | nil=>exact .nil
    | cons r _ ih=>exact .cons r.2.1 ih
   exact key rr
  have hk:es.toList.map (·.key)=(xs.map (·.2.1)).map Av:=by
   rw [g4,Bk,Bk];rfl
  have hv:∀l:List AI,BL (l.map V.ref) (l.map Av):=λl=>by
   induction l with
   | nil=>exact .nil
   | cons a l ih=>exact .cons rfl ih
  refine ⟨_,(xs.map (·.2.1)).map Av,g _ hb,hv _,by rw [AJ,AJ,<-FG rr];exact hz,λR E k=>?_⟩
  refine Ud (Srt.We (es:=es) (ep:=ep) sm) hh ⟨o,g1,g2,g3⟩ (by rw [hlen];exact hz) λg' tk acc kp ac=>?_
  have:acc.toList=(xs.map (·.2.1)).map Av:=by
   rw [<-hk]
   apply Ef
   intro j
   by_cases hj:j < es.size
   ·have hj2:j < acc.size:=by rw [ac.1];exact hj
    obtain ⟨_,e2⟩:=ac.2 j acc[j] (by simp [hj2]);simp [hj,hj2,e2]
   ·have hj2:¬j < acc.size:=by rw [ac.1];exact hj
    simp [hj,hj2]
  rw [this];exact k g' tk kp
theorem Nf {X:Cx} {s:AE} {H:Hp} {f:V->List Int} {vs:List V} {its:List AB} (I:∀b xs,H b=some (.tup xs)->∃is:List AB,BL xs is/\U4 s.heap b is.toArray) (h:Pu H f vs) (rv:BL vs its) (h2:2<=its.length) {A:Ay}:Srt.Pt X.prog X.w A s its (M6 H):=by
 rcases id h with hi | ht
 ·have:∃ns,IntsAre its ns:=by
   have key:∀ {vs:List V} {its:List AB},BL vs its->(∀v∈vs,∃n,v=.int n/\f v=[n])->∃ns,IntsAre its ns:=by
    intro vs its r
    induction r with
    | nil=>exact λ_=>⟨[],.nil⟩
    | cons r _ ih=>
     intro hv
     obtain ⟨ns,hns⟩:=ih λv hv'=>hv v (Ac _ hv')
     obtain ⟨n,rfl,_⟩:=hv _ Ae;obtain ⟨t,rfl⟩:=r;exact ⟨n :: ns,.cons n t hns⟩
   exact key rv hi
  obtain ⟨ns,hns⟩:=this;obtain ⟨κ,k1,k2⟩:=Srt.Xh (prog:=X.prog) (w:=X.w) (A:=A) (s:=s) hns h2;refine ⟨κ,k1,λx y hx hy Q E q=>k2 x y hx hy Q E ?_⟩;obtain ⟨n,t,e1⟩:=hns.all _ (Srt.Ey hx).1;obtain ⟨m,u,e2⟩:=hns.all _ (Srt.Ey hy).1
  have e:Srt.ltK Srt.aE x y=Srt.ltK (M6 H) x y:=by
   unfold Srt.ltK Srt.aE;rw [e1,e2];rfl
  rw [e];exact q
 ·refine Srt.Qt (λu hu=>?_) (by intro e;subst e;simp at h2)
  obtain ⟨v,hv,r⟩:=LZ rv hu;rw [h.rel v hv u r];obtain ⟨b,rfl,e,ne⟩:=ht v hv;cases r;refine ⟨⟨b,?_⟩,ne⟩;obtain ⟨is,r,o,ho,hcl,n,hd⟩:=I b _ e;exact ⟨is.toArray,rfl,⟨o,ho,hcl,n,hd⟩,by simpa using intsAre_of r⟩
theorem YW {X:Cx} (hc:X.calm=true):Hq X (.builtin "sorted") (ke X.K):=by
 intro pins s σ H xs us Q I r h;obtain ⟨p,rfl,src⟩:=h;obtain ⟨u,rfl,rx⟩:=vals1 r;cases rx;obtain ⟨vs,its,⟨f,rows,q⟩,rv,hz,col⟩:=Nd hc I src;refine IJ cE Yz Y0 (Y2 _) ?_;unfold Builtin.«sorted»;refine AA (m:=gW "sorted" 1 1 _) (AD (AA (col _ _ λg tk kp=>?_)));refine AA (N6 ?_ hz);have I1:Inv X pins σ H { s with heap:=g,toks:=tk }:=I.kept kp;have hl:(g.push (E3 "list" its.toArray 0)).get? g.objs.size=some (E3 "list" its.toArray 0):=AV _ rfl;refine AA (Bh (BJ Um ⟨_,hl,rfl⟩ TQ (Srt.IP (f:=M6 H) hl hz (λh2 s' keep=>?_) λout po so=>⟨_,rfl,AD ⟨_,rfl,?_⟩⟩) (Uu _)))
 ·refine Nf (λb xs e=>?_) rows rv h2
  obtain ⟨_,is,r,o,ho,hcl,n,hd⟩:=(show Ca X.prog X.w H g b (.tup xs) from I1.hok b _ e);exact ⟨is,r,o,keep b o (Ad (AW ho)) (AF _ ho),hcl,n,hd⟩
 ·obtain ⟨vo,ro,pv⟩:=KH po.symm rv
  have so':vo.Pairwise (λx y=>ltL (f y) (f x)=false):=by
   have e:out.toList.map (M6 H)=vo.map f:=HN ro λa ha b rb=>rows.rel a (pv.mem_iff.mp ha) b rb
   have:=(BR (f:=M6 H) (R:=λx y=>ltL y x=false)).mpr so;rw [e] at this;exact BR.mp this
  obtain ⟨k,hk⟩:=XG (out:=out) hl
  have hlen:vo.length<=sizeLine:=by rw [pv.length_eq,rv.length];exact hz
  have I2:=I1.laid (a:=g.objs.size) (o:=.lst vo) (t':=tk) (h':=OT (g.push (E3 "list" its.toArray 0)) g.objs.size its out)
   (λb u z=>by
    have lt:b < g.objs.size:=AW z;rw [Ul (Ad lt) (by rw [gK];exact CG lt)]
    exact AF _ z) (AM _) ⟨hlen,out.toList,k,ro,hk⟩
  exact ⟨.ref g.objs.size,_,I2,rfl,q vo pv so' _ (I1.hok.fresh (AM _))⟩
def CU (ns:List Int):List Int:=ns.mergeSort (λa b=>decide (a<=b))
@[simp] theorem jy:CU []=[]:=by unfold CU;simp
theorem D5 (ns:List Int):(CU ns).Perm ns:=XN ns _
theorem Hd (ns:List Int):(CU ns).Pairwise (·<=·):=by
 have:=TV (le:=λa b:Int=>decide (a<=b)) (by intro a b c h1 h2;simp at h1 h2 ⊢;lia) (by intro a b;simp;lia) ns
 exact this.imp λh=>by simpa using h
def GZ (rs:List (List Int)):List (List Int):=rs.mergeSort (λa b=>!ltL b a)
theorem FN (rs:List (List Int)):(GZ rs).Perm rs:=XN rs _
theorem Ih (rs:List (List Int)):(GZ rs).Pairwise (λa b=>ltL b a=false):=by
 have:=TV (le:=λa b:List Int=>!ltL b a) (by intro a b c h1 h2;simp at h1 h2 ⊢;exact Srt.SM _ _ _ h1 h2) (by
  intro a b
  cases e:ltL b a with
  | false=>simp
  | true=>simp [Srt.PP _ _ e]) rs
 exact this.imp λh=>by simpa using h
theorem Kn {l l':List (List Int)} (p:l.Perm l') (h:l.Pairwise (λa b=>ltL b a=false)) (h':l'.Pairwise (λa b=>ltL b a=false)):l=l':=
 p.eq_of_pairwise (λa b _ _ h1 h2=>Srt.Wl a b h2 h1) h h'
def ah:Key->D
 | .inl i=>.int i
 | .inr x=>.str x
def IR (d:D) (S:Sto):Option (List D):=match d with
 | .fro ds=>some ds
 | .tup ds=>some ds
 | .ref n=>match S[n]? with
  | some (.lst ds)=>some ds
  | some (.dK kvs)=>some (kvs.map λx=>ah x.1)
  | some (.dT kvs)=>some (kvs.map λx=>.tup (x.1.map ah))
  | _=>none
 | _=>none
def Ij (r:List Int):D:=.tup (r.map D.int)
def Q3:List D->Option (List (List Int))
 | []=>some []
 | .tup ds :: r=>match G2 ds,Q3 r with
  | some (n :: ns),some rs=>some ((n :: ns) :: rs)
  | _,_=>none
 | _ :: _=>none
def KB (ds:List D):Option (List D):=match G2 ds with
 | some ns=>some ((CU ns).map D.int)
 | none=>match Q3 ds with
  | some rs=>some ((GZ rs).map Ij)
  | none=>none
def Dm (m:ME):ME:=λe S=>(m e S).bind λd S1=>match IR d S1 with
 | some ds=>match KB ds with
  | some es=>.ok (.ref S1.length) (S1++[.lst es])
  | none=>.bad
 | none=>.bad
section
variable {X:Cx} {E:EW} {e:Expr} {p pos:Pos} {m:ME}
theorem Wm (x y:Int):ltL [y] [x]=decide (y < x):=by
 show (if y=x then false else decide (y < x))=_;split
 ·rename_i e;simp [e]
 ·rfl
def Js (H:Hp):V->List Int
 | .int n=>[n]
 | .ref b=>match H b with
  | some (.tup xs)=>xs.map Hx
  | _=>[]
 | _=>[]
theorem Tn {K:AC} {ρ:List AI} {H:Hp}:∀ {ds:List D} {rs:List (List Int)} {vs:List V},Q3 ds=some rs->Ao K ρ H ds vs->vs.map (Js H)=rs/\∀v∈vs,∃b,v=.ref b/\H b=some (.tup ((Js H v).map V.int))/\Js H v≠[]
 | [],_,_,h,.nil=>by cases h;exact ⟨rfl,λv hv=>nomatch hv⟩
 | .tup ts :: ds,rs,_,h,.cons r t=>by
  unfold Q3 at h;split at h
  ·rename_i n ns rs' h1 h2
   cases h;obtain ⟨i1,i2⟩:=Tn h2 t
   cases r with
   | @tup _ b ws hb rr=>
    have:=Iu h1;subst this;have:=rr.ints;subst this
    have e:Js H (.ref b)=n :: ns:=by
     show (match H b with | some (.tup xs)=>xs.map Hx | _=>[])=_;rw [hb];exact HY _
    refine ⟨by rw [An,e,i1],λv hv=>?_⟩
    rcases Ax.mp hv with hv | hv
    ·subst hv
     refine ⟨b,rfl,?_,?_⟩
     ·rw [e];exact hb
     ·rw [e];exact List.cons_ne_nil _ _
    ·exact i2 v hv
  ·cases h
 | .non :: _,_,_,h,_=>by cases h
 | .bl _ :: _,_,_,h,_=>by cases h
 | .int _ :: _,_,_,h,_=>by cases h
 | .str _ :: _,_,_,h,_=>by cases h
 | .fro _ :: _,_,_,h,_=>by cases h
 | .ref _ :: _,_,_,h,_=>by cases h
 | .exc _ :: _,_,_,h,_=>by cases h
theorem Ts {K:AC} {ρ:List AI} {H:Hp}:∀ {vs:List V},(∀v∈vs,∃b,v=.ref b/\H b=some (.tup ((Js H v).map V.int))/\Js H v≠[])->Ao K ρ H ((vs.map (Js H)).map Ij) vs
 | [],_=>.nil
 | v :: vs,h=>by
  obtain ⟨b,e,hb,_⟩:=h v Ae;refine .cons ?_ (Ts λu hu=>h u (Ac _ hu));subst e;exact .tup hb (Ao.of_ints _)
theorem Zf {K:AC} {ρ:List AI} {H:Hp} {ds es:List D} {vs:List V} (h:KB ds=some es) (r:Ao K ρ H ds vs) :
  ∃f:V->List Int,Pu H f vs/\∀out,out.Perm vs->out.Pairwise (λx y=>ltL (f y) (f x)=false)->Ao K ρ H es out:=by
 unfold KB at h;split at h
 ·rename_i ns hz
  cases h;have:=Iu hz;subst this;have:=r.ints;subst this;refine ⟨λv=>[Hx v],.inl λv hv=>?_,λout po so=>?_⟩
  ·obtain ⟨n,_,rfl⟩:=A5.mp hv
   exact ⟨n,rfl,rfl⟩
  ·have e1:out=(out.map Hx).map V.int:=by
    rw [Bk]
    conv=>lhs;rw [<-Oa out]
    refine D0 λv hv=>?_
    obtain ⟨n,_,rfl⟩:=A5.mp (po.mem_iff.mp hv);rfl
   have e2:out.map Hx=CU ns:=by
    have p1:(out.map Hx).Perm (CU ns):=by
     have:=po.map Hx;rw [HY] at this;exact this.trans (D5 ns).symm
    refine p1.eq_of_pairwise (λa b _ _ h1 h2=>Kj h1 h2) ?_ (Hd ns);rw [BR]
    refine so.imp λ{x y} hxy=>?_
    rw [Wm] at hxy;simp at hxy;exact hxy
   rw [e1,e2];exact Ao.of_ints _
 ·split at h
  ·rename_i rs hr
   cases h;obtain ⟨i1,i2⟩:=Tn hr r;refine ⟨Js H,.inr i2,λout po so=>?_⟩
   have e2:out.map (Js H)=GZ rs:=by
    refine Kn ?_ (BR.mpr so) (Ih rs);have:=po.map (Js H);rw [i1] at this;exact this.trans (FN rs).symm
   rw [<-e2]
   exact Ts λv hv=>i2 v (po.mem_iff.mp hv)
  ·cases h
theorem PX {K:AC} {ρ:List AI} {H:Hp}:∀ks:List Key,Ao K ρ H (ks.map ah) (ks.map kV)
 | []=>.nil
 | .inl i :: ks=>.cons (.int i) (PX ks)
 | .inr x :: ks=>.cons (.str x) (PX ks)
theorem PV {K:AC} {ρ:List AI} {H:Hp}:∀ {kvs:List (Key×D)} {kvs':List (Key×V)},KVR K ρ H kvs kvs'->Ao K ρ H (kvs.map λx=>ah x.1) (kvs'.map λx=>kV x.1)
 | _,_,.nil=>.nil
 | (k,_) :: _,(k',_) :: _,.cons r t=>by
  have e:k=k':=r.1;subst e
  cases k with
  | inl i=>exact .cons (.int i) (PV t)
  | inr x=>exact .cons (.str x) (PV t)
theorem UE {K:AC} {ρ:List AI} {H:Hp}:∀ {kvs:List (List Key×D)} {kvs':List (List Key×V)} {bs:List AI},KVR K ρ H kvs kvs'->G8 (λ(k:List Key×V) b=>H b=some (.tup (k.1.map kV))) kvs' bs->Ao K ρ H (kvs.map λx=>.tup (x.1.map ah)) (bs.map V.ref)
 | _,_,_,.nil,.nil=>.nil
 | (k,_) :: _,(k',_) :: _,_,.cons r t,.cons r2 t2=>by
  have e:k=k':=r.1;subst e;exact .cons (.tup r2 (PX k)) (UE t t2)
theorem Go (hc:X.calm=true) (hg:Gl X "sorted") (hm:X.mg "sorted" = none) (h:GE X E e m) (he:AU [e] X.env=(false,Bg e X.env) :: AU [] X.env:=by rfl):GE X E (.Call (.Name "sorted" p) [e] [] pos) (Dm m):=
 (Il (YW hc) hg hm NM (D7 h Fm he) (by decide) (by decide) he rfl).imp λσ H Q ⟨ρ,l,S,hl,hs,hm⟩=>by
 refine ⟨ρ,l,S,hl,hs,hm.seq λd S1 hm ρ1 H1 x l1 s1 r1=>?_⟩
 cases hq:IR d S1 with
 | none=>rw [hq] at hm;exact hm.elim
 | some ds=>
  rw [hq] at hm;dsimp only at hm
  cases hi:KB ds with
  | none=>rw [hi] at hm;exact hm.elim
  | some es=>
   rw [hi] at hm
   have fin:∀vs:List V,Ao X.K ρ1 H1 es vs->∀q,H1 q=none->Q (.ref q) (upd H1 q (.lst vs)):=λvs rr q hq=>by
    have le:Le X.K ρ1 H1 (ρ1++[q]) (upd H1 q (.lst vs)):=Le.alloc hq;obtain ⟨s4,l4,at4⟩:=s1.alloc (ho:=.lst vs) (o:=.lst es) hq ⟨_,Bd,rr.mono le⟩;exact hm _ _ _ (l1.trans l4) s4 (.ref at4)
   have out:∀vs,Ao X.K ρ1 H1 ds vs->∃f:V->List Int,Pu H1 f vs/\∀out,out.Perm vs->out.Pairwise (λx y=>ltL (f y) (f x)=false)->∀l,H1 l=none->Q (.ref l) (upd H1 l (.lst out)):=λvs rr=>by
    obtain ⟨f,k1,k2⟩:=Zf hi rr;exact ⟨f,k1,λout po so=>fin out (k2 out po so)⟩
   cases r1 with
   | fro h1 h2=>cases hq;exact ⟨_,rfl,.inl ⟨_,.inl h1.sq,out _ h2⟩⟩
   | tup h1 h2=>cases hq;exact ⟨_,rfl,.inl ⟨_,.inr (.inl (.inl h1)),out _ h2⟩⟩
   | @ref n a hn=>
    obtain ⟨o,ho,ro⟩:=s1.there hn;unfold IR at hq;simp only [ho] at hq
    cases o with
    | lst ys=>cases hq;obtain ⟨vs,e,rr⟩:=ro;exact ⟨_,rfl,.inl ⟨vs,.inl (.inl (.inl e)),out _ rr⟩⟩
    | dK kvs=>cases hq;obtain ⟨vs,e,rr⟩:=ro;exact ⟨_,rfl,.inr (.inl ⟨vs,e,out _ (PV rr)⟩)⟩
    | dT kvs=>cases hq;obtain ⟨vs,e,rr⟩:=ro;exact ⟨_,rfl,.inr (.inr ⟨vs,e,λbs hb=>out _ (UE rr hb)⟩)⟩
    | ins C fs=>cases hq
   | _=>cases hq
end
end L2
namespace L2
open PySem PySem.Spec PyProof.Rows
theorem jE {K:AC} {t:String} (h:∀A∈["NoneType", "bool", "int", "str", "tuple", "list", "dict"],Dp K (.type A) (.type t)=fw t A):∀A b,isB t A=some b->Dp K (.type A) (.type t)=some b:=λA b e=>by
 unfold isB at e;split at e
 ·rename_i hA
  rw [h A (by simpa using hA)];exact e
 ·cases e
theorem ak {K:AC}:∀A b,isB "bool" A=some b->Dp K (.type A) (.type "bool")=some b:=jE λA h=>by
 simp only [Ax,CN,or_false] at h
 rcases h with rfl | rfl | rfl | rfl | rfl | rfl | rfl <;> kernel_rfl
def Ze (K:AC):Sp:=λvs H Q _=>∃(a:AI) (ns:List Int),vs=[.ref a]/\QZ K H a (ns.map V.int)/\ns.length<=63/\∀H',Q (.bl true) H'
theorem aZ {P:Al} {w:A2} {K:AC} {mg:Str->Option AB} {base:BP} {k:Nat} {fa:AI} {fd:De} {f:List D->Sto->Res D} (F:Ek P w K mg base (CXG P w) k fa fd ["script"] (spM K 1 f))
  (h:∀ns:List Int,ns.length<=63->∃S',f [.fro (ns.map D.int)] []=.ok (.bl true) S'):Ek P w K mg base (CXG P w) k fa fd ["script"] (Ze K):=F.imp λvs H Q E ⟨a,ns,e,hS,hl,q⟩=>by
 subst e;obtain ⟨S',e⟩:=h ns hl;refine ⟨[],[.fro (ns.map D.int)],[],rfl,.cons (.fro hS (Ao.of_ints ns)) .nil,⟨rfl,λi j a hi=>by simp at hi,λn o a hn=>by simp at hn⟩,?_⟩;rw [e]
 exact λρ' H' x _ _ r=>by cases r;exact q H'
theorem jQ {K:AC} {H:Hp} {a:AI} {ns:List Int} (hO:fU H) (hS:SqL K H a (ns.map V.int)):QZ K H a (ns.map V.int):=by
 rcases hS with (h | h) | h
 ·rcases hO a with z | ⟨o,xs,z⟩ <;> rw [z] at h <;> cases h
 ·exact .inl h
 ·exact .inr h
theorem Lj {K:AC} {C:AI} {v:AB} {b:Bool} (h:K0 K C v=some b):(K9 K C).isSome=true:=by
 obtain ⟨cd,a,_⟩:=Rf.mp h;rw [a];rfl
theorem jX {P:Al} {w:A2} {H:Hp} {s:AE} {e:AB} {s':AE} (h:CXG P w [] H s (λ_ _ _=>False) e s'):False:=by
 obtain ⟨_,_,_,_,_,_,_,_,_,z⟩:=h;exact z
end L2
namespace L2
open PySem
def gC (I:Lo->Sto->Prop) (R:Fl->Sto->Prop) (f:Fl) (S:Sto):Prop:=match f with
 | .nx e=>I e S
 | .ct e=>I e S
 | .bk e=>R (.nx e) S
 | .rt d=>R (.rt d) S
 | .ex c e=>R (.ex c e) S
theorem et {v:IU} {g:MG} {b:MS} {xs:List D} (I:Nat->Lo->Sto->Prop) (R:Fl->Sto->Prop) (hv:∀i e S,I i e S->v S=some xs)
  (step:∀i d e S,xs[i]?=some d->I i e S->∃e1 S1,g d e S=.ok e1 S1/\∃f S2,b e1 S1=.ok f S2/\gC (I (i+1)) R f S2)
  (fin:∀e S,I xs.length e S->R (.nx e) S):∀(k i:Nat) (e:Lo) (S:Sto),I i e S->i<=xs.length->xs.length<=i+k->∃f S',JW v g b k i e S=.ok f S'/\R f S':=by
 intro k
 induction k with
 | zero=>
  intro i e S h h1 h2
  have:i=xs.length:=by lia
  subst this;refine ⟨.nx e,S,?_,fin e S h⟩;unfold JW;rw [hv _ e S h];simp
 | succ k ih=>
  intro i e S h h1 h2;unfold JW;rw [hv _ e S h];dsimp only
  by_cases hi:i < xs.length
  ·have hd:xs[i]?=some xs[i]:=by simp [hi]
   rw [hd];dsimp only;obtain ⟨e1,S1,q1,f,S2,q2,t⟩:=step i _ e S hd h;rw [q1];dsimp only [Res.bind];rw [q2];dsimp only [Res.bind]
   cases f with
   | nx e2=>exact ih (i+1) e2 S2 t (by lia) (by lia)
   | ct e2=>exact ih (i+1) e2 S2 t (by lia) (by lia)
   | bk e2=>exact ⟨_,_,rfl,t⟩
   | rt d=>exact ⟨_,_,rfl,t⟩
   | ex c e2=>exact ⟨_,_,rfl,t⟩
  ·have:i=xs.length:=by lia
   subst this;rw [show xs[xs.length]?=none by simp];exact ⟨.nx e,S,rfl,fin e S h⟩
theorem KR {v:IU} {g:MG} {b:MS} {xs:List D} {e:Lo} {S:Sto} (I:Nat->Lo->Sto->Prop) (R:Fl->Sto->Prop) (h0:I 0 e S) (hv:∀i e S,I i e S->v S=some xs)
  (step:∀i d e S,xs[i]?=some d->I i e S->∃e1 S1,g d e S=.ok e1 S1/\∃f S2,b e1 S1=.ok f S2/\gC (I (i+1)) R f S2)
  (fin:∀e S,I xs.length e S->R (.nx e) S):∃f S',JW v g b (C4 v S) 0 e S=.ok f S'/\R f S':=by
 have hl:C4 v S=xs.length:=by unfold C4;rw [hv 0 e S h0]
 rw [hl];exact et I R hv step fin _ _ _ _ h0 (CP _) (by lia)
theorem bV {v:IU} {g:MG} {c:MT} {m:ME} {xs:List D} (I:Nat->Lo->Sto->List D->Prop) (hv:∀i e S acc,I i e S acc->v S=some xs)
  (step:∀i d e S acc,xs[i]?=some d->I i e S acc->acc.length < sizeLine/\∃e1 S1,g d e S=.ok e1 S1/\∃b S2,c e1 S1=.ok b S2/\((b=true/\∃y S3,m e1 S2=.ok y S3/\I (i+1) e1 S3 (acc++[y]))∨(b=false/\I (i+1) e1 S2 acc))) :
  ∀(k i:Nat) (e:Lo) (S:Sto) (acc:List D),I i e S acc->i<=xs.length->xs.length<=i+k->∃r S',FW v g c m k i e S acc=.ok r S'/\∃e',I xs.length e' S' r:=by
 intro k
 induction k with
 | zero=>
  intro i e S acc h h1 h2
  have:i=xs.length:=by lia
  subst this;refine ⟨acc,S,?_,e,h⟩;unfold FW;rw [hv _ e S acc h];simp
 | succ k ih=>
  intro i e S acc h h1 h2;unfold FW;rw [hv _ e S acc h];dsimp only
  by_cases hi:i < xs.length
  ·have hd:xs[i]?=some xs[i]:=by simp [hi]
   rw [hd];dsimp only;obtain ⟨hz,e1,S1,q1,b,S2,q2,t⟩:=step i _ e S acc hd h;rw [qX hz,q1];dsimp only [okR,Res.bind];rw [q2];dsimp only [okR,Res.bind]
   rcases t with ⟨rfl,y,S3,q3,t⟩ | ⟨rfl,t⟩
   ·rw [qX rfl,q3]
    exact ih (i+1) e1 S3 _ t (by lia) (by lia)
   ·rw [qY AO]
    exact ih (i+1) e1 S2 acc t (by lia) (by lia)
  ·have:i=xs.length:=by lia
   subst this;rw [show xs[xs.length]?=none by simp];exact ⟨acc,S,rfl,e,h⟩
theorem Sk {v:IU} {g:MG} {c:MT} {m:ME} {xs:List D} {e:Lo} {S:Sto} (I:Nat->Lo->Sto->List D->Prop) (h0:I 0 e S []) (hv:∀i e S acc,I i e S acc->v S=some xs)
  (step:∀i d e S acc,xs[i]?=some d->I i e S acc->acc.length < sizeLine/\∃e1 S1,g d e S=.ok e1 S1/\∃b S2,c e1 S1=.ok b S2/\((b=true/\∃y S3,m e1 S2=.ok y S3/\I (i+1) e1 S3 (acc++[y]))∨(b=false/\I (i+1) e1 S2 acc))) :
  ∃r S',FW v g c m (C4 v S) 0 e S []=.ok r S'/\∃e',I xs.length e' S' r:=by
 have hl:C4 v S=xs.length:=by unfold C4;rw [hv 0 e S [] h0]
 rw [hl];exact bV I hv step _ _ _ _ _ h0 (CP _) (by lia)
theorem aW {j:Int} (h:-1000000<=j):-(2 ^ 62)<=j:=kJ (by decide) h
theorem au {j:Int} (h:j<=1000000):j < 2 ^ 62:=Y9 h (by decide)
theorem Pb {ml:ML} {e:Lo} {S S1:Sto} {j:Int} (h:ml e S=.ok [.int j] S1) (h0:-1000000<=j) (h1:j<=1000000):iR1 ml e S=.ok (Fh (DW 0 j.toNat)) S1:=by
 unfold iR1;rw [h];dsimp only [Res.bind];rw [qX ⟨aW h0,au h1⟩]
theorem jF {ml:ML} {e:Lo} {S S1:Sto} {i j:Int} (h:ml e S=.ok [.int i,.int j] S1) (h0:-1000000<=i) (h1:i<=1000000) (h2:-1000000<=j) (h3:j<=1000000):iR2 ml e S=.ok (Fh (DW i (j - i).toNat)) S1:=by
 unfold iR2;rw [h];dsimp only [Res.bind];rw [qX ⟨aW h0,au h1,aW h2,au h3⟩]
theorem Ik (lo:Int) (n:Nat):(DW lo n).length=n:=by simp [DW]
theorem KF {lo:Int} {n i:Nat} {d:D} (h:(DW lo n)[i]?=some d):i < n/\d=.int (lo+i):=by
 rw [Q5] at h;split at h
 ·rename_i hi
  cases h;exact ⟨hi,rfl⟩
 ·cases h
theorem Md {i j:Int} {S:Sto} (h:0 < j) (h1:j<=1000000):Hj (.int i) (.int j) S=.ok (.int (i / j)) S:=by
 show (if fV i j then _ else _)=_;rw [qX ⟨h,by lia⟩]
theorem FH {i j:Int} {S:Sto} (h:0 < j):EQ (.int i) (.int j) S=.ok (.int (i % j)) S:=by
 show (if 0 < j then _ else _)=_;rw [qX h]
theorem Be {f:D->D->Sto->Res D} {ma mb:ME} {e:Lo} {S S1 S2 S3:Sto} {x y d:D} (ha:ma e S=.ok x S1) (hb:mb e S1=.ok y S2) (hf:f x y S2=.ok d S3):m2 f ma mb e S=.ok d S3:=by
 unfold m2;rw [ha];dsimp only [Res.bind];rw [hb];dsimp only [Res.bind];rw [hf];rfl
theorem D6 {m:ME} {e:Lo} {S S1:Sto} {d:D} {i:Nat} (h:m e S=.ok d S1):CB i m e S=.ok (.nx (e.set i (some d))) S1:=by
 unfold CB QN;rw [h];rfl
theorem KG {m:ME} {e:Lo} {S S1:Sto} {d:D} (h:m e S=.ok d S1):Fa m e S=.ok (.rt d) S1:=by
 unfold Fa;rw [h];rfl
theorem E0 {m:ME} {e:Lo} {S S1:Sto} {d:D} (h:m e S=.ok d S1):CY m e S=.ok (.nx e) S1:=by
 unfold CY;rw [h];rfl
theorem Hg {t:MT} {a b:MS} {e:Lo} {S S1:Sto} {c:Bool} (h:t e S=.ok c S1):sIf t a b e S=if c=true then a e S1 else b e S1:=by
 unfold sIf;rw [h];rfl
theorem IS {m:MI} {g:MG} {b:MS} {e:Lo} {S S1:Sto} {v:IU} (h:m e S=.ok v S1):Gz m g b e S=JW v g b (C4 v S1) 0 e S1:=by
 unfold Gz;rw [h];rfl
theorem EA {n:Nat} {f:List D->Sto->Res D} {m:ML} {e:Lo} {S S1:Sto} {ds:List D} (h:m e S=.ok ds S1) (hn:ds.length=n):B3 n f m e S=f ds S1:=by
 unfold B3;rw [h];dsimp only [Res.bind];rw [qX hn]
theorem BU {a b:MS} {e e1:Lo} {S S1:Sto} (h:a e S=.ok (.nx e1) S1):BY a b e S=b e1 S1:=by unfold BY;rw [h];rfl
theorem Zq {a b:MS} {e:Lo} {S S1:Sto} {d:D} (h:a e S=.ok (.rt d) S1):BY a b e S=.ok (.rt d) S1:=by unfold BY;rw [h];rfl
theorem VX {a b:MS} {e e1:Lo} {S S1:Sto} {c:AI} (h:a e S=.ok (.ex c e1) S1):BY a b e S=.ok (.ex c e1) S1:=by unfold BY;rw [h];rfl
theorem Gg {n:Nat} {mb:MS} {ds:List D} {S S1:Sto} {d:D} (h:mb (E4 n ds) S=.ok (.rt d) S1):Fj n mb ds S=.ok d S1:=by unfold Fj;rw [h];rfl
theorem Zt {n:Nat} {mb:MS} {ds:List D} {S S1:Sto} {e:Lo} (h:mb (E4 n ds) S=.ok (.nx e) S1):Fj n mb ds S=.ok .non S1:=by unfold Fj;rw [h];rfl
def Keeps (S S':Sto):Prop:=S.length<=S'.length/\∀j,j < S.length->S'[j]?=S[j]?
theorem Keeps.refl (S:Sto):Keeps S S:=⟨AM _,λ_ _=>rfl⟩
theorem Keeps.trans {S S1 S2:Sto} (a:Keeps S S1) (b:Keeps S1 S2):Keeps S S2:=⟨As a.1 b.1,λj h=>(b.2 j (Ab h a.1)).trans (a.2 j h)⟩
theorem Keeps.app (S:Sto) (G:Sto):Keeps S (S++G):=⟨by simp,λj h=>Ah h⟩
theorem Keeps.set {S S1:Sto} (a:Keeps S S1) {m:Nat} (h:S.length<=m) (o:Ob):Keeps S (S1.set m o):=⟨by simpa using a.1,λj hj=>by rw [A8 (by lia)];exact a.2 j hj⟩
theorem Keeps.at {S S1:Sto} (a:Keeps S S1) {j:Nat} {o:Ob} (h:S[j]?=some o):S1[j]?=some o:=by
 rw [a.2 j (AK.mp h).1];exact h
theorem Kf {mo ma:ME} {e:Lo} {S S1 S2:Sto} {n:Nat} {xs xs2:List D} {y:D} (h1:mo e S=.ok (.ref n) S1) (h2:S1[n]?=some (.lst xs)) (h3:ma e S1=.ok y S2) (h4:S2[n]?=some (.lst xs2)) (h5:xs2.length < sizeLine) :
  GP mo ma e S=.ok .non (S2.set n (.lst (xs2++[y]))):=by
 unfold GP;rw [h1];dsimp only [Res.bind];rw [h2];dsimp only;rw [h3];dsimp only [Res.bind];rw [h4];dsimp only;rw [qX h5]
theorem YK {mo ma:ME} {e:Lo} {S S1 S2:Sto} {n k:Nat} {xs xs2 ys:List D} (h1:mo e S=.ok (.ref n) S1) (h2:S1[n]?=some (.lst xs)) (h3:ma e S1=.ok (.ref k) S2) (h4:S2[n]?=some (.lst xs2)) (h5:S2[k]?=some (.lst ys)) (hk:k≠n) (h6:xs2.length+ys.length<=sizeLine) :
  MV mo ma e S=.ok .non (S2.set n (.lst (xs2++ys))):=by
 unfold MV;rw [h1];dsimp only [Res.bind]
 have a1:atL (.ref n) S1=some (n,xs):=by unfold atL;dsimp only;rw [h2]
 have a2:atL (.ref n) S2=some (n,xs2):=by unfold atL;dsimp only;rw [h4]
 have a3:atL (.ref k) S2=some (k,ys):=by unfold atL;dsimp only;rw [h5]
 rw [a1];dsimp only;rw [h3];dsimp only [Res.bind];rw [a2,a3];dsimp only;rw [qX ⟨hk,h6⟩]
theorem cu {xs ys:List D} {S:Sto} (h:xs.length+ys.length<=sizeLine):E8 (.tup xs) (.tup ys) S=.ok (.tup (xs++ys)) S:=by
 unfold E8;dsimp only;rw [qX h]
theorem ED {n:Nat} {S:Sto} {xs:List D} (h:S[n]?=some (.lst xs)):FE (.ref n) S=some xs:=by
 unfold FE NZ;dsimp only;rw [h]
theorem MY {m:ME} {e:Lo} {S S1:Sto} {n:Nat} {xs:List D} (h:m e S=.ok (.ref n) S1) (hx:S1[n]?=some (.lst xs)):Fb m e S=.ok (FE (.ref n)) S1:=by
 unfold Fb;rw [h];dsimp only [Res.bind];rw [ED hx]
theorem UI {m:ME} {e:Lo} {S S1:Sto} {xs:List D} (h:m e S=.ok (.tup xs) S1):Fb m e S=.ok (Fh xs) S1:=by
 unfold Fb;rw [h];rfl
theorem KJ {ml:ML} {e:Lo} {S S1:Sto} {ds:List D} (h:ml e S=.ok ds S1):C5 ml e S=.ok (.ref S1.length) (S1++[.lst ds]):=by
 unfold C5;rw [h];rfl
theorem CF (S:Sto) (o:Ob):(S++[o])[S.length]?=some o:=by simp
theorem CZ {n:Nat} {S:Sto} {ds:List D} (h:S[n]?=some (.lst ds)):Ge (.ref n) S=some ds:=by
 unfold Ge;dsimp only;rw [h]
theorem Lg {n:Nat} {S:Sto} {ds:List D} (h:S[n]?=some (.lst ds)):IR (.ref n) S=some ds:=by
 unfold IR;dsimp only;rw [h]
theorem Ig {m:ME} {e:Lo} {S S1:Sto} {d:D} {ds es:List D} (h:m e S=.ok d S1) (hi:IR d S1=some ds) (hs:KB ds=some es):Dm m e S=.ok (.ref S1.length) (S1++[.lst es]):=by
 unfold Dm;rw [h];dsimp only [Res.bind];rw [hi];dsimp only;rw [hs]
theorem MD {m:ME} {e:Lo} {S S1:Sto} {d:D} {ds:List D} (h:m e S=.ok d S1) (hq:Ge d S1=some ds):HB m e S=.ok (.tup ds) S1:=by
 unfold HB;rw [h];dsimp only [Res.bind];rw [hq]
theorem KN {m:ME} {e:Lo} {S S1:Sto} {d:D} {ds:List D} (h:m e S=.ok d S1) (hq:Ge d S1=some ds):Gj m e S=.ok (.int ds.length) S1:=by
 unfold Gj;rw [h];dsimp only [Res.bind];rw [hq]
theorem R6 {C:AI} {f:Str} {mo mv:ME} {e:Lo} {S S1 S2:Sto} {n:Nat} {fs:List (Str×D)} {v:D} (hv:mv e S=.ok v S1) (ho:mo e S1=.ok (.ref n) S2) (hs:S2[n]?=some (.ins C fs)) (hl:fs.length < 1000) :
  Qz C f mo mv e S=.ok (.nx e) (S2.set n (.ins C (Ny f v fs))):=by
 unfold Qz;rw [hv];dsimp only [Res.lift];rw [ho];dsimp only [Res.lift];rw [hs];dsimp only;rw [qX ⟨rfl,hl⟩]
theorem bN {C:AI} {f:Str} {m:ME} {e:Lo} {S S1:Sto} {n:Nat} {fs:List (Str×D)} {v:D} (h:m e S=.ok (.ref n) S1) (hs:S1[n]?=some (.ins C fs)) (hl:fs.lookup f=some v):PM C f m e S=.ok v S1:=by
 unfold PM;rw [h];dsimp only [Res.bind];rw [hs];dsimp only;rw [qX rfl,hl]
theorem eJ {C:AI} {n:Nat} {f:List D->Sto->Res D} {ml:ML} {e:Lo} {S S1 S2:Sto} {ds:List D} (h:ml e S=.ok ds S1) (hn:ds.length+1=n) (hf:f (.ref S1.length :: ds) (S1++[.ins C []])=.ok .non S2):PL C n f ml e S=.ok (.ref S1.length) S2:=by
 unfold PL;rw [h];dsimp only [Res.bind];rw [qX hn,hf]
theorem Bv {m:ME} {r:ML} {e:Lo} {S S1 S2:Sto} {d:D} {ds:List D} (h:m e S=.ok d S1) (hr:r e S1=.ok ds S2):AX m r e S=.ok (d :: ds) S2:=by
 unfold AX;rw [h];dsimp only [Res.bind];rw [hr]
theorem OR {n:Nat} {mi:MI} {g:MG} {c:MT} {m:ME} {e:Lo} {S S1:Sto} {v:IU} (h:mi e S=.ok v S1):Fp n mi g c m e S=FW v g c m (C4 v S1) 0 (BF n none++e) S1 []:=by
 unfold Fp;rw [h];rfl
theorem Kz {m:ME} {e:Lo} {S S1:Sto} {b:Bool} (h:m e S=.ok (.bl b) S1):mB m e S=.ok b S1:=by
 unfold mB;rw [h];rfl
theorem fv {f g:D->D->Sto->Res D} {ma mb mc:ME} {e:Lo} {S S1 S2 S3 S4 S5:Sto} {x y w d:D} (ha:ma e S=.ok x S1) (hb:mb e S1=.ok y S2) (hf:f x y S2=.ok (.bl true) S3) (hc:mc e S3=.ok w S4) (hg:g y w S4=.ok d S5):m3 f g ma mb mc e S=.ok d S5:=by
 unfold m3;rw [ha];dsimp only [Res.bind];rw [hb];dsimp only [Res.bind];rw [hf];dsimp only [Res.bind,okR];rw [hc];dsimp only [Res.bind];rw [hg]
theorem lM {f g:D->D->Sto->Res D} {ma mb mc:ME} {e:Lo} {S S1 S2 S3:Sto} {x y:D} (ha:ma e S=.ok x S1) (hb:mb e S1=.ok y S2) (hf:f x y S2=.ok (.bl false) S3):m3 f g ma mb mc e S=.ok (.bl false) S3:=by
 unfold m3;rw [ha];dsimp only [Res.bind];rw [hb];dsimp only [Res.bind];rw [hf];rfl
theorem aY {i j:Int} {S:Sto} {b:Bool} (h:decide (i<=j)=b):leD (.int i) (.int j) S=.ok (.bl b) S:=by subst h;rfl
theorem PQ {i j:Int} {S:Sto} {b:Bool} (h:decide (i < j)=b):ltD (.int i) (.int j) S=.ok (.bl b) S:=by subst h;rfl
theorem jP {i j:Int} {S:Sto} {b:Bool} (h:decide (j<=i)=b):geD (.int i) (.int j) S=.ok (.bl b) S:=by subst h;rfl
theorem Vz {i j:Int} {S:Sto} {b:Bool} (h:decide (i=j)=b):eqD false (.int i) (.int j) S=.ok (.bl b) S:=by
 subst h;show Res.ok (D.bl (i==j)) S=_;rfl
theorem Ve {m:MT} {e:Lo} {S S1:Sto} {b:Bool} (h:m e S=.ok b S1):N3 m e S=.ok (!b) S1:=by
 unfold N3;rw [h];rfl
theorem Z0 {C:AI} {ml:ML} {e:Lo} {S S1:Sto} {ds:List D} (h:ml e S=.ok ds S1) (hl:ds.length<=30):Ei C ml e S=.ok (.ex C e) S1:=by
 unfold Ei;rw [h];dsimp only [Res.lift];rw [qX (As hl (by decide))]
theorem R1 {ml:ML} {e:Lo} {S S1:Sto} {ds:List D} (h:ml e S=.ok ds S1) (hl:ds.length<=1000):HC ml e S=.ok (.tup ds) S1:=by
 unfold HC;rw [h];dsimp only [Res.bind];rw [qX (As hl (by decide))]
theorem lQ {tab:String->Option Bool} {tabC:AI->Option Bool} {m:ME} {e:Lo} {S S1:Sto} {d:D} {T:String} {b:Bool} (h:m e S=.ok d S1) (ht:tyD d S1=some T) (hb:tab T=some b):mIs tab tabC m e S=.ok (.bl b) S1:=by
 unfold mIs;rw [h];dsimp only [Res.bind]
 cases d with
 | exc C=>cases ht
 | _=>dsimp only;rw [ht];dsimp only;rw [hb]
theorem il {ta tb:MT} {e:Lo} {S S1:Sto} (h:ta e S=.ok true S1):mOr ta tb e S=.ok true S1:=by
 unfold mOr;rw [h];rfl
theorem Vb {ta tb:MT} {e:Lo} {S S1:Sto} (h:ta e S=.ok false S1):mOr ta tb e S=tb e S1:=by
 unfold mOr;rw [h];rfl
theorem fQ {ta tb:MT} {e:Lo} {S S1:Sto} (h:ta e S=.ok true S1):QS ta tb e S=tb e S1:=by
 unfold QS;rw [h];rfl
theorem fP {ta tb:MT} {e:Lo} {S S1:Sto} (h:ta e S=.ok false S1):QS ta tb e S=.ok false S1:=by
 unfold QS;rw [h];rfl
theorem Zr {m:ME} {e:Lo} {S S1:Sto} {d:D} {ds:List D} (h:m e S=.ok d S1) (hq:Ge d S1=some ds):IN m e S=.ok ds S1:=by
 unfold IN;rw [h];dsimp only [Res.bind];rw [hq]
theorem iI {f:List D->Sto->Res D} {ml:ML} {e:Lo} {S S1 S2:Sto} {ds:List D} {d:D} (h:ml e S=.ok ds S1) (hf:f ds S1=.ok d S2):mQ f ml e S=.ok d S2:=by
 unfold mQ;rw [h];dsimp only [Res.bind];rw [hf];rfl
theorem Ip {n:Nat} {S:Sto} {ds:List D} (h:S[n]?=some (.lst ds)):M7 (.ref n) S=some ds:=by
 unfold M7;dsimp only;rw [h]
end L2
namespace L2
open PySem PySem.Spec PyProof.Rows
section
variable {X:Cx} {E:EW} {e:Expr} {tg:Expr}
end
section
variable {X:Cx} {E:EW} {e:Expr} {es:List Expr} {p pos p2:Pos} {x1:Nat} {m:ME} {c:V} {cs:List V} {Cs:List AI} {tabC:AI->Option Bool}
end
def pickG {α:Type} (xs:List α) (lo hi st:Option Int):List α:=(sliceRange (ES lo hi st xs.length).1 (ES lo hi st xs.length).2.1 (ES lo hi st xs.length).2.2).filterMap (xs[·]?)
theorem Xo {α β:Type} (f:α->β) (xs:List α) (lo hi st:Option Int):pickG (xs.map f) lo hi st=(pickG xs lo hi st).map f:=by
 unfold pickG;rw [AJ,Mq]
 congr 1
 funext i
 rw [Ag]
theorem LH (its:List AB) (lo hi st:Option Int):Yf its.toArray lo hi st=(pickG its lo hi st).toArray:=by
 unfold Yf pickG;simp only [AT,List.getElem?_toArray]
theorem BL.pickIx {xs:List V} {us:List AB} (r:BL xs us):∀is:List Nat,BL (is.filterMap (xs[·]?)) (is.filterMap (us[·]?))
 | []=>.nil
 | i :: is=>by
  have ih:=BL.pickIx r is
  cases hx:xs[i]? with
  | none=>
   have hu:us[i]?=none:=by
    rw [B8] at hx ⊢;rw [<-r.length];exact hx
   rw [FQ (by simpa using hx),FQ (by simpa using hu)];exact ih
  | some x=>
   obtain ⟨u,hu,ru⟩:=r.get hx;rw [Dl (by simpa using hx),Dl (by simpa using hu)];exact .cons ru ih
theorem BL.pickG {xs:List V} {us:List AB} (r:BL xs us) (lo hi st:Option Int):BL (L2.pickG xs lo hi st) (L2.pickG us lo hi st):=by
 unfold L2.pickG;rw [r.length];exact r.pickIx _
theorem Ao.pickIx {K:AC} {ρ:List AI} {H:Hp} {ds:List D} {vs:List V} (r:Ao K ρ H ds vs):∀is:List Nat,Ao K ρ H (is.filterMap (ds[·]?)) (is.filterMap (vs[·]?))
 | []=>.nil
 | i :: is=>by
  have ih:=Ao.pickIx r is
  cases hx:ds[i]? with
  | none=>
   have hu:vs[i]?=none:=by
    rw [B8] at hx ⊢;rw [<-r.length];exact hx
   rw [FQ (by simpa using hx),FQ (by simpa using hu)];exact ih
  | some x=>
   obtain ⟨u,hu,ru⟩:=r.get hx;rw [Dl (by simpa using hx),Dl (by simpa using hu)];exact .cons ru ih
theorem Ao.pickG {K:AC} {ρ:List AI} {H:Hp} {ds:List D} {vs:List V} (r:Ao K ρ H ds vs) (lo hi st:Option Int):Ao K ρ H (L2.pickG ds lo hi st) (L2.pickG vs lo hi st):=by
 unfold L2.pickG;rw [r.length];exact r.pickIx _
section
variable {X:Cx} {E:EW} {e st:Expr} {te:TE} {lo hi:Option Expr} {tl th ts:TO} {pos p2:Pos} {m:ME} {ml mh ms:MO}
def tSlS (K:AC) (te:TE) (tl th ts:TO):TE:=λσ H Q=>te σ H λx H1=>tl σ H1 λl H2=>th σ H2 λu H3=>ts σ H3 λc H4=>
 ∃a xs,x=.ref a/\SqL K H4 a xs/\c≠some 0/\∀p,H4 p=none->Q (.ref p) (upd H4 p (.lst (pickG xs l u c)))
theorem Xr (he:PE X e te) (hl:PO X lo tl) (hu:PO X hi th) (hst:PO X (some st) ts):PE X (.Subscript e (.Slice lo hi (some st) p2) pos) (tSlS X.K te tl th ts):=by
 intro pins s σ H Q I h;refine Uw (thn (he pins s σ H _ I h) λv s1 ⟨x,H1,I1,r1,q1⟩=>?_);refine wpAny_Slice (thn (hl pins s1 σ H1 _ I1 q1) λvl s2 ⟨l,H2,I2,pl,q2⟩=>thn (hu pins s2 σ H2 _ I2 q2) λvu s3 ⟨u,H3,I3,pu,q3⟩=>?_)
 refine thn (hst pins s3 σ H3 _ I3 q3) λvc s3 ⟨c,H3,I3,pc,q3⟩=>?_
 have I4:Inv X pins σ H3 { s3 with heap:=s3.heap.push { cls:=.type "slice",data:=.fields #[vl,vu,vc] } }:=I3.kept (t':=s3.toks) λb ob q=>AF _ q
 obtain ⟨a,xs,rfl,hx,hc,q⟩:=q3;cases r1;obtain ⟨its,r,ht,hz⟩:=I4.list hx;show AZ (AR X.prog X.w) X.A (N8 e (.Slice lo hi (some st) p2) (.ref a) (.ref s3.heap.objs.size)) (EP X pins σ Q) X.xe { s3 with heap:=s3.heap.push { cls:=.type "slice",data:=.fields #[vl,vu,vc] } };refine tail_any (ops:=[.ref a,.ref s3.heap.objs.size]) ht.isList.typeIs P3.lookup ?_ (by with_unfolding_all rfl);have hlen:=r.length;refine XD ht.isList (Py ..) pl pu pc hc ?_ (by rw [AT] <;> lia);rw [LH]
 have hle:(pickG xs l u c).length<=xs.length:=by
  have:=slicePick_size_le its.toArray l u c;rw [LH,AT,AT,<-(r.pickG l u c).length,<-hlen] at this;exact this
 refine ⟨.ref _,_,I4.laid (t':=s3.toks) (o:=.lst (pickG xs l u c)) (λb ob q=>AF _ q) (AM _) ?_,rfl,q _ (I4.hok.fresh (AM _))⟩;exact ⟨As hle hz,_,0,r.pickG l u c,AV _ rfl⟩
def ON (m:ME) (ml mh ms:MO):ME:=λe S=>(m e S).bind λd S1=>(ml e S1).bind λlo S2=>(mh e S2).bind λhi S3=>(ms e S3).bind λst S4=>match M7 d S4 with
 | some ds=>if st=some 0 then .bad else .ok (.ref S4.length) (S4++[.lst (pickG ds lo hi st)])
 | none=>.bad
theorem YE (he:GE X E e m) (hl:GO X E lo ml) (hu:GO X E hi mh) (hst:GO X E (some st) ms):GE X E (.Subscript e (.Slice lo hi (some st) p2) pos) (ON m ml mh ms):=(Xr he hl hu hst).imp λσ H Q ⟨ρ,l,S,hl,hs,hm⟩=>by
 refine ⟨ρ,l,S,hl,hs,hm.seq λd S1 hm ρ1 H1 x l1 s1 r1=>⟨ρ1,l,S1,hl.mono l1,s1,(hm.later l1).seq λlo S2 hm ρ2 H2 l2 s2=>⟨ρ2,l,S2,hl.mono (l1.trans l2),s2,(hm.later l2).seq λhi S3 hm ρ3 H3 l3 s3=>⟨ρ3,l,S3,hl.mono (l1.trans (l2.trans l3)),s3,(hm.later l3).seq λst S4 hm ρ4 H4 l4 s4=>?_⟩⟩⟩⟩;have r4:=r1.mono (l2.trans (l3.trans l4))
 cases hq:M7 d S4 with
 | none=>rw [hq] at hm;exact hm.elim
 | some ds=>
  rw [hq] at hm;dsimp only at hm;split at hm
  ·exact hm.elim
  ·rename_i hc
   obtain ⟨p,xs,rfl,rr,sq⟩:=JU s4 r4 hq;refine ⟨p,xs,rfl,sq,hc,λq hq=>?_⟩;have le:Le X.K ρ4 H4 (ρ4++[q]) (upd H4 q (.lst (pickG xs lo hi st))):=Le.alloc hq;obtain ⟨s5,l5,at5⟩:=s4.alloc (ho:=.lst (pickG xs lo hi st)) (o:=.lst (pickG ds lo hi st)) hq ⟨_,Bd,(rr.pickG lo hi st).mono le⟩;exact hm _ _ _ (l1.trans (l2.trans (l3.trans (l4.trans l5)))) s5 (.ref at5)
end
section
variable {X:Cx} {E:EW} {e:Expr} {p pos:Pos} {m:ME}
end
end L2
namespace PySem
open Sem (wp)
open AutoSeq1 (wpAny_loadPart')
theorem KL (l:AI) (items:Array AB) (n:Nat) (dct:Option AI) (sl:Array (Option AB)) :
  Meets (Builtin.«enumerate.__new__» ⟨[.type "enumerate",.ref l],[]⟩) (λ_ R s=>s.heap.get? l=some { cls:=.type "tuple",dict:=dct,data:=.seq items n,slots:=sl } /\
   R (.ok (.ret (.ref (s.heap.push { cls:=.type "tuple_iterator",data:=.fields #[.ref l,.int 0 0] }).objs.size)))
    { s with heap:=(s.heap.push { cls:=.type "tuple_iterator",data:=.fields #[.ref l,.int 0 0] }).push { cls:=.type "enumerate",data:=.fields #[.none,.bool false,.ref s.heap.objs.size,Do 0,.none,.none] } }):=
 .of_wp λprog w A R s h=>by
  obtain ⟨hp,g,d,tk,os⟩:=s;obtain ⟨hl,h⟩:=h;have hsub:=sub_enumerate;have hL:BP.IsTuple (AE.heap ⟨hp,g,d,tk,os⟩) l items:=⟨_,hl,rfl,n,rfl⟩
  wp_walk using Dy hl
  refine wpAny_stack_any λst=>AD ?_
  split
  ·rename_i c _ _ _ _ _
   cases (c==Bc "enumerate")
   ·wp_walk using Dy hl,EZ hL
    exact ⟨_,rfl,h⟩
   ·wp_walk using Dy hl,EZ hL
    exact ⟨_,rfl,h⟩
  ·wp_walk using Dy hl,EZ hL
   exact ⟨_,rfl,h⟩
section
variable {prog:Al} {w:A2} {A:Ay} {E:AB->AE->Prop} {s:AE}
theorem Kc {l:AI} {items:Array AB} {Q:AB->AE->Prop} (hL:s.heap.IsTuple l items)
  (h:∀h',Rh h' (s.heap.objs.size+1) s.heap.objs.size 0 .none->h'.IsTupleIter s.heap.objs.size l 0->h'.objs.size=s.heap.objs.size+2 ->
   (∀b o,s.heap.get? b=some o->h'.get? b=some o)->Q (.ref (s.heap.objs.size+1)) { s with heap:=h' }) :
  AZ (AR prog w) A (call (.type "enumerate") [.ref l]) Q E s:=by
 obtain ⟨⟨c,dct,dt,sl⟩,hl,hc,n,hd⟩:=hL
 replace hc:c=.type "tuple":=hc
 replace hd:dt=.seq items n:=hd
 subst hc hd
 refine callType_new F.called_enumerate (by decide) (F.typeCall_enumerate_1 _) (F.newCall_enumerate_1 _) (λobj=>F.args_object_init_2 obj _) F.entry_enumerate_new
  (KL l items n dct sl) ⟨hl,?_⟩
 have hz:(s.heap.push { cls:=.type "tuple_iterator",data:=.fields #[.ref l,.int 0 0] }).objs.size=s.heap.objs.size+1:=BZ ..;show _/\_;rw [hz]
 have he:Rh ((s.heap.push { cls:=.type "tuple_iterator",data:=.fields #[.ref l,.int 0 0] }).push
   { cls:=.type "enumerate",data:=.fields #[.none,.bool false,.ref s.heap.objs.size,Do 0,.none,.none] }) (s.heap.objs.size+1) s.heap.objs.size 0 .none:=by
  have:=AV (s.heap.push { cls:=.type "tuple_iterator",data:=.fields #[.ref l,.int 0 0] })
   (o:={ cls:=.type "enumerate",data:=.fields #[.none,.bool false,.ref s.heap.objs.size,Do 0,.none,.none] }) rfl
  rw [hz] at this;exact this
 refine ⟨⟨_,he,rfl⟩,h _ he ⟨_,AF _ (AV _ rfl),rfl,rfl⟩ (by rw [BZ,hz]) λb o x=>AF _ (AF _ x)⟩
theorem MR {it t:AI} {i:Nat} {items} {x:AB} {Q:AB->AE->Prop} (hit:s.heap.IsTupleIter it t i)
  (ht:s.heap.IsTuple t items) (hx:items[i]?=some x)
  (hQ:∀h',h'.IsTupleIter it t (i+1)->CK it s.heap h'->Q x { s with heap:=h' }) :
  AZ (AR prog w) A (D4 (.ref it)) Q E s:=by
 obtain ⟨o,ho,hc,hd⟩:=id hit;obtain ⟨ol,hol,_,nl,hdl⟩:=ht;unfold D4
 refine AA (BO (name:=DH "__next__") hit.typeIs FD
  (BJ FD hit.typeIs TH ?_ (Rj _)))
 show AZ _ _ (field (.ref it) 0 >>= _) _ _ s;refine AA (C0 ho hd (x:=.ref t) rfl ?_);show AZ _ _ (if (Av t==A4)=true then _ else _) _ _ s;rw [qY (show ¬((Av t==A4)=true) from AO)];show AZ _ _ (field (.ref it) 1 >>= _) _ _ s;refine AA (C0 ho hd (x:=.int i 0) rfl ?_);show AZ _ _ (seqItems? (.ref t) >>= _) _ _ s;refine AA (Ms hol hdl ?_);simp only [A7,hx];refine AA (Db ho hd (by simp) (AD ⟨x,rfl,AD (hQ _ ?_ (CM ..))⟩))
 exact ⟨_,By _ ho (Ee (B4 hd _)),(Ix ..).trans hc,by
  rw [B4 hd];simp [Do]⟩
theorem Io {it t:AI} {i:Nat} {items} {Q:AB->AE->Prop} (hh:A.handled=none)
  (hit:s.heap.IsTupleIter it t i) (ht:s.heap.IsTuple t items) (hx:items[i]?=none)
  (hE:∀h' e,LD it s.heap h'->(∃o,h'.get? e=some o/\o.cls=.type "StopIteration")->E (.ref e) { s with heap:=h' }) :
  AZ (AR prog w) A (D4 (.ref it)) Q E s:=by
 obtain ⟨o,ho,hc,hd⟩:=id hit;obtain ⟨ol,hol,_,nl,hdl⟩:=ht;unfold D4
 refine AA (BO (name:=DH "__next__") hit.typeIs FD
  (BJ FD hit.typeIs TH ?_ (Rj _)))
 show AZ _ _ (field (.ref it) 0 >>= _) _ _ s;refine AA (C0 ho hd (x:=.ref t) rfl ?_);show AZ _ _ (if (Av t==A4)=true then _ else _) _ _ s;rw [qY (show ¬((Av t==A4)=true) from AO)];show AZ _ _ (field (.ref it) 1 >>= _) _ _ s;refine AA (C0 ho hd (x:=.int i 0) rfl ?_);show AZ _ _ (seqItems? (.ref t) >>= _) _ _ s;refine AA (Ms hol hdl ?_);simp only [A7,hx];refine AA (Ga (AA (Db ho hd (by simp) ?_)));show AZ _ _ (RY (.type "StopIteration") [] >>= _) _ _ _;refine AA ?_;simp only [RY,Ur];refine AA (A3 ?_ (by size_fits));refine AA (m:=EG _ _) (Jx (a:=A4) (by first | rfl | (simp only [EG];rfl)) ?_);refine A3 ?_ (by size_fits);simp only [cC];refine AA (N7 ?_)
 first | rw [show A.in1.handled=none from hh] | rw [hh]
 refine AA (AD (Sx ?_));exact hE _ _ (((CM ..).extBut.push _).push _) ⟨_,AV _ rfl,rfl⟩
theorem Ua {prog:Al} {w:A2} {A:Ay} (hh:A.handled=none) (it l:AI) (hne:l≠it) (items:Array AB) :
  Draws prog w A it [it,l] items.size (λi v=>items[i]?=some v) (λi h=>h.IsTupleIter it l i/\h.IsTuple l items) where
 live:=λ_ _ st=>let ⟨o,ho,_⟩:=st.1;⟨o,ho⟩
 frame:=λ_ _ _ st hk=>⟨st.1.at λo e=>hk it (by simp) o e,let ⟨o,ho,r⟩:=st.2;⟨o,hk l (by simp) o ho,r⟩⟩
 item:=λi s Q E hi st hQ=>by
  refine MR st.1 st.2 (x:=items[i]) (by simp [hi]) λh' hit' hs'=>?_
  exact hQ _ h' s.toks (by simp [hi]) ⟨hit',st.2.extBut hs'.extBut hne⟩ hs'
 done:=λs Q E st hE=>Io hh st.1 st.2 (by simp) hE
theorem Kx {e it l:AI} {i:Nat} {items:Array AB} {old:AB} {Q:Option AB->AE->Prop} (hh:A.handled=none)
  (he:Rh s.heap e it i old) (hit:s.heap.IsTupleIter it l i) (hl:s.heap.IsTuple l items) (hx:items[i]?=none)
  (hQ:∀h',LD it s.heap h'->Q none { s with heap:=h' }):AZ (AR prog w) A (Ff (.ref e)) Q E s:=by
 have hT:s.TypeIs (.ref e) "enumerate":=⟨_,he,rfl⟩;unfold Ff
 refine AA (DR (BO (name:=DH "__next__") hT Yv
  (BJ Yv hT F.entry_enumerate_next ?_ (F.args_enumerate_next_1 _))))
 show AZ _ _ (field (.ref e) 2 >>= _) _ _ _;refine AA (C0 he rfl (x:=.ref it) rfl ?_);refine AA (Io hh hit hl hx λh' x he' hx'=>?_);obtain ⟨o,ho,hc⟩:=hx';refine AA (Ha (T:="StopIteration") (b:=true) ⟨o,ho,hc⟩ Mv ?_);exact AD (hQ _ he')
end
end PySem
namespace L2
open PySem PySem.Spec PyProof.Rows
theorem Inv.turned2 {X:Cx} {pins:List (AI×Obj)} {σ:List (Option V)} {H:Hp} {s:AE} {h':BP} {t':Nat} {e it a:AI} {o:HO} (I:Inv X pins σ H s) (k:∀b u,b≠e->b≠it->s.heap.get? b=some u->h'.get? b=some u)
  (fe:Ll X pins H e) (fi:Ll X pins H it) (ha:s.heap.objs.size<=a) (new:Ca X.prog X.w (upd H a o) h' a o):Inv X pins σ (upd H a o) { s with heap:=h',toks:=t' }:=by
 have hn:=I.hok.fresh ha
 have nit:∀b u,H b=some u->b≠e/\b≠it:=λb u q=>⟨λz=>(by rw [z,fe.1] at q;cases q),λz=>(by rw [z,fi.1] at q;cases q)⟩
 have out:∀b:AI,b∉[e,it]->b≠e/\b≠it:=λb hb=>⟨λz=>hb (by simp [z]),λz=>hb (by simp [z])⟩
 refine I.step (g':=s.gens) (d':=s.drawn) (ch:=[e,it]) (λb hb=>?_) (λb o _ _ hc q _=>k b o (out b hc).1 (out b hc).2 q) (λb o _ _ hc q _=>⟨o.slots,k b o (out b hc).1 (out b hc).2 q⟩) (λb o _ q n=>?_)
  (λb o hc q=>⟨o,k b o (out b hc).1 (out b hc).2 q⟩) (λb xs q=>by rw [Bm (B7 q hn)];exact q) (λb o u q=>by rw [Bm (B7 q hn)];exact q) (λb ps q=>⟨#[],by rw [Bm (B7 q hn),q];simp⟩) (λm hm=>?_) (λb u q=>?_) I.bare
 ·have hb':b=e∨b=it:=by simpa using hb
  rcases hb' with z | z
  ·subst z;exact ⟨fe.2.2.2.1,fe.2.1,fe.2.2.2.2.1,fe.2.2.2.2.2⟩
  ·subst z;exact ⟨fi.2.2.2.1,fi.2.1,fi.2.2.2.2.1,fi.2.2.2.2.2⟩
 ·rw [Bm (Ad (Ab (AW q) ha))];exact n
 ·obtain ⟨o,es,ep,ho,r⟩:=hm
  exact ⟨o,es,ep,k _ o (Bl fe.2.1) (Bl fi.2.1) ho,r⟩
 ·by_cases hb:b=a
  ·subst hb;rw [Bd] at q;cases q;exact new
  ·rw [Bm hb] at q
   refine (I.hok b u q).stay (λc v hc r=>?_) (λc r=>by rw [Bm (B7 r hn)];exact r) λc xs r=>by rw [Bm (B7 r hn)];exact r
   have:c≠e/\c≠it:=by
    rcases hc with z | z
    ·rw [z];exact nit b u q
    ·exact nit c _ z
   exact k c v this.1 this.2 r
def Ite (sq:Hp->List V->Prop):It:=
 ⟨λi H=>∃xs x,sq H xs/\xs[i]?=some x,λi H y H'=>∃p x,H p=none/\y=.ref p/\H'=upd H p (.tup [.int i,x])/\∀xs,sq H xs->xs[i]?=some x,λi H=>∃xs,sq H xs/\xs.length<=i⟩
section
variable {P:Al} {w:A2} {K:AC} {elts:List Expr} {x1:Nat} {pos:Pos}
theorem RL {X:Cx} {pins:List (AI×Obj)} {σ:St} {H:Hp} {s:AE} {E:AB->AE->Prop} {sq:Hp->List V->Prop} {e it:AI} {i:Nat} {x:V} {u:AB} {tk:Nat} {h':BP} {tn:Nat->BP->Prop}
  (I:Inv X pins σ H s) (hne:e≠it) (hf:∀b∈[e,it],Ll X pins H b) (le:e < s.heap.objs.size) (li:it < s.heap.objs.size) (ru:RelV x u) (hx:∀xs,sq H xs->xs[i]?=some x)
  (ho:IsEnumOut h' e it ((i:Int)+1) u s.heap.objs.size) (hT:h'.get? s.heap.objs.size=some { cls:=.type "tuple",data:=.seq #[.int i tk,u] }) (hk:∀b o,b≠e->b≠it->s.heap.get? b=some o->h'.get? b=some o)
  (ht:∀h2,CK e h' h2->(∃old,Rh h2 e it ((i+1:Nat):Int) old)->tn (i+1) h2) :
  AZ (AR X.prog X.w) X.A (Lp (.Tuple elts x1 pos) (.ref e) (.ref s.heap.objs.size)) (λ_ s2=>∃y H',Inv X pins σ H' s2/\RelV y (.ref s.heap.objs.size)/\(Ite sq).yld i H y H'/\tn (i+1) s2.heap/\∀b∈[e,it],H' b=none) E { s with heap:=h',toks:=tk+1 }:=by
 have fe:=hf e (by simp);have fi:=hf it (by simp);have ne:e≠s.heap.objs.size:=Ad le;have ni:it≠s.heap.objs.size:=Ad li
 have new:Ca X.prog X.w (upd H s.heap.objs.size (.tup [.int i,x])) h' s.heap.objs.size (.tup [.int i,x]):=
  ⟨As (show 2<=1000 by decide) (by decide),[.int i tk,u],.cons ⟨tk,rfl⟩ (.cons ru .nil),_,hT,rfl,_,rfl⟩
 have I1:=I.turned2 (t':=tk+1) hk fe fi (AM _) new
 refine wpAny_letOwnedTupleGo_enum (s:={ s with heap:=h',toks:=tk+1 }) ho λh2 he2 hs2=>?_
 have hs2':CK e h' h2:=hs2;have I2:=I1.turned (t':=tk+1) (h':=h2) (it:=e) (λb o hb q=>(hs2'.2 b hb).trans q) (by rw [Bm ne];exact fe.1) fe.2.1 fe.2.2.2.1 fe.2.2.2.2.1 fe.2.2.2.2.2;refine ⟨.ref s.heap.objs.size,_,I2,rfl,⟨s.heap.objs.size,x,I.hok.fresh (AM _),rfl,rfl,hx⟩,ht h2 hs2' ⟨u,by rw [fc,Int.natCast_one];exact he2⟩,λb hb=>?_⟩
 have hb':b=e∨b=it:=by simpa using hb
 rcases hb' with z | z
 ·rw [z,Bm ne];exact fe.1
 ·rw [z,Bm ni];exact fi.1
theorem VH (a e it:AI) (hne:e≠it):UY P w K (.Tuple elts x1 pos) (Ite λH xs=>SqL K H a xs) [e,it] e (λi h=>(∃old,Rh h e it i old)/\h.IsListIter it a i) where
 mem:=by simp
 obj:=λi h st b hb=>by
  have hb':b=e∨b=it:=by simpa using hb
  rcases hb' with z | z
  ·subst z
   obtain ⟨⟨old,he⟩,_⟩:=st
   exact ⟨_,he,λv z=>by
    have z':WN _=bx v:=z
    cases z'⟩
  ·subst z
   obtain ⟨_,o,e,c,d⟩:=st;exact ⟨o,e,λv z=>by rw [d] at z;cases z⟩
 keep:=λi h h' st k=>⟨st.1.imp λold he=>k e (by simp) _ he,st.2.at λo q=>k it (by simp) o q⟩
 item:=by
  intro X hP hw hK hc i pins s σ H E I hf st hg;subst hP hw hK;obtain ⟨xs,x,hq,hx⟩:=hg;obtain ⟨its,rv,p,hz⟩:=I.list hq;obtain ⟨u,hu,ru⟩:=rv.get hx;obtain ⟨⟨old,he⟩,hit⟩:=st
  have li:it < s.heap.objs.size:=by obtain ⟨o,q,_⟩:=hit;exact AW q
  refine wpAny_pyNext_enum_item he hit p.isList (x:=u) (by simpa using hu) hne λh' ho hit' hT hsz hk=>?_
  exact ⟨_,rfl,RL (sq:=λH xs=>SqL X.K H a xs) (tn:=λi h=>(∃old,Rh h e it i old)/\h.IsListIter it a i) I hne hf (AW he) li ru (λys hy=>by rw [I.list_inj hy hq];exact hx) ho hT hk λh2 hs2 he2=>⟨he2,hit'.at λo q=>(hs2.2 it (Bl hne)).trans q⟩⟩
 done:=by
  intro X hP hw hK hc i pins s σ H E I hf st hg;subst hP hw hK;obtain ⟨xs,hq,hx⟩:=hg;obtain ⟨its,rv,p,hz⟩:=I.list hq;obtain ⟨⟨old,he⟩,hit⟩:=st;obtain ⟨f0,f1,f2,f3,f4,f5⟩:=hf it (by simp);have hl:=rv.length
  exact wpAny_pyNext_enum_end (I.ok.hd hc) he hit p.isList (by simp;lia) λh' eb=>⟨rfl,I.turned (t':=s.toks) (λb o hb e=>eb b o hb e) f0 f1 f3 f4 f5⟩
 self:=λ_ _ _ _ _ st h=>by
  obtain ⟨⟨old,he⟩,_⟩:=st;exact Jw he h
theorem VD (a e it:AI) (hne:e≠it) (hae:a≠it) (hef:e≠a):UY P w K (.Tuple elts x1 pos) (Ite λH xs=>SqT K H a xs) [e,it] e (λi h=>(∃old,Rh h e it i old)/\h.IsTupleIter it a i) where
 mem:=by simp
 obj:=λi h st b hb=>by
  have hb':b=e∨b=it:=by simpa using hb
  rcases hb' with z | z
  ·subst z
   obtain ⟨⟨old,he⟩,_⟩:=st
   exact ⟨_,he,λv z=>by
    have z':WN _=bx v:=z
    cases z'⟩
  ·subst z
   obtain ⟨_,o,e,c,d⟩:=st;exact ⟨o,e,λv z=>by rw [d] at z;cases z⟩
 keep:=λi h h' st k=>⟨st.1.imp λold he=>k e (by simp) _ he,st.2.at λo q=>k it (by simp) o q⟩
 item:=by
  intro X hP hw hK hc i pins s σ H E I hf st hg;subst hP hw hK;obtain ⟨xs,x,hq,hx⟩:=hg;obtain ⟨its,rv,p,hz⟩:=I.tuple hq;have p':s.heap.IsTuple a its.toArray:=p;obtain ⟨u,hu,ru⟩:=rv.get hx
  have hlt:i < its.toArray.size:=by
   have:=(AK.mp hu).1;simpa using this
  obtain ⟨⟨old,he⟩,hit⟩:=st
  have li:it < s.heap.objs.size:=by obtain ⟨o,q,_⟩:=hit;exact AW q
  refine wpAny_pyNext_enum_itemD (Ua (A:=X.A.in1) (I.ok.hd hc) it a hae its.toArray) he ⟨hit,p'⟩ hlt hne (by simp [hne,hef]) λu' h' tk hu' ho hst' hT hsz hk=>?_
  have:u'=u:=by
   have hu2:its[i]?=some u':=by simpa using hu'
   rw [hu] at hu2;cases hu2;rfl
  subst this;exact ⟨_,rfl,RL (sq:=λH xs=>SqT X.K H a xs) (tn:=λi h=>(∃old,Rh h e it i old)/\h.IsTupleIter it a i) I hne hf (AW he) li ru (λys hy=>by rw [I.tuple_inj hy hq];exact hx) ho hT hk λh2 hs2 he2=>⟨he2,hst'.1.at λo q=>(hs2.2 it (Bl hne)).trans q⟩⟩
 done:=by
  intro X hP hw hK hc i pins s σ H E I hf st hg;subst hP hw hK;obtain ⟨xs,hq,hx⟩:=hg;obtain ⟨its,rv,p,hz⟩:=I.tuple hq;obtain ⟨⟨old,he⟩,hit⟩:=st;obtain ⟨f0,f1,f2,f3,f4,f5⟩:=hf it (by simp);have hl:=rv.length
  exact Kx (I.ok.hd hc) he hit (show s.heap.IsTuple a its.toArray from p) (by simp;lia) λh' eb=>⟨rfl,I.turned (t':=s.toks) (λb o hb e=>eb b o hb e) f0 f1 f3 f4 f5⟩
 self:=λ_ _ _ _ _ st h=>by
  obtain ⟨⟨old,he⟩,_⟩:=st;exact Jw he h
end
section
variable {X:Cx} {E:EW} {e:Expr} {elts:List Expr} {x1:Nat} {p pos ptg:Pos} {m:ME} {ta:TA}
def lW (K:AC) (ta:TA):TI:=λσ H R=>ta σ H λvs H1=>∃a,vs=[.ref a]/\(((∃xs,SqL K H1 a xs)/\R (Ite λH xs=>SqL K H a xs) H1)∨((∃xs,SqT K H1 a xs)/\R (Ite λH xs=>SqT K H a xs) H1))
theorem dX (hg:Gl X "enumerate") (hm:X.mg "enumerate" = none) (ha:PA X [e] ta) (hs:AU [e] X.env=[(false,Bg e X.env)]:=by rfl):PI X (.Tuple elts x1 ptg) (.Call (.Name "enumerate" p) [e] [] pos) (lW X.K ta):=by
 intro pins s σ H R I h;refine Call_ (IQ I hg hm boot_enumerate (Br (thn (ha pos pins s σ H _ I h) λus s1 ⟨vs,H1,I1,r1,q1⟩=>?_) hs rfl));obtain ⟨a,rfl,q1⟩:=q1;obtain ⟨u,rfl,ru⟩:=vals1 r1;cases ru
 have fp:∀ {h':BP} (b:AI),b∈[s1.heap.objs.size+1,s1.heap.objs.size]->Ll X pins H1 b:=λb hb=>by
  have hb':b=s1.heap.objs.size+1∨b=s1.heap.objs.size:=by simpa using hb
  rcases hb' with z | z
  ·rw [z];exact I1.fpOk (EC _) (I1.hok.fresh (EC _))
  ·rw [z];exact I1.fpOk (AM _) (I1.hok.fresh (AM _))
 rcases q1 with ⟨⟨xs,sq⟩,q⟩ | ⟨⟨xs,sq⟩,q⟩
 ·obtain ⟨its,rv,pl,hz⟩:=I1.list sq
  refine call_enumerate_list pl.isList λh' he hit hsz hk=>Jw he ?_
  exact ⟨_,[s1.heap.objs.size+1,s1.heap.objs.size],_,_,H1,rfl,I1.kept (t':=s1.toks) hk,VH a _ _ (cI _),⟨⟨_,he⟩,hit⟩,fp (h':=h'),q⟩
 ·obtain ⟨its,rv,pl,hz⟩:=I1.tuple sq
  have pl':s1.heap.IsTuple a its.toArray:=pl
  have la:a < s1.heap.objs.size:=by obtain ⟨o,q,_⟩:=pl';exact AW q
  refine Kc pl' λh' he hit hsz hk=>Jw he ?_
  exact ⟨_,[s1.heap.objs.size+1,s1.heap.objs.size],_,_,H1,rfl,I1.kept (t':=s1.toks) hk,VD a _ _ (cI _) (Ad la) (Gc (CG la)),⟨⟨_,he⟩,hit⟩,fp (h':=h'),q⟩
def NF (ds:List D):List D:=ds.zipIdx.map λx=>.tup [.int x.2,x.1]
def WS (v:IU):IU:=λS=>(v S).map NF
def SW (m:ME):MI:=λe S=>(m e S).bind λd S1=>match FE d S1 with
 | some _=>.ok (WS (FE d)) S1
 | none=>.bad
theorem Pg (ds:List D) (i:Nat):(NF ds)[i]?=(ds[i]?).map λd=>.tup [.int i,d]:=by
 unfold NF;rw [Ag,List.getElem?_zipIdx]
 cases ds[i]? <;> simp
theorem NY {K:AC} {ρ:List AI} {H:Hp} {J:It} {v:IU} {sq:Hp->List V->Prop} (hJ:NH K ρ H J v) (h1:∀i H,J.go i H->∃xs x,sq H xs/\xs[i]?=some x) (h2:∀i H,J.stop i H->∃xs,sq H xs/\xs.length<=i)
  (h3:∀i H x,(∀xs,sq H xs->xs[i]?=some x)->J.yld i H x H):NH K ρ H (Ite sq) (WS v):=by
 intro ρ2 H2 S ds i l s hv;unfold WS at hv
 cases hd:v S with
 | none=>rw [hd] at hv;cases hv
 | some ds0=>
  rw [hd] at hv;cases hv;obtain ⟨a1,a2⟩:=hJ ρ2 H2 S ds0 i l s hd;refine ⟨λhn=>?_,λd hd'=>?_⟩
  ·rw [Pg] at hn
   refine h2 i H2 (a1 ?_)
   cases hq:ds0[i]? with
   | none=>rfl
   | some d=>rw [hq] at hn;cases hn
  ·rw [Pg] at hd'
   cases hq:ds0[i]? with
   | none=>rw [hq] at hd';cases hd'
   | some d0=>
    rw [hq] at hd';cases hd';obtain ⟨b1,b2⟩:=a2 d0 hq;refine ⟨h1 i H2 b1,λy H' hy=>?_⟩;obtain ⟨p,x,hp,rfl,rfl,hx⟩:=hy;obtain ⟨ρ3,l3,s3,r3⟩:=b2 x H2 (h3 i H2 x hx);obtain ⟨s4,l4⟩:=Fi (ho:=.tup [.int i,x]) s3 hp;exact ⟨ρ3,l3.trans l4,s4,.tup Bd (.cons (.int _) (.cons (r3.mono l4) .nil))⟩
theorem eX (hg:Gl X "enumerate") (hm:X.mg "enumerate" = none) (h:GE X E e m) (he:AU [e] X.env=[(false,Bg e X.env)]:=by rfl):GI X E (.Tuple elts x1 ptg) (.Call (.Name "enumerate" p) [e] [] pos) (SW m):=
 (dX hg hm (D7 h Fm he) he).imp λσ H R ⟨ρ,l,S,hl,hs,hm⟩=>by
 refine ⟨ρ,l,S,hl,hs,hm.seq λd S1 hm ρ1 H1 x l1 s1 r1=>?_⟩
 cases d with
 | tup ds=>
  have hm':=hm
  cases r1 with
  | @tup _ a vs q1 q2=>
   exact ⟨a,rfl,.inr ⟨⟨vs,.inl (.inl q1)⟩,hm' ρ1 H1 _ l1 s1 (NY (Og q1 q2) (λi H z=>z) (λi H z=>z) λi H x z=>⟨rfl,z⟩)⟩⟩
 | _=>
  cases hv:FE _ S1 with
  | none=>rw [hv] at hm;exact hm.elim
  | some ds=>
   rw [hv] at hm
   have:∃a,x=.ref a:=by
    cases r1 <;> first | exact ⟨_,rfl⟩ | (cases hv;done)
   obtain ⟨a,rfl⟩:=this;obtain ⟨xs,sq,_⟩:=Oj s1 r1 hv;exact ⟨a,rfl,.inl ⟨⟨xs,sq⟩,hm ρ1 H1 _ l1 s1 (NY (Oi r1) (λi H z=>z) (λi H z=>z) λi H x z=>⟨rfl,z⟩)⟩⟩
end
section
variable {X:Cx}
variable {E:EW} {e:Expr} {p pos:Pos} {m:ME}
end
end L2
namespace PySem
open Sem (wp)
open AutoSeq1 (wpAny_loadPart')
namespace F
end F
section
variable {prog:Al} {w:A2} {A:Ay} {E:AB->AE->Prop} {s:AE} {I:AI} {fp wr:List AI} {G:Array JC->Array JC->Prop} {n:Nat} {P:Nat->AB->Prop} {St:Nat->AE->Prop}
end
end PySem
namespace L2
open PySem PySem.Spec PyProof.Rows
section
variable {X:Cx} {E:EW} {e:Expr} {p p2 pos pos2:Pos} {m:ME} {te:TE}
end
end L2
namespace L2
open PySem
theorem Pr {α:Type} {xs:List α} {j:Int} {x:α} (h0:0<=j) (h:xs[j.toNat]?=some x):atI xs j=some x:=by
 have hlt:=(AK.mp h).1;unfold atI ixN;rw [qX (by omega),qX (by lia)];simpa using h
theorem Wq {d:D} {S:Sto} {ds:List D} {j:Int} {z:D} (hd:Ge d S=some ds) (h0:0<=j) (h:ds[j.toNat]?=some z):ixA d (.int j) S=.ok z S:=by
 show JQ (ixD d (.int j) S) _=_
 have:ixD d (.int j) S=.ok z S:=by
  unfold ixD;rw [hd];dsimp only;rw [Pr h0 h]
 rw [this];rfl
theorem SR {S:Sto} {n:Nat} {ds:List D} {j:Int} {z:D} (hn:S[n]?=some (.lst ds)) (h0:0<=j) (h:ds[j.toNat]?=some z):ixA (.ref n) (.int j) S=.ok z S:=Wq (CZ hn) h0 h
theorem aX {ml:ML} {e:Lo} {S S1:Sto} {ds:List D} (h:ml e S=.ok ds S1) (hz:ds.length<=1000):Ci ml e S=.ok ds S1:=by
 unfold Ci;rw [h];dsimp only [Res.bind];rw [qX (As hz (by decide))]
theorem jT {n k:Nat} {S:Sto} {ds:List D} (neg:Bool) (h1:S[n]?=some (.lst ds)) (h2:S[k]?=some (.lst [])):eqD neg (.ref n) (.ref k) S=.ok (.bl (if neg then !ds.isEmpty else ds.isEmpty)) S:=by
 unfold eqD eqB;rw [Ip h1,Ip h2]
 cases ds with
 | nil=>rfl
 | cons x xs=>rfl
theorem i6 {α:Type}:∀ {l:List α},l.length=1->∃x1,l=[x1]
 | [a],_=>⟨a,rfl⟩
theorem Lf {α:Type}:∀ {l:List α},l.length=2->∃x1 x2,l=[x1,x2]
 | y :: _,q=>by
  obtain ⟨x2,rfl⟩:=i6 (Qe q);exact ⟨y,x2,rfl⟩
theorem i5 {α:Type}:∀ {l:List α},l.length=3->∃x1 x2 x3,l=[x1,x2,x3]
 | y :: _,q=>by
  obtain ⟨x2,x3,rfl⟩:=Lf (Qe q);exact ⟨y,x2,x3,rfl⟩
end L2
namespace L2
open PySem PySem.Spec PyProof.Rows
section
variable {X:Cx} {E:EW} {e:Expr} {m:ME} {pos:Pos}
end
section
variable {X:Cx} {E:EW} {tg e a b:Expr} {p p2 pos pos2:Pos} {m:ME} {ml:ML} {ta:TA}
def KD (lo:Int) (n:Nat):List V:=(BQ n).map λk:Nat=>V.int (lo+k)
theorem Tq {lo:Int}:∀ {n:Nat} {acc:List AB},acc.length=n->(∀(k:Nat) v,acc[k]?=some v->∃t,v=.int (lo+k) t)->BL (KD lo n) acc
 | 0,acc,hl,_=>by
  have:acc=[]:=HF hl;subst this;exact .nil
 | n+1,acc,hl,h=>by
  cases acc with
  | nil=>cases hl
  | cons v r=>
   have hl':r.length=n:=Qe hl;obtain ⟨t,e⟩:=h 0 v rfl
   have ih:=Tq (lo:=lo+1) hl' λk v hv=>by
    obtain ⟨t,e⟩:=h (k+1) v hv;exact ⟨t,by rw [e];congr 1;lia⟩
   have e2:KD lo (n+1)=.int lo :: KD (lo+1) n:=by
    unfold KD;rw [Ug,An,Bk]
    congr 1
    ·congr 1;lia
    ·apply D0
     intro k _;show V.int (lo+((k+1:Nat):Int))=V.int (lo+1+k)
     congr 1
     lia
   rw [e2];refine .cons ⟨t,?_⟩ ih;rw [e]
   congr 1
   lia
theorem dF {K:AC} {ρ:List AI} {H:Hp} (lo:Int) (n:Nat):Ao K ρ H (DW lo n) (KD lo n):=by
 unfold DW KD
 induction BQ n with
 | nil=>exact .nil
 | cons k r ih=>exact .cons (.int _) ih
end
end L2
namespace PySem
open Sem (wp)
open PyProof.Rows (IntsAre)
section
variable {prog:Al} {w:A2} {A:Ay} {E:AB->AE->Prop} {s:AE}
end
end PySem
namespace L2
open PySem PySem.Spec PyProof.Rows
section
variable {X:Cx} {E:EW} {a b:Expr} {p p2 pos pos2:Pos} {ml:ML} {ta:TA}
theorem Tt {K:AC} {ρ:List AI} {H:Hp}:∀ {ns:List Int} {vs:List V},Ao K ρ H (ns.map D.int) vs->vs=ns.map V.int
 | [],_,.nil=>rfl
 | n :: ns,_,.cons r t=>by
  cases r;rw [Tt t];rfl
end
end L2
namespace PySem
open Sem (wp)
open AutoSeq1 (wpAny_loadPart')
section
variable {prog:Al} {w:A2} {A:Ay} {E:AB->AE->Prop} {s:AE}
end
end PySem
namespace PySem
section
variable {prog:Al} {w:A2} {A:Ay} {E:AB->AE->Prop} {s:AE}
end
end PySem
namespace L2
open PySem PySem.Spec PyProof.Rows
section
variable {P:Al} {w:A2} {K:AC} {elts:List Expr} {x1:Nat} {pos:Pos}
end
section
variable {X:Cx} {E:EW} {e:Expr} {elts:List Expr} {x1:Nat} {p pos ptg kp vp:Pos} {j1:Nat} {m:ME} {ta:TA}
end
end L2
namespace PySem
open Sem (wp)
section
variable {prog:Al} {w:A2} {A:Ay} {E:AB->AE->Prop} {s:AE}
end
end PySem
namespace L2
open PySem PySem.Spec PyProof.Rows
section
variable {X:Cx} {E:EW} {e a b c:Expr} {p p2 pos pos2:Pos} {m:ME} {te:TE} {ml:ML} {ta:TA} {tg:Expr}
end
section
variable {X:Cx} {E:EW} {a b c:Expr} {p pos:Pos} {ml:ML} {ta:TA} {tg:Expr}
end
section
variable {X:Cx} {E:EW} {e a b c:Expr} {p p2 pos pos2:Pos} {m:ME} {te:TE} {ml:ML} {ta:TA} {tg:Expr}
def cy (ta:TA):TE:=λσ H Q=>ta σ H λvs H1=>∃j:Int,vs=[.int j]/\(-1000000<=j/\j<=1000000)/\∀q,H1 q=none->Q (.ref q) (upd H1 q (.lst (KD 0 (j - 0).toNat)))
theorem Xs (hc:X.calm=true) (hg:Gl X "list") (hm:X.mg "list" = none) (hg2:Gl X "range") (hm2:X.mg "range" = none) (ha:PA X [a] ta)
  (hs:AU [a] X.env=[(false,Bg a X.env)]:=by rfl)
  (he2:AU [.Call (.Name "range" p2) [a] [] pos2] X.env=(false,Bg (.Call (.Name "range" p2) [a] [] pos2) X.env) :: AU [] X.env:=by rfl) :
  PE X (.Call (.Name "list" p) [.Call (.Name "range" p2) [a] [] pos2] [] pos) (cy ta):=by
 intro pins s σ H Q I hq;refine Dc (IQ I hg hm OA ?_ (by decide) (by decide));refine Br ?_ he2 rfl;rw [he2];show AZ _ _ (Yy ((false,Bg (.Call (.Name "range" p2) [a] [] pos2) X.env) :: C1 pos (AU [] X.env))) _ _ s;refine Lw ?_;refine Call_ (IQ I hg2 hm2 gZ (Br (thn (ha pos2 pins s σ H _ I hq) λus s1 ⟨vs,H1,I1,r1,q1⟩=>?_) hs rfl));obtain ⟨j,e,⟨b3,b4⟩,q⟩:=q1;subst e
 cases r1 with
 | cons r rr=>
  cases rr;obtain ⟨t,rfl⟩:=r;refine call_range_1 ?_;refine M1 ?_
  have hn:NV 0 j 1=((j - 0).toNat:Nat):=by rw [rangeSize_one];split <;> lia
  refine call_list_range (I.ok.hd hc) (fb ..) (small_one (aW (by lia)) (au (by lia)) (aW b3) (au b4)) hn (As (show (j - 0).toNat<=2000000 by lia) (by decide)) λh' tk acc c' hk hS hacc=>?_
  have k:∀b o,s1.heap.get? b=some o->h'.get? b=some o:=λb o e=>hk b o (AF _ e)
  have hr:BL (KD 0 (j - 0).toNat) acc.toList:=Tq (by have:=hacc.1;simpa using this) λk v hv=>by
   obtain ⟨t,e⟩:=hacc.2 k v (by simpa using hv);exact ⟨t,by rw [e];congr 1;lia⟩
  have hl:(KD 0 (j - 0).toNat).length<=sizeLine:=by
   rw [hr.length,show acc.toList.length=(j - 0).toNat by have:=hacc.1;simpa using this];exact As (show (j - 0).toNat<=2000000 by lia) (by decide)
  have hz:∀o,s1.heap.objs.size<=(s1.heap.push o).objs.size:=λo=>by rw [BZ];exact EC _
  refine ⟨.ref _,upd H1 _ (.lst (KD 0 (j - 0).toNat)),I1.laid (t':=tk) k (hz _) ?_,rfl,q _ (I1.hok.fresh (hz _))⟩;exact ⟨hl,acc.toList,c',hr,by simpa using hS⟩
def MU (ml:ML):ML:=λe S=>(ml e S).bind λds S1=>match ds with
 | [.int j]=>if -1000000<=j/\j<=1000000 then .ok (DW 0 (j - 0).toNat) S1 else .bad
 | _=>.bad
theorem RH (hc:X.calm=true) (hg:Gl X "list") (hm:X.mg "list" = none) (hg2:Gl X "range") (hm2:X.mg "range" = none) (ha:GA X E [a] ml)
  (hs:AU [a] X.env=[(false,Bg a X.env)]:=by rfl)
  (he2:AU [.Call (.Name "range" p2) [a] [] pos2] X.env=(false,Bg (.Call (.Name "range" p2) [a] [] pos2) X.env) :: AU [] X.env:=by rfl) :
  GL X E (.Call (.Name "list" p) [.Call (.Name "range" p2) [a] [] pos2] [] pos) (MU ml):=(Xs hc hg hm hg2 hm2 ha hs he2).imp λσ H Q ⟨ρ,l,S,hl,hs,hm⟩=>by
 refine ⟨ρ,l,S,hl,hs,hm.seq λds S1 hm ρ1 H1 xs l1 s1 r1=>?_⟩;split at hm
 ·rename_i j
  split at hm
  ·rename_i hb
   cases r1 with
   | cons r rr=>
    cases rr;cases r;refine ⟨j,rfl,hb,λq hq=>?_⟩;obtain ⟨s4,l4⟩:=Fi (ho:=.lst (KD 0 (j - 0).toNat)) s1 hq;exact hm _ _ q _ (l1.trans l4) s4 (dF _ _) Bd (λn z=>s1.notIn hq z) (l1.back hs s1 hq)
  ·exact hm.elim
 ·exact hm.elim
end
section
variable {X:Cx} {E:EW} {k v:Expr} {pos:Pos} {mk mv:ME}
end
end L2
namespace PySem
open AutoSeq1 in
theorem Ld (l:AI) (items:Array AB) (n:Nat) (b:AI) (items2:Array AB) (n2:Nat) (dct:Option AI) (sl:Array (Option AB)) (hs0:¬(!items.isEmpty&&DM (items.size+items2.size))=true) (hs1:items.size<=sizeLine) (hs2:items.size+items2.size<=sizeLine+1) :
  Meets (Builtin.«list.extend» ⟨[.ref l,.ref b],[]⟩) (λ_ R s=>s.heap.get? l=some { cls:=.type "list",dict:=none,data:=.seq items n,slots:=#[] }/\s.heap.get? b=some { cls:=.type "tuple",dict:=dct,data:=.seq items2 n2,slots:=sl }/\R (.ok (.ret A4)) { s with heap:=s.heap.update l (DO λx=>x++items2),toks:=s.toks }):=
 .of_wp λprog w A R s h=>by
  obtain ⟨hp,g,d,tk,os⟩:=s;obtain ⟨hl,hb,h⟩:=h;have f1:=idx_int;have f2:=sub_tuple_tuple;have f3:=sub_list_list;have f4:=sub_tuple_list;have f5:=sub_list_tuple;
  have hz':(items++items2).size<=sizeLine+1:=by rw [Array.size_append];exact hs2
  wp_walk using (TL hl rfl (hz:=hs1) (_hz':=hz')),Dy hl,Dy hb;exact ⟨_,rfl,h⟩
end PySem
namespace L2
open PySem PySem.Spec PyProof.Rows
def kj (K:AC):V->List V->Hp->VK->Prop:=λx vs H Q=>∃l b xs zs,x=.ref l/\vs=[.ref b]/\H l=some (.lst xs)/\SqT K H b zs/\xs.length+zs.length<=sizeLine/\Q .non (upd H l (.lst (xs++zs)))
theorem eG {X:Cx}:MtM X "list.extend" (kj X.K):=by
 intro pins s σ H x vs v us Q I rx rv h;obtain ⟨l,b,xs,zs,rfl,rfl,hH,hB,hz,q⟩:=h;cases rx;obtain ⟨u,rfl,ru⟩:=rv.one;cases ru;obtain ⟨z,its,n,r,hl,e⟩:=I.lstM hH;obtain ⟨its2,r2,⟨⟨c,dct,dt,sl⟩,e2,hc,n2,hd⟩,z2⟩:=I.tuple hB
 replace hc:c=.type "tuple":=hc
 replace hd:dt=.seq its2.toArray n2:=hd
 subst hc hd;have hl2:=r2.length
 have hsz:its.toArray.size+its2.toArray.size<=sizeLine:=by rw [AT,AT];lia
 have hlong:¬(!its.toArray.isEmpty&&DM (its.toArray.size+its2.toArray.size))=true:=by
  rw [T4 hsz,Qm];exact AO
 refine LR cN ⟨_,e,rfl⟩ bw (ZA _ _)
  (Ld l its.toArray n b its2.toArray n2 dct sl hlong (by rw [AT];lia) (by lia)) ⟨e,e2,?_⟩
 refine ⟨.non,_,I.lset (its':=its++its2) hH e (by simp) (r.append r2) ?_,rfl,q⟩;rw [Af];omega
def UB (mo ma:ME):ME:=λe S=>(mo e S).bind λd S1=>match atL d S1 with
 | some (n,_)=>(ma e S1).bind λy S2=>match atL d S2,y with
  | some (_,xs),.tup ys=>if xs.length+ys.length<=sizeLine then .ok .non (S2.set n (.lst (xs++ys))) else .bad
  | _,_=>.bad
 | none=>.bad
section
variable {X:Cx} {E:EW} {o e:Expr} {apos cpos:Pos} {mo ma:ME}
theorem ek (ho:GE X E o mo) (ha:GE X E e ma) (hbase:DS o "extend" X.env (Bg o X.env)=Bg o X.env:=by rfl)
  (hfew:((C1 cpos (AU [e] X.env)).all (λx=>!x.1)&&(Us cpos (Mu [] X.env)).all (λx=>x.1.isSome)
    &&decide ([e].length+([]:List Ib).length+(if ([]:List Ib).isEmpty then 0 else 1) < 30))=true:=by rfl)
  (hline:(apos.endLine==cpos.line)=true:=by rfl) (hs:AU [e] X.env=(false,Bg e X.env) :: AU [] X.env:=by rfl) (hplain:(C1 cpos (AU [] X.env)).any (·.1)=false:=by rfl) :
  GE X E (.Call (.Attribute o "extend" apos) [e] [] cpos) (UB mo ma):=(Wh Dq P9 P8 eG ho (D7 ha Fm hs) hbase hfew hline hs hplain).imp λσ H Q ⟨ρ,l,S,hl,hs,hm⟩=>by
 refine ⟨ρ,l,S,hl,hs,hm.seq λd S1 hm ρ1 H1 v l1 s1 r1=>?_⟩
 cases hq:atL d S1 with
 | none=>rw [hq] at hm;exact hm.elim
 | some z=>
  obtain ⟨n,xs0⟩:=z;rw [hq] at hm;dsimp only at hm;obtain ⟨rfl,h0,a,vs0,rfl,hn,e0,_⟩:=Jc s1 r1 hq;refine ⟨.inl ⟨rfl,vs0,.inl (.inl e0)⟩,ρ1,l,S1,hl.mono l1,s1,(hm.later l1).seq λy S2 hm ρ2 H2 u l2 s2 r2=>?_⟩;split at hm
  ·rename_i n' xs ys h2
   split at hm
   ·rename_i hz
    obtain ⟨e',h4,a',vs,ea,hn2,e2,rr⟩:=Jc s2 (r1.mono l2) h2;cases e';cases ea
    cases r2 with
    | tup b1 b2=>
     obtain ⟨s3,l3⟩:=MM s2 hn2 e2 (rr.append b2);exact ⟨a,_,vs,_,rfl,rfl,e2,.inl (.inl b1),by rw [<-rr.length,<-b2.length];exact hz,hm ρ2 _ _ (l1.trans (l2.trans l3)) s3 .non⟩
   ·exact hm.elim
  ·exact hm.elim
end
section
variable {X:Cx} {o e:Expr} {apos cpos:Pos} {td ty:TE}
end
section
variable {X:Cx} {E:EW} {o e:Expr} {apos cpos:Pos} {mo ma:ME}
end
section
variable {X:Cx}
end
def mIns (mo mi my:ME):ME:=λe S=>(mo e S).bind λd S1=>match atL d S1 with
 | some (n,_)=>(mi e S1).bind λx S2=>(my e S2).bind λy S3=>match atL d S3,x with
  | some (_,xs),.int i=>if 0<=i/\i < 1000000/\xs.length+1<=sizeLine then .ok .non (S3.set n (.lst (xs.take i.toNat++[y]++xs.drop i.toNat))) else .bad
  | _,_=>.bad
 | none=>.bad
def UA (mo mi:ME):ME:=λe S=>(mo e S).bind λd S1=>match atL d S1 with
 | some (n,_)=>(mi e S1).bind λx S2=>match atL d S2,x with
  | some (_,xs),.int i=>if 0<=i/\i < 1000000 then (match xs[i.toNat]? with
   | some y=>.ok y (S2.set n (.lst (xs.eraseIdx i.toNat)))
   | none=>.bad) else .bad
  | _,_=>.bad
 | none=>.bad
theorem Ao.erase {K:AC} {ρ:List AI} {H:Hp}:∀ {ds:List D} {vs:List V},Ao K ρ H ds vs->∀k,Ao K ρ H (ds.eraseIdx k) (vs.eraseIdx k)
 | _,_,.nil,k=>.nil
 | _,_,.cons r t,k=>by
  cases k with
  | zero=>exact t
  | succ k=>exact .cons r (Ao.erase t k)
section
variable {X:Cx} {E:EW} {o e f:Expr} {apos cpos:Pos} {mo mi my:ME}
theorem ee (ho:GE X E o mo) (he:GE X E e mi) (hbase:DS o "pop" X.env (Bg o X.env)=Bg o X.env:=by rfl)
  (hfew:((C1 cpos (AU [e] X.env)).all (λx=>!x.1)&&(Us cpos (Mu [] X.env)).all (λx=>x.1.isSome)
    &&decide ([e].length+([]:List Ib).length+(if ([]:List Ib).isEmpty then 0 else 1) < 30))=true:=by rfl)
  (hline:(apos.endLine==cpos.line)=true:=by rfl) (hs:AU [e] X.env=(false,Bg e X.env) :: AU [] X.env:=by rfl) (hplain:(C1 cpos (AU [] X.env)).any (·.1)=false:=by rfl) :
  GE X E (.Call (.Attribute o "pop" apos) [e] [] cpos) (UA mo mi):=(Wh Dq PySem.F.slot_list_pop PySem.F.type_list_pop aM ho (D7 he Fm hs) hbase hfew hline hs hplain).imp λσ H Q ⟨ρ,l,S,hl,hs,hm⟩=>by
 refine ⟨ρ,l,S,hl,hs,hm.seq λd S1 hm ρ1 H1 v l1 s1 r1=>?_⟩
 cases hq:atL d S1 with
 | none=>rw [hq] at hm;exact hm.elim
 | some z=>
  obtain ⟨n,xs0⟩:=z;rw [hq] at hm;dsimp only at hm;obtain ⟨rfl,h0,a,vs0,rfl,hn,e0,_⟩:=Jc s1 r1 hq;refine ⟨.inl ⟨rfl,vs0,.inl (.inl e0)⟩,ρ1,l,S1,hl.mono l1,s1,(hm.later l1).seq λx S2 hm ρ2 H2 u l2 s2 r2=>?_⟩;split at hm
  ·rename_i n' xs i h2
   split at hm
   ·rename_i hz
    split at hm
    ·rename_i y hy
     obtain ⟨e',h4,a',vs,ea,hn2,e2,rr⟩:=Jc s2 (r1.mono l2) h2;cases e';cases ea;cases r2;obtain ⟨w,hw,rw'⟩:=rr.get hy;obtain ⟨s4,l4⟩:=MM s2 hn2 e2 (rr.erase i.toNat);have hlt:=(AK.mp hw).1;refine ⟨a,vs,i,i.toNat,w,rfl,rfl,e2,kJ (by decide) hz.1,Int.lt_trans hz.2 (by decide),?_,hw,hm ρ2 _ _ (l1.trans (l2.trans l4)) s4 (rw'.mono l4)⟩
     have:ixN vs.length i=some i.toNat:=by
      unfold ixN;rw [qX hz.1,qX (by lia)]
     exact (SU this).1
    ·exact hm.elim
   ·exact hm.elim
  ·exact hm.elim
end
end L2
namespace PySem
open Sem (wp)
section
variable {prog:Al} {w:A2} {A:Ay} {E:AB->AE->Prop} {s:AE}
end
end PySem
namespace L2
open PySem PySem.Spec PyProof.Rows
section
variable {P:Al} {w:A2} {K:AC} {elts:List Expr} {x1:Nat} {pos:Pos}
end
section
variable {X:Cx} {E:EW} {e1 e2:Expr} {elts:List Expr} {x1:Nat} {p pos ptg:Pos} {ml:ML} {ta:TA}
end
end L2
namespace HT
open PySem PySem.Spec PyProof.Rows
section
variable {prog:Al} {w:A2} {A:Ay} {E:AB->AE->Prop} {s:AE}
theorem Ma {t sl:AI} {items:Array AB} {vl vu:AB} {lo hi:Option Int} {Q:AB->AE->Prop} (ht:U4 s.heap t items) (hs:s.heap.IsSliceOf sl vl vu .none) (pl:M0 vl lo) (pu:M0 vu hi)
  (hw:sIx items.size 0 lo=0/\sIx items.size items.size hi=items.size) (h:Q (.ref t) s):AZ (AR prog w) A (Jy (.ref t) (.ref sl)) Q E s:=by
 obtain ⟨os,hos,hcs,hds⟩:=id hs;have hTs:s.TypeIs (.ref sl) "slice":=⟨os,hos,hcs⟩;unfold Jy
 try with_reducible refine Bh ?_
 first | refine AA (AD ?_) | skip
 refine AA (ji ht.typeIs (by decide) (AA (BO (name:=DH "__getitem__") ht.typeIs Bu
  (BJ Bu ht.typeIs fW ?_ (gb _ _)))))
 show AZ (AR prog w) _ (Lx (.ref t) >>= _) _ _ s;refine AA (tupleItemsOf_ ht (AA (FX hTs ?_)));rw [qX (by decide)];refine AA (Ii hs pl pu ?_);show AZ (AR prog w) _ (if (((sIx items.size 0 lo:Nat):Int)==0&&(1:Int)==1&&(sIx items.size items.size hi - sIx items.size 0 lo)==items.size)=true then _ else _) _ _ s;rw [hw.1,hw.2,qX (by simp)];unfold kL;refine AA (AA (FX ht.typeIs (AD ?_)));rw [qX (by decide)];exact AA (Ga (AA (AD (AD ⟨_,rfl,AD h⟩))))
end
end HT
namespace L2
open PySem PySem.Spec PyProof.Rows
section
variable {X:Cx}
def rSlW (K:AC):V->Option Int->Option Int->Hp->VK->Prop:=λx lo hi H Q=>∃a xs,x=.ref a/\SqT K H a xs/\(HT.sIx xs.length 0 lo=0/\HT.sIx xs.length xs.length hi=xs.length)/\Q (.ref a) H
theorem iA:SlR X (rSlW X.K):=by
 intro pins s σ H x v vl vu lo hi sl Q I rx hs pl pu h;obtain ⟨a,xs,rfl,hx,hw,q⟩:=h;cases rx;obtain ⟨its,r,ht,_⟩:=I.tuple hx
 have hlen:its.toArray.size=xs.length:=by rw [AT];exact r.length.symm
 exact ⟨"tuple",_,Bu.lookup,ht.typeIs,HT.Ma ht hs pl pu (by rw [hlen];exact hw) ⟨.ref a,H,I,rfl,q⟩⟩
def hX (d:D) (lo hi:Option Int) (S:Sto):Res D:=match d with
 | .tup ds=>.ok (.tup (E7 ds lo hi)) S
 | _=>.bad
def Kq (m:ME) (ml mh:MO):ME:=λe S=>(m e S).bind λd S1=>(ml e S1).bind λlo S2=>(mh e S2).bind λhi S3=>okR (hX d lo hi S3)
variable {E:EW} {e:Expr} {lo hi:Option Expr} {pos p2:Pos} {m:ME} {ml mh:MO}
theorem fD {α:Type} (xs:List α) (lo hi:Option Int) (h:HT.sIx xs.length 0 lo=0/\HT.sIx xs.length xs.length hi=xs.length):E7 xs lo hi=xs:=by
 unfold E7;rw [h.1,h.2];simp
theorem NA (he:GE X E e m) (hl:GO X E lo ml) (hu:GO X E hi mh):GE X E (.Subscript e (.Slice lo hi none p2) pos) (Kq m ml mh):=(Tw (iA.or Zj) he hl hu).imp λσ H Q ⟨ρ,l,S,hl,hs,hm⟩=>by
 refine ⟨ρ,l,S,hl,hs,hm.seq λd S1 hm ρ1 H1 x l1 s1 r1=>⟨ρ1,l,S1,hl.mono l1,s1,(hm.later l1).seq λlo S2 hm ρ2 H2 l2 s2=>⟨ρ2,l,S2,hl.mono (l1.trans l2),s2,(hm.later l2).seq λhi S3 hm ρ3 H3 l3 s3=>?_⟩⟩⟩;obtain ⟨d',S',e,k⟩:=hm.okR;have r3:=r1.mono (l2.trans l3)
 cases d with
 | tup ds=>
  cases e
  cases r3 with
  | @tup _ a vs h1 h2=>
   by_cases hw:HT.sIx vs.length 0 lo=0/\HT.sIx vs.length vs.length hi=vs.length
   ·refine .inl ⟨a,vs,rfl,.inl (.inl h1),hw,k _ _ _ (l1.trans (l2.trans l3)) s3 ?_⟩
    rw [fD ds lo hi (by rw [h2.length];exact hw)];exact .tup h1 h2
   ·refine .inr ⟨a,vs,rfl,.inl (.inl h1),hw,λq hq=>?_⟩
    obtain ⟨s4,l4⟩:=Fi (ho:=.tup (N5 vs lo hi)) s3 hq;exact k _ _ _ (l1.trans (l2.trans (l3.trans l4))) s4 (.tup Bd ((Pj h2 lo hi).mono l4))
 | _=>cases e
end
section
variable {X:Cx}
instance (i j:Int):Decidable ((λ_ j:Int=>0<=j) i j):=inferInstanceAs (Decidable (0<=j))
end
section
variable {X:Cx} {E:EW} {CX:CXT} {k n:Nat} {f C:AI} {fd:De} {ps:List Str} {m:Str} {pos apos:Pos} {o e:Expr} {es:List Expr} {mo:ME} {ml:ML} {g:List D->Sto->Res D}
end
section
variable {X:Cx} {E:EW} {o:Expr} {apos cpos:Pos} {mo:ME}
end
section
variable {X:Cx}
end
section
variable {X:Cx} {E:EW} {g:Str} {gp hpos pos:Pos} {G:AI} {cs:List AI} {body suite:List C2} {b₀:C2} {mb mh:MS}
end
end L2
namespace L2
open PySem PySem.Spec PyProof.Rows PySem.SeqAt
section
variable {X:Cx} {K:AC} {ρ:List AI} {H:Hp}
variable {pins:List (AI×Obj)} {σ:St} {s:AE}
end
section
variable {P:Al} {w:A2} {K:AC} {mg:Str->Option AB} {base:BP}
theorem JS {N ps:List Str} {sc:Hv} (h1:N.Nodup:=by decide +kernel) (h2:∀x∈ps,sc.names.lookup x=some .local∨sc.names.lookup x=some .cell:=by decide +kernel) (h3:∀y∈sc.names,y.2≠.free:=by decide +kernel) (h4:sc.kind=.function:=by rfl) (h5:sc.isCoroutine=false:=by rfl) (h6:sc.isGenerator=false:=by rfl) (h7:N.take ps.length=ps:=by rfl):CL N ps sc:=⟨h4,h5,h6,h1,h7,h2,h3⟩
theorem C8 {x qual:Str} {st:C2} {f:AI} {fd:De} {N ps:List Str} {k n:Nat} (F:Fun K x qual st f fd) (Sc:CL N ps (Au st)) (hn:ps.length=n) {mb:MS}
  (hbody:∀(cdv:AB) (A:Ay) (outer:List Env) (s:AE) (H:Hp) (E:XK),HD k (A.deeper (LQ qual (Au st) s.heap.objs.size f cdv))->Jn (Si (CXG P w) P w K mg base N qual (Au st) f cdv A outer s H E)->(A.deeper (LQ qual (Au st) s.heap.objs.size f cdv)).units+64 < DL->N.Nodup ->
   ∀pn E',GSs ((Si (CXG P w) P w K mg base N qual (Au st) f cdv A outer s H E).w' pn E') E' (CH st) mb) :
  Ek P w K mg base (CXG P w) (k+1) f fd ps (spM K n (Fj N.length mb)):=jR F Sc hn λcdv A outer s H E hr=>hbody cdv A outer s H E hr ⟨rfl,rfl,rfl⟩ hr.units Sc.nd
end
section
variable {X:Cx} {E:EW} {e:Expr} {m:ME} {pos:Pos}
theorem Dj {x:Str} (i:Nat) (hN:X.N.Nodup) (hi:X.N[i]?=some x:=by rfl) (hx:Loc X.env.scope x:=by first | exact WH rfl | exact S8 rfl) (hf:X.fn x=true∨X.env.scope.names.lookup x=some .local:=by first | exact .inl rfl | exact .inr rfl | assumption):GG X (.Name x pos) (tgN i):=eY (dZ hN hi hx hf)
theorem DA {x:Str} {pos':Pos} (i:Nat) (hN:X.N.Nodup) (he:GE X E e m) (hi:X.N[i]?=some x:=by rfl) (hx:Loc X.env.scope x:=by first | exact WH rfl | exact S8 rfl) (hs:FZ e (some (.Name x pos')) pos.line X.env=pure false:=by rfl)
  (hf:X.fn x=true∨X.env.scope.names.lookup x=some .local:=by first | exact .inl rfl | exact .inr rfl | assumption):GS X E (.Assign [.Name x pos'] e pos) (CB i m):=jH hN hi hx he hs hf
end
end L2
namespace PySem
open Sem (wp)
section
variable {prog:Al} {w:A2} {A:Ay} {R:Ra->AE->Prop} {z B:AI} {fp wr:List AI} {n:Nat} {P:Nat->AB->Prop} {St:Nat->BP->Prop} {bt:Nat->Nat->Bool} {J:BP->Prop}
variable {E:AB->AE->Prop} {s:AE}
end
end PySem
namespace L2
open PySem PySem.Spec PyProof.Rows
section
variable {X:Cx} {E:EW} {e:Expr} {p pos:Pos} {m:ME}
end
end L2
namespace L2
open PySem PySem.Spec PyProof.Rows Srt
theorem Inv.drew {X:Cx} {pins:List (AI×Obj)} {σ:List (Option V)} {H:Hp} {s:AE} {d':Drawn} (I:Inv X pins σ H s):Inv X pins σ H { s with drawn:=d' }:=⟨I.ok,I.os,I.bare,I.base,I.loc,I.cell,I.free,I.freeC,I.pin,I.hok,I.len⟩
def QG (ns:List Int):List Int:=CU (firstMet (λi=>ns.getD i 0) ns.length)
theorem Pa:∀ {acc:List AB} {ns:List Int},acc.map iv=ns.map some->BL (ns.map V.int) acc
 | [],[],_=>.nil
 | [],_ :: _,h=>by cases h
 | _ :: _,[],h=>by cases h
 | v :: acc,n :: ns,h=>by
  rw [An,An] at h
  injection h with h1 h2
  cases v <;> simp [iv] at h1
  subst h1;exact .cons ⟨_,rfl⟩ (Pa h2)
theorem db {acc:List AB} {ns:List Int} (h:Cu (acc.map iv) (ns.map some)):∃ms:List Int,ms.Perm ns/\acc.map iv=ms.map some:=by
 refine ⟨(acc.map iv).filterMap id,?_,?_⟩
 ·have:=h.filterMap id
  have e:(ns.map some).filterMap id=ns:=by
   rw [Yt];exact List.filterMap_some
  rwa [e] at this
 ·have key:∀l:List (Option Int),(∀x∈l,∃n,x=some n)->l=(l.filterMap id).map some:=by
   intro l
   induction l with
   | nil=>intro _;rfl
   | cons x l ih=>
    intro hl;obtain ⟨n,rfl⟩:=hl x Ae;have e:(some n :: l).filterMap id=n :: l.filterMap id:=rfl;rw [e,An,<-ih λy hy=>hl y (Ac _ hy)]
  exact key _ λx hx=>by
   obtain ⟨n,_,e⟩:=A5.mp (h.mem_iff.mp hx);exact ⟨n,e.symm⟩
theorem sorted_ints {out:List V} {ms ns:List Int} (po:out.Perm (ms.map V.int)) (pm:ms.Perm ns) (so:out.Pairwise (λx y=>ltL [Hx y] [Hx x]=false)):out=(CU ns).map V.int:=by
 have e1:out=(out.map Hx).map V.int:=by
  rw [Bk]
  conv=>lhs;rw [<-Oa out]
  refine D0 λv hv=>?_
  obtain ⟨n,_,rfl⟩:=A5.mp (po.mem_iff.mp hv);rfl
 have e2:out.map Hx=CU ns:=by
  have p1:(out.map Hx).Perm (CU ns):=by
   have:=po.map Hx;rw [HY] at this;exact (this.trans pm).trans (D5 ns).symm
  refine p1.eq_of_pairwise (λa b _ _ h1 h2=>Kj h1 h2) ?_ (Hd ns);rw [BR]
  refine so.imp λ{x y} hxy=>?_
  rw [Wm] at hxy;simp at hxy;exact hxy
 rw [<-e2];exact e1
theorem Sq {X:Cx} {pins:List (AI×Obj)} {s:AE} {σ:St} {H:Hp} {a:AI} {ns:List Int} {Q:VK} (hc:X.calm=true) (I:Inv X pins σ H s) (hS:Ju X.prog X.w s.heap a ns) (hz:ns.length<=sizeLine)
  (q:∀l,H l=none->Q (.ref l) (upd H l (.lst ((CU ns).map V.int)))):AZ (AR X.prog X.w) X.A (call (.builtin "sorted") [.ref a]) (EP X pins σ Q) X.xe s:=by
 refine IJ cE Yz Y0 (Y2 _) ?_;unfold Builtin.«sorted»;refine AA (m:=gW "sorted" 1 1 _) (AD (AA (Tk (A:=X.A.in1) (I.ok.hd hc) hS hz λg tk d' its kp hp=>?_)));obtain ⟨ms,pm,em⟩:=db hp;have rv:BL (ms.map V.int) its:=Pa em
 have hz:its.length<=sizeLine:=by rw [<-rv.length,AJ,pm.length_eq];exact hz
 have rows:Pu H (λv=>[Hx v]) (ms.map V.int):=.inl λv hv=>by
  obtain ⟨n,_,rfl⟩:=A5.mp hv;exact ⟨n,rfl,rfl⟩
 refine AA (N6 ?_ hz);have I1:Inv X pins σ H { s with heap:=g,toks:=tk,drawn:=d' }:=(I.kept (t':=tk) kp).drew;have hl:(g.push (E3 "list" its.toArray 0)).get? g.objs.size=some (E3 "list" its.toArray 0):=AV _ rfl;refine AA (Bh (BJ Um ⟨_,hl,rfl⟩ TQ (Srt.IP (f:=M6 H) hl hz (λh2 s' keep=>?_) λout po so=>⟨_,rfl,AD ⟨_,rfl,?_⟩⟩) (Uu _)))
 ·refine Nf (λb xs e=>?_) rows rv h2
  obtain ⟨_,is,r,o,ho,hcl,n,hd⟩:=(show Ca X.prog X.w H g b (.tup xs) from I1.hok b _ e);exact ⟨is,r,o,keep b o (Ad (AW ho)) (AF _ ho),hcl,n,hd⟩
 ·obtain ⟨vo,ro,pv⟩:=KH po.symm rv
  have so':vo.Pairwise (λx y=>ltL [Hx y] [Hx x]=false):=by
   have e:out.toList.map (M6 H)=vo.map λv=>[Hx v]:=HN ro λa ha b rb=>rows.rel a (pv.mem_iff.mp ha) b rb
   have:=(BR (f:=M6 H) (R:=λx y=>ltL y x=false)).mpr so;rw [e] at this;exact BR.mp this
  obtain ⟨k,hk⟩:=XG (out:=out) hl
  have hlen:vo.length<=sizeLine:=by rw [pv.length_eq,rv.length];exact hz
  have I2:=I1.laid (a:=g.objs.size) (o:=.lst vo) (t':=tk) (h':=OT (g.push (E3 "list" its.toArray 0)) g.objs.size its out)
   (λb u z=>by
    have lt:b < g.objs.size:=AW z;rw [Ul (Ad lt) (by rw [gK];exact CG lt)]
    exact AF _ z) (AM _) ⟨hlen,out.toList,k,ro,hk⟩
  rw [sorted_ints pv pm so'] at I2;exact ⟨.ref g.objs.size,_,I2,rfl,q _ (I1.hok.fresh (AM _))⟩
section
variable {X:Cx} {E:EW} {e a b c:Expr} {p p2 pos pos2:Pos} {m:ME} {te:TE} {ml:ML} {ta:TA} {tg:Expr}
def Za (K:AC) (te:TE):TE:=λσ H Q=>te σ H λx H1=>∃q ns,x=.ref q/\(SqT K H1 q (LC V.int ns)∨SqL K H1 q (ns.map V.int))/\ns.length<=4000/\∀l,H1 l=none->Q (.ref l) (upd H1 l (.lst ((QG ns).map V.int)))
theorem Va (hc:X.calm=true) (hg:Gl X "sorted") (hm:X.mg "sorted" = none) (hg2:Gl X "set") (hm2:X.mg "set" = none) (h:PE X e te)
  (he:AU [e] X.env=(false,Bg e X.env) :: AU [] X.env:=by rfl) (he2:AU [.Call (.Name "set" p2) [e] [] pos2] X.env=(false,Bg (.Call (.Name "set" p2) [e] [] pos2) X.env) :: AU [] X.env:=by rfl) :
  PE X (.Call (.Name "sorted" p) [.Call (.Name "set" p2) [e] [] pos2] [] pos) (Za X.K te):=by
 intro pins s σ H Q I hq;refine Dc (IQ I hg hm boot_sorted ?_ (by decide) (by decide));refine LB ?_ he2 rfl;rw [he2];show AZ _ _ (Yy ((false,Bg (.Call (.Name "set" p2) [e] [] pos2) X.env) :: C1 pos (AU [] X.env))) _ _ s;refine Lw ?_;refine Dc (IQ I hg2 hm2 mF ?_ (by decide) (by decide));refine Br (thn (D7 h Fm he pos2 pins s σ H (λvs H1=>match vs with | [x]=>∃q ns,x=.ref q/\(SqT X.K H1 q (LC V.int ns)∨SqL X.K H1 q (ns.map V.int))/\ns.length<=4000/\∀l,H1 l=none->Q (.ref l) (upd H1 l (.lst ((QG ns).map V.int))) | _=>False) I hq) λus s1 ⟨vs,H1,I1,r1,q1⟩=>?_) he rfl
 match vs,r1,q1 with
 | [x],r1,q1=>
  obtain ⟨q,ns,rfl,sq,hl,k⟩:=q1;obtain ⟨u,rfl,ru⟩:=vals1 r1;cases ru
  have fin:∀(n:Nat),n=ns.length->∀(h':BP) (tk:Nat),Ju X.prog X.w h' s1.heap.objs.size (firstMet (λi=>ns.getD i 0) n) ->
    (∀b o,b < s1.heap.objs.size->s1.heap.get? b=some o->h'.get? b=some o)->AZ (AR X.prog X.w) X.A (Yy (C1 pos (AU [] X.env))) (λvs s₁=>AZ (AR X.prog X.w) X.A (call (.builtin "sorted") (.ref s1.heap.objs.size :: vs)) (EP X pins σ Q) X.xe s₁) X.xe { s1 with heap:=h',toks:=tk }:=λn hn h' tk hS hk=>by
   refine M1 ?_;subst hn
   have I2:Inv X pins σ H1 { s1 with heap:=h',toks:=tk }:=I1.kept λb o e=>hk b o (AW e) e
   exact Sq hc I2 hS (As (gR _ _) (As hl (P6 (by decide)))) k
  rcases sq with sq | sq
  ·obtain ⟨its,rv,pl,hz⟩:=I1.tuple sq
   have hlen:=rv.length;rw [AJ] at hlen;exact YX (I.ok.hd hc) (show s1.heap.IsTuple q its.toArray from pl) (by simpa using intsAre_of rv) (by rw [AT];unfold Gp;lia) (fin its.toArray.size (by rw [AT];lia))
  ·obtain ⟨its,rv,pl,hz⟩:=I1.list sq
   have hlen:=rv.length;rw [AJ] at hlen;exact YY (I.ok.hd hc) pl.isList (by simpa using intsAre_of rv) (by rw [AT];unfold Gp;lia) (fin its.toArray.size (by rw [AT];lia))
def KM (m:ME):ME:=λe S=>(m e S).bind λd S1=>match Ge d S1 with
 | some ds=>match G2 ds with
  | some ns=>if ns.length<=4000 then .ok (.ref S1.length) (S1++[.lst ((QG ns).map D.int)]) else .bad
  | none=>.bad
 | none=>.bad
theorem Pc (hc:X.calm=true) (hg:Gl X "sorted") (hm:X.mg "sorted" = none) (hg2:Gl X "set") (hm2:X.mg "set" = none) (h:GE X E e m)
  (he:AU [e] X.env=(false,Bg e X.env) :: AU [] X.env:=by rfl) (he2:AU [.Call (.Name "set" p2) [e] [] pos2] X.env=(false,Bg (.Call (.Name "set" p2) [e] [] pos2) X.env) :: AU [] X.env:=by rfl) :
  GE X E (.Call (.Name "sorted" p) [.Call (.Name "set" p2) [e] [] pos2] [] pos) (KM m):=(Va hc hg hm hg2 hm2 h he he2).imp λσ H Q ⟨ρ,l,S,hl,hs,hm⟩=>by
 refine ⟨ρ,l,S,hl,hs,hm.seq λd S1 hm ρ1 H1 x l1 s1 r1=>?_⟩
 cases hq:Ge d S1 with
 | none=>rw [hq] at hm;exact hm.elim
 | some ds=>
  rw [hq] at hm;dsimp only at hm
  cases hi:G2 ds with
  | none=>rw [hi] at hm;exact hm.elim
  | some ns=>
   rw [hi] at hm;dsimp only at hm;split at hm
   ·rename_i hn
    obtain ⟨q,xs,rfl,rr,sq⟩:=Ko s1 r1 hq;rw [Iu hi] at rr;rw [Tt rr] at sq;refine ⟨q,ns,rfl,sq.symm,hn,λl hl'=>?_⟩;have le:Le X.K ρ1 H1 (ρ1++[l]) (upd H1 l (.lst ((QG ns).map V.int))):=Le.alloc hl';obtain ⟨s4,l4,at4⟩:=s1.alloc (ho:=.lst ((QG ns).map V.int)) (o:=.lst ((QG ns).map D.int)) hl' ⟨_,Bd,Ao.of_ints _⟩;exact hm _ _ _ (l1.trans l4) s4 (.ref at4)
   ·exact hm.elim
end
end L2
namespace Srt
open PySem PyProof.Rows
theorem SO:∀x y:List Int,HT.lexLt x y=ltL x y
 | [],[]=>rfl
 | [],_ :: _=>rfl
 | _ :: _,[]=>rfl
 | x :: xs,y :: ys=>by
  show (if x=y then HT.lexLt xs ys else decide (x < y))=(if x=y then ltL xs ys else decide (x < y));rw [SO xs ys]
section
variable {prog:Al} {w:A2} {A:Ay} {E:AB->AE->Prop} {s:AE}
theorem Os {b:Bool} {Q:Bool->AE->Prop} (h:Q b s):AZ (AR prog w) A (truthOfDropped (.bool b)) Q E s:=λ_ _ _=>h
theorem Xv {x y:AB} {ns ms:List Int} (o:Bool) (hu:A.units < DL) (hx:Ps s x ns) (hy:Ps s y ms) {Q:Bool->AE->Prop} (h:Q (ltL ns ms) s):AZ (AR prog w) A (oneLt' o x y) Q E s:=by
 obtain ⟨a,its,rfl,hl,hi⟩:=hx;obtain ⟨b,its2,rfl,hb,hj⟩:=hy;rw [oneLt'_eq]
 cases o with
 | true=>
  simp only [if_true];refine AA (wpAny_cRoomFor hu ?_);obtain ⟨⟨cls,dd,data,sl⟩,ho,hc,n,hd⟩:=id hl;obtain ⟨⟨cls2,dd2,data2,sl2⟩,ho2,hc2,n2,hd2⟩:=id hb;simp only at hc hd hc2 hd2;subst hc hd hc2 hd2;refine AA (wpAny_callSpecialIfBound?_slot ⟨_,ho,rfl⟩ Jq (LR Jq ⟨_,ho,rfl⟩ Re (Qc _ _) (HT.LF a b its its2 n n2 dd dd2 sl sl2 ns ms hi hj) ⟨ho,ho2,?_⟩));show AZ _ _ (truthOfDropped (.bool (HT.lexLt ns ms))) _ _ s;rw [SO];exact Os h
 | false=>
  simp only [BN,if_false];refine AA (HT.Vl hl hb hi hj hu ?_);rw [SO];exact Os h
theorem Lh {f:AB->List Int}:∀ {vs:List AB},(∀v∈vs,Ps s v (f v))->∀ {Q:List (Option AB)->AE->Prop},(∀os,os.map (·.isSome)=vs.map (λv=>!(f v).isEmpty)->Q os s)->AZ (AR prog w) A (vs.mapM Hs) Q E s
 | [],_,Q,h=>by
  rw [TD];exact AD (h [] rfl)
 | v :: vs,hv,Q,h=>by
  rw [Qi];have hv0:=hv v Ae
  have rest:∀o:Option AB,o.isSome = !(f v).isEmpty->AZ (AR prog w) A (vs.mapM Hs >>= λos=>pure (o :: os)) Q E s:=λo ho=>
   AA (Lh (λv hv'=>hv v (Ac _ hv')) λos hos=>AD (h (o :: os) (by rw [An,An,ho,hos])))
  cases e:f v with
  | cons n ns=>
   rw [e] at hv0;exact AA (RK hv0 λt=>rest (some (.int n t)) (by rw [e];rfl))
  | nil=>
   rw [e] at hv0;obtain ⟨r,hr,ty,wr⟩:=Km (prog:=prog) (w:=w) (A:=A) hv0;refine AA ?_;refine (AA (FX ty ?_):AZ _ _ (Hs v) _ E s);refine (show AZ (AR prog w) A (if (Bc "tuple" != Bc "tuple")=true then _ else _) _ E s from ?_);rw [qY (by simp)];refine AA (wr E _ (AD ?_))
   have:r[0]?=none:=by
    generalize hl:r.toList=l at hr;cases hr
    have:r.size=0:=by rw [<-Az,hl];rfl
    simp [this]
   rw [this];exact rest none (by rw [e];rfl)
theorem MP:∀ {vs:List AB},(∀v∈vs,s.TypeIs v "tuple")->∀ {Q:List AB->AE->Prop},Q (vs.map λ_=>.type "tuple") s->AZ (AR prog w) A (vs.mapM typeOf) Q E s
 | [],_,Q,h=>by rw [TD];exact AD h
 | v :: vs,hv,Q,h=>by
  rw [Qi];exact AA (FX (hv v Ae) (AA (MP (λu hu=>hv u (Ac _ hu)) (AD h))))
theorem VP {vs:List AB} {f:AB->List Int} (hu:A.units < DL) (h:∀v∈vs,Ps s v (f v)) (h0:vs≠[]):Pt prog w A s vs f:=by
 by_cases hn:∀v∈vs,f v≠[]
 ·exact Qt (λv hv=>⟨h v hv,hn v hv⟩) h0
 have hne:∀os:List (Option AB),os.map (·.isSome)=vs.map (λv=>!(f v).isEmpty)->¬(os.toArray.all λx=>x.isSome)=true:=λos hos ha=>hn λv hv e=>by
  have h1:∀b∈os.map (·.isSome),b=true:=λb hb=>by
   obtain ⟨o,ho,rfl⟩:=A5.mp hb;exact D2.mp (by simpa using ha) o ho
  have h2:=h1 (!(f v).isEmpty) (by rw [hos];exact A5.mpr ⟨v,hv,rfl⟩);rw [e] at h2;cases h2
 cases vs with
 | nil=>exact zX rfl h0
 | cons v vs=>
  have cmp:∀o:Bool,∀x y:AB×AB,x∈Hr (v :: vs)->y∈Hr (v :: vs)->∀(Q:Bool->AE->Prop) (E:AB->AE->Prop),Q (ltK f x y) s->AZ (AR prog w) A (oneLt' o x.1 y.1) Q E s:=λo x y hx hy Q E q=>
   Xv o hu (h _ (Ey hx).1) (h _ (Ey hy).1) q
  by_cases hv:f v=[]
  ·refine ⟨oneType',λQ E q=>?_,cmp true⟩
   rw [cF,GX];refine AA ?_;rw [map_eq_pure_bind];refine AA (Lh h λos hos=>AD ?_);rw [qY (hne os hos)]
   have hf:¬((os.toArray[0]?.bind id).isSome)=true:=by
    cases os with
    | nil=>simp
    | cons o os=>
     rw [An,An] at hos
     injection hos with h1 h2
     rw [hv] at h1;simpa using h1
   rw [qY hf,lv,GX];rw [map_eq_pure_bind];refine AA (AA (AA (MP (λu hu'=>?_) (AD ?_))))
   ·obtain ⟨a,its,rfl,⟨o,ho,hc,_⟩,_⟩:=h u hu'
    exact ⟨o,ho,hc⟩
   have e0:(LC (λ_=>Bc "tuple") (v :: vs)).toArray[0]?=some (Bc "tuple"):=by simp
   have e1:((LC (λ_=>Bc "tuple") (v :: vs)).toArray.all λx=>x==Bc "tuple")=true:=by
    simp only [bv,NT,D2]
    exact λ_ _=>rfl
   rw [e0];simp only [e1,if_true];exact AD (AD q)
  ·refine ⟨P5,λQ E q=>?_,cmp false⟩
   rw [cF,GX];refine AA ?_;rw [map_eq_pure_bind];refine AA (Lh h λos hos=>AD ?_);rw [qY (hne os hos)]
   have hf:((os.toArray[0]?.bind id).isSome)=true:=by
    cases os with
    | nil=>simp at hos
    | cons o os=>
     rw [An,An] at hos
     injection hos with h1 h2
     have:(f v).isEmpty=false:=by cases e:f v with | nil=>exact zX e hv | cons=>rfl
     rw [this] at h1;simpa using h1
   rw [qX hf];exact AD q
end
end Srt
namespace L2
open PySem PySem.Spec PyProof.Rows
open Srt (ltL)
def RV (H:Hp) (f:V->List Int) (vs:List V):Prop:=∀v∈vs,∃b,v=.ref b/\H b=some (.tup ((f v).map V.int))
def iG (K:AC):List V->Hp->VK->Prop:=λxs H Q=>∃p,xs=[.ref p]/\∃vs,(SqL K H p vs∨SqT K H p vs)/\∃f:V->List Int,RV H f vs /\
 ∀out,out.Perm vs->out.Pairwise (λx y=>ltL (f y) (f x)=false)->∀l,H l=none->Q (.ref l) (upd H l (.lst out))
theorem RV.rel {H:Hp} {f:V->List Int} {vs:List V} (h:RV H f vs):∀v∈vs,∀u,RelV v u->M6 H u=f v:=λv hv u r=>by
 obtain ⟨b,rfl,e⟩:=h v hv;cases r;show (match H b with | some (.tup xs)=>xs.map Hx | _=>[])=_;rw [e];exact HY _
theorem V2 {X:Cx} (hc:X.calm=true) (hu:X.A.units+64 < DL):Hq X (.builtin "sorted") (iG X.K):=by
 intro pins s σ H xs us Q I r h;obtain ⟨p,rfl,vs0,sq,src⟩:=h;obtain ⟨u,rfl,rx⟩:=vals1 r;cases rx;obtain ⟨vs,its,⟨f,rows,q⟩,rv,hz,col⟩:=Nd hc I (G:=λvs=>∃f:V->List Int,RV H f vs/\∀out,out.Perm vs->out.Pairwise (λx y=>ltL (f y) (f x)=false)->∀l,H l=none->Q (.ref l) (upd H l (.lst out))) (.inl ⟨vs0,sq,src⟩);refine IJ cE Yz Y0 (Y2 _) ?_;unfold Builtin.«sorted»;refine AA (m:=gW "sorted" 1 1 _) (AD (AA (col _ _ λg tk kp=>?_)));refine AA (N6 ?_ hz);have I1:Inv X pins σ H { s with heap:=g,toks:=tk }:=I.kept kp;have hl:(g.push (E3 "list" its.toArray 0)).get? g.objs.size=some (E3 "list" its.toArray 0):=AV _ rfl;refine AA (Bh (BJ Um ⟨_,hl,rfl⟩ TQ (Srt.IP (f:=M6 H) hl hz (λh2 s' keep=>?_) λout po so=>⟨_,rfl,AD ⟨_,rfl,?_⟩⟩) (Uu _)))
 ·refine Srt.VP (by simp only [Ay.in1];lia) (λu hu=>?_) (by intro e;subst e;simp at h2)
  obtain ⟨v,hv,r⟩:=LZ rv hu;rw [rows.rel v hv u r];obtain ⟨b,rfl,e⟩:=rows v hv;cases r;obtain ⟨_,is,r,o,ho,hcl,n,hd⟩:=(show Ca X.prog X.w H g b (.tup _) from I1.hok b _ e);exact ⟨b,is.toArray,rfl,⟨o,keep b o (Ad (AW ho)) (AF _ ho),hcl,n,hd⟩,by simpa using intsAre_of r⟩
 ·obtain ⟨vo,ro,pv⟩:=KH po.symm rv
  have so':vo.Pairwise (λx y=>ltL (f y) (f x)=false):=by
   have e:out.toList.map (M6 H)=vo.map f:=HN ro λa ha b rb=>rows.rel a (pv.mem_iff.mp ha) b rb
   have:=(BR (f:=M6 H) (R:=λx y=>ltL y x=false)).mpr so;rw [e] at this;exact BR.mp this
  obtain ⟨k,hk⟩:=XG (out:=out) hl
  have hlen:vo.length<=sizeLine:=by rw [pv.length_eq,rv.length];exact hz
  have I2:=I1.laid (a:=g.objs.size) (o:=.lst vo) (t':=tk) (h':=OT (g.push (E3 "list" its.toArray 0)) g.objs.size its out)
   (λb u z=>by
    have lt:b < g.objs.size:=AW z;rw [Ul (Ad lt) (by rw [gK];exact CG lt)]
    exact AF _ z) (AM _) ⟨hlen,out.toList,k,ro,hk⟩
  exact ⟨.ref g.objs.size,_,I2,rfl,q vo pv so' _ (I1.hok.fresh (AM _))⟩
def MH:List D->Option (List (List Int))
 | []=>some []
 | .tup ds :: r=>match G2 ds,MH r with
  | some ns,some rs=>some (ns :: rs)
  | _,_=>none
 | _ :: _=>none
theorem Tp:∀ {ds:List D} {rs:List (List Int)},MH ds=some rs->ds=rs.map Ij
 | [],_,h=>by cases h;rfl
 | .tup ts :: ds,rs,h=>by
  unfold MH at h;split at h
  ·rename_i ns rs' h1 h2
   cases h;rw [Tp h2,Iu h1];rfl
  ·cases h
 | .non :: _,_,h=>by cases h
 | .bl _ :: _,_,h=>by cases h
 | .int _ :: _,_,h=>by cases h
 | .str _ :: _,_,h=>by cases h
 | .fro _ :: _,_,h=>by cases h
 | .ref _ :: _,_,h=>by cases h
 | .exc _ :: _,_,h=>by cases h
theorem Q2 {K:AC} {ρ:List AI} {H:Hp}:∀ {rs:List (List Int)} {vs:List V},Ao K ρ H (rs.map Ij) vs->vs.map (Js H)=rs/\RV H (Js H) vs
 | [],_,.nil=>⟨rfl,λv hv=>nomatch hv⟩
 | ns :: rs,_,.cons r t=>by
  obtain ⟨i1,i2⟩:=Q2 t
  cases r with
  | @tup _ b ws hb rr=>
   have:=rr.ints;subst this
   have e:Js H (.ref b)=ns:=by
    show (match H b with | some (.tup xs)=>xs.map Hx | _=>[])=_;rw [hb];exact HY _
   refine ⟨by rw [An,e,i1],λv hv=>?_⟩
   rcases Ax.mp hv with hv | hv
   ·subst hv
    exact ⟨b,rfl,by rw [e];exact hb⟩
   ·exact i2 v hv
theorem Q6 {K:AC} {ρ:List AI} {H:Hp}:∀ {vs:List V},RV H (Js H) vs->Ao K ρ H ((vs.map (Js H)).map Ij) vs
 | [],_=>.nil
 | v :: vs,h=>by
  obtain ⟨b,e,hb⟩:=h v Ae;refine .cons ?_ (Q6 λu hu=>h u (Ac _ hu));subst e;exact .tup hb (Ao.of_ints _)
def SL (m:ME):ME:=λe S=>(m e S).bind λd S1=>match Ge d S1 with
 | some ds=>match MH ds with
  | some rs=>.ok (.ref S1.length) (S1++[.lst ((GZ rs).map Ij)])
  | none=>.bad
 | none=>.bad
theorem bE {X:Cx} {E:EW} {e:Expr} {p pos:Pos} {m:ME} (hc:X.calm=true) (hu:X.A.units+64 < DL) (hg:Gl X "sorted") (hm:X.mg "sorted" = none) (h:GE X E e m) (he:AU [e] X.env=(false,Bg e X.env) :: AU [] X.env:=by rfl):GE X E (.Call (.Name "sorted" p) [e] [] pos) (SL m):=
 (Il (V2 hc hu) hg hm NM (D7 h Fm he) (by decide) (by decide) he rfl).imp λσ H Q ⟨ρ,l,S,hl,hs,hm⟩=>by
 refine ⟨ρ,l,S,hl,hs,hm.seq λd S1 hm ρ1 H1 x l1 s1 r1=>?_⟩
 cases hq:Ge d S1 with
 | none=>rw [hq] at hm;exact hm.elim
 | some ds=>
  rw [hq] at hm;dsimp only at hm
  cases hi:MH ds with
  | none=>rw [hi] at hm;exact hm.elim
  | some rs=>
   rw [hi] at hm;obtain ⟨q,xs,rfl,rr,sq⟩:=Ko s1 r1 hq;rw [Tp hi] at rr;obtain ⟨i1,i2⟩:=Q2 rr;refine ⟨q,rfl,xs,sq,Js H1,i2,λout po so q2 hq2=>?_⟩
   have e2:out.map (Js H1)=GZ rs:=by
    refine Kn ?_ (BR.mpr so) (Ih rs);have:=po.map (Js H1);rw [i1] at this;exact this.trans (FN rs).symm
   have rr2:Ao X.K ρ1 H1 ((GZ rs).map Ij) out:=by
    rw [<-e2]
    exact Q6 λv hv=>i2 v (po.mem_iff.mp hv)
   have le:Le X.K ρ1 H1 (ρ1++[q2]) (upd H1 q2 (.lst out)):=Le.alloc hq2;obtain ⟨s4,l4,at4⟩:=s1.alloc (ho:=.lst out) (o:=.lst ((GZ rs).map Ij)) hq2 ⟨_,Bd,rr2.mono le⟩;exact hm _ _ _ (l1.trans l4) s4 (.ref at4)
end L2
namespace PySem
open Sem (wp)
section
variable {prog:Al} {w:A2} {A:Ay} {E:AB->AE->Prop} {s:AE} {I:AI} {fp wr:List AI} {G:Array JC->Array JC->Prop} {n:Nat} {P:Nat->AB->Prop} {St:Nat->AE->Prop}
end
end PySem
namespace L2
open PySem PySem.Spec PyProof.Rows
section
variable {X:Cx} {E:EW} {e:Expr} {p p2 pos pos2:Pos} {m:ME} {te:TE}
end
section
variable {X:Cx} {E:EW} {a b c:Expr} {p pos:Pos} {ml:ML} {ta:TA} {tg:Expr}
end
end L2
namespace L4
open PySem L2
inductive Cel where
 | no | fz (o:Ob) | ow (i:Nat)
abbrev Fz:=Nat->Cel
inductive Sl where
 | u | v (d:D) | z (o:Ob) | y (o:Ob) | w (i:Nat) (o:Ob) | q (P:(Nat->Option Ob)->D->Prop)
def Sl.ok (S0:Sto) (F:Fz) (S:Sto):Sl->Option D->Prop
 | .u,_=>True
 | .v d,x=>x=some d
 | .z o,x=>∃n,x=some (.ref n)/\F n=.fz o
 | .y o,x=>∃n,x=some (.ref n)/\F n=.fz o/\S0.length<=n
 | .w i o,x=>∃n,x=some (.ref n)/\F n=.ow i/\S[n]?=some o
 | .q P,x=>∃d,x=some d/\∀L:Nat->Option Ob,(∀n o,F n=.fz o->L n=some o)->P L d
structure Vs (S0:Sto) (A:List Sl) (e:Lo) (F:Fz) (S:Sto):Prop where
 kp:Keeps S0 S
 fz:∀n o,F n=.fz o->S[n]?=some o
 ow:∀n i,F n=.ow i->S0.length<=n/\n < S.length
 hi:∀n,S.length<=n->F n=.no
 sl:∀(i:Nat) (a:Sl),A[i]?=some a->∃x,e[i]?=some x/\a.ok S0 F S x
def Fle (F F':Fz):Prop:=∀n o,F n=.fz o->F' n=.fz o
theorem Fle.refl (F:Fz):Fle F F:=λ_ _ h=>h
theorem Fle.trans {F G H:Fz} (a:Fle F G) (b:Fle G H):Fle F H:=λn o h=>b n o (a n o h)
def Sg (F:Fz) (S S':Sto):Fz:=λn=>if n < S.length then F n else match S'[n]? with
 | some o=>.fz o
 | none=>.no
section
variable {S0 S S':Sto} {A B:List Sl} {e:Lo} {F:Fz} {α β γ ρ σ τ:Type}
theorem Fy {n:Nat} (h:n < S.length):Sg F S S' n=F n:=qX h
theorem CV {n:Nat} {o:Ob} (h:S[n]?=some o):n < S.length:=(AK.mp h).1
theorem Sl.mono {S0:Sto} {F F':Fz} {S S':Sto} {a:Sl} {x:Option D} (h:a.ok S0 F S x) (h1:∀n o,F n=.fz o->F' n=.fz o) (h2:∀n i o,F n=.ow i->S[n]?=some o->F' n=.ow i/\S'[n]?=some o):a.ok S0 F' S' x:=by
 cases a with
 | u=>trivial
 | v d=>exact h
 | z o=>obtain ⟨n,h3,h4⟩:=h;exact ⟨n,h3,h1 _ _ h4⟩
 | y o=>obtain ⟨n,h3,h4,h5⟩:=h;exact ⟨n,h3,h1 _ _ h4,h5⟩
 | w i o=>obtain ⟨n,h3,h4,h5⟩:=h;exact ⟨n,h3,h2 _ _ _ h4 h5⟩
 | q P=>obtain ⟨d,h3,h4⟩:=h;exact ⟨d,h3,λL hL=>h4 L λn o q=>hL n o (h1 n o q)⟩
theorem Vs.fle (h:Vs S0 A e F S) (S':Sto):Fle F (Sg F S S'):=λn o q=>by rw [Fy (CV (h.fz n o q))];exact q
theorem Vs.grow (h:Vs S0 A e F S) (k:Keeps S S'):Vs S0 A e (Sg F S S') S':=by
 refine ⟨h.kp.trans k,λn o q=>?_,λn i q=>?_,λn hn=>?_,λi a ha=>?_⟩
 ·unfold Sg at q
  split at q
  ·rename_i hn
   rw [k.2 n hn];exact h.fz n o q
  ·cases hs:S'[n]? with
   | none=>rw [hs] at q;cases q
   | some o'=>rw [hs] at q;cases q;rfl
 ·unfold Sg at q
  split at q
  ·exact ⟨(h.ow n i q).1,Ab (h.ow n i q).2 k.1⟩
  ·cases hs:S'[n]? with
   | none=>rw [hs] at q;cases q
   | some o'=>rw [hs] at q;cases q
 ·unfold Sg
  rw [qY (II.mpr (As k.1 hn)),Bx hn]
 ·obtain ⟨x,h1,h2⟩:=h.sl i a ha
  exact ⟨x,h1,Sl.mono h2 (h.fle S') λn i o q1 q2=>⟨by rw [Fy (CV q2)];exact q1,by rw [k.2 n (CV q2)];exact q2⟩⟩
theorem Vs.cons (h:Vs S0 A e F S) {a:Sl} {x:Option D} (hx:a.ok S0 F S x):Vs S0 (a :: A) (x :: e) F S:=
 ⟨h.kp,h.fz,h.ow,h.hi,λi b hb=>by
  cases i with
  | zero=>cases hb;exact ⟨x,rfl,hx⟩
  | succ i=>exact h.sl i b hb⟩
theorem Vs.set (h:Vs S0 A e F S) {a:Sl} {x:Option D} (i:Nat) (hx:a.ok S0 F S x):Vs S0 (A.set i a) (e.set i x) F S:=
 ⟨h.kp,h.fz,h.ow,h.hi,λj b hb=>by
  by_cases c:i=j
  ·subst c
   rw [GY] at hb;rw [qX rfl] at hb;split at hb
   ·rename_i hl
    cases hb;obtain ⟨y,hy,_⟩:=h.sl i (A[i]) (A0 hl);exact ⟨x,by rw [GY];rw [qX rfl,qX (AK.mp hy).1],hx⟩
   ·cases hb
  ·rw [A8 c] at hb ⊢
   exact h.sl j b hb⟩
inductive Wk:List Sl->List Sl->Prop where
 | nil:Wk [] []
 | same {a:Sl} {A B:List Sl}:Wk A B->Wk (a :: A) (a :: B)
 | drop {a:Sl} {A B:List Sl}:Wk A B->Wk (a :: A) (.u :: B)
 | less {o:Ob} {A B:List Sl}:Wk A B->Wk (.y o :: A) (.z o :: B)
theorem Wk.at:∀ {A B:List Sl},Wk A B->∀(i:Nat) (b:Sl),B[i]?=some b->∃a,A[i]?=some a/\(b=.u∨b=a∨∃o,a=.y o/\b=.z o)
 | _,_,.nil,i,b,h=>by simp at h
 | _,_,.same w,0,b,h=>by cases h;exact ⟨_,rfl,.inr (.inl rfl)⟩
 | _,_,.less w,0,b,h=>by cases h;exact ⟨_,rfl,.inr (.inr ⟨_,rfl,rfl⟩)⟩
 | _,_,.less w,i+1,b,h=>Wk.at w i b h
 | _,_,.drop w,0,b,h=>by cases h;exact ⟨_,rfl,.inl rfl⟩
 | _,_,.same w,i+1,b,h=>Wk.at w i b h
 | _,_,.drop w,i+1,b,h=>Wk.at w i b h
theorem Vs.weak (h:Vs S0 A e F S) (w:Wk A B):Vs S0 B e F S:=⟨h.kp,h.fz,h.ow,h.hi,λi b hb=>by
 obtain ⟨a,h1,h2⟩:=w.at i b hb;obtain ⟨x,h3,h4⟩:=h.sl i a h1
 rcases h2 with rfl | rfl | ⟨o,rfl,rfl⟩
 ·exact ⟨x,h3,trivial⟩
 ·exact ⟨x,h3,h4⟩
 ·obtain ⟨n,h5,h6,_⟩:=h4
  exact ⟨x,h3,n,h5,h6⟩⟩
def Sl.oth (i:Nat):Sl->Bool
 | .w k _=>!(Nat.beq k i)
 | _=>true
theorem ik {i j k:Nat} {o:Ob} (h:((A.set i .u).all (Sl.oth i))=true) (hj:j≠i) (ha:A[j]?=some (.w k o)):k≠i:=by
 have h1:(A.set i .u)[j]?=some (.w k o):=by rw [A8 (Bl hj)];exact ha
 have:=D2.mp h _ (Bp h1);intro e;subst e;have h2:(!(Nat.beq k k))=true:=this;rw [Nat.beq_refl] at h2;cases h2
theorem Vs.put (h:Vs S0 A e F S) {i n:Nat} {o o':Ob} (ht:((A.set i .u).all (Sl.oth i))=true) (ha:A[i]?=some (.w i o)) (hx:e[i]?=some (some (.ref n))) (hn:F n=.ow i):Vs S0 (A.set i (.w i o')) e F (S.set n o'):=by
 have hl:=h.ow n i hn;refine ⟨h.kp.set hl.1 o',λk q hq=>?_,λk j q=>by rw [Cw];exact h.ow k j q,λk hk=>h.hi k (by rw [Cw] at hk;exact hk),λj b hb=>?_⟩
 ·have:n≠k:=λc=>by subst c;rw [hn] at hq;cases hq
  rw [A8 this];exact h.fz k q hq
 ·by_cases c:i=j
  ·subst c
   rw [GY] at hb;rw [qX rfl] at hb;split at hb
   ·cases hb
    exact ⟨_,hx,n,rfl,hn,by rw [GY];rw [qX rfl,qX hl.2]⟩
   ·cases hb
  ·rw [A8 c] at hb
   obtain ⟨x,h1,h2⟩:=h.sl j b hb;refine ⟨x,h1,?_⟩
   cases b with
   | u=>trivial
   | v d=>exact h2
   | z q=>exact h2
   | y q=>exact h2
   | q P=>exact h2
   | w k q=>
    obtain ⟨m,h3,h4,h5⟩:=h2;refine ⟨m,h3,h4,?_⟩
    have:n≠m:=λz=>by
     subst z;rw [hn] at h4;cases h4;exact ik ht (λz=>c z.symm) hb rfl
    rw [A8 this];exact h5
theorem Vs.own (h:Vs S0 A e F S) (k:Keeps S S') {i n:Nat} {o:Ob} (hn:S.length<=n) (ho:S'[n]?=some o):∃F',Vs S0 (A.set i (.w i o)) (e.set i (some (.ref n))) F' S'/\Fle F F':=by
 have g:=h.grow k;have hnl:=CV ho
 have fl:Fle F (λj=>if j=n then Cel.ow i else Sg F S S' j):=λj q hq=>by
  have:j≠n:=λc=>by subst c;exact zX (CV (h.fz _ _ hq)) (II.mpr hn)
  show (if j=n then Cel.ow i else _)=_;rw [qY this];exact h.fle S' _ _ hq
 refine ⟨λj=>if j=n then .ow i else Sg F S S' j,(Vs.set (a:=.w i o) (x:=some (.ref n)) ⟨g.kp,λj q hq=>?_,λj q hq=>?_,λj hj=>?_,λj b hb=>?_⟩ i ⟨n,rfl,qX rfl,ho⟩),fl⟩
 ·split at hq
  ·cases hq
  ·exact g.fz j q hq
 ·split at hq
  ·rename_i c;subst c;exact ⟨As h.kp.1 hn,hnl⟩
  ·exact g.ow j q hq
 ·have:j≠n:=λc=>by subst c;exact zX hnl (II.mpr hj)
  show (if j=n then Cel.ow i else _)=_;rw [qY this];exact g.hi j hj
 ·obtain ⟨x,h1,h2⟩:=h.sl j b hb
  refine ⟨x,h1,Sl.mono h2 fl λm j q q1 q2=>?_⟩;have hm:=CV q2
  have:m≠n:=λc=>by subst c;exact zX hm (II.mpr hn)
  refine ⟨?_,by rw [k.2 m hm];exact q2⟩;show (if m=n then Cel.ow i else _)=_;rw [qY this,Fy hm];exact q1
abbrev Rk (α:Type):=α->Sto->D->Sto->Prop
def rV (enc:α->D):Rk α:=λv _ d _=>d=enc v
def rO (ob:α->Ob):Rk α:=λv _ d S=>∃n,d=.ref n/\S[n]?=some (ob v)
def rN (ob:α->Ob):Rk α:=λv S0 d S=>∃n,d=.ref n/\S0.length<=n/\S[n]?=some (ob v)
def VE (A:List Sl) (m:ME) (R:Rk α) (p:Option α):Prop:=∀v,p=some v->∀S0 e F S,Vs S0 A e F S->∃d S',m e S=.ok d S'/\Keeps S S'/\R v S d S'
def VB (A:List Sl) (t:MT) (p:Option Bool):Prop:=∀v,p=some v->∀S0 e F S,Vs S0 A e F S->∃S',t e S=.ok v S'/\Keeps S S'
def VL (A:List Sl) (ml:ML) (enc:α->D) (p:Option (List α)):Prop:=∀v,p=some v->∀S0 e F S,Vs S0 A e F S->∃S',ml e S=.ok (v.map enc) S'/\Keeps S S'
def VK (A:List Sl) (mi:MI) (enc:α->D) (p:Option (List α)):Prop:=∀v,p=some v->∀S0 e F S,Vs S0 A e F S->∃w S',mi e S=.ok w S'/\Keeps S S'/\∀S'',Keeps S' S''->w S''=some (v.map enc)
def VI (A:List Sl) (mi:MI) (enc:α->D) (p:Option (List α)):Prop:=∀v,p=some v->∀S0 e F S,Vs S0 A e F S->∃w S',mi e S=.ok w S'/\Keeps S S'/\∀F'' S'',Fle (Sg F S S') F''->(∀n o,F'' n=.fz o->S''[n]?=some o)->w S''=some (v.map enc)
theorem VI.k {mi:MI} {enc:α->D} {p:Option (List α)} (h:VI A mi enc p):VK A mi enc p:=λv hv S0 e F S hs=>by
 obtain ⟨w,S',h1,h2,h3⟩:=h v hv S0 e F S hs;have g:=hs.grow h2;exact ⟨w,S',h1,h2,λS'' k=>h3 _ S'' (g.fle S'') (g.grow k).fz⟩
def eT (enc:α->D) (l:List α):D:=.tup (l.map enc)
def eP (a:α->D) (b:β->D) (x:α×β):D:=.tup [a x.1,b x.2]
def eO (a:α->D):Option α->D
 | none=>.non
 | some x=>a x
def eU (_:Unit):D:=.non
def eF (l:List Int):D:=.fro (l.map D.int)
def oL (enc:α->D) (l:List α):Ob:=.lst (l.map enc)
theorem gv {m:ME} {R R':Rk α} {p:Option α} (h:VE A m R p) (i:∀v S d S',R v S d S'->R' v S d S'):VE A m R' p:=λv hv S0 e F S hs=>by
 obtain ⟨d,S',h1,h2,h3⟩:=h v hv S0 e F S hs;exact ⟨d,S',h1,h2,i _ _ _ _ h3⟩
theorem FF {m:ME} {ob:α->Ob} {p:Option α} (h:VE A m (rN ob) p):VE A m (rO ob) p:=gv h λv S d S' ⟨n,h1,_,h2⟩=>⟨n,h1,h2⟩
theorem A9 {enc:α->D} {v:α} {i:Nat} (h:A[i]?=some (.v (enc v))):VE A (AG i) (rV enc) (some v):=λ_ hv S0 e F S hs=>by
 cases hv;obtain ⟨x,h1,h2⟩:=hs.sl i _ h;cases h2;exact ⟨_,S,by unfold AG;rw [h1],Keeps.refl S,rfl⟩
theorem Gs {ob:α->Ob} {v:α} {i:Nat} (h:A[i]?=some (.z (ob v))):VE A (AG i) (rO ob) (some v):=λ_ hv S0 e F S hs=>by
 cases hv;obtain ⟨x,h1,n,rfl,h2⟩:=hs.sl i _ h;exact ⟨_,S,by unfold AG;rw [h1],Keeps.refl S,n,rfl,hs.fz _ _ h2⟩
theorem Cf {ob:α->Ob} {v:α} {i k:Nat} (h:A[i]?=some (.w k (ob v))):VE A (AG i) (rO ob) (some v):=λ_ hv S0 e F S hs=>by
 cases hv;obtain ⟨x,h1,n,rfl,h2,h3⟩:=hs.sl i _ h;exact ⟨_,S,by unfold AG;rw [h1],Keeps.refl S,n,rfl,h3⟩
theorem IM {enc:α->D} {v:α} {d:D} (h:d=enc v):VE A (mC d) (rV enc) (some v):=λ_ hv S0 e F S hs=>by
 cases hv;exact ⟨d,S,rfl,Keeps.refl S,h⟩
theorem BH {p:Option α} {q:α->Option β} {v:β} (h:p.bind q=some v):∃x,p=some x/\q x=some v:=Rf.mp h
theorem L8 {f:D->D->Sto->Res D} {a b:ME} {ea:α->D} {eb:β->D} {ec:γ->D} {pa:Option α} {pb:Option β} {g:α->β->Option γ} (ha:VE A a (rV ea) pa) (hb:VE A b (rV eb) pb)
  (hf:∀x y z S,g x y=some z->f (ea x) (eb y) S=.ok (ec z) S):VE A (m2 f a b) (rV ec) (pa.bind λx=>pb.bind λy=>g x y):=λv hv S0 e F S hs=>by
 obtain ⟨x,h1,hv⟩:=BH hv;obtain ⟨y,h2,h3⟩:=BH hv;obtain ⟨d1,S1,q1,k1,rfl⟩:=ha x h1 S0 e F S hs;obtain ⟨d2,S2,q2,k2,rfl⟩:=hb y h2 S0 e _ S1 (hs.grow k1);exact ⟨_,S2,Be q1 q2 (hf x y v S2 h3),k1.trans k2,rfl⟩
theorem ZI {f:D->D->Sto->Res D} {a b:ME} {ea:α->D} {ob:β->Ob} {ec:γ->D} {pa:Option α} {pb:Option β} {g:α->β->Option γ} (ha:VE A a (rV ea) pa) (hb:VE A b (rO ob) pb)
  (hf:∀x y z S (n:Nat),S[n]?=some (ob y)->g x y=some z->f (ea x) (.ref n) S=.ok (ec z) S):VE A (m2 f a b) (rV ec) (pa.bind λx=>pb.bind λy=>g x y):=λv hv S0 e F S hs=>by
 obtain ⟨x,h1,hv⟩:=BH hv;obtain ⟨y,h2,h3⟩:=BH hv;obtain ⟨d1,S1,q1,k1,rfl⟩:=ha x h1 S0 e F S hs;obtain ⟨d2,S2,q2,k2,n,rfl,hn⟩:=hb y h2 S0 e _ S1 (hs.grow k1);exact ⟨_,S2,Be q1 q2 (hf x y v S2 n hn h3),k1.trans k2,rfl⟩
theorem gw {f:D->D->Sto->Res D} {a b:ME} {ob:α->Ob} {eb:β->D} {ec:γ->D} {pa:Option α} {pb:Option β} {g:α->β->Option γ} (ha:VE A a (rO ob) pa) (hb:VE A b (rV eb) pb)
  (hf:∀x y z S (n:Nat),S[n]?=some (ob x)->g x y=some z->f (.ref n) (eb y) S=.ok (ec z) S):VE A (m2 f a b) (rV ec) (pa.bind λx=>pb.bind λy=>g x y):=λv hv S0 e F S hs=>by
 obtain ⟨x,h1,hv⟩:=BH hv;obtain ⟨y,h2,h3⟩:=BH hv;obtain ⟨d1,S1,q1,k1,n,rfl,hn⟩:=ha x h1 S0 e F S hs;obtain ⟨d2,S2,q2,k2,rfl⟩:=hb y h2 S0 e _ S1 (hs.grow k1);exact ⟨_,S2,Be q1 q2 (hf x y v S2 n (k2.at hn) h3),k1.trans k2,rfl⟩
theorem Kw {m:ME} {p:Option Bool} (h:VE A m (rV D.bl) p):VB A (mB m) p:=λv hv S0 e F S hs=>by
 obtain ⟨d,S',h1,h2,rfl⟩:=h v hv S0 e F S hs;exact ⟨S',Kz h1,h2⟩
theorem OJ:VB A GB (some true):=λv hv S0 e F S hs=>by cases hv;exact ⟨S,rfl,Keeps.refl S⟩
theorem ZQ {t:MT} {p:Option Bool} (h:VB A t p):VB A (N3 t) (p.bind λb=>some (!b)):=λv hv S0 e F S hs=>by
 obtain ⟨x,h1,h2⟩:=BH hv;cases h2;obtain ⟨S',h3,h4⟩:=h x h1 S0 e F S hs;exact ⟨S',Ve h3,h4⟩
theorem U7 {t u:MT} {p q:Option Bool} (h:VB A t p) (hu:VB A u q):VB A (QS t u) (p.bind λb=>if b=true then q else some false):=λv hv S0 e F S hs=>by
 obtain ⟨x,h1,h2⟩:=BH hv;obtain ⟨S1,h3,h4⟩:=h x h1 S0 e F S hs
 cases x with
 | true=>
  obtain ⟨S2,h5,h6⟩:=hu v h2 S0 e _ S1 (hs.grow h4);exact ⟨S2,(fQ h3).trans h5,h4.trans h6⟩
 | false=>cases h2;exact ⟨S1,fP h3,h4⟩
theorem Tv {enc:α->D}:∀(v:α) (S S1:Sto) (d:D) (S':Sto),S.length<=S1.length->rV enc v S1 d S'->rV enc v S d S':=λ_ _ _ _ _ _ h=>h
inductive Fw (ρ σ:Type) where
 | rt (r:ρ) | nx (s:σ) | bk (s:σ) | ct (s:σ)
def VG (S0:Sto) (F:Fz) (S':Sto) (R:Rk ρ) (B:σ->List Sl) (g:Fl):Fw ρ σ->Prop
 | .nx s=>∃e' F',g=.nx e'/\Vs S0 (B s) e' F' S'/\Fle F F'
 | .ct s=>∃e' F',g=.ct e'/\Vs S0 (B s) e' F' S'/\Fle F F'
 | .bk s=>∃e' F',g=.bk e'/\Vs S0 (B s) e' F' S'/\Fle F F'
 | .rt r=>∃d,g=.rt d/\R r S0 d S'/\Keeps S0 S'
def VS (A:List Sl) (b:MS) (R:Rk ρ) (p:Option (Fw ρ σ)) (B:σ->List Sl):Prop:=∀f,p=some f->∀S0 e F S,Vs S0 A e F S->∃g S',b e S=.ok g S'/\VG S0 F S' R B g f
def Cp (p:Option (Fw ρ σ)) (q:σ->Option (Fw ρ τ)):Option (Fw ρ τ):=match p with
 | some (.nx s)=>q s
 | some (.rt r)=>some (.rt r)
 | _=>none
theorem VG.up {S0:Sto} {F F1:Fz} {S':Sto} {R:Rk ρ} {B:σ->List Sl} {g:Fl} {f:Fw ρ σ} (l:Fle F F1) (h:VG S0 F1 S' R B g f):VG S0 F S' R B g f:=by
 cases f with
 | rt r=>exact h
 | nx s=>obtain ⟨e',F',h1,h2,h3⟩:=h;exact ⟨e',F',h1,h2,l.trans h3⟩
 | bk s=>obtain ⟨e',F',h1,h2,h3⟩:=h;exact ⟨e',F',h1,h2,l.trans h3⟩
 | ct s=>obtain ⟨e',F',h1,h2,h3⟩:=h;exact ⟨e',F',h1,h2,l.trans h3⟩
theorem Cd {a b:MS} {R:Rk ρ} {p:Option (Fw ρ σ)} {q:σ->Option (Fw ρ τ)} {B:σ->List Sl} {C:τ->List Sl} (ha:VS A a R p B) (hb:∀s,VS (B s) b R (q s) C):VS A (BY a b) R (Cp p q) C:=λf hf S0 e F S hs=>by
 cases p with
 | none=>cases hf
 | some w=>
  obtain ⟨g,S1,h1,h2⟩:=ha _ rfl S0 e F S hs
  cases w with
  | nx s=>
   obtain ⟨e1,F1,rfl,h2,h3⟩:=h2;obtain ⟨g2,S2,h4,h5⟩:=hb s f hf S0 e1 F1 S1 h2;exact ⟨g2,S2,(BU h1).trans h4,h5.up h3⟩
  | rt r=>
   cases hf;obtain ⟨d,rfl,h2,h3⟩:=h2;exact ⟨_,S1,Zq h1,d,rfl,h2,h3⟩
  | bk s=>cases hf
  | ct s=>cases hf
theorem Jh {R:Rk ρ} {B:σ->List Sl} {s:σ} (w:Wk A (B s)):VS A sNx R (some (.nx s)) B:=λf hf S0 e F S hs=>by
 cases hf;exact ⟨_,S,rfl,e,F,rfl,hs.weak w,Fle.refl F⟩
def Gi (g:σ->τ) (p:Option (Fw ρ σ)):Option (Fw ρ τ):=match p with
 | some (.nx s)=>some (.nx (g s))
 | some (.rt r)=>some (.rt r)
 | some (.bk s)=>some (.bk (g s))
 | some (.ct s)=>some (.ct (g s))
 | none=>none
theorem FL {b:MS} {R:Rk ρ} {p:Option (Fw ρ σ)} {g:σ->τ} {B:σ->List Sl} {C:τ->List Sl} (h:VS A b R p B) (w:∀s,Wk (B s) (C (g s))):VS A b R (Gi g p) C:=λf hf S0 e F S hs=>by
 cases p with
 | none=>cases hf
 | some x=>
  obtain ⟨g,S1,h1,h2⟩:=h _ rfl S0 e F S hs
  cases x with
  | nx s=>cases hf;obtain ⟨e1,F1,rfl,h2,h3⟩:=h2;exact ⟨_,S1,h1,e1,F1,rfl,h2.weak (w s),h3⟩
  | rt r=>cases hf;exact ⟨_,S1,h1,h2⟩
  | bk s=>cases hf;obtain ⟨e1,F1,rfl,h2,h3⟩:=h2;exact ⟨_,S1,h1,e1,F1,rfl,h2.weak (w s),h3⟩
  | ct s=>cases hf;obtain ⟨e1,F1,rfl,h2,h3⟩:=h2;exact ⟨_,S1,h1,e1,F1,rfl,h2.weak (w s),h3⟩
theorem Of {m:ME} {enc:α->D} {R:Rk ρ} {p:Option α} {i:Nat} (h:VE A m (rV enc) p):VS A (CB i m) R (p.bind λv=>some (.nx v)) (λv=>A.set i (.v (enc v))):=λf hf S0 e F S hs=>by
 obtain ⟨v,h1,h2⟩:=BH hf;cases h2;obtain ⟨d,S',h3,h4,rfl⟩:=h v h1 S0 e F S hs;exact ⟨_,S',D6 h3,_,_,rfl,(hs.grow h4).set i rfl,hs.fle S'⟩
theorem JF {m:ME} {ob:α->Ob} {R:Rk ρ} {p:Option α} {i:Nat} (h:VE A m (rN ob) p):VS A (CB i m) R (p.bind λv=>some (.nx v)) (λv=>A.set i (.w i (ob v))):=λf hf S0 e F S hs=>by
 obtain ⟨v,h1,h2⟩:=BH hf;cases h2;obtain ⟨d,S',h3,h4,n,rfl,h5,h6⟩:=h v h1 S0 e F S hs;obtain ⟨F',h7,h8⟩:=hs.own h4 (i:=i) h5 h6;exact ⟨_,S',D6 h3,_,F',rfl,h7,h8⟩
theorem IK {m:ME} {enc:ρ->D} {p:Option ρ} {B:σ->List Sl} (h:VE A m (rV enc) p):VS A (Fa m) (rV enc) (p.bind λv=>some (.rt v)) B:=λf hf S0 e F S hs=>by
 obtain ⟨v,h1,h2⟩:=BH hf;cases h2;obtain ⟨d,S',h3,h4,rfl⟩:=h v h1 S0 e F S hs;exact ⟨_,S',KG h3,_,rfl,rfl,hs.kp.trans h4⟩
theorem WQ {i:Nat} {ob:ρ->Ob} {v:ρ} {B:σ->List Sl} {k:Nat} (h:A[i]?=some (.w k (ob v))):VS A (Fa (AG i)) (rN ob) (some (.rt v)) B:=λf hf S0 e F S hs=>by
 cases hf;obtain ⟨x,h1,n,rfl,h2,h3⟩:=hs.sl i _ h;exact ⟨_,S,KG (d:=.ref n) (by unfold AG;rw [h1]),_,rfl,⟨n,rfl,(hs.ow _ _ h2).1,h3⟩,hs.kp⟩
theorem Ji {t:MT} {a b:MS} {R:Rk ρ} {pt:Option Bool} {p q:Option (Fw ρ σ)} {B:σ->List Sl} (ht:VB A t pt) (ha:VS A a R p B) (hb:VS A b R q B):VS A (sIf t a b) R (pt.bind λc=>if c=true then p else q) B:=λf hf S0 e F S hs=>by
 obtain ⟨c,h1,h2⟩:=BH hf;obtain ⟨S1,h3,h4⟩:=ht c h1 S0 e F S hs
 cases c with
 | true=>
  obtain ⟨g,S2,h5,h6⟩:=ha f h2 S0 e _ S1 (hs.grow h4);exact ⟨g,S2,(Hg h3).trans h5,h6.up (hs.fle S1)⟩
 | false=>
  obtain ⟨g,S2,h5,h6⟩:=hb f h2 S0 e _ S1 (hs.grow h4);exact ⟨g,S2,(Hg h3).trans h5,h6.up (hs.fle S1)⟩
def V8 (l:List α) (x:α):Option (List α):=if l.length < 1000000 then some (l++[x]) else none
def IT (l k:List α):Option (List α):=if l.length+k.length<=1000000 then some (l++k) else none
theorem iz {n:Nat} (h:n < 1000000):n < sizeLine:=Ab h (by decide)
theorem X0 {n:Nat} (h:n<=1000000):n<=sizeLine:=As h (by decide)
theorem U6 {m:ME} {enc:α->D} {R:Rk ρ} {p:Option α} {i:Nat} {l:List α} (hi:A[i]?=some (.w i (oL enc l))) (h:VE A m (rV enc) p) (ht:((A.set i .u).all (Sl.oth i))=true) :
  VS A (CY (GP (AG i) m)) R (p.bind λv=>(V8 l v).bind λl'=>some (.nx l')) (λl'=>A.set i (.w i (oL enc l'))):=λf hf S0 e F S hs=>by
 obtain ⟨v,h1,h2⟩:=BH hf;obtain ⟨l',h2,h0⟩:=BH h2;cases h0;unfold V8 at h2;split at h2
 ·rename_i hl
  cases h2;obtain ⟨x,g1,n,rfl,g2,g3⟩:=hs.sl i _ hi;obtain ⟨d,S',h3,h4,rfl⟩:=h v h1 S0 e F S hs;have hg:=hs.grow h4;have hx:=Kf (mo:=AG i) (e:=e) (S:=S) (S1:=S) (n:=n) (by unfold AG;rw [g1]) g3 h3 (h4.at g3) (by rw [AJ];exact iz hl);rw [show l.map enc++[enc v]=(l++[v]).map enc by simp] at hx;exact ⟨_,_,E0 hx,e,_,rfl,hg.put ht hi g1 (by rw [Fy (CV g3)];exact g2),hs.fle S'⟩
 ·cases h2
theorem gl {m:ME} {enc:α->D} {R:Rk ρ} {p:Option (List α)} {i:Nat} {l:List α} (hi:A[i]?=some (.w i (oL enc l))) (h:VE A m (rN (oL enc)) p) (ht:((A.set i .u).all (Sl.oth i))=true) :
  VS A (CY (MV (AG i) m)) R (p.bind λv=>(IT l v).bind λl'=>some (.nx l')) (λl'=>A.set i (.w i (oL enc l'))):=λf hf S0 e F S hs=>by
 obtain ⟨v,h1,h2⟩:=BH hf;obtain ⟨l',h2,h0⟩:=BH h2;cases h0;unfold IT at h2;split at h2
 ·rename_i hl
  cases h2;obtain ⟨x,g1,n,rfl,g2,g3⟩:=hs.sl i _ hi;obtain ⟨d,S',h3,h4,k,rfl,h5,h6⟩:=h v h1 S0 e F S hs;have hg:=hs.grow h4;have hx:=YK (mo:=AG i) (e:=e) (S:=S) (S1:=S) (n:=n) (by unfold AG;rw [g1]) g3 h3 (h4.at g3) h6 (λc=>by subst c;exact zX (CV g3) (II.mpr h5)) (by rw [AJ,AJ];exact X0 hl);rw [<-BM] at hx;exact ⟨_,_,E0 hx,e,_,rfl,hg.put ht hi g1 (by rw [Fy (CV g3)];exact g2),hs.fle S'⟩
 ·cases h2
theorem cf {m:ME} {enc:α->D} {R:Rk ρ} {p:Option (List α)} {i:Nat} {l:List α} (hi:A[i]?=some (.w i (oL enc l))) (h:VE A m (rV (eT enc)) p) (ht:((A.set i .u).all (Sl.oth i))=true) :
  VS A (CY (UB (AG i) m)) R (p.bind λv=>(IT l v).bind λl'=>some (.nx l')) (λl'=>A.set i (.w i (oL enc l'))):=λf hf S0 e F S hs=>by
 obtain ⟨v,h1,h2⟩:=BH hf;obtain ⟨l',h2,h0⟩:=BH h2;cases h0;unfold IT at h2;split at h2
 ·rename_i hl
  cases h2;obtain ⟨x,g1,n,rfl,g2,g3⟩:=hs.sl i _ hi;obtain ⟨d,S',h3,h4,rfl⟩:=h v h1 S0 e F S hs;have hg:=hs.grow h4
  have hx:UB (AG i) m e S=.ok .non (S'.set n (.lst ((l++v).map enc))):=by
   unfold UB;rw [show AG i e S=.ok (.ref n) S by unfold AG;rw [g1]];dsimp only [Res.bind];rw [show atL (.ref n) S=some (n,l.map enc) by unfold atL;dsimp only;rw [g3];rfl];dsimp only;rw [h3];dsimp only;rw [show atL (.ref n) S'=some (n,l.map enc) by unfold atL;dsimp only;rw [h4.at g3];rfl];unfold eT;dsimp only;rw [qX (by rw [AJ,AJ];exact X0 hl),BM]
  exact ⟨_,_,E0 hx,e,_,rfl,hg.put ht hi g1 (by rw [Fy (CV g3)];exact g2),hs.fle S'⟩
 ·cases h2
theorem cg {m:ME} {Rm:Rk α} {R:Rk ρ} {p:Option α} (h:VE A m Rm p):VS A (CY m) R (p.bind λ_=>some (.nx ())) (λ_:Unit=>A):=λf hf S0 e F S hs=>by
 obtain ⟨v,h1,h2⟩:=BH hf;cases h2;obtain ⟨d,S',h3,h4,_⟩:=h v h1 S0 e F S hs;exact ⟨_,S',E0 h3,e,_,rfl,hs.grow h4,hs.fle S'⟩
def VT (g:MG) (enc:α->D) (t:α->List Sl->List Sl):Prop:=∀x S0 A e F S,Vs S0 A e F S->∃e',g (enc x) e S=.ok e' S/\Vs S0 (t x A) e' F S
theorem Kk {enc:α->D} {i:Nat}:VT (tgN i) enc (λx A=>A.set i (.v (enc x))):=λx S0 A e F S hs=>⟨_,rfl,hs.set (a:=.v (enc x)) i rfl⟩
theorem cX {a:α->D} {b:β->D} {i j:Nat}:VT (Jj 2 (Df (tgN i) (Df (tgN j) KA))) (eP a b) (λx A=>(A.set i (.v (a x.1))).set j (.v (b x.2))):=λx S0 A e F S hs=>⟨_,rfl,(hs.set (a:=.v (a x.1)) i rfl).set (a:=.v (b x.2)) j rfl⟩
def GR:List α->σ->(σ->α->Option (Fw ρ σ))->Option (Fw ρ σ)
 | [],s,_=>some (.nx s)
 | x :: l,s,q=>match q s x with
  | some (.nx s')=>GR l s' q
  | some (.ct s')=>GR l s' q
  | some (.bk s')=>some (.nx s')
  | some (.rt r)=>some (.rt r)
  | none=>none
theorem cb {enc:α->D} {g:MG} {t:α->List Sl->List Sl} {b:MS} {R:Rk ρ} {q:σ->α->Option (Fw ρ σ)} {B:σ->List Sl} (hg:VT g enc t) (hb:∀s x,VS (t x (B s)) b R (q s x) B) {w:IU} {S0:Sto} {F1:Fz} {full:List α}
  (hw:∀F'' S'',Fle F1 F''->(∀n o,F'' n=.fz o->S''[n]?=some o)->w S''=some (full.map enc)):∀(l:List α) (k:Nat),full.drop k=l->∀(s:σ) (f:Fw ρ σ),GR l s q=some f->∀e F S,Vs S0 (B s) e F S->Fle F1 F->∃h S',JW w g b (l.length) k e S=.ok h S'/\VG S0 F1 S' R B h f:=by
 intro l
 induction l with
 | nil=>
  intro k hk s f hf e F S hs hF;cases hf
  have:full.length<=k:=by
   have:=congrArg IZ hk;rw [D1,EJ] at this
   lia
  refine ⟨_,S,?_,e,F,rfl,hs,hF⟩;unfold JW;rw [hw F S hF hs.fz];dsimp only;rw [Bx (by rw [AJ];exact this)]
 | cons x l ih=>
  intro k hk s f hf e F S hs hF
  have hx:full[k]?=some x:=by
   have:=congrArg (λz=>z[0]?) hk;rw [Hz] at this;simpa using this
  have hk':full.drop (k+1)=l:=by
   have e1:full.drop (k+1)=(full.drop k).drop 1:=by rw [Qk]
   exact e1.trans (congrArg (List.drop 1) hk)
  obtain ⟨e1,g1,g2⟩:=hg x S0 _ e F S hs
  have run:∀h S',b e1 S=.ok h S'->JW w g b ((x :: l).length) k e S=(match h with
    | .nx e2=>JW w g b l.length (k+1) e2 S'
    | .ct e2=>JW w g b l.length (k+1) e2 S'
    | .bk e2=>.ok (.nx e2) S'
    | .rt d=>.ok (.rt d) S'
    | .ex c e2=>.ok (.ex c e2) S'):=λh S' hb'=>by
   show JW w g b (l.length+1) k e S=_
   conv=>lhs;unfold JW
   rw [hw F S hF hs.fz];dsimp only;rw [Ag,hx];dsimp only [Lq];rw [g1];dsimp only [Res.bind];rw [hb']
   all_goals (cases h <;> rfl)
  unfold GR at hf;split at hf
  ·rename_i s' hq
   obtain ⟨h,S1,h1,e2,F2,rfl,h2,h3⟩:=hb s x _ hq S0 e1 F S g2;rw [run _ _ h1];exact ih (k+1) hk' s' f hf e2 F2 S1 h2 (hF.trans h3)
  ·rename_i s' hq
   obtain ⟨h,S1,h1,e2,F2,rfl,h2,h3⟩:=hb s x _ hq S0 e1 F S g2;rw [run _ _ h1];exact ih (k+1) hk' s' f hf e2 F2 S1 h2 (hF.trans h3)
  ·rename_i s' hq
   cases hf;obtain ⟨h,S1,h1,e2,F2,rfl,h2,h3⟩:=hb s x _ hq S0 e1 F S g2;rw [run _ _ h1];exact ⟨_,S1,rfl,e2,F2,rfl,h2,hF.trans h3⟩
  ·rename_i r hq
   cases hf;obtain ⟨h,S1,h1,d,rfl,h2,h3⟩:=hb s x _ hq S0 e1 F S g2;rw [run _ _ h1];exact ⟨_,S1,rfl,d,rfl,h2,h3⟩
  ·cases hf
theorem LV {enc:α->D} {mi:MI} {g:MG} {t:α->List Sl->List Sl} {b:MS} {R:Rk ρ} {p:Option (List α)} {q:σ->α->Option (Fw ρ σ)} {B:σ->List Sl} {s0:σ} (hi:VI A mi enc p) (hg:VT g enc t) (w0:Wk A (B s0)) (hb:∀s x,VS (t x (B s)) b R (q s x) B) :
  VS A (Gz mi g b) R (p.bind λl=>GR l s0 q) B:=λf hf S0 e F S hs=>by
 obtain ⟨l,h1,h2⟩:=BH hf;obtain ⟨w,S1,h3,h4,h5⟩:=hi l h1 S0 e F S hs;have hg1:=hs.grow h4
 have hl:C4 w S1=l.length:=by unfold C4;rw [h5 _ S1 (Fle.refl _) hg1.fz];exact AJ _
 obtain ⟨h,S2,h6,h7⟩:=cb hg hb h5 l 0 rfl s0 f h2 e _ S1 (hg1.weak w0) (Fle.refl _);refine ⟨h,S2,?_,h7.up (hs.fle S1)⟩;rw [IS h3,hl];exact h6
def Pl (c:α->Option Bool) (m:α->Option β):List α->Option (List β)
 | []=>some []
 | x :: l=>(c x).bind λb=>if b=true then (m x).bind λy=>(Pl c m l).bind λys=>some (y :: ys) else Pl c m l
def Jl (l:List α) (c:α->Option Bool) (m:α->Option β):Option (List β):=if l.length<=1000000 then Pl c m l else none
theorem ZE {enc:α->D} {eb:β->D} {g:MG} {P:List (Option D)->Prop} {T:α->List Sl} {c:MT} {m:ME} {pc:α->Option Bool} {pm:α->Option β}
  (hg:∀x S0 e F S pre,P pre->Vs S0 A e F S->∃pre',g (enc x) (pre++e) S=.ok (pre'++e) S/\P pre'/\Vs S0 (T x) (pre'++e) F S)
  (hc:∀x,VB (T x) c (pc x)) (hm:∀x,VE (T x) m (rV eb) (pm x)) {w:IU} {S0:Sto} {e:Lo} {full:List α} {S1:Sto} (hf:full.length<=1000000) (hw:∀S'',Keeps S1 S''->w S''=some (full.map enc)) :
  ∀(l:List α) (k:Nat),full.drop k=l->∀(r:List β),Pl pc pm l=some r->∀pre F S acc,P pre->Vs S0 A e F S->Keeps S1 S->acc.length<=k->∃S',FW w g c m l.length k (pre++e) S acc=.ok (acc++r.map eb) S'/\Keeps S S':=by
 intro l
 induction l with
 | nil=>
  intro k hk r hr pre F S acc hp hs hk1 ha;cases hr
  have:full.length<=k:=by
   have:=congrArg IZ hk;rw [D1,EJ] at this
   lia
  refine ⟨S,?_,Keeps.refl S⟩;unfold FW;rw [hw S hk1];dsimp only;rw [Bx (by rw [AJ];exact this),NR,B6]
 | cons x l ih=>
  intro k hk r hr pre F S acc hp hs hk1 ha
  have hx:full[k]?=some x:=by
   have:=congrArg (λz=>z[0]?) hk;rw [Hz] at this;simpa using this
  have hk':full.drop (k+1)=l:=by
   have e1:full.drop (k+1)=(full.drop k).drop 1:=by rw [Qk]
   exact e1.trans (congrArg (List.drop 1) hk)
  have hkl:k < full.length:=(AK.mp hx).1;obtain ⟨pre',g1,g2,g3⟩:=hg x S0 e F S pre hp hs;unfold Pl at hr;obtain ⟨b,h1,h2⟩:=BH hr;obtain ⟨S2,h3,h4⟩:=hc x b h1 S0 _ F S g3;have hs2:=hs.grow h4
  show ∃S',FW w g c m (l.length+1) k (pre++e) S acc=_/\_
  conv=>arg 1;ext S';arg 1;lhs;unfold FW
  rw [hw S hk1];dsimp only;rw [Ag,hx];dsimp only [Lq];rw [qX (B5 ha (iz (Ab hkl hf))),g1];dsimp only [okR,Res.bind];rw [h3];dsimp only [okR,Res.bind]
  cases b with
  | true=>
   rw [qX rfl] at h2 ⊢;obtain ⟨y,h5,h6⟩:=BH h2;obtain ⟨ys,h6',h7⟩:=BH h6;cases h7;obtain ⟨d,S3,h8,h9,rfl⟩:=hm x y h5 S0 _ _ S2 (g3.grow h4);rw [h8];obtain ⟨S4,q1,q2⟩:=ih (k+1) hk' ys h6' pre' _ S3 (acc++[eb y]) g2 (hs2.grow h9) (hk1.trans (h4.trans h9)) (by rw [Af,Bi];lia);refine ⟨S4,?_,(h4.trans h9).trans q2⟩;show FW w g c m l.length (k+1) (pre'++e) S3 (acc++[eb y])=_;rw [q1,BC];rfl
  | false=>
   rw [qY AO] at h2 ⊢;obtain ⟨S4,q1,q2⟩:=ih (k+1) hk' r h2 pre' _ S2 acc g2 hs2 (hk1.trans h4) (by lia);exact ⟨S4,q1,h4.trans q2⟩
theorem ci {enc:α->D} {eb:β->D} {n:Nat} {mi:MI} {g:MG} {P:List (Option D)->Prop} {T:α->List Sl} {c:MT} {m:ME} {p:Option (List α)} {pc:α->Option Bool} {pm:α->Option β} (hi:VK A mi enc p) (h0:P (BF n none))
  (hg:∀x S0 e F S pre,P pre->Vs S0 A e F S->∃pre',g (enc x) (pre++e) S=.ok (pre'++e) S/\P pre'/\Vs S0 (T x) (pre'++e) F S)
  (hc:∀x,VB (T x) c (pc x)) (hm:∀x,VE (T x) m (rV eb) (pm x)):VL A (Fp n mi g c m) eb (p.bind λl=>Jl l pc pm):=λr hr S0 e F S hs=>by
 obtain ⟨l,h1,h2⟩:=BH hr;obtain ⟨w,S1,h3,h4,h5⟩:=hi l h1 S0 e F S hs;unfold Jl at h2;split at h2
 ·rename_i hl
  have hs1:=hs.grow h4;obtain ⟨S2,h6,h7⟩:=ZE hg hc hm hl h5 l 0 rfl r h2 _ _ S1 [] h0 hs1 (Keeps.refl _) (AM _);refine ⟨S2,?_,h4.trans h7⟩;rw [OR h3,show C4 w S1=l.length by unfold C4;rw [h5 S1 (Keeps.refl _)];exact AJ _];exact h6
 ·cases h2
theorem L6 {enc:α->D} {eb:β->D} {mi:MI} {c:MT} {m:ME} {p:Option (List α)} {pc:α->Option Bool} {pm:α->Option β} (hi:VK A mi enc p) (hc:∀x,VB (.v (enc x) :: A) c (pc x)) (hm:∀x,VE (.v (enc x) :: A) m (rV eb) (pm x)) :
  VL A (Fp 1 mi (tgN 0) c m) eb (p.bind λl=>Jl l pc pm):=
 ci (P:=λpre=>∃z,pre=[z]) hi ⟨none,rfl⟩ (λx S0 e F S pre hp hs=>by
  obtain ⟨z,rfl⟩:=hp
  exact ⟨[some (enc x)],rfl,⟨_,rfl⟩,hs.cons (a:=.v (enc x)) rfl⟩) hc hm
theorem FM {ml:ML} {enc:α->D} {p:Option (List α)} (h:VL A ml enc p):VE A (C5 ml) (rN (oL enc)) p:=λv hv S0 e F S hs=>by
 obtain ⟨S',h1,h2⟩:=h v hv S0 e F S hs;exact ⟨_,_,KJ h1,h2.trans (Keeps.app _ _),_,rfl,h2.1,CF _ _⟩
inductive Ar where
 | v (d:D) | z (o:Ob) | q (P:(Nat->Option Ob)->D->Prop)
def Ar.ok (S:Sto):Ar->D->Prop
 | .v d,x=>x=d
 | .z o,x=>∃n,x=.ref n/\S[n]?=some o
 | .q P,x=>∀L:Nat->Option Ob,(∀n o,S[n]?=some o->L n=some o)->P L x
def Ar.sl:Ar->Sl
 | .v d=>.v d
 | .z o=>.z o
 | .q P=>.q P
def LN (S:Sto):List Ar->List D->Prop
 | [],[]=>True
 | a :: as,d :: ds=>a.ok S d/\LN S as ds
 | _,_=>False
theorem LN.len {S:Sto}:∀ {as:List Ar} {ds:List D},LN S as ds->ds.length=as.length
 | [],[],_=>rfl
 | _ :: as,_ :: ds,h=>by rw [Aq,Aq,LN.len h.2]
 | [],_ :: _,h=>h.elim
 | _ :: _,[],h=>h.elim
theorem LN.at {S:Sto}:∀ {as:List Ar} {ds:List D},LN S as ds->∀(i:Nat) (a:Ar),as[i]?=some a->∃d,ds[i]?=some d/\a.ok S d
 | [],[],_,i,a,h=>by simp at h
 | b :: as,d :: ds,h,0,a,q=>by cases q;exact ⟨d,rfl,h.1⟩
 | b :: as,d :: ds,h,i+1,a,q=>LN.at h.2 i a q
 | [],_ :: _,h,_,_,_=>h.elim
 | _ :: _,[],h,_,_,_=>h.elim
def VF (f:List D->Sto->Res D) (as:List Ar) (R:Rk α) (p:Option α):Prop:=∀v,p=some v->∀S ds,LN S as ds->∃d S',f ds S=.ok d S'/\Keeps S S'/\R v S d S'
def VA (A:List Sl) (ml:ML) (p:Option γ) (ar:γ->List Ar):Prop:=∀v,p=some v->∀S0 e F S,Vs S0 A e F S->∃ds S',ml e S=.ok ds S'/\Keeps S S'/\LN S' (ar v) ds
theorem Op:VA A A1 (some ()) (λ_=>[]):=λv hv S0 e F S hs=>⟨[],S,rfl,Keeps.refl S,trivial⟩
theorem XY {m:ME} {ml:ML} {enc:α->D} {p:Option α} {q:Option γ} {ar:γ->List Ar} (h:VE A m (rV enc) p) (hl:VA A ml q ar):VA A (AX m ml) (p.bind λx=>q.bind λy=>some (x,y)) (λz=>.v (enc z.1) :: ar z.2):=λv hv S0 e F S hs=>by
 obtain ⟨x,h1,h2⟩:=BH hv;obtain ⟨y,h2',h3⟩:=BH h2;cases h3;obtain ⟨d,S1,h4,h5,rfl⟩:=h x h1 S0 e F S hs;obtain ⟨ds,S2,h6,h7,h8⟩:=hl y h2' S0 e _ S1 (hs.grow h5);exact ⟨_,S2,Bv h4 h6,h5.trans h7,rfl,h8⟩
theorem ZS {m:ME} {ml:ML} {ob:α->Ob} {p:Option α} {q:Option γ} {ar:γ->List Ar} (h:VE A m (rO ob) p) (hl:VA A ml q ar):VA A (AX m ml) (p.bind λx=>q.bind λy=>some (x,y)) (λz=>.z (ob z.1) :: ar z.2):=λv hv S0 e F S hs=>by
 obtain ⟨x,h1,h2⟩:=BH hv;obtain ⟨y,h2',h3⟩:=BH h2;cases h3;obtain ⟨d,S1,h4,h5,n,rfl,h0⟩:=h x h1 S0 e F S hs;obtain ⟨ds,S2,h6,h7,h8⟩:=hl y h2' S0 e _ S1 (hs.grow h5);exact ⟨_,S2,Bv h4 h6,h5.trans h7,⟨n,rfl,h7.at h0⟩,h8⟩
theorem L9 {f:List D->Sto->Res D} {n:Nat} {ml:ML} {p:Option γ} {ar:γ->List Ar} {R:Rk α} {q:γ->Option α} (ha:VA A ml p ar) (hf:∀z,VF f (ar z) R (q z)) (hn:∀z,(ar z).length=n) (hR:∀v S S1 d S',S.length<=S1.length->R v S1 d S'->R v S d S'):VE A (B3 n f ml) R (p.bind q):=λv hv S0 e F S hs=>by
 obtain ⟨z,h1,h2⟩:=BH hv;obtain ⟨ds,S1,h3,h4,h5⟩:=ha z h1 S0 e F S hs;obtain ⟨d,S2,h6,h7,h8⟩:=hf z v h2 S1 ds h5;exact ⟨d,S2,(EA h3 (h5.len.trans (hn z))).trans h6,h4.trans h7,hR _ _ _ _ _ h4.1 h8⟩
def Jm (S:Sto):Fz:=λn=>match S[n]? with
 | some o=>.fz o
 | none=>.no
theorem Vs.start {as:List Ar} {ds:List D} {n:Nat} (h:LN S as ds):Vs S (as.map Ar.sl++BF (n - as.length) .u) (E4 n ds) (Jm S) S:=by
 refine ⟨Keeps.refl S,λn o q=>?_,λn i q=>?_,λn hn=>by unfold Jm;rw [Bx hn],λi a ha=>?_⟩
 ·unfold Jm at q
  split at q
  ·rename_i o' ho;cases q;exact ho
  ·cases q
 ·unfold Jm at q
  split at q <;> cases q
 ·unfold E4
  by_cases c:i < as.length
  ·rw [Ah (by rw [AJ];exact c),Ag] at ha
   rw [Ah (by rw [AJ,h.len];exact c),Ag]
   cases hq:as[i]? with
   | none=>rw [hq] at ha;cases ha
   | some b=>
    rw [hq] at ha;cases ha;obtain ⟨d,h1,h2⟩:=h.at i b hq;refine ⟨some d,by rw [h1];rfl,?_⟩
    cases b with
    | v x=>exact congrArg some h2
    | z o=>obtain ⟨m,h3,h4⟩:=h2;exact ⟨m,congrArg some h3,by unfold Jm;rw [h4]⟩
    | q P=>exact ⟨d,rfl,λL hL=>h2 L λn o q=>hL n o (by unfold Jm;rw [q])⟩
  ·rw [BB (by rw [AJ];lia)] at ha
   rw [AJ,Ct] at ha;split at ha
   ·rename_i hlt
    cases ha;refine ⟨none,?_,trivial⟩;rw [BB (by rw [AJ,h.len];lia),AJ,h.len,Ct,qX hlt]
   ·cases ha
def O7 (p:Option (Fw ρ σ)):Option ρ:=match p with
 | some (.rt r)=>some r
 | _=>none
def dn (p:Option (Fw Unit σ)):Option Unit:=match p with
 | some (.rt r)=>some ()
 | some (.nx _)=>some ()
 | _=>none
end
section
variable {S0 S S':Sto} {A B:List Sl} {e:Lo} {F:Fz} {α β γ δ ρ σ τ:Type}
section
variable {a b c:ME} {pa pb pc:Option Int}
theorem ZP (ha:VE A a (rV D.int) pa) (hb:VE A b (rV D.int) pb):VE A (m2 E8 a b) (rV D.int) (pa.bind λx=>pb.bind λy=>some (x+y)):=L8 ha hb λx y z S h=>by cases h;rfl
def aN (x y:Int):Option Int:=if 0 < y then some (x % y) else none
theorem ZL (ha:VE A a (rV D.int) pa) (hb:VE A b (rV D.int) pb):VE A (m2 EQ a b) (rV D.int) (pa.bind λx=>pb.bind λy=>aN x y):=L8 ha hb λx y z S h=>by
 unfold aN at h;split at h
 ·rename_i hc;cases h;exact FH hc
 ·cases h
theorem Ta {k:Int} (hk:(decide (0 < k)&&decide (k<=1000000))=true) (ha:VE A a (rV D.int) pa):VE A (m2 Hj a (mC (.int k))) (rV D.int) (pa.bind λx=>some (x / k)):=λv hv S0 e F S hs=>by
 obtain ⟨x,h1,h2⟩:=BH hv;cases h2;obtain ⟨d,S',h3,h4,rfl⟩:=ha x h1 S0 e F S hs;have hk':=FB _ _▸hk;exact ⟨_,S',Be h3 rfl (Md (of_decide_eq_true hk'.1) (of_decide_eq_true hk'.2)),h4,rfl⟩
theorem Kl {k:Int} (hk:decide (0 < k)=true) (ha:VE A a (rV D.int) pa):VE A (m2 EQ a (mC (.int k))) (rV D.int) (pa.bind λx=>some (x % k)):=λv hv S0 e F S hs=>by
 obtain ⟨x,h1,h2⟩:=BH hv;cases h2;obtain ⟨d,S',h3,h4,rfl⟩:=ha x h1 S0 e F S hs;exact ⟨_,S',Be h3 rfl (FH (of_decide_eq_true hk)),h4,rfl⟩
theorem ZJ (ha:VE A a (rV D.int) pa):VE A (aS a) (rV D.int) (pa.bind λx=>some (-x)):=λv hv S0 e F S hs=>by
 obtain ⟨x,h1,h2⟩:=BH hv;cases h2;obtain ⟨d,S',h3,h4,rfl⟩:=ha x h1 S0 e F S hs;exact ⟨_,S',by unfold aS;rw [h3];rfl,h4,rfl⟩
theorem kP (ha:VE A a (rV D.int) pa) (hb:VE A b (rV D.int) pb):VE A (m2 ltD a b) (rV D.bl) (pa.bind λx=>pb.bind λy=>some (decide (x < y))):=L8 ha hb λx y z S h=>by cases h;rfl
theorem kQ (ha:VE A a (rV D.int) pa) (hb:VE A b (rV D.int) pb):VE A (m2 gtD a b) (rV D.bl) (pa.bind λx=>pb.bind λy=>some (decide (y < x))):=L8 ha hb λx y z S h=>by cases h;rfl
theorem ZN {f g:D->D->Sto->Res D} {P Q:Int->Int->Bool} (hf:∀x y S,f (.int x) (.int y) S=.ok (.bl (P x y)) S) (hg:∀x y S,g (.int x) (.int y) S=.ok (.bl (Q x y)) S) (ha:VE A a (rV D.int) pa) (hb:VE A b (rV D.int) pb) (hc:VE A c (rV D.int) pc) :
  VE A (m3 f g a b c) (rV D.bl) (pa.bind λx=>pb.bind λy=>if P x y=true then pc.bind λz=>some (Q y z) else some false):=λv hv S0 e F S hs=>by
 obtain ⟨x,h1,hv⟩:=BH hv;obtain ⟨y,h2,h3⟩:=BH hv;obtain ⟨d1,S1,q1,k1,rfl⟩:=ha x h1 S0 e F S hs;obtain ⟨d2,S2,q2,k2,rfl⟩:=hb y h2 S0 e _ S1 (hs.grow k1);have e1:=hf x y S2
 cases hp:P x y with
 | false=>
  rw [hp] at h3 e1;cases h3;exact ⟨_,S2,lM q1 q2 e1,k1.trans k2,rfl⟩
 | true=>
  rw [hp] at h3 e1;rw [qX rfl] at h3;obtain ⟨w,h4,h5⟩:=BH h3;cases h5;obtain ⟨d3,S3,q3,k3,rfl⟩:=hc w h4 S0 e _ S2 ((hs.grow k1).grow k2);exact ⟨_,S3,fv q1 q2 e1 q3 (hg y w S3),(k1.trans k2).trans k3,rfl⟩
theorem ll (x y:Int) (S:Sto):ltD (.int x) (.int y) S=.ok (.bl (decide (x < y))) S:=rfl
theorem lm (x y:Int) (S:Sto):leD (.int x) (.int y) S=.ok (.bl (decide (x<=y))) S:=rfl
theorem Rx {pa pb:Option Bool} (ha:VE A a (rV D.bl) pa) (hb:VE A b (rV D.bl) pb):VE A (PN a b) (rV D.bl) (pa.bind λx=>if x=true then pb else some false):=λv hv S0 e F S hs=>by
 obtain ⟨x,h1,h2⟩:=BH hv;obtain ⟨d,S',h3,h4,rfl⟩:=ha x h1 S0 e F S hs
 cases x with
 | true=>
  obtain ⟨d,S2,h5,h6,rfl⟩:=hb v h2 S0 e _ S' (hs.grow h4);exact ⟨_,S2,by unfold PN;rw [h3];exact h5,h4.trans h6,rfl⟩
 | false=>cases h2;exact ⟨_,S',by unfold PN;rw [h3];rfl,h4,rfl⟩
end
def EqN (n:Nat) (enc:α->D) [DecidableEq α]:Prop:=∀x y,eqP n (enc x) (enc y)=some (decide (x=y))
def NL (enc:α->D):Prop:=∀x S,M7 (enc x) S=none
theorem DK {n:Nat}:EqN n D.int:=λx y=>by
 have:KY (.int x) (.int y)=some (decide (x=y)):=rfl
 cases n <;> exact this
theorem jU {n:Nat}:EqN n D.bl:=λx y=>by
 have:KY (.bl x) (.bl y)=some (decide (x=y)):=by cases x <;> cases y <;> rfl
 cases n <;> exact this
theorem W1 {n:Nat} {enc:α->D} [DecidableEq α] (h:EqN n enc):EqN (n+1) (eT enc):=by
 have key:∀l k:List α,eqL (eqP n) (l.map enc) (k.map enc)=some (decide (l=k)):=by
  intro l
  induction l with
  | nil=>intro k;cases k <;> rfl
  | cons x l ih=>
   intro k
   cases k with
   | nil=>rfl
   | cons y k=>
    rw [An,An];unfold eqL;rw [h x y,ih k]
    by_cases c:x=y <;> by_cases d:l=k <;> simp [c,d]
 exact λl k=>key l k
theorem JR:NL D.int:=λ_ _=>rfl
theorem lG:NL D.bl:=λ_ _=>rfl
section
variable {a b:ME} {enc:α->D} [DecidableEq α] {pa pb:Option α}
theorem bQ (h:EqN 8 enc) (n:NL enc) (neg:Bool) (x y:α) (S:Sto):eqD neg (enc x) (enc y) S=.ok (.bl (if neg then !decide (x=y) else decide (x=y))) S:=by
 unfold eqD eqB;rw [n x S,n y S];dsimp only;rw [h x y]
theorem Nc (h:EqN 8 enc) (n:NL enc) (ha:VE A a (rV enc) pa) (hb:VE A b (rV enc) pb):VE A (m2 (eqD false) a b) (rV D.bl) (pa.bind λx=>pb.bind λy=>some (decide (x=y))):=L8 ha hb λx y z S q=>by cases q;exact bQ h n false x y S
theorem fh (h:EqN 8 enc) (n:NL enc) (ha:VE A a (rV enc) pa) (hb:VE A b (rV enc) pb):VE A (m2 (eqD true) a b) (rV D.bl) (pa.bind λx=>pb.bind λy=>some (!decide (x=y))):=L8 ha hb λx y z S q=>by cases q;exact bQ h n true x y S
theorem UX (h:EqN 8 enc) (x:α):∀l:List α,LM (enc x) (l.map enc)=some (decide (x∈l))
 | []=>by simp [LM]
 | y :: l=>by
  rw [An];unfold LM;rw [h y x,UX h x l]
  by_cases c:y=x
  ·subst c;simp
  ·have:¬x=y:=λz=>c z.symm
   simp [c,this]
theorem Vp (h:EqN 8 enc) (neg:Bool) (x:α) {l:List α} {d:D} {S:Sto} (hs:Ge d S=some (l.map enc)):inA neg (enc x) d S=.ok (.bl (if neg then !decide (x∈l) else decide (x∈l))) S:=by
 show JQ (inD neg (enc x) d S) _=_
 have e:inD neg (enc x) d S=.ok (.bl (if neg then !decide (x∈l) else decide (x∈l))) S:=by
  unfold inD;rw [hs];dsimp only;rw [UX h]
 rw [e];rfl
theorem gt {pl:Option (List α)} (h:EqN 8 enc) (ha:VE A a (rV enc) pa) (hb:VE A b (rV (eT enc)) pl):VE A (m2 (inA false) a b) (rV D.bl) (pa.bind λx=>pl.bind λl=>some (decide (x∈l))):=L8 ha hb λx l z S q=>by cases q;exact Vp h false x rfl
theorem gu {pl:Option (List α)} (h:EqN 8 enc) (ha:VE A a (rV enc) pa) (hb:VE A b (rO (oL enc)) pl):VE A (m2 (inA false) a b) (rV D.bl) (pa.bind λx=>pl.bind λl=>some (decide (x∈l))):=ZI ha hb λx l z S n hn q=>by cases q;exact Vp h false x (CZ hn)
theorem WU {pl:Option (List α)} (h:EqN 8 enc) (ha:VE A a (rV enc) pa) (hb:VE A b (rO (oL enc)) pl):VE A (m2 (inA true) a b) (rV D.bl) (pa.bind λx=>pl.bind λl=>some (!decide (x∈l))):=ZI ha hb λx l z S n hn q=>by cases q;exact Vp h true x (CZ hn)
theorem jV {n:Nat} (h:EqN n enc):∀l k:List α,eqL (eqP n) (l.map enc) (k.map enc)=some (decide (l=k)):=by
 intro l
 induction l with
 | nil=>intro k;cases k <;> rfl
 | cons x l ih=>
  intro k
  cases k with
  | nil=>rfl
  | cons y k=>
   rw [An,An];unfold eqL;rw [h x y,ih k]
   by_cases c:x=y <;> by_cases d:l=k <;> simp [c,d]
theorem NE (h:EqN 8 enc) {l k:List α} {n m:Nat} {S:Sto} (neg:Bool) (hn:S[n]?=some (oL enc l)) (hm:S[m]?=some (oL enc k)):eqD neg (.ref n) (.ref m) S=.ok (.bl (if neg then !decide (l=k) else decide (l=k))) S:=by
 unfold eqD eqB;rw [Ip hn,Ip hm];dsimp only;rw [AJ,AJ]
 by_cases c:l.length=k.length
 ·rw [qX c,jV h]
 ·rw [qY c,wY λz=>c (by rw [z])]
theorem fj {f:D->D->Sto->Res D} {oa:β->Ob} {ob:γ->Ob} {ec:δ->D} {pa:Option β} {pb:Option γ} {g:β->γ->Option δ} (ha:VE A a (rO oa) pa) (hb:VE A b (rO ob) pb)
  (hf:∀x y z S (n m:Nat),S[n]?=some (oa x)->S[m]?=some (ob y)->g x y=some z->f (.ref n) (.ref m) S=.ok (ec z) S):VE A (m2 f a b) (rV ec) (pa.bind λx=>pb.bind λy=>g x y):=λv hv S0 e F S hs=>by
 obtain ⟨x,h1,hv⟩:=BH hv;obtain ⟨y,h2,h3⟩:=BH hv;obtain ⟨d1,S1,q1,k1,n,rfl,hn⟩:=ha x h1 S0 e F S hs;obtain ⟨d2,S2,q2,k2,m,rfl,hm⟩:=hb y h2 S0 e _ S1 (hs.grow k1);exact ⟨_,S2,Be q1 q2 (hf x y v S2 n m (k2.at hn) hm h3),k1.trans k2,rfl⟩
theorem ZM {pa pb:Option (List α)} (h:EqN 8 enc) (ha:VE A a (rO (oL enc)) pa) (hb:VE A b (rO (oL enc)) pb):VE A (m2 (eqD false) a b) (rV D.bl) (pa.bind λx=>pb.bind λy=>some (decide (x=y))):=fj ha hb λx y z S n m hn hm q=>by cases q;exact NE h false hn hm
theorem ZK {pa pb:Option (List α)} (h:EqN 8 enc) (ha:VE A a (rO (oL enc)) pa) (hb:VE A b (rO (oL enc)) pb):VE A (m2 (eqD true) a b) (rV D.bl) (pa.bind λx=>pb.bind λy=>some (!decide (x=y))):=fj ha hb λx y z S n m hn hm q=>by cases q;exact NE h true hn hm
end
section
variable {a b m mo:ME} {enc:α->D} {ml:ML} {pl pk:Option (List α)} {pi:Option Int}
theorem fO (l:List α) (i:Int) (f:α->β):atI (l.map f) i=(atI l i).map f:=by
 unfold atI;rw [AJ]
 cases ixN l.length i with
 | none=>rfl
 | some j=>show (l.map f)[j]?=(l[j]?).map f;rw [Ag]
theorem Vo {l:List α} {d:D} {S:Sto} {i:Int} {x:α} (hs:Ge d S=some (l.map enc)) (h:atI l i=some x):ixA d (.int i) S=.ok (enc x) S:=by
 show JQ (ixD d (.int i) S) _=_
 have:ixD d (.int i) S=.ok (enc x) S:=by
  unfold ixD;rw [hs];dsimp only;rw [fO,h];rfl
 rw [this];rfl
theorem gr (ha:VE A a (rV (eT enc)) pl) (hb:VE A b (rV D.int) pi):VE A (m2 ixA a b) (rV enc) (pl.bind λl=>pi.bind λi=>atI l i):=L8 ha hb λl i z S q=>Vo rfl q
theorem JI (ha:VE A a (rO (oL enc)) pl) (hb:VE A b (rV D.int) pi):VE A (m2 ixA a b) (rV enc) (pl.bind λl=>pi.bind λi=>atI l i):=gw ha hb λl i z S n hn q=>Vo (CZ hn) q
theorem cq (ha:VE A a (rV (eT enc)) pl):VE A (Gj a) (rV D.int) (pl.bind λl=>some (l.length:Int)):=λv hv S0 e F S hs=>by
 obtain ⟨l,h1,h2⟩:=BH hv;cases h2;obtain ⟨d,S',h3,h4,rfl⟩:=ha l h1 S0 e F S hs;exact ⟨_,S',(KN (ds:=l.map enc) h3 rfl).trans (by rw [AJ]),h4,rfl⟩
theorem OG (ha:VE A a (rO (oL enc)) pl):VE A (Gj a) (rV D.int) (pl.bind λl=>some (l.length:Int)):=λv hv S0 e F S hs=>by
 obtain ⟨l,h1,h2⟩:=BH hv;cases h2;obtain ⟨d,S',h3,h4,n,rfl,hn⟩:=ha l h1 S0 e F S hs;exact ⟨_,S',(KN (ds:=l.map enc) h3 (CZ hn)).trans (by rw [AJ]),h4,rfl⟩
theorem KO:∀ns:List Int,G2 (ns.map D.int)=some ns
 | []=>rfl
 | x :: ns=>by rw [An];unfold G2;rw [KO ns];rfl
theorem M3 (ha:VE A a (rO (oL enc)) pl):VE A (HB a) (rV (eT enc)) pl:=λl hv S0 e F S hs=>by
 obtain ⟨d,S',h3,h4,n,rfl,hn⟩:=ha l hv S0 e F S hs;exact ⟨_,S',MD h3 (CZ hn),h4,rfl⟩
theorem Rp (ha:VE A a (rO (oL enc)) pl):VL A (IN a) enc pl:=λl hv S0 e F S hs=>by
 obtain ⟨d,S',h3,h4,n,rfl,hn⟩:=ha l hv S0 e F S hs;exact ⟨S',Zr h3 (CZ hn),h4⟩
theorem WR (ha:VE A a (rV (eT enc)) pl):VL A (IN a) enc pl:=λl hv S0 e F S hs=>by
 obtain ⟨d,S',h3,h4,rfl⟩:=ha l hv S0 e F S hs;exact ⟨S',Zr h3 rfl,h4⟩
theorem Rq (h:VL A ml enc pl):VL A (mN Iq ml) enc pl:=λl hv S0 e F S hs=>by
 obtain ⟨S',h3,h4⟩:=h l hv S0 e F S hs;exact ⟨S',by unfold mN;rw [h3];rfl,h4⟩
theorem W9:∀l:List Bool,V4 (l.map D.bl)=some l
 | []=>rfl
 | x :: l=>by rw [An];unfold V4;rw [W9 l];rfl
theorem ZO {pl:Option (List Bool)} (h:VL A ml D.bl pl):VE A (mQ bi ml) (rV D.bl) (pl.bind λl=>some (l.all id)):=λv hv S0 e F S hs=>by
 obtain ⟨l,h1,h2⟩:=BH hv;cases h2;obtain ⟨S',h3,h4⟩:=h l h1 S0 e F S hs;refine ⟨_,S',iI h3 ?_,h4,rfl⟩;unfold bi fJ;rw [W9]
theorem IL:VL A A1 enc (some []):=λv hv S0 e F S hs=>by cases hv;exact ⟨S,rfl,Keeps.refl S⟩
theorem OF {p:Option α} (h:VE A m (rV enc) p) (hl:VL A ml enc pl):VL A (AX m ml) enc (p.bind λx=>pl.bind λl=>some (x :: l)):=λv hv S0 e F S hs=>by
 obtain ⟨x,h1,h2⟩:=BH hv;obtain ⟨l,h2',h3⟩:=BH h2;cases h3;obtain ⟨d,S1,h4,h5,rfl⟩:=h x h1 S0 e F S hs;obtain ⟨S2,h6,h7⟩:=hl l h2' S0 e _ S1 (hs.grow h5);exact ⟨S2,Bv h4 h6,h5.trans h7⟩
def KS (l:List α):Option (List α):=if l.length<=1000000 then some l else none
theorem Ie (h:VL A ml enc pl):VL A (Ci ml) enc (pl.bind KS):=λv hv S0 e F S hs=>by
 obtain ⟨l,h1,h2⟩:=BH hv;unfold KS at h2;split at h2
 ·rename_i hl
  cases h2;obtain ⟨S',h3,h4⟩:=h _ h1 S0 e F S hs;refine ⟨S',?_,h4⟩;unfold Ci;rw [h3];dsimp only [Res.bind];rw [qX (by rw [AJ];exact X0 hl)]
 ·cases h2
theorem Rt (h:VL A ml enc pl):VE A (HC ml) (rV (eT enc)) (pl.bind KS):=λv hv S0 e F S hs=>by
 obtain ⟨l,h1,h2⟩:=BH hv;unfold KS at h2;split at h2
 ·rename_i hl
  cases h2;obtain ⟨S',h3,h4⟩:=h _ h1 S0 e F S hs;refine ⟨_,S',?_,h4,rfl⟩;unfold HC;rw [h3];dsimp only [Res.bind];rw [qX (by rw [AJ];exact X0 hl)];rfl
 ·cases h2
theorem cn {a':α->D} {b':β->D} {pa:Option α} {pb:Option β} (ha:VE A a (rV a') pa) (hb:VE A b (rV b') pb):VE A (HC (AX a (AX b A1))) (rV (eP a' b')) (pa.bind λx=>pb.bind λy=>some (x,y)):=λv hv S0 e F S hs=>by
 obtain ⟨x,h1,hv⟩:=BH hv;obtain ⟨y,h2,h3⟩:=BH hv;cases h3;obtain ⟨d1,S1,q1,k1,rfl⟩:=ha x h1 S0 e F S hs;obtain ⟨d2,S2,q2,k2,rfl⟩:=hb y h2 S0 e _ S1 (hs.grow k1);exact ⟨_,S2,R1 (ds:=[a' x,b' y]) (Bv q1 (Bv q2 rfl)) (by simp),k1.trans k2,rfl⟩
theorem Rv (ha:VE A a (rV (eT enc)) pl) (hb:VE A b (rV (eT enc)) pk):VE A (m2 E8 a b) (rV (eT enc)) (pl.bind λl=>pk.bind λk=>IT l k):=L8 ha hb λl k z S q=>by
 unfold IT at q;split at q
 ·rename_i hl
  cases q;unfold eT;rw [BM];exact cu (by rw [AJ,AJ];exact X0 hl)
 ·cases q
theorem OI (ha:VE A a (rO (oL enc)) pl) (hb:VE A b (rO (oL enc)) pk):VE A (m2 E8 a b) (rN (oL enc)) (pl.bind λl=>pk.bind λk=>IT l k):=λv hv S0 e F S hs=>by
 obtain ⟨x,h1,hv⟩:=BH hv;obtain ⟨y,h2,h3⟩:=BH hv;obtain ⟨d1,S1,q1,k1,n,rfl,hn⟩:=ha x h1 S0 e F S hs;obtain ⟨d2,S2,q2,k2,m,rfl,hm⟩:=hb y h2 S0 e _ S1 (hs.grow k1);unfold IT at h3;split at h3
 ·rename_i hl
  cases h3;refine ⟨_,_,Be q1 q2 (d:=.ref S2.length) (S3:=S2++[oL enc (x++y)]) ?_,(k1.trans k2).trans (Keeps.app _ _),_,rfl,(k1.trans k2).1,CF _ _⟩;unfold E8;dsimp only;rw [k2.at hn,hm];unfold oL;dsimp only;rw [qX (by rw [AJ,AJ];exact X0 hl),BM]
 ·cases h3
def VO (A:List Sl) (mo:MO) (p:Option (Option Int)):Prop:=∀v,p=some v->∀S0 e F S,Vs S0 A e F S->∃S',mo e S=.ok v S'/\Keeps S S'
theorem JH:VO A Jk (some none):=λv hv S0 e F S hs=>by cases hv;exact ⟨S,rfl,Keeps.refl S⟩
theorem JG {pi:Option Int} (h:VE A m (rV D.int) pi):VO A (HH m) (pi.bind λi=>some (some i)):=λv hv S0 e F S hs=>by
 obtain ⟨x,h1,h2⟩:=BH hv;cases h2;obtain ⟨d,S',h3,h4,rfl⟩:=h x h1 S0 e F S hs;exact ⟨S',by unfold HH;rw [h3];rfl,h4⟩
theorem UT (l:List α) (f:α->β) (lo hi:Option Int):E7 (l.map f) lo hi=(E7 l lo hi).map f:=by
 unfold E7;rw [AJ,<-gd,<-TC]
theorem Ru {mlo mhi:MO} {po ph:Option (Option Int)} (ha:VE A a (rV (eT enc)) pl) (hl:VO A mlo po) (hh:VO A mhi ph):VE A (Kq a mlo mhi) (rV (eT enc)) (pl.bind λl=>po.bind λx=>ph.bind λy=>some (E7 l x y)):=λv hv S0 e F S hs=>by
 obtain ⟨l,h1,hv⟩:=BH hv;obtain ⟨x,h2,hv⟩:=BH hv;obtain ⟨y,h3,h4⟩:=BH hv;cases h4;obtain ⟨d1,S1,q1,k1,rfl⟩:=ha l h1 S0 e F S hs;obtain ⟨S2,q2,k2⟩:=hl x h2 S0 e _ S1 (hs.grow k1);obtain ⟨S3,q3,k3⟩:=hh y h3 S0 e _ S2 ((hs.grow k1).grow k2);refine ⟨_,S3,?_,(k1.trans k2).trans k3,rfl⟩;unfold Kq;rw [q1];dsimp only [Res.bind];rw [q2];dsimp only;rw [q3];show Res.ok (D.tup (E7 (l.map enc) x y)) S3=_;rw [UT];rfl
theorem OH {mlo mhi:MO} {po ph:Option (Option Int)} (ha:VE A a (rO (oL enc)) pl) (hl:VO A mlo po) (hh:VO A mhi ph):VE A (Lc a mlo mhi) (rN (oL enc)) (pl.bind λl=>po.bind λx=>ph.bind λy=>some (E7 l x y)):=λv hv S0 e F S hs=>by
 obtain ⟨l,h1,hv⟩:=BH hv;obtain ⟨x,h2,hv⟩:=BH hv;obtain ⟨y,h3,h4⟩:=BH hv;cases h4;obtain ⟨d1,S1,q1,k1,n,rfl,hn⟩:=ha l h1 S0 e F S hs;obtain ⟨S2,q2,k2⟩:=hl x h2 S0 e _ S1 (hs.grow k1);obtain ⟨S3,q3,k3⟩:=hh y h3 S0 e _ S2 ((hs.grow k1).grow k2);refine ⟨.ref S3.length,S3++[oL enc (E7 l x y)],?_,((k1.trans k2).trans k3).trans (Keeps.app _ _),_,rfl,((k1.trans k2).trans k3).1,CF _ _⟩;unfold Lc;rw [q1];dsimp only [Res.bind];rw [q2];dsimp only;rw [q3];dsimp only;unfold R5;dsimp only;rw [Ip ((k2.trans k3).at hn)];show Res.ok _ (S3++[Ob.lst (E7 (l.map enc) x y)])=_;rw [UT];rfl
theorem Ol {pl:Option (List Int)} (ha:VE A a (rO (oL D.int)) pl):VE A (Dm a) (rN (oL D.int)) (pl.bind λl=>some (CU l)):=λv hv S0 e F S hs=>by
 obtain ⟨l,h1,h2⟩:=BH hv;cases h2;obtain ⟨d,S',h3,h4,n,rfl,hn⟩:=ha l h1 S0 e F S hs;refine ⟨_,_,Ig h3 (Lg hn) (es:=(CU l).map D.int) ?_,h4.trans (Keeps.app _ _),_,rfl,h4.1,CF _ _⟩;unfold KB;rw [KO]
theorem Rs (ha:VE A a (rV (eT enc)) pl):VI A (Fb a) enc pl:=λl hv S0 e F S hs=>by
 obtain ⟨d,S',h3,h4,rfl⟩:=ha l hv S0 e F S hs;exact ⟨_,S',UI (xs:=l.map enc) h3,h4,λ_ _ _ _=>rfl⟩
theorem Rr {i:Nat} {l:List α} (h:A[i]?=some (.z (oL enc l))):VI A (Fb (AG i)) enc (some l):=λ_ hv S0 e F S hs=>by
 cases hv;obtain ⟨x,h1,n,rfl,h2⟩:=hs.sl i _ h;have hn:=hs.fz _ _ h2;exact ⟨_,S,MY (n:=n) (by unfold AG;rw [h1]) hn,Keeps.refl S,λF2 S2 hF h=>ED (h n _ (hF _ _ (by rw [Fy (CV hn)];exact h2)))⟩
def GN (lo:Int) (n:Nat):List Int:=(BQ n).map λi:Nat=>lo+i
def QO (j:Int):Option (List Int):=if -1000000<=j/\j<=1000000 then some (GN 0 j.toNat) else none
theorem Zw (lo:Int) (n:Nat):DW lo n=(GN lo n).map D.int:=by
 unfold DW GN;rw [Bk];rfl
theorem Qo (ha:VE A a (rV D.int) pi):VI A (iR1 (AX a A1)) D.int (pi.bind QO):=λl hv S0 e F S hs=>by
 obtain ⟨j,h1,h2⟩:=BH hv;obtain ⟨d,S',h3,h4,rfl⟩:=ha j h1 S0 e F S hs;unfold QO at h2;split at h2
 ·rename_i hj
  cases h2;exact ⟨_,S',Pb (j:=j) (Bv h3 rfl) hj.1 hj.2,h4,λ_ _ _ _=>congrArg some (Zw _ _)⟩
 ·cases h2
def Me (l:List α):List (Int×α):=l.zipIdx.map λx=>((x.2:Int),x.1)
theorem YO (l:List α):NF (l.map enc)=(Me l).map (eP D.int enc):=by
 unfold NF Me;rw [List.zipIdx_map,Bk,Bk];rfl
theorem ZF (ha:VE A a (rV (eT enc)) pl):VI A (SW a) (eP D.int enc) (pl.bind λl=>some (Me l)):=λv hv S0 e F S hs=>by
 obtain ⟨l,h1,h2⟩:=BH hv;cases h2;obtain ⟨d,S',h3,h4,rfl⟩:=ha l h1 S0 e F S hs;refine ⟨WS (FE (eT enc l)),S',?_,h4,λF2 S2 hF h=>?_⟩
 ·unfold SW
  rw [h3];rfl
 ·show some (NF (l.map enc))=_
  rw [YO]
def NN (enc:α->D):Prop:=∀x S neg,eQ neg (enc x) .non S=.ok (.bl neg) S
theorem eD {a:α->D} {b:β->D}:NN (eP a b):=λ_ _ _=>rfl
theorem gs {p:Option (Option α)} (hn:NN enc) (ha:VE A a (rV (eO enc)) p):VE A (m2 (eQ false) a (mC .non)) (rV D.bl) (p.bind λo=>some o.isNone):=λv hv S0 e F S hs=>by
 obtain ⟨x,h1,h2⟩:=BH hv;cases h2;obtain ⟨d,S',h3,h4,rfl⟩:=ha x h1 S0 e F S hs;refine ⟨_,S',Be h3 rfl ?_,h4,rfl⟩
 cases x with
 | none=>rfl
 | some y=>exact hn y S' false
theorem ck {p:Option α} (ha:VE A a (rV enc) p):VE A a (rV (eO enc)) (p.bind λo=>some (some o)):=λv hv S0 e F S hs=>by
 obtain ⟨x,h1,h2⟩:=BH hv;cases h2;exact ha _ h1 S0 e F S hs
theorem cp:VE A (mC .non) (rV (eO enc)) (some none):=IM rfl
end
end
section
variable {S0 S S':Sto} {A B:List Sl} {e:Lo} {F:Fz} {α β γ δ ρ σ τ κ κ':Type}
section
variable {a b m:ME} {enc:α->D}
theorem gm {b:MS} {R:Rk ρ} {B:σ->List Sl}:VS A b R none B:=λf hf=>by cases hf
end
end
section
variable {α β γ ρ σ τ:Type}
theorem Cv {s:σ} {q:σ->Option (Fw ρ τ)}:Cp (some (.nx s)) q=q s:=rfl
theorem eI {s:σ} {g:σ->τ}:Gi (ρ:=ρ) g (some (.nx s))=some (.nx (g s)):=rfl
theorem dk {s:σ}:dn (some (.nx s))=some ():=rfl
theorem eu {l:List α} {q:σ->α->Option (Fw ρ σ)} {s0:σ} (I:List α->σ->Prop) (h0:I [] s0) (h:∀pre x s,x∈l->pre++[x] <+: l->I pre s->∃s',q s x=some (.nx s')/\I (pre++[x]) s'):∃s,GR l s0 q=some (.nx s)/\I l s:=by
 have key:∀(r pre:List α) (s:σ),l=pre++r->I pre s->∃s',GR r s q=some (.nx s')/\I l s':=by
  intro r
  induction r with
  | nil=>intro pre s e hI;rw [B6] at e;subst e;exact ⟨s,rfl,hI⟩
  | cons x r ih=>
   intro pre s e hI;obtain ⟨s',h1,h2⟩:=h pre x s (by rw [e];simp) ⟨r,by rw [e];simp⟩ hI;obtain ⟨s2,h3,h4⟩:=ih (pre++[x]) s' (by rw [e];simp) h2;refine ⟨s2,?_,h4⟩;unfold GR;rw [h1];exact h3
 exact key l [] s0 rfl h0
theorem Iw {l:List α} {q:σ->α->Option (Fw ρ σ)} {s0:σ} (I:List α->σ->Prop) (R:ρ->Prop) (h0:I [] s0) (h:∀pre x s,x∈l->pre++[x] <+: l->I pre s->(∃s',q s x=some (.nx s')/\I (pre++[x]) s')∨∃r,q s x=some (.rt r)/\R r):(∃s,GR l s0 q=some (.nx s)/\I l s)∨∃r,GR l s0 q=some (.rt r)/\R r:=by
 have key:∀(r pre:List α) (s:σ),l=pre++r->I pre s->(∃s',GR r s q=some (.nx s')/\I l s')∨∃y,GR r s q=some (.rt y)/\R y:=by
  intro r
  induction r with
  | nil=>intro pre s e hI;rw [B6] at e;subst e;exact .inl ⟨s,rfl,hI⟩
  | cons x r ih=>
   intro pre s e hI
   rcases h pre x s (by rw [e];simp) ⟨r,by rw [e];simp⟩ hI with ⟨s',h1,h2⟩ | ⟨y,h1,h2⟩
   ·have e':GR (x :: r) s q=GR r s' q:=by
     conv=>lhs;unfold GR
     rw [h1]
    rw [e'];exact ih (pre++[x]) s' (by rw [e];simp) h2
   ·refine .inr ⟨y,?_,h2⟩
    unfold GR;rw [h1]
 exact key l [] s0 rfl h0
theorem bX {l:List α} {c:α->Option Bool} {m:α->Option β} {P:α->Bool} {f:α->β} (hc:∀x∈l,c x=some (P x)) (hm:∀x∈l,P x=true->m x=some (f x)):Pl c m l=some ((l.filter P).map f):=by
 induction l with
 | nil=>rfl
 | cons x l ih=>
  have ih:=ih (λy hy=>hc y (Ac _ hy)) λy hy=>hm y (Ac _ hy)
  unfold Pl;rw [hc x Ae];show (if P x=true then _ else _)=_
  cases hp:P x with
  | true=>
   rw [qX rfl,hm x Ae hp,ih,List.filter_cons_of_pos hp];rfl
  | false=>
   rw [qY AO,ih,List.filter_cons_of_neg (by rw [hp];exact AO)]
theorem bY {l:List α} {c:α->Option Bool} {m:α->Option β} {P:α->Bool} {f:α->β} (hl:l.length<=1000000) (hc:∀x∈l,c x=some (P x)) (hm:∀x∈l,P x=true->m x=some (f x)):Jl l c m=some ((l.filter P).map f):=by
 unfold Jl;rw [qX hl,bX hc hm]
theorem Kt {l:List α} {m:α->Option β} {f:α->β} (hl:l.length<=1000000) (hm:∀x∈l,m x=some (f x)):Jl l (λ_=>some true) m=some (l.map f):=by
 rw [bY (P:=λ_=>true) hl (λ_ _=>rfl) λx hx _=>hm x hx,List.filter_eq_self.mpr λ_ _=>rfl]
theorem Su {l:List α} {x:α} (h:l.length < 1000000):V8 l x=some (l++[x]):=qX h
theorem Gu {l k:List α} (h:l.length+k.length<=1000000):IT l k=some (l++k):=qX h
theorem e7:KS ([]:List α)=some []:=rfl
theorem ez (a:α):KS [a]=some [a]:=qX (by simp)
theorem OK {j:Int} (h0:-1000000<=j) (h1:j<=1000000):QO j=some (GN 0 j.toNat):=qX ⟨h0,h1⟩
theorem PK {lo:Int} {n:Nat} {x:Int}:x∈GN lo n↔lo<=x/\x < lo+n:=by
 unfold GN;rw [A5]
 constructor
 ·rintro ⟨k,hk,rfl⟩
  have:=Qh.mp hk
  lia
 ·rintro ⟨h1,h2⟩
  exact ⟨(x - lo).toNat,Qh.mpr (by lia),by lia⟩
theorem G0 (lo:Int) (n:Nat):(GN lo n).length=n:=by unfold GN;rw [AJ,List.length_range]
theorem Wb (lo:Int) (n:Nat):(GN lo n).Pairwise (· < ·):=by
 unfold GN;rw [BR]
 exact Jz.imp λh=>by lia
theorem bg {l:List α} {i:Int} (h0:0<=i) (h1:i < l.length):∃x,atI l i=some x/\l[i.toNat]?=some x:=by
 have hlt:i.toNat < l.length:=by lia
 exact ⟨l[i.toNat],Pr h0 (A0 hlt),A0 hlt⟩
theorem Wj {x y:Int} (h:0 < y):aN x y=some (x % y):=qX h
theorem Ka (l:List α) (lo hi:Option Int):(E7 l lo hi).length<=l.length:=by
 unfold E7;rw [Ch,D1]
 lia
theorem Sj {l:List α} {lo hi:Option Int} {x:α} (h:x∈E7 l lo hi):x∈l:=List.mem_of_mem_drop (WI h)
theorem Zv {lo:Int} {n:Nat} {pre:List Int} {x:Int} (h:pre++[x] <+: GN lo n):x=lo+pre.length/\pre.length < n:=by
 have hl:=h.length_le;rw [Af,Bi,G0] at hl;obtain ⟨r,hr⟩:=h;have:=congrArg (λz=>z[pre.length]?) hr;simp only [BC,BB (AM _),Uz] at this;rw [show ([x]++r)[0]?=some x from rfl] at this;unfold GN at this;rw [Ag,CC (by lia)] at this;simp only [Option.map_some,Option.some.injEq] at this;exact ⟨this,by lia⟩
theorem Vf [DecidableEq α]:∀ {l k:List α},l.Nodup->(∀x∈l,x∈k)->l.length<=k.length
 | [],_,_,_=>CP _
 | x :: l,k,nd,h=>by
  have hx:=h x Ae;obtain ⟨n1,n2⟩:=HV.mp nd
  have:=Vf (l:=l) (k:=k.erase x) n2 λy hy=>(List.mem_erase_of_ne (λz:y=x=>n1 (by rw [<-z];exact hy))).mpr (h y (Ac _ hy))
  rw [List.length_erase_of_mem hx] at this;have:=List.length_pos_of_mem hx;rw [Aq]
  lia
def Ok (p:Option α) (P:α->Prop):Prop:=∃v,p=some v/\P v
def OkF (p:Option (Fw ρ σ)) (N:σ->Prop) (R:ρ->Prop):Prop:=(∃s,p=some (.nx s)/\N s)∨∃r,p=some (.rt r)/\R r
theorem OkF.nx {s:σ} {N:σ->Prop} {R:ρ->Prop} (h:N s):OkF (some (.nx s)) N R:=.inl ⟨s,rfl,h⟩
theorem OkF.rt {r:ρ} {N:σ->Prop} {R:ρ->Prop} (h:R r):OkF (some (.rt r)) N R:=.inr ⟨r,rfl,h⟩
theorem OkF.seq {p:Option (Fw ρ σ)} {q:σ->Option (Fw ρ τ)} {N:σ->Prop} {N':τ->Prop} {R:ρ->Prop} (h:OkF p N R) (hq:∀s,N s->OkF (q s) N' R):OkF (Cp p q) N' R:=by
 rcases h with ⟨s,rfl,h⟩ | ⟨r,rfl,h⟩
 ·exact hq s h
 ·exact .inr ⟨r,rfl,h⟩
theorem OkF.ite {c:Bool} {a b:Option (Fw ρ σ)} {N:σ->Prop} {R:ρ->Prop} (ha:c=true->OkF a N R) (hb:c=false->OkF b N R):OkF (if c=true then a else b) N R:=by
 cases c with
 | true=>exact ha rfl
 | false=>exact hb rfl
theorem OkF.for {l:List α} {q:σ->α->Option (Fw ρ σ)} {s0:σ} {R:ρ->Prop} (I:List α->σ->Prop) (h0:I [] s0) (h:∀pre x s,x∈l->pre++[x] <+: l->I pre s->OkF (q s x) (I (pre++[x])) R):OkF (GR l s0 q) (I l) R:=Iw I R h0 h
theorem OkF.out {p:Option (Fw ρ σ)} {R:ρ->Prop} (h:OkF p (λ_=>False) R):Ok (O7 p) R:=by
 rcases h with ⟨s,rfl,h⟩ | ⟨r,rfl,h⟩
 ·exact h.elim
 ·exact ⟨r,rfl,h⟩
end
section
variable {A:List Sl} {a b m:ME} {pa pb:Option Int}
end
section
variable {A:List Sl} {a m:ME} {α ρ:Type} {enc:α->D}
theorem XX {pl:Option (List Int)} (ha:VE A a (rV (eT D.int)) pl):VE A (Dm a) (rN (oL D.int)) (pl.bind λl=>some (CU l)):=λv hv S0 e F S hs=>by
 obtain ⟨l,h1,h2⟩:=BH hv;cases h2;obtain ⟨d,S',h3,h4,rfl⟩:=ha l h1 S0 e F S hs;refine ⟨_,_,Ig h3 (ds:=l.map D.int) rfl (es:=(CU l).map D.int) ?_,h4.trans (Keeps.app _ _),_,rfl,h4.1,CF _ _⟩;unfold KB;rw [KO]
end
section
variable {S0 S S':Sto} {A B:List Sl} {e:Lo} {F:Fz} {α β γ ρ σ τ:Type} {a:ME} {enc:α->D}
theorem Na {n:Nat} {b:MS} {as:List Ar} {R:Rk ρ} {p:Option (Fw ρ σ)} {B:σ->List Sl} (h:VS (as.map Ar.sl++BF (n - as.length) .u) b R p B):VF (Fj n b) as R (O7 p):=λv hv S ds ha=>by
 cases p with
 | none=>cases hv
 | some x=>
  obtain ⟨g,S',h1,h2⟩:=h _ rfl S _ _ S (Vs.start ha)
  cases x with
  | rt r=>cases hv;obtain ⟨d,rfl,h2,h3⟩:=h2;exact ⟨d,S',L2.Gg h1,h3,h2⟩
  | nx s=>cases hv
  | bk s=>cases hv
  | ct s=>cases hv
theorem gq {n:Nat} {b:MS} {as:List Ar} {p:Option (Fw Unit σ)} {B:σ->List Sl} (h:VS (as.map Ar.sl++BF (n - as.length) .u) b (rV eU) p B):VF (Fj n b) as (rV eU) (dn p):=λv hv S ds ha=>by
 cases p with
 | none=>cases hv
 | some x=>
  obtain ⟨g,S',h1,h2⟩:=h _ rfl S _ _ S (Vs.start ha)
  cases x with
  | rt r=>obtain ⟨d,rfl,h2,h3⟩:=h2;exact ⟨d,S',L2.Gg h1,h3,h2⟩
  | nx s=>obtain ⟨e',F',rfl,h2,h3⟩:=h2;exact ⟨.non,S',L2.Zt h1,h2.kp,rfl⟩
  | bk s=>cases hv
  | ct s=>cases hv
end
section
variable {κ α:Type} [DecidableEq κ]
end
def hb (bits x:Int):Bool:=Builtin.bitAnd (bits / 2 ^ x.toNat) 1 != 0
abbrev HL:=List (Int×Int)
abbrev QL:=List (Int×Bool)
section
variable {T:Int->List Int} {bits:Int} {U:List Int} {Gd:Int->Prop}
abbrev w0 (T:Int->List Int) (bits g:Int):List Int:=(T g).filter (hb bits)
def MOn (T:Int->List Int) (bits:Int) (P:Int->Prop) (H:HL):Prop:=(∀x,P x->∀a,JJ H x=some a->x∈w0 T bits a)/\∀x y a,P x->P y->JJ H x=some a->JJ H y=some a->x=y
abbrev sn (Q:QL) (x:Int):Prop:=(JJ Q x).isSome=true
def Good (T:Int->List Int) (bits:Int) (H:HL) (g:Int) (Q:QL) (H':HL):Prop:=
 (∀x,sn Q x->JJ H' x=JJ H x)/\(MOn T bits (λx=>¬sn Q x) H->(∀x,¬sn Q x->JJ H x≠some g)->MOn T bits (λx=>¬sn Q x) H'/\∀a,(∃x,¬sn Q x/\JJ H' x=some a)↔a=g∨∃x,¬sn Q x/\JJ H x=some a)
end
section
variable {T:Int->List Int} {bits:Int} {U:List Int} {Gd:Int->Prop}
end
section
variable {α β ρ σ:Type} {A:List Sl} {enc:α->D} {ob:β->Ob}
theorem ZR {e:Lo} {S:Sto} {i:Nat} {d:D} (h:e[i]?=some (some d)):AG i e S=.ok d S:=by unfold AG;rw [h]
end
section
variable {α β ρ σ:Type} {A:List Sl} {enc:α->D} {ob:β->Ob}
theorem Qn {a:ME} {pa:Option Int} (h:VE A a (rV D.int) pa):VL A (MU (AX a A1)) D.int (pa.bind QO):=λv hv S0 e F S hs=>by
 obtain ⟨j,h1,h2⟩:=BH hv;obtain ⟨d,S',c1,k1,rfl⟩:=h j h1 S0 e F S hs;unfold QO at h2;split at h2
 ·rename_i hj
  cases h2;refine ⟨S',?_,k1⟩;unfold MU;rw [Bv c1 rfl];dsimp only [Res.bind];rw [qX hj,Int.sub_zero,Zw]
 ·cases h2
end
section
variable {S0 S S':Sto} {A B:List Sl} {e:Lo} {F:Fz} {α β γ ρ σ τ:Type} {enc:α->D} {xss:List (List α)} {i:Nat}
def Nst (enc:α->D) (xss:List (List α)) (L:Nat->Option Ob) (d:D):Prop:=∃n ms,d=.ref n/\L n=some (oL D.ref ms)/\ms.length=xss.length/\∀(k:Nat) (xs:List α),xss[k]?=some xs->∃m,ms[k]?=some m/\L m=some (oL enc xs)
def loF (F:Fz):Nat->Option Ob:=λn=>match F n with
 | .fz o=>some o
 | _=>none
theorem i4 {n:Nat} {o:Ob} (h:F n=.fz o):loF F n=some o:=by unfold loF;rw [h]
theorem aV {n:Nat} {o:Ob} (h:loF F n=some o):F n=.fz o:=by
 unfold loF at h;split at h
 ·rename_i o' ho;cases h;exact ho
 ·cases h
theorem Vs.nst (hs:Vs S0 A e F S) (h:A[i]?=some (.q (Nst enc xss))):∃n ms,e[i]?=some (some (.ref n))/\F n=.fz (oL D.ref ms)/\ms.length=xss.length/\∀(k:Nat) (xs:List α),xss[k]?=some xs->∃m,ms[k]?=some m/\F m=.fz (oL enc xs):=by
 obtain ⟨x,h1,d,rfl,h2⟩:=hs.sl i _ h
 obtain ⟨n,ms,rfl,h3,h4,h5⟩:=h2 (loF F) λn o q=>i4 q
 exact ⟨n,ms,h1,aV h3,h4,λk xs hk=>let ⟨m,h6,h7⟩:=h5 k xs hk;⟨m,h6,aV h7⟩⟩
theorem fN {ms:List Nat} (hl:ms.length=xss.length) {k:Int} {xs:List α} (h:atI xss k=some xs):∃j:Nat,xss[j]?=some xs/\∀m,ms[j]?=some m->atI ms k=some m:=by
 unfold atI at h ⊢;rw [hl]
 cases hx:ixN xss.length k with
 | none=>rw [hx] at h;cases h
 | some j=>rw [hx] at h;exact ⟨j,h,λm hm=>hm⟩
theorem ZH {b:ME} {pi:Option Int} (h:A[i]?=some (.q (Nst enc xss))) (hb:VE A b (rV D.int) pi):VE A (m2 ixA (AG i) b) (rO (oL enc)) (pi.bind λk=>atI xss k):=λv hv S0 e F S hs=>by
 obtain ⟨k,h1,h2⟩:=BH hv;obtain ⟨n,ms,h3,h4,h5,h6⟩:=hs.nst h;obtain ⟨d,S1,q1,k1,rfl⟩:=hb k h1 S0 e F S hs;obtain ⟨j,h7,h8⟩:=fN h5 h2;obtain ⟨m,h9,h10⟩:=h6 j v h7
 have c1:AG i e S=.ok (.ref n) S:=by unfold AG;rw [h3]
 exact ⟨.ref m,S1,Be c1 q1 (Vo (enc:=D.ref) (l:=ms) (CZ (k1.at (hs.fz _ _ h4))) (h8 m h9)),k1,m,rfl,k1.at (hs.fz _ _ h10)⟩
theorem WT (h:A[i]?=some (.q (Nst enc xss))):VE A (Gj (AG i)) (rV D.int) (some (xss.length:Int)):=λv hv S0 e F S hs=>by
 cases hv;obtain ⟨n,ms,h3,h4,h5,h6⟩:=hs.nst h;exact ⟨_,S,(KN (ds:=ms.map D.ref) (show AG i e S=.ok (.ref n) S by unfold AG;rw [h3]) (CZ (hs.fz _ _ h4))).trans (by rw [AJ,h5]),Keeps.refl S,rfl⟩
end
section
variable {S0 S S':Sto} {A:List Sl} {ρ σ:Type}
def whF (c:σ->Option Bool) (q:σ->Option (Fw ρ σ)):Nat->σ->Option (Fw ρ σ)
 | 0,_=>none
 | n+1,s=>(c s).bind λt=>if t=true then match q s with
   | some (.nx s')=>whF c q n s'
   | some (.ct s')=>whF c q n s'
   | some (.bk s')=>some (.nx s')
   | some (.rt r)=>some (.rt r)
   | none=>none
  else some (.nx s)
theorem XW {t:MT} {b:MS} {R:Rk ρ} {c:σ->Option Bool} {q:σ->Option (Fw ρ σ)} {B:σ->List Sl} (hc:∀s,VB (B s) t (c s)) (hb:∀s,VS (B s) b R (q s) B):∀(n:Nat) (s:σ),VS (B s) (He t b n) R (whF c q n s) B:=by
 intro n
 induction n with
 | zero=>intro s f hf;cases hf
 | succ n ih=>
  intro s f hf S0 e F S hs;unfold whF at hf;obtain ⟨v,h1,h2⟩:=BH hf;obtain ⟨S1,h3,h4⟩:=hc s v h1 S0 e F S hs;have hs1:=hs.grow h4
  have run:He t b (n+1) e S=if v=true then (b e S1).bind λf S2=>match f with
   | .nx e2=>He t b n e2 S2
   | .ct e2=>He t b n e2 S2
   | .bk e2=>.ok (.nx e2) S2
   | .rt d=>.ok (.rt d) S2
   | .ex c e2=>.ok (.ex c e2) S2
  else .ok (.nx e) S1:=by
   show (t e S).lift e _=_;rw [h3];rfl
  cases v with
  | false=>
   rw [qY AO] at h2;cases h2;exact ⟨_,S1,run.trans (qY AO),e,_,rfl,hs1,hs.fle S1⟩
  | true=>
   rw [qX rfl] at h2;rw [run,qX rfl];split at h2
   ·rename_i s' hq
    obtain ⟨h,S2,g1,e2,F2,rfl,g2,g3⟩:=hb s _ hq S0 e _ S1 hs1;rw [g1];obtain ⟨h',S3,g4,g5⟩:=ih s' f h2 S0 e2 F2 S2 g2;exact ⟨h',S3,g4,g5.up ((hs.fle S1).trans g3)⟩
   ·rename_i s' hq
    obtain ⟨h,S2,g1,e2,F2,rfl,g2,g3⟩:=hb s _ hq S0 e _ S1 hs1;rw [g1];obtain ⟨h',S3,g4,g5⟩:=ih s' f h2 S0 e2 F2 S2 g2;exact ⟨h',S3,g4,g5.up ((hs.fle S1).trans g3)⟩
   ·rename_i s' hq
    cases h2;obtain ⟨h,S2,g1,e2,F2,rfl,g2,g3⟩:=hb s _ hq S0 e _ S1 hs1;rw [g1];exact ⟨_,S2,rfl,e2,F2,rfl,g2,(hs.fle S1).trans g3⟩
   ·rename_i r hq
    cases h2;obtain ⟨h,S2,g1,d,rfl,g2,g3⟩:=hb s _ hq S0 e _ S1 hs1;rw [g1];exact ⟨_,S2,rfl,d,rfl,g2,g3⟩
   ·cases h2
theorem ZD {t:MT} {b:MS} {R:Rk ρ} {c:σ->Option Bool} {q:σ->Option (Fw ρ σ)} {B:σ->List Sl} {n:Nat} {s0:σ} (w0:Wk A (B s0)) (hc:∀s,VB (B s) t (c s)) (hb:∀s,VS (B s) b R (q s) B):VS A (He t b n) R (whF c q n s0) B:=λf hf S0 e F S hs=>
 XW hc hb n s0 f hf S0 e F S (hs.weak w0)
end
section
variable {A:List Sl} {α:Type} {enc:α->D} {a:ME}
def Qv (l:List Int):Option (List Int):=if l.length<=4000 then some (QG l) else none
theorem Om {pl:Option (List Int)} (ha:VE A a (rV (eT D.int)) pl):VE A (KM a) (rN (oL D.int)) (pl.bind Qv):=λv hv S0 e F S hs=>by
 obtain ⟨l,h1,h2⟩:=BH hv;obtain ⟨d,S',h3,h4,rfl⟩:=ha l h1 S0 e F S hs;unfold Qv at h2;split at h2
 ·rename_i hl
  cases h2;refine ⟨.ref S'.length,S'++[.lst ((QG l).map D.int)],?_,h4.trans (Keeps.app _ _),_,rfl,h4.1,CF _ _⟩;unfold KM;rw [h3];dsimp only [Res.bind];rw [show Ge (eT D.int l) S'=some (l.map D.int) from rfl];dsimp only;rw [KO];dsimp only;rw [qX hl]
 ·cases h2
end
section
variable {A:List Sl} {a b c:ME} {ml:ML}
end
section
variable {A:List Sl} {β σ:Type} {ob:β->Ob}
end
section
variable {α β ρ σ:Type} {A:List Sl} {enc:α->D}
def Ox (l:List α) (i:Int) (x:α):Option (List α):=if 0<=i/\i < l.length then some (l.set i.toNat x) else none
def Wf (l:List α) (i:Int):Option (List α):=if 0<=i/\i < 1000000/\i < l.length then some (l.eraseIdx i.toNat) else none
theorem jD {n:Nat} {i:Int} (h0:0<=i) (h1:i < n):ixN n i=some i.toNat:=by
 unfold ixN;rw [qX h0,qX h1]
theorem OE {mi mx:ME} {R:Rk ρ} {pi:Option Int} {px:Option α} {i:Nat} {l:List α} (hi:A[i]?=some (.w i (oL enc l))) (h:VE A mi (rV D.int) pi) (hx:VE A mx (rV enc) px) (ht:((A.set i .u).all (Sl.oth i))=true) :
  VS A (QN mx (JM (AG i) mi)) R (px.bind λv=>pi.bind λk=>(Ox l k v).bind λl'=>some (.nx l')) (λl'=>A.set i (.w i (oL enc l'))):=λf hf S0 e F S hs=>by
 obtain ⟨v,h3,h4⟩:=BH hf;obtain ⟨k,h1,h2⟩:=BH h4;obtain ⟨l',h5,h6⟩:=BH h2;cases h6;unfold Ox at h5;split at h5
 ·rename_i hl
  cases h5;obtain ⟨x,g1,n,rfl,g2,g3⟩:=hs.sl i _ hi;obtain ⟨d2,S1,c2,k1,rfl⟩:=hx v h3 S0 e F S hs;obtain ⟨d1,S2,c1,k2,rfl⟩:=h k h1 S0 e _ S1 (hs.grow k1);have kk:=k1.trans k2;have hg:=hs.grow kk
  have a2:atL (.ref n) S2=some (n,l.map enc):=by unfold atL;dsimp only;rw [kk.at g3];rfl
  have hx':QN mx (JM (AG i) mi) e S=.ok (.nx e) (S2.set n (oL enc (l.set k.toNat v))):=by
   unfold QN;rw [c2];show (JM (AG i) mi (enc v) e S1).bind _=_;unfold JM;rw [ZR g1];dsimp only [Res.bind];rw [c1];dsimp only [Res.bind];rw [a2];dsimp only;rw [AJ,jD hl.1 hl.2];dsimp only [Res.bind];rw [show (l.map enc).set k.toNat (enc v)=(l.set k.toNat v).map enc by rw [jt]];rfl
  exact ⟨_,_,hx',e,_,rfl,hg.put ht hi g1 (by rw [Fy (CV g3)];exact g2),hs.fle S2⟩
 ·cases h5
theorem cY {mi:ME} {R:Rk ρ} {pi:Option Int} {i:Nat} {l:List α} (hi:A[i]?=some (.w i (oL enc l))) (h:VE A mi (rV D.int) pi) (ht:((A.set i .u).all (Sl.oth i))=true) :
  VS A (CY (UA (AG i) mi)) R (pi.bind λk=>(Wf l k).bind λl'=>some (.nx l')) (λl'=>A.set i (.w i (oL enc l'))):=λf hf S0 e F S hs=>by
 obtain ⟨k,h1,h2⟩:=BH hf;obtain ⟨l',h5,h6⟩:=BH h2;cases h6;unfold Wf at h5;split at h5
 ·rename_i hl
  cases h5;obtain ⟨x,g1,n,rfl,g2,g3⟩:=hs.sl i _ hi;obtain ⟨d1,S1,c1,k1,rfl⟩:=h k h1 S0 e F S hs;have hg:=hs.grow k1
  have a0:atL (.ref n) S=some (n,l.map enc):=by unfold atL;dsimp only;rw [g3];rfl
  have a2:atL (.ref n) S1=some (n,l.map enc):=by unfold atL;dsimp only;rw [k1.at g3];rfl
  have hk:k.toNat < l.length:=by omega
  have hx':UA (AG i) mi e S=.ok (enc l[k.toNat]) (S1.set n (oL enc (l.eraseIdx k.toNat))):=by
   unfold UA;rw [ZR g1];dsimp only [Res.bind];rw [a0];dsimp only;rw [c1];dsimp only [Res.bind];rw [a2];dsimp only;rw [qX ⟨hl.1,hl.2.1⟩,Ag,A0 hk];dsimp only [Lq];rw [show (l.map enc).eraseIdx k.toNat=(l.eraseIdx k.toNat).map enc by simp only [List.eraseIdx_eq_take_drop_succ,BM,TC,gd]];rfl
  exact ⟨_,_,E0 hx',e,_,rfl,hg.put ht hi g1 (by rw [Fy (CV g3)];exact g2),hs.fle S1⟩
 ·cases h5
theorem To:∀rs:List (List Int),MH (rs.map Ij)=some rs
 | []=>rfl
 | r :: rs=>by
  show MH (.tup (r.map D.int) :: rs.map Ij)=_;unfold MH;rw [KO,To rs]
theorem ZG {a:ME} {pl:Option (List (List Int))} (ha:VE A a (rO (oL (eT D.int))) pl):VE A (SL a) (rN (oL (eT D.int))) (pl.bind λl=>some (GZ l)):=λv hv S0 e F S hs=>by
 obtain ⟨l,h1,h2⟩:=BH hv;cases h2;obtain ⟨d,S',h3,h4,n,rfl,hn⟩:=ha l h1 S0 e F S hs;refine ⟨_,_,?_,h4.trans (Keeps.app _ _),_,rfl,h4.1,CF _ _⟩;unfold SL;rw [h3];dsimp only [Res.bind];rw [CZ hn];dsimp only;rw [show MH (l.map (eT D.int))=some l from To l];rfl
end
end L4
namespace M
open PySem PySem.Spec PyProof.Rows L2
abbrev oN(e:L2.Lo)(S:L2.Sto):L2.Res L2.Fl:=.ok (.nx e) S
abbrev sR(n:Nat):Option L2.D:=some (.ref n)
abbrev sI(i:Int):Option L2.D:=some (.int i)
abbrev sF(l:List Int):Option L2.D:=some (.fro (l.map L2.D.int))
def top (i:Nat):C2:=gc.main.body.getD i (.Pass ⟨0,0,0,0⟩)
structure Wd where
 BadPlaces:AI
 BadTie:AI
 NoPlace:AI
 Web:AI
def Wd.excs (W:Wd):List AI:=[W.BadPlaces,W.BadTie,W.NoPlace]
abbrev Ds:C2:=top 8
abbrev Dr:C2:=top 9
abbrev Gf:C2:=eR (top 7) 0
abbrev Cm:C2:=top 10
abbrev M5:C2:=top 11
abbrev Eu:C2:=top 13
abbrev FR:C2:=top 14
abbrev HX:C2:=top 15
abbrev Et:C2:=top 16
abbrev Du:C2:=top 18
abbrev Ew:C2:=top 19
abbrev FT:C2:=top 20
abbrev FS:C2:=top 21
abbrev EE:C2:=top 22
abbrev Ev:C2:=top 23
abbrev Ex:C2:=top 24
abbrev Cn:C2:=top 25
abbrev Dt:C2:=top 26
abbrev Qy:C2:=top 27
def Pp (W:Wd):MS:=
  (BY (CB 2 aT)
  (BY (Gz (Fb (AG 1)) (Jj 2 (Df (tgN 3) (Df (tgN 4) KA)))
  (BY (CB 5 (HC (AX (mQ RB (AX (AG 3) (AX (AG 4) A1))) (AX (mQ RC (AX (AG 3) (AX (AG 4) A1))) A1))))
  (BY (sIf (mB (m2 (eqD false) (m2 ixA (AG 5) (mC (.int 0))) (m2 ixA (AG 5) (mC (.int 1))))) (Ei W.BadTie (AX (mC (.str "a tie has one place twice")) A1)) sNx)
  (BY (sIf (mOr (mB (m2 ltD (m2 ixA (AG 5) (mC (.int 0))) (mC (.int 0)))) (mB (m2 geD (m2 ixA (AG 5) (mC (.int 1))) (AG 0)))) (Ei W.BadTie (AX (mC (.str "a tie has a place that is not there")) A1)) sNx)
  (BY (sIf (mB (m2 (inA false) (AG 5) (AG 2))) (Ei W.BadTie (AX (mC (.str "a tie is there twice")) A1)) sNx)
  (O1 (AG 2) (AG 5) (mC (.bl true))))))))
  (Fa (HB (Dm (AG 2))))))
def Fv (W:Wd):List D->Sto->Res D:=Fj 6 (Pp W)
def Kd (W:Wd):MS:=
  (BY (CB 2 (C5 (Fp 1 (iR1 (AX (AG 0) A1)) (tgN 0) GB (C5 (Ci A1)))))
  (BY (Gz (Fb (AG 1)) (Jj 2 (Df (tgN 3) (Df (tgN 4) KA)))
  (BY (CY (GP (m2 ixA (AG 2) (AG 3)) (AG 4)))
  (CY (GP (m2 ixA (AG 2) (AG 4)) (AG 3)))))
  (Fa (HB (C5 (Fp 1 (Fb (AG 2)) (tgN 0) GB (HB (Dm (AG 0)))))))))
def Fu (W:Wd):List D->Sto->Res D:=Fj 5 (Kd W)
def Pq (W:Wd):MS:=
  (BY (sIf (N3 (mB (m3 leD leD (mC (.int 1)) (AG 1) (mC (.int 60))))) (Ei W.BadPlaces (AX (ft (Wo (mC (.str "a web has 1 to ")) (Wo (lL (mC (.int 60))) (Wo (mC (.str " places")) jB)))) A1)) sNx)
  (BY (Qz W.Web "places" (AG 0) (AG 1))
  (BY (Qz W.Web "ties" (AG 0) (B3 2 (Fv W) (AX (AG 1) (AX (AG 2) A1))))
  (Qz W.Web "near_sets" (AG 0) (B3 2 (Fu W) (AX (AG 1) (AX (PM W.Web "ties" (AG 0)) A1)))))))
def Hk (W:Wd):List D->Sto->Res D:=Fj 3 (Pq W)
def GC (W:Wd):MS:=
  (sIf (N3 (mB (m3 leD ltD (mC (.int 0)) (AG 1) (PM W.Web "places" (AG 0))))) (Ei W.NoPlace (AX (mC (.str "the web has no such place")) A1)) sNx)
def Ft (W:Wd):List D->Sto->Res D:=Fj 2 (GC W)
def V7 (W:Wd):MS:=
  (BY (CY (B3 2 (Ft W) (AX (AG 0) (AX (AG 1) A1))))
  (Fa (m2 ixA (PM W.Web "near_sets" (AG 0)) (AG 1))))
def Vy (W:Wd):List D->Sto->Res D:=Fj 2 (V7 W)
def Ja (W:Wd):MS:=
  (BY (Gz (SW (AG 1)) (Jj 2 (Df (tgN 3) (Df (tgN 4) KA)))
  (BY (CB 5 (B3 2 (Vy W) (AX (AG 0) (AX (AG 4) A1))))
  (Gz (Fb (Kq (AG 1) (HH (m2 E8 (AG 3) (mC (.int 1)))) Jk)) (tgN 6)
  (sIf (mB (m2 (eqD false) (m2 (inA false) (AG 6) (AG 5)) (AG 2))) (Fa (HC (AX (AG 4) (AX (AG 6) A1)))) sNx))))
  (Fa (mC .non)))
def JX (W:Wd):List D->Sto->Res D:=Fj 7 (Ja W)
def Ke (W:Wd):MS:=
  (Fa (B3 3 (JX W) (AX (AG 0) (AX (AG 1) (AX (mC (.bl false)) A1)))))
def KU (W:Wd):List D->Sto->Res D:=Fj 2 (Ke W)
def NG (W:Wd):MS:=
  (Fa (PN (m2 gtD (Gj (AG 1)) (mC (.int 0))) (m2 (eQ false) (B3 2 (KU W) (AX (AG 0) (AX (AG 1) A1))) (mC .non))))
def ND (W:Wd):List D->Sto->Res D:=Fj 2 (NG W)
def JZ (W:Wd):MS:=
  (BY (CB 2 (C5 (Ci A1)))
  (BY (Gz (Fb (AG 1)) (tgN 3)
  (CY (UB (AG 2) (AG 3))))
  (BY (sIf (mB (m2 (eqD true) (Dm (AG 2)) (C5 (MU (AX (PM W.Web "places" (AG 0)) A1))))) (Fa (mC (.bl false))) sNx)
  (BY (sIf (mB (m2 (eqD true) (AG 1) (SL (C5 (Fp 1 (Fb (AG 1)) (tgN 0) GB (HB (Dm (AG 0)))))))) (Fa (mC (.bl false))) sNx)
  (Fa (mQ bi (IN (C5 (Fp 1 (Fb (AG 1)) (tgN 0) GB (B3 2 (ND W) (AX (AG 1) (AX (AG 0) A1))))))))))))
def D9 (W:Wd):List D->Sto->Res D:=Fj 4 (JZ W)
def Hn (W:Wd):MS:=
  (BY (sIf (mB (m2 ltD (AG 1) (Gj (AG 0)))) (Fa (m2 ixA (AG 0) (AG 1))) sNx)
  (Fa (mC (.int 0))))
def Fx (W:Wd):List D->Sto->Res D:=Fj 2 (Hn W)
def Mh (W:Wd):MS:=
  (BY (CB 2 (m2 EQ (m2 PJ (m2 E8 (m2 EQ (AG 0) (mC (.int 2147483647))) (AG 1)) (mC (.int 48271))) (mC (.int 2147483647))))
  (Fa (m2 EQ (m2 PJ (AG 2) (AG 2)) (mC (.int 2147483629)))))
def DZ (W:Wd):List D->Sto->Res D:=Fj 3 (Mh W)
def Nm (W:Wd):MS:=
  (BY (CB 2 (C5 (Ci (AX (Gj (AG 0)) A1))))
  (BY (Gz (iR1 (AX (mC (.int 24)) A1)) (tgN 3)
  (BY (CB 4 (ON (AG 0) (HH (m2 E8 (AG 1) (AG 3))) Jk (HH (mC (.int 24)))))
  (sIf (mB (m2 (eqD true) (AG 4) (C5 (Ci A1)))) (CY (GP (AG 2) (Vk (AG 4)))) sNx)))
  (Fa (AG 2))))
def IF (W:Wd):List D->Sto->Res D:=Fj 5 (Nm W)
def Nl (W:Wd):MS:=
  (BY (CB 3 (C5 (Ci A1)))
  (BY (CB 4 (mC (.int 0)))
  (BY (Gz (iR2 (AX (mC (.int 1)) (AX (AG 1) A1))) (tgN 5)
  (Gz (iR1 (AX (AG 5) A1)) (tgN 6)
  (BY (CB 7 (m2 ixA (AG 0) (m2 EQ (AG 4) (Gj (AG 0)))))
  (BY (CB 4 (m2 E8 (AG 4) (mC (.int 1))))
  (sIf (mB (m2 ltD (m2 EQ (B3 2 (DZ W) (AX (AG 7) (AX (m2 E8 (m2 PJ (mC (.int 7)) (AG 6)) (m2 PJ (mC (.int 61)) (AG 5))) A1))) (mC (.int 6))) (AG 2))) (CY (GP (AG 3) (HC (AX (AG 6) (AX (AG 5) A1))))) sNx)))))
  (Fa (AG 3)))))
def IE (W:Wd):List D->Sto->Res D:=Fj 8 (Nl W)
def Gv (W:Wd):MS:=
  (BY (CB 2 (C5 (Ci A1)))
  (BY (Gz (iR1 (AX (Gj (AG 0)) A1)) (tgN 3)
  (sIf (mB (m2 (eqD false) (m2 EQ (B3 2 (DZ W) (AX (AG 1) (AX (AG 3) A1))) (mC (.int 2))) (mC (.int 0)))) (CY (GP (AG 2) (m2 ixA (AG 0) (AG 3)))) (CY (GP (AG 2) (HC (AX (m2 ixA (m2 ixA (AG 0) (AG 3)) (mC (.int 1))) (AX (m2 ixA (m2 ixA (AG 0) (AG 3)) (mC (.int 0))) A1)))))))
  (BY (sIf (mB (m2 (eqD false) (m2 EQ (AG 1) (mC (.int 2))) (mC (.int 1)))) (CY (aR (AG 2))) sNx)
  (Fa (AG 2)))))
def Dg (W:Wd):List D->Sto->Res D:=Fj 4 (Gv W)
def Mg (W:Wd):MS:=
  (BY (CB 2 (C5 (Fp 1 (iR1 (AX (AG 1) A1)) (tgN 0) GB (C5 (Ci A1)))))
  (BY (Gz (Fb (AG 0)) (Jj 2 (Df (tgN 3) (Df (tgN 4) KA)))
  (BY (CY (GP (m2 ixA (AG 2) (AG 3)) (AG 4)))
  (CY (GP (m2 ixA (AG 2) (AG 4)) (AG 3)))))
  (Fa (C5 (Fp 1 (Fb (AG 2)) (tgN 0) GB (Dm (AG 0)))))))
def HR (W:Wd):List D->Sto->Res D:=Fj 5 (Mg W)
def Jb (W:Wd):MS:=
  (BY (CB 1 (C5 (Ci A1)))
  (BY (Gz (iR1 (AX (Gj (AG 0)) A1)) (tgN 2)
  (BY (CB 3 (mC (.int 0)))
  (BY (He (QS (mB (m2 ltD (AG 3) (Gj (AG 1)))) (N3 (mB (mQ bi (IN (C5 (Fp 1 (Fb (m2 ixA (AG 1) (AG 3))) (tgN 0) GB (m2 (inA false) (AG 0) (m2 ixA (AG 1) (AG 3)))))))))) (CB 3 (m2 E8 (AG 3) (mC (.int 1)))) wN)
  (BY (sIf (mB (m2 (eqD false) (AG 3) (Gj (AG 1)))) (CY (GP (AG 1) (HC A1))) sNx)
  (QN (m2 E8 (m2 ixA (AG 1) (AG 3)) (HC (AX (AG 2) A1))) (JM (AG 1) (AG 3)))))))
  (Fa (AG 1))))
def HS (W:Wd):List D->Sto->Res D:=Fj 4 (Jb W)
def GD (W:Wd):MS:=
  (BY (CB 2 (C5 (Ci A1)))
  (BY (CB 3 (C5 (Ci A1)))
  (BY (Gz (Fb (AG 1)) (tgN 4)
  (BY (Gz (Fb (AG 4)) (tgN 5)
  (Gz (Fb (AG 4)) (tgN 6)
  (sIf (QS (mB (m2 (eqD true) (AG 5) (AG 6))) (mB (m2 (inA true) (AG 6) (m2 ixA (AG 0) (AG 5))))) (Fa (mC (.bl false))) sNx)))
  (BY (CY (MV (AG 2) (C5 (mN Iq (IN (AG 4))))))
  (CY (GP (AG 3) (m2 ixA (m2 E8 (C5 (mN Iq (IN (AG 4)))) (C5 (Ci (AX (aS (mC (.int 1))) A1)))) (mC (.int 0))))))))
  (Fa (PN (m2 (eqD false) (Dm (AG 2)) (C5 (MU (AX (Gj (AG 0)) A1)))) (PN (m2 (eqD false) (Dm (AG 3)) (AG 3)) (m2 (inA true) (aS (mC (.int 1))) (AG 3))))))))
def Co (W:Wd):List D->Sto->Res D:=Fj 7 (GD W)
def Hm (W:Wd):MS:=
  (BY (CB 0 (C5 (mN Iq (IN (AG 0)))))
  (BY (CB 2 (m2 EQ (m2 Hj (AG 1) (mC (.int 6))) (Gj (AG 0))))
  (BY (CB 3 (m2 EQ (m2 Hj (AG 1) (mC (.int 97))) (Gj (AG 0))))
  (BY (sIf (mB (m2 (eqD false) (m2 EQ (AG 1) (mC (.int 6))) (mC (.int 0)))) (QN (HB (KM (m2 E8 (m2 ixA (AG 0) (AG 3)) (Kq (m2 ixA (AG 0) (AG 2)) Jk (HH (mC (.int 1))))))) (JM (AG 0) (AG 3))) sNx)
  (BY (sIf (mB (m2 (eqD false) (m2 EQ (AG 1) (mC (.int 6))) (mC (.int 1)))) (QN (Kq (m2 ixA (AG 0) (AG 2)) (HH (mC (.int 1))) Jk) (JM (AG 0) (AG 2))) sNx)
  (BY (sIf (mB (m2 (eqD false) (m2 EQ (AG 1) (mC (.int 6))) (mC (.int 2)))) (CY (GP (AG 0) (m2 ixA (AG 0) (AG 2)))) sNx)
  (BY (sIf (QS (mB (m2 (eqD false) (m2 EQ (AG 1) (mC (.int 6))) (mC (.int 3)))) (mB (m2 (eqD true) (AG 2) (AG 3)))) (BY (QN (HB (KM (m2 E8 (m2 ixA (AG 0) (AG 3)) (m2 ixA (AG 0) (AG 2))))) (JM (AG 0) (AG 3)))
  (CY (UA (AG 0) (AG 2)))) sNx)
  (BY (sIf (mB (m2 (eqD false) (m2 EQ (AG 1) (mC (.int 6))) (mC (.int 4)))) (CB 0 (m2 E8 (Lc (AG 0) (HH (AG 3)) Jk) (Lc (AG 0) Jk (HH (AG 3))))) sNx)
  (BY (sIf (mB (m2 (eqD false) (m2 EQ (AG 1) (mC (.int 6))) (mC (.int 5)))) (CB 0 (m2 E8 (m2 E8 (Lc (AG 0) Jk (HH (AG 2))) (C5 (Ci (AX (HC A1) A1)))) (Lc (AG 0) (HH (AG 2)) Jk))) sNx)
  (Fa (AG 0)))))))))))
def Dw (W:Wd):List D->Sto->Res D:=Fj 4 (Hm W)
def ba (W:Wd):MS:=
  (BY (CB 1 (B3 2 (Fx W) (AX (AG 0) (AX (mC (.int 0)) A1))))
  (BY (CB 2 (m2 E8 (mC (.int 1)) (m2 EQ (AG 1) (mC (.int 14)))))
  (BY (CB 3 (B3 2 (IF W) (AX (AG 0) (AX (mC (.int 1)) A1))))
  (BY (CB 4 (B3 3 (IE W) (AX (AG 3) (AX (AG 2) (AX (m2 E8 (mC (.int 1)) (m2 EQ (m2 Hj (AG 1) (mC (.int 5))) (mC (.int 6)))) A1)))))
  (BY (CB 5 (PL W.Web 3 (Hk W) (AX (AG 2) (AX (B3 2 (Dg W) (AX (AG 4) (AX (AG 1) A1))) A1))))
  (BY (CB 6 (B3 2 (HR W) (AX (AG 4) (AX (AG 2) A1))))
  (BY (CB 7 (C5 (Ci (AX (B3 1 (HS W) (AX (AG 6) A1)) (AX (C5 (Fp 1 (iR1 (AX (AG 2) A1)) (tgN 0) GB (HC (AX (AG 0) A1)))) A1)))))
  (BY (CB 8 (C5 (mN Iq (IN (AG 7)))))
  (BY (Gz (Fb (AG 3)) (tgN 9)
  (CY (GP (AG 8) (B3 2 (Dw W) (AX (m2 ixA (AG 7) (m2 EQ (m2 Hj (AG 9) (mC (.int 3))) (mC (.int 2)))) (AX (m2 Hj (AG 9) (mC (.int 7))) A1))))))
  (BY (Gz (Fb (AG 8)) (tgN 10)
  (BY (CB 11 (C5 (mN Iq (IN (AG 10)))))
  (BY (CB 12 (B3 2 (D9 W) (AX (AG 5) (AX (AG 11) A1))))
  (sIf (mOr (N3 (mB (mIs (isB "bool") (λ_=>none) (AG 12)))) (mOr (mB (m2 (eqD true) (AG 12) (B3 2 (Co W) (AX (AG 6) (AX (AG 10) A1))))) (mB (m2 (eqD true) (AG 11) (AG 10))))) (Fa (mC (.bl false))) sNx))))
  (Fa (B3 2 (D9 W) (AX (AG 5) (AX (m2 ixA (AG 7) (mC (.int 0))) A1))))))))))))))
def bO (W:Wd):List D->Sto->Res D:=Fj 13 (ba W)
structure Txt (K:AC) (mg:Str->Option AB) (W:Wd) where
 d_checked_ties:Dfn K mg "checked_ties" "checked_ties" Ds ["places", "ties"]
 d_near_sets_of:Dfn K mg "near_sets_of" "near_sets_of" Dr ["places", "ties"]
 d_Web_init:Mtd K "__init__" "Web.__init__" Gf ["self", "places", "ties"]
 d_refuse_no_place:Dfn K mg "refuse_no_place" "refuse_no_place" Cm ["web", "place"]
 d_near:Dfn K mg "near" "near" M5 ["web", "place"]
 d_first_pair:Dfn K mg "first_pair" "first_pair" Eu ["web", "some", "wanted"]
 d_first_far:Dfn K mg "first_far" "first_far" FR ["web", "some"]
 d_is_club:Dfn K mg "is_club" "is_club" HX ["web", "some"]
 d_is_parting:Dfn K mg "is_parting" "is_parting" Et ["web", "clubs"]
 d__law_cell_at:Dfn K mg "_law_cell_at" "_law_cell_at" Du ["script", "k"]
 d__law_mixed:Dfn K mg "_law_mixed" "_law_mixed" Ew ["cell", "salt"]
 d__law_pool:Dfn K mg "_law_pool" "_law_pool" FT ["script", "start"]
 d__law_ties:Dfn K mg "_law_ties" "_law_ties" FS ["pool", "many", "thick"]
 d__law_turned:Dfn K mg "_law_turned" "_law_turned" EE ["ties", "cell"]
 d__law_nears:Dfn K mg "_law_nears" "_law_nears" Ev ["ties", "many"]
 d__law_clubs:Dfn K mg "_law_clubs" "_law_clubs" Ex ["nears"]
 d__law_parts_well:Dfn K mg "_law_parts_well" "_law_parts_well" Cn ["nears", "clubs"]
 d__law_changed:Dfn K mg "_law_changed" "_law_changed" Dt ["clubs", "cell"]
 d_law:Dfn K mg "law" "law" Qy ["script"]
 c_Web:Own K mg "Web" W.Web d_Web_init.f
 n_Web_places:Ho K W.Web "places"
 n_Web_ties:Ho K W.Web "ties"
 n_Web_near_sets:Ho K W.Web "near_sets"
 x_BadPlaces:Xcl K mg "BadPlaces" W.BadPlaces
 x_BadTie:Xcl K mg "BadTie" W.BadTie
 x_NoPlace:Xcl K mg "NoPlace" W.NoPlace
 nd:W.excs.Nodup
 b_all:mg "all" = none
 b_bool:mg "bool" = none
 b_enumerate:mg "enumerate" = none
 b_isinstance:mg "isinstance" = none
 b_len:mg "len" = none
 b_list:mg "list" = none
 b_max:mg "max" = none
 b_min:mg "min" = none
 b_range:mg "range" = none
 b_set:mg "set" = none
 b_sorted:mg "sorted" = none
 b_sum:mg "sum" = none
 b_tuple:mg "tuple" = none
 g_MOST_PLACES:∃tk,mg "MOST_PLACES" = some (.int 60 tk)
section
variable {P:Al} {w:A2} {K:AC} {mg:Str->Option AB} {base:BP} {W:Wd}
theorem Nu:CL ["places", "ties", "found", "one", "other", "tie"] ["places", "ties"] (Au Ds):=JS
theorem N0 (T:Txt K mg W):Ek P w K mg base (CXG P w) 1 T.d_checked_ties.f T.d_checked_ties.fd ["places", "ties"] (spM K 2 (Fv W)):=by
 refine C8 (k:=0) T.d_checked_ties.F Nu rfl λ_ _ _ _ _ _ hr O hu nd pn E'=>?_
 exact (Ai (DA 2 nd bJ)
  (Ai (E6 (Bj O).own rfl (FP (AH (pv 1))) (Sd rfl (G4 (Dj 3 nd) (G4 (Dj 4 nd) OP)))
  (Ai (DA 5 nd (KQ (Am (ef rfl rfl T.b_min (Am (AH (pv 3)) (Am (AH (pv 4)) BD))) (Am (eh rfl rfl T.b_max (Am (AH (pv 3)) (Am (AH (pv 4)) BD))) BD))))
  (Ai (E1 (Cr (Im hu) (DY hu (AH (pv 5)) ge_int) (DY hu (AH (pv 5)) ge_int) (Ce _)) (Aw (KP (Bj O) rfl T.x_BadTie.xc rfl T.x_BadTie.m (Am M9 BD))) Cg)
  (Ai (E1 (ax (aw (Cr T0 (DY hu (AH (pv 5)) ge_int) ge_int (Ce _)) (av (Cr lF (DY hu (AH (pv 5)) ge_int) (AH (pv 0)) (Ce _))))) (Aw (KP (Bj O) rfl T.x_BadTie.xc rfl T.x_BadTie.m (Am M9 BD))) Cg)
  (Ai (E1 (lX hu (AH (pv 5)) (AH (pv 2))) (Aw (KP (Bj O) rfl T.x_BadTie.xc rfl T.x_BadTie.m (Am M9 BD))) Cg)
  (Aw (eV (B5 (Nat.add_le_add_left (by decide:1<=64) _) hu) (AH (pv 2)) (AH (pv 5)) RI rfl)))))))
  (Aw (DJ (Iv rfl T.b_tuple (Go rfl rfl T.b_sorted (AH (pv 2))))))))
theorem Nt:CL ["places", "ties", "rows", "one", "other"] ["places", "ties"] (Au Dr):=JS
theorem Nz (T:Txt K mg W):Ek P w K mg base (CXG P w) 1 T.d_near_sets_of.f T.d_near_sets_of.fd ["places", "ties"] (spM K 2 (Fu W)):=by
 refine C8 (k:=0) T.d_near_sets_of.F Nt rfl λ_ _ _ _ _ _ hr O hu nd pn E'=>?_
 exact (Ai (Ws (i:=2) (own:=["place"]) (N':=["place", "·1", "·2", "·3", "·4", "·5"]) rfl rfl nd rfl (by first | exact WH rfl | exact S8 rfl) (IG (by kernel_rfl)) (Gn rfl T.b_range (Am (AH (pv 0)) BD)) (λ_ _ _ _ _ _=>(Dj 0 (by decide +kernel:(["place", "·1", "·2", "·3", "·4", "·5"]:List Str).Nodup))) (λ_ _ _ _ _ _=>G3) (λ_ _ _ _ _ _=>(DQ (Gm BD))))
  (Ai (E6 (Bj O).own rfl (FP (AH (pv 1))) (Sd rfl (G4 (Dj 3 nd) (G4 (Dj 4 nd) OP)))
  (Ai (DX (DU (DY hu (AH (pv 2)) (AH (pv 3))) (AH (pv 4))))
  (Aw (DX (DU (DY hu (AH (pv 2)) (AH (pv 4))) (AH (pv 3)))))))
  (Aw (DJ (Iv rfl T.b_tuple (DQ (Kr (own:=["row"]) (N':=["row", "·1", "·2", "·3", "·4", "·5"]) rfl (IG (by kernel_rfl)) (FP (AH (pv 2))) (λ_ _ _ _ _ _=>(Dj 0 (by decide +kernel:(["row", "·1", "·2", "·3", "·4", "·5"]:List Str).Nodup))) (λ_ _ _ _ _ _=>G3) (λ_ _ _ _ _ _=>(Iv rfl T.b_tuple (Go rfl rfl T.b_sorted (AH (pv 0))))))))))))
theorem Tl:CL ["self", "places", "ties"] ["self", "places", "ties"] (Au Gf):=JS
theorem Tx (T:Txt K mg W):Ek P w K mg base (CXG P w) 2 T.d_Web_init.f T.d_Web_init.fd ["self", "places", "ties"] (spM K 3 (Hk W)):=by
 refine C8 (k:=1) T.d_Web_init.F Tl rfl λ_ _ _ _ _ _ hr O hu nd pn E'=>?_
 exact (Ai (E1 (SZ (UK aF aF ge_int (AH (pv 1)) (UM rfl T.g_MOST_PLACES.choose_spec))) (Aw (KP (Bj O) rfl T.x_BadPlaces.xc rfl T.x_BadPlaces.m (Am (ej (Sb M9 (Sb (jN (UM rfl T.g_MOST_PLACES.choose_spec)) (Sb M9 jI)))) BD))) Cg)
  (Ai (Vr T.c_Web.cl T.n_Web_places (AH (pv 0)) (AH (pv 1)) rfl)
  (Ai (Vr T.c_Web.cl T.n_Web_ties (AH (pv 0)) (C7 (N0 T) (Bj O).pass (hr.mono (by decide)) rfl T.d_checked_ties.m T.d_checked_ties.kp T.d_checked_ties.b (Am (AH (pv 1)) (Am (AH (pv 2)) BD))) rfl)
  (Aw (Vr T.c_Web.cl T.n_Web_near_sets (AH (pv 0)) (C7 (Nz T) (Bj O).pass (hr.mono (by decide)) rfl T.d_near_sets_of.m T.d_near_sets_of.kp T.d_near_sets_of.b (Am (AH (pv 1)) (Am (Sf T.c_Web.cl T.n_Web_ties (AH (pv 0)) rfl) BD))) rfl)))))
theorem LX:CL ["web", "place"] ["web", "place"] (Au Cm):=JS
theorem La (T:Txt K mg W):Ek P w K mg base (CXG P w) 1 T.d_refuse_no_place.f T.d_refuse_no_place.fd ["web", "place"] (spM K 2 (Ft W)):=by
 refine C8 (k:=0) T.d_refuse_no_place.F LX rfl λ_ _ _ _ _ _ hr O hu nd pn E'=>?_
 exact (Aw (E1 (SZ (UK aF T0 ge_int (AH (pv 1)) (Sf T.c_Web.cl T.n_Web_places (AH (pv 0)) rfl))) (Aw (KP (Bj O) rfl T.x_NoPlace.xc rfl T.x_NoPlace.m (Am M9 BD))) Cg))
theorem dD:CL ["web", "place"] ["web", "place"] (Au M5):=JS
theorem dy (T:Txt K mg W):Ek P w K mg base (CXG P w) 2 T.d_near.f T.d_near.fd ["web", "place"] (spM K 2 (Vy W)):=by
 refine C8 (k:=1) T.d_near.F dD rfl λ_ _ _ _ _ _ hr O hu nd pn E'=>?_
 exact (Ai (DX (C7 (La T) (Bj O).pass (hr.mono (by decide)) rfl T.d_refuse_no_place.m T.d_refuse_no_place.kp T.d_refuse_no_place.b (Am (AH (pv 0)) (Am (AH (pv 1)) BD))))
  (Aw (DJ (DY hu (Sf T.c_Web.cl T.n_Web_near_sets (AH (pv 0)) rfl) (AH (pv 1))))))
theorem QI:CL ["web", "some", "wanted", "number", "one", "beside", "other"] ["web", "some", "wanted"] (Au Eu):=JS
theorem QP (T:Txt K mg W):Ek P w K mg base (CXG P w) 3 T.d_first_pair.f T.d_first_pair.fd ["web", "some", "wanted"] (spM K 3 (JX W)):=by
 refine C8 (k:=2) T.d_first_pair.F QI rfl λ_ _ _ _ _ _ hr O hu nd pn E'=>?_
 exact (Ai (E6 (Bj O).own rfl (eX rfl T.b_enumerate (AH (pv 1))) (Sd rfl (G4 (Dj 3 nd) (G4 (Dj 4 nd) OP)))
  (Ai (DA 5 nd (C7 (dy T) (Bj O).pass (hr.mono (by decide)) rfl T.d_near.m T.d_near.kp T.d_near.b (Am (AH (pv 0)) (Am (AH (pv 4)) BD))))
  (Aw (E6 (Bj O).own rfl (FP (NA (AH (pv 1)) (HQ (Bf FO (AH (pv 3)) ge_int)) ID)) (Dj 6 nd)
  (Aw (E1 (Cr (Im hu) (fy hu (AH (pv 6)) (AH (pv 5))) (AH (pv 2)) (Ce _)) (Aw (DJ (KQ (Am (AH (pv 4)) (Am (AH (pv 6)) BD))))) Cg))))))
  (Aw (DJ bH)))
theorem R8:CL ["web", "some"] ["web", "some"] (Au FR):=JS
theorem SF (T:Txt K mg W):Ek P w K mg base (CXG P w) 4 T.d_first_far.f T.d_first_far.fd ["web", "some"] (spM K 2 (KU W)):=by
 refine C8 (k:=3) T.d_first_far.F R8 rfl λ_ _ _ _ _ _ hr O hu nd pn E'=>?_
 exact (Aw (DJ (C7 (QP T) (Bj O).pass (hr.mono (by decide)) rfl T.d_first_pair.m T.d_first_pair.kp T.d_first_pair.b (Am (AH (pv 0)) (Am (AH (pv 1)) (Am RI BD))))))
theorem VY:CL ["web", "some"] ["web", "some"] (Au HX):=JS
theorem Vd (T:Txt K mg W):Ek P w K mg base (CXG P w) 5 T.d_is_club.f T.d_is_club.fd ["web", "some"] (spM K 2 (ND W)):=by
 refine C8 (k:=4) T.d_is_club.F VY rfl λ_ _ _ _ _ _ hr O hu nd pn E'=>?_
 exact (Aw (DJ (L2.Vv (NB lE (Hi rfl T.b_len (AH (pv 1))) ge_int (Ce _)) (bF (NB iw (C7 (SF T) (Bj O).pass (hr.mono (by decide)) rfl T.d_first_far.m T.d_first_far.kp T.d_first_far.b (Am (AH (pv 0)) (Am (AH (pv 1)) BD))) bH (Ce _))))))
theorem QH:CL ["web", "clubs", "held", "club"] ["web", "clubs"] (Au Et):=JS
theorem LJ (T:Txt K mg W):Ek P w K mg base (CXG P w) 6 T.d_is_parting.f T.d_is_parting.fd ["web", "clubs"] (spM K 2 (D9 W)):=by
 refine C8 (k:=5) T.d_is_parting.F QH rfl λ_ _ _ _ _ _ hr O hu nd pn E'=>?_
 exact (Ai (DA 2 nd (DQ (Gm BD)))
  (Ai (E6 (Bj O).own rfl (FP (AH (pv 1))) (Dj 3 nd)
  (Aw (DX (ek (AH (pv 2)) (AH (pv 3))))))
  (Ai (E1 (Cr (PB hu) (Go rfl rfl T.b_sorted (AH (pv 2))) (DQ (RH rfl rfl T.b_list rfl T.b_range (Am (Sf T.c_Web.cl T.n_Web_places (AH (pv 0)) rfl) BD))) (Ce _)) (Aw (DJ RI)) Cg)
  (Ai (E1 (Cr (PB hu) (AH (pv 1)) (bE rfl hu rfl T.b_sorted (DQ (Kr (own:=["club"]) (N':=["club", "·1", "·2", "·3", "·4"]) rfl (IG (by kernel_rfl)) (FP (AH (pv 1))) (λ_ _ _ _ _ _=>(Dj 0 (by decide +kernel:(["club", "·1", "·2", "·3", "·4"]:List Str).Nodup))) (λ_ _ _ _ _ _=>G3) (λ_ _ _ _ _ _=>(Iv rfl T.b_tuple (Go rfl rfl T.b_sorted (AH (pv 0)))))))) (Ce _)) (Aw (DJ RI)) Cg)
  (Aw (DJ (bL rfl rfl T.b_all (DQ (Kr (own:=["club"]) (N':=["club", "web", "·2", "·3", "·4"]) rfl (IG (by kernel_rfl)) (FP (AH (pv 1))) (λ_ _ _ _ _ _=>(Dj 0 (by decide +kernel:(["club", "web", "·2", "·3", "·4"]:List Str).Nodup))) (λ_ _ _ _ _ _=>G3) (λ_ _ _ _ _ _=>(C7 (Vd T) (good_none rfl).pass (hr.mono (by decide)) rfl T.d_is_club.m T.d_is_club.kp T.d_is_club.b (Am (AH (pv 1)) (Am (AH (pv 0)) BD)))))))))))))
theorem Nx:CL ["script", "k"] ["script", "k"] (Au Du):=JS
theorem N2 (T:Txt K mg W):Ek P w K mg base (CXG P w) 1 T.d__law_cell_at.f T.d__law_cell_at.fd ["script", "k"] (spM K 2 (Fx W)):=by
 refine C8 (k:=0) T.d__law_cell_at.F Nx rfl λ_ _ _ _ _ _ hr O hu nd pn E'=>?_
 exact (Ai (E1 (Cr T0 (AH (pv 1)) (Hi rfl T.b_len (AH (pv 0))) (Ce _)) (Aw (DJ (DY hu (AH (pv 0)) (AH (pv 1))))) Cg)
  (Aw (DJ ge_int)))
theorem QK:CL ["cell", "salt", "mixed"] ["cell", "salt"] (Au Ew):=JS
theorem LK (T:Txt K mg W):Ek P w K mg base (CXG P w) 1 T.d__law_mixed.f T.d__law_mixed.fd ["cell", "salt"] (spM K 2 (DZ W)):=by
 refine C8 (k:=0) T.d__law_mixed.F QK rfl λ_ _ _ _ _ _ hr O hu nd pn E'=>?_
 exact (Ai (DA 2 nd (Bf EI (Bf SI (Bf FO (Bf EI (AH (pv 0)) ge_int) (AH (pv 1))) ge_int) ge_int))
  (Aw (DJ (Bf EI (Bf SI (AH (pv 2)) (AH (pv 2))) ge_int))))
theorem SA:CL ["script", "start", "pool", "k", "more"] ["script", "start"] (Au FT):=JS
theorem SH (T:Txt K mg W):Ek P w K mg base (CXG P w) 1 T.d__law_pool.f T.d__law_pool.fd ["script", "start"] (spM K 2 (IF W)):=by
 refine C8 (k:=0) T.d__law_pool.F SA rfl λ_ _ _ _ _ _ hr O hu nd pn E'=>?_
 exact (Ai (DA 2 nd (DQ (Gm (Am (Hi rfl T.b_len (AH (pv 0))) BD))))
  (Ai (E6 (Bj O).own rfl (Gn rfl T.b_range (Am ge_int BD)) (Dj 3 nd)
  (Ai (DA 4 nd (YE (AH (pv 0)) (HQ (Bf FO (AH (pv 1)) (AH (pv 3)))) ID (HQ ge_int)))
  (Aw (E1 (Cr (PB hu) (AH (pv 4)) (DQ (Gm BD)) (Ce _)) (Aw (DX (DU (AH (pv 2)) (jM rfl rfl T.b_sum (AH (pv 4)))))) Cg))))
  (Aw (DJ (AH (pv 2))))))
theorem R9:CL ["pool", "many", "thick", "ties", "at", "other", "one", "cell"] ["pool", "many", "thick"] (Au FS):=JS
theorem SG (T:Txt K mg W):Ek P w K mg base (CXG P w) 2 T.d__law_ties.f T.d__law_ties.fd ["pool", "many", "thick"] (spM K 3 (IE W)):=by
 refine C8 (k:=1) T.d__law_ties.F R9 rfl λ_ _ _ _ _ _ hr O hu nd pn E'=>?_
 exact (Ai (DA 3 nd (DQ (Gm BD)))
  (Ai (DA 4 nd ge_int)
  (Ai (E6 (Bj O).own rfl (YD rfl T.b_range (Am ge_int (Am (AH (pv 1)) BD))) (Dj 5 nd)
  (Aw (E6 (Bj O).own rfl (Gn rfl T.b_range (Am (AH (pv 5)) BD)) (Dj 6 nd)
  (Ai (DA 7 nd (DY hu (AH (pv 0)) (Bf EI (AH (pv 4)) (Hi rfl T.b_len (AH (pv 0))))))
  (Ai (DA 4 nd (Bf FO (AH (pv 4)) ge_int))
  (Aw (E1 (Cr T0 (Bf EI (C7 (LK T) (Bj O).pass (hr.mono (by decide)) rfl T.d__law_mixed.m T.d__law_mixed.kp T.d__law_mixed.b (Am (AH (pv 7)) (Am (Bf FO (Bf SI ge_int (AH (pv 6))) (Bf SI ge_int (AH (pv 5)))) BD))) ge_int) (AH (pv 2)) (Ce _)) (Aw (DX (DU (AH (pv 3)) (KQ (Am (AH (pv 6)) (Am (AH (pv 5)) BD)))))) Cg)))))))
  (Aw (DJ (AH (pv 3)))))))
theorem O0:CL ["ties", "cell", "told", "k"] ["ties", "cell"] (Au EE):=JS
theorem O8 (T:Txt K mg W):Ek P w K mg base (CXG P w) 2 T.d__law_turned.f T.d__law_turned.fd ["ties", "cell"] (spM K 2 (Dg W)):=by
 refine C8 (k:=1) T.d__law_turned.F O0 rfl λ_ _ _ _ _ _ hr O hu nd pn E'=>?_
 exact (Ai (DA 2 nd (DQ (Gm BD)))
  (Ai (E6 (Bj O).own rfl (Gn rfl T.b_range (Am (Hi rfl T.b_len (AH (pv 0))) BD)) (Dj 3 nd)
  (Aw (E1 (Cr (Im hu) (Bf EI (C7 (LK T) (Bj O).pass (hr.mono (by decide)) rfl T.d__law_mixed.m T.d__law_mixed.kp T.d__law_mixed.b (Am (AH (pv 1)) (Am (AH (pv 3)) BD))) ge_int) ge_int (Ce _)) (Aw (DX (DU (AH (pv 2)) (DY hu (AH (pv 0)) (AH (pv 3)))))) (Aw (DX (DU (AH (pv 2)) (KQ (Am (DY hu (DY hu (AH (pv 0)) (AH (pv 3))) ge_int) (Am (DY hu (DY hu (AH (pv 0)) (AH (pv 3))) ge_int) BD)))))))))
  (Ai (E1 (Cr (Im hu) (Bf EI (AH (pv 1)) ge_int) ge_int (Ce _)) (Aw (DX (Vu (AH (pv 2))))) Cg)
  (Aw (DJ (AH (pv 2)))))))
theorem QJ:CL ["ties", "many", "nears", "one", "other"] ["ties", "many"] (Au Ev):=JS
theorem QQ (T:Txt K mg W):Ek P w K mg base (CXG P w) 1 T.d__law_nears.f T.d__law_nears.fd ["ties", "many"] (spM K 2 (HR W)):=by
 refine C8 (k:=0) T.d__law_nears.F QJ rfl λ_ _ _ _ _ _ hr O hu nd pn E'=>?_
 exact (Ai (Ws (i:=2) (own:=["place"]) (N':=["place", "·1", "·2", "·3", "·4", "·5"]) rfl rfl nd rfl (by first | exact WH rfl | exact S8 rfl) (IG (by kernel_rfl)) (Gn rfl T.b_range (Am (AH (pv 1)) BD)) (λ_ _ _ _ _ _=>(Dj 0 (by decide +kernel:(["place", "·1", "·2", "·3", "·4", "·5"]:List Str).Nodup))) (λ_ _ _ _ _ _=>G3) (λ_ _ _ _ _ _=>(DQ (Gm BD))))
  (Ai (E6 (Bj O).own rfl (FP (AH (pv 0))) (Sd rfl (G4 (Dj 3 nd) (G4 (Dj 4 nd) OP)))
  (Ai (DX (DU (DY hu (AH (pv 2)) (AH (pv 3))) (AH (pv 4))))
  (Aw (DX (DU (DY hu (AH (pv 2)) (AH (pv 4))) (AH (pv 3)))))))
  (Aw (DJ (DQ (Kr (own:=["some"]) (N':=["some", "·1", "·2", "·3", "·4", "·5"]) rfl (IG (by kernel_rfl)) (FP (AH (pv 2))) (λ_ _ _ _ _ _=>(Dj 0 (by decide +kernel:(["some", "·1", "·2", "·3", "·4", "·5"]:List Str).Nodup))) (λ_ _ _ _ _ _=>G3) (λ_ _ _ _ _ _=>(Go rfl rfl T.b_sorted (AH (pv 0))))))))))
theorem QM:CL ["nears", "clubs", "place", "at"] ["nears"] (Au Ex):=JS
theorem QR (T:Txt K mg W):Ek P w K mg base (CXG P w) 1 T.d__law_clubs.f T.d__law_clubs.fd ["nears"] (spM K 1 (HS W)):=by
 refine C8 (k:=0) T.d__law_clubs.F QM rfl λ_ _ _ _ _ _ hr O hu nd pn E'=>?_
 exact (Ai (DA 1 nd (DQ (Gm BD)))
  (Ai (E6 (Bj O).own rfl (Gn rfl T.b_range (Am (Hi rfl T.b_len (AH (pv 0))) BD)) (Dj 2 nd)
  (Ai (DA 3 nd ge_int)
  (Ai (bB wN (Bj O).own (ax (Vq (Cr T0 (AH (pv 3)) (Hi rfl T.b_len (AH (pv 1))) (Ce _)) (SY (SZ (ay (bL rfl rfl T.b_all (DQ (Kr (own:=["other"]) (N':=["other", "nears", "·2", "place", "·4"]) rfl (IG (by kernel_rfl)) (FP (DY hu (AH (pv 1)) (AH (pv 3)))) (λ_ _ _ _ _ _=>(Dj 0 (by decide +kernel:(["other", "nears", "·2", "place", "·4"]:List Str).Nodup))) (λ_ _ _ _ _ _=>G3) (λ_ _ _ _ _ _=>(fy hu (AH (pv 0)) (DY hu (AH (pv 1)) (AH (pv 3))))))))))))) (Aw (DA 3 nd (Bf FO (AH (pv 3)) ge_int))))
  (Ai (E1 (Cr (Im hu) (AH (pv 3)) (Hi rfl T.b_len (AH (pv 1))) (Ce _)) (Aw (DX (DU (AH (pv 1)) (KQ BD)))) Cg)
  (Aw (Sa (Bf FO (DY hu (AH (pv 1)) (AH (pv 3))) (KQ (Am (AH (pv 2)) BD))) (Se (AH (pv 1)) (AH (pv 3)))))))))
  (Aw (DJ (AH (pv 1))))))
theorem LY:CL ["nears", "clubs", "met", "least", "club", "one", "other"] ["nears", "clubs"] (Au Cn):=JS
theorem Lb (T:Txt K mg W):Ek P w K mg base (CXG P w) 1 T.d__law_parts_well.f T.d__law_parts_well.fd ["nears", "clubs"] (spM K 2 (Co W)):=by
 refine C8 (k:=0) T.d__law_parts_well.F LY rfl λ_ _ _ _ _ _ hr O hu nd pn E'=>?_
 exact (Ai (DA 2 nd (DQ (Gm BD)))
  (Ai (DA 3 nd (DQ (Gm BD)))
  (Ai (E6 (Bj O).own rfl (FP (AH (pv 1))) (Dj 4 nd)
  (Ai (E6 (Bj O).own rfl (FP (AH (pv 4))) (Dj 5 nd)
  (Aw (E6 (Bj O).own rfl (FP (AH (pv 4))) (Dj 6 nd)
  (Aw (E1 (ax (Vq (Cr (PB hu) (AH (pv 5)) (AH (pv 6)) (Ce _)) (SY (az hu (AH (pv 6)) (DY hu (AH (pv 0)) (AH (pv 5))))))) (Aw (DJ RI)) Cg)))))
  (Ai (DX (YF (AH (pv 2)) (Mc rfl T.b_list (AH (pv 4)))))
  (Aw (DX (DU (AH (pv 3)) (DY hu (Bf FO (Mc rfl T.b_list (AH (pv 4))) (DQ (Gm (Am (bI ge_int) BD)))) ge_int)))))))
  (Aw (DJ (L2.Vv (NB (Im hu) (Go rfl rfl T.b_sorted (AH (pv 2))) (DQ (RH rfl rfl T.b_list rfl T.b_range (Am (Hi rfl T.b_len (AH (pv 0))) BD))) (Ce _)) (L2.Vv (NB (Im hu) (Go rfl rfl T.b_sorted (AH (pv 3))) (AH (pv 3)) (Ce _)) (bF (bG hu (bI ge_int) (AH (pv 3)))))))))))
theorem Nv:CL ["clubs", "cell", "at", "to"] ["clubs", "cell"] (Au Dt):=JS
theorem N1 (T:Txt K mg W):Ek P w K mg base (CXG P w) 1 T.d__law_changed.f T.d__law_changed.fd ["clubs", "cell"] (spM K 2 (Dw W)):=by
 refine C8 (k:=0) T.d__law_changed.F Nv rfl λ_ _ _ _ _ _ hr O hu nd pn E'=>?_
 exact (Ai (DA 0 nd (Mc rfl T.b_list (AH (pv 0))))
  (Ai (DA 2 nd (Bf EI (Bf MQ (AH (pv 1)) ge_int) (Hi rfl T.b_len (AH (pv 0)))))
  (Ai (DA 3 nd (Bf EI (Bf MQ (AH (pv 1)) ge_int) (Hi rfl T.b_len (AH (pv 0)))))
  (Ai (E1 (Cr (Im hu) (Bf EI (AH (pv 1)) ge_int) ge_int (Ce _)) (Aw (Sa (Iv rfl T.b_tuple (Pc rfl rfl T.b_sorted rfl T.b_set (Bf FO (DY hu (AH (pv 0)) (AH (pv 3))) (NA (DY hu (AH (pv 0)) (AH (pv 2))) ID (HQ ge_int))))) (Se (AH (pv 0)) (AH (pv 3))))) Cg)
  (Ai (E1 (Cr (Im hu) (Bf EI (AH (pv 1)) ge_int) ge_int (Ce _)) (Aw (Sa (NA (DY hu (AH (pv 0)) (AH (pv 2))) (HQ ge_int) ID) (Se (AH (pv 0)) (AH (pv 2))))) Cg)
  (Ai (E1 (Cr (Im hu) (Bf EI (AH (pv 1)) ge_int) ge_int (Ce _)) (Aw (DX (DU (AH (pv 0)) (DY hu (AH (pv 0)) (AH (pv 2)))))) Cg)
  (Ai (E1 (ax (Vq (Cr (Im hu) (Bf EI (AH (pv 1)) ge_int) ge_int (Ce _)) (SY (Cr (PB hu) (AH (pv 2)) (AH (pv 3)) (Ce _))))) (Ai (Sa (Iv rfl T.b_tuple (Pc rfl rfl T.b_sorted rfl T.b_set (Bf FO (DY hu (AH (pv 0)) (AH (pv 3))) (DY hu (AH (pv 0)) (AH (pv 2)))))) (Se (AH (pv 0)) (AH (pv 3))))
  (Aw (DX (ee (AH (pv 0)) (AH (pv 2)))))) Cg)
  (Ai (E1 (Cr (Im hu) (Bf EI (AH (pv 1)) ge_int) ge_int (Ce _)) (Aw (DA 0 nd (Bf FO (Mb (AH (pv 0)) (HQ (AH (pv 3))) ID) (Mb (AH (pv 0)) ID (HQ (AH (pv 3))))))) Cg)
  (Ai (E1 (Cr (Im hu) (Bf EI (AH (pv 1)) ge_int) ge_int (Ce _)) (Aw (DA 0 nd (Bf FO (Bf FO (Mb (AH (pv 0)) ID (HQ (AH (pv 2)))) (DQ (Gm (Am (KQ BD) BD)))) (Mb (AH (pv 0)) (HQ (AH (pv 2))) ID)))) Cg)
  (Aw (DJ (AH (pv 0)))))))))))))
theorem iC:CL ["script", "first", "many", "pool", "ties", "web", "nears", "plain", "tried", "cell", "clubs", "handed", "found"] ["script"] (Au Qy):=JS
theorem iu (T:Txt K mg W):Ek P w K mg base (CXG P w) 7 T.d_law.f T.d_law.fd ["script"] (spM K 1 (bO W)):=by
 refine C8 (k:=6) T.d_law.F iC rfl λ_ _ _ _ _ _ hr O hu nd pn E'=>?_
 exact (Ai (DA 1 nd (C7 (N2 T) (Bj O).pass (hr.mono (by decide)) rfl T.d__law_cell_at.m T.d__law_cell_at.kp T.d__law_cell_at.b (Am (AH (pv 0)) (Am ge_int BD))))
  (Ai (DA 2 nd (Bf FO ge_int (Bf EI (AH (pv 1)) ge_int)))
  (Ai (DA 3 nd (C7 (SH T) (Bj O).pass (hr.mono (by decide)) rfl T.d__law_pool.m T.d__law_pool.kp T.d__law_pool.b (Am (AH (pv 0)) (Am ge_int BD))))
  (Ai (DA 4 nd (C7 (SG T) (Bj O).pass (hr.mono (by decide)) rfl T.d__law_ties.m T.d__law_ties.kp T.d__law_ties.b (Am (AH (pv 3)) (Am (AH (pv 2)) (Am (Bf FO ge_int (Bf EI (Bf MQ (AH (pv 1)) ge_int) ge_int)) BD)))))
  (Ai (DA 5 nd (ei T.c_Web.mk' (Tx T) (Bj O).pass (hr.mono (by decide)) rfl T.c_Web.m T.d_Web_init.b (Am (AH (pv 2)) (Am (C7 (O8 T) (Bj O).pass (hr.mono (by decide)) rfl T.d__law_turned.m T.d__law_turned.kp T.d__law_turned.b (Am (AH (pv 4)) (Am (AH (pv 1)) BD))) BD))))
  (Ai (DA 6 nd (C7 (QQ T) (Bj O).pass (hr.mono (by decide)) rfl T.d__law_nears.m T.d__law_nears.kp T.d__law_nears.b (Am (AH (pv 4)) (Am (AH (pv 2)) BD))))
  (Ai (DA 7 nd (DQ (Gm (Am (C7 (QR T) (Bj O).pass (hr.mono (by decide)) rfl T.d__law_clubs.m T.d__law_clubs.kp T.d__law_clubs.b (Am (AH (pv 6)) BD)) (Am (DQ (Kr (own:=["place"]) (N':=["place", "·1", "·2", "·3", "·4", "·5", "·6", "·7", "·8", "·9", "·10", "·11", "·12", "·13"]) rfl (IG (by kernel_rfl)) (Gn rfl T.b_range (Am (AH (pv 2)) BD)) (λ_ _ _ _ _ _=>(Dj 0 (by decide +kernel:(["place", "·1", "·2", "·3", "·4", "·5", "·6", "·7", "·8", "·9", "·10", "·11", "·12", "·13"]:List Str).Nodup))) (λ_ _ _ _ _ _=>G3) (λ_ _ _ _ _ _=>(KQ (Am (AH (pv 0)) BD))))) BD)))))
  (Ai (DA 8 nd (Mc rfl T.b_list (AH (pv 7))))
  (Ai (E6 (Bj O).own rfl (FP (AH (pv 3))) (Dj 9 nd)
  (Aw (DX (DU (AH (pv 8)) (C7 (N1 T) (Bj O).pass (hr.mono (by decide)) rfl T.d__law_changed.m T.d__law_changed.kp T.d__law_changed.b (Am (DY hu (AH (pv 7)) (Bf EI (Bf MQ (AH (pv 9)) ge_int) ge_int)) (Am (Bf MQ (AH (pv 9)) ge_int) BD)))))))
  (Ai (E6 (Bj O).own rfl (FP (AH (pv 8))) (Dj 10 nd)
  (Ai (DA 11 nd (Mc rfl T.b_list (AH (pv 10))))
  (Ai (DA 12 nd (C7 (LJ T) (Bj O).pass (hr.mono (by decide)) rfl T.d_is_parting.m T.d_is_parting.kp T.d_is_parting.b (Am (AH (pv 5)) (Am (AH (pv 11)) BD))))
  (Aw (E1 (ax (aw (SZ (ay (lZ (c:=.ty "bool") (cv:=.type "bool") (λ_ r=>r) ak (λ_ _ z=>nomatch z) rfl T.b_isinstance (AH (pv 12)) (dj rfl T.b_bool mJ rfl)))) (aw (Cr (PB hu) (AH (pv 12)) (C7 (Lb T) (Bj O).pass (hr.mono (by decide)) rfl T.d__law_parts_well.m T.d__law_parts_well.kp T.d__law_parts_well.b (Am (AH (pv 6)) (Am (AH (pv 10)) BD))) (Ce _)) (av (Cr (PB hu) (AH (pv 11)) (AH (pv 10)) (Ce _)))))) (Aw (DJ RI)) Cg)))))
  (Aw (DJ (C7 (LJ T) (Bj O).pass (hr.mono (by decide)) rfl T.d_is_parting.m T.d_is_parting.kp T.d_is_parting.b (Am (AH (pv 5)) (Am (DY hu (AH (pv 7)) ge_int) BD)))))))))))))))
end
end M
namespace M
open PySem L2
open Srt (ltL)
def pairD (x:Int×Int):D:=.tup [.int x.1,.int x.2]
def nrm (x:Int×Int):Int×Int:=(if x.2 < x.1 then x.2 else x.1,if x.2 > x.1 then x.2 else x.1)
def SB (x:Int×Int):List Int:=[x.1,x.2]
def MW (x:Int×Int):List Key:=[.inl x.1,.inl x.2]
theorem UG {x y:Int×Int} (h:MW x=MW y):x=y:=by
 unfold MW at h;simp at h;exact Prod.ext h.1 h.2
theorem JV:∀ns:List Int,G2 (ns.map D.int)=some ns
 | []=>rfl
 | n :: ns=>by
  rw [An];unfold G2;rw [JV ns];rfl
theorem O2:∀rs:List (List Int),(∀r∈rs,r≠[])->Q3 (rs.map Ij)=some rs
 | [],_=>rfl
 | [] :: rs,h=>zX rfl (h [] Ae)
 | (n :: ns) :: rs,h=>by
  rw [An];unfold Ij Q3;rw [JV,show LC (λr:List Int=>D.tup (r.map D.int)) rs=rs.map Ij from rfl,O2 rs λr hr=>h r (Ac _ hr)]
theorem VQ (rs:List (List Int)) (h:∀r∈rs,r≠[]):KB (rs.map Ij)=some ((GZ rs).map Ij):=by
 unfold KB
 cases rs with
 | nil=>simp [G2,GZ]
 | cons r rs=>
  have:G2 ((r :: rs).map Ij)=none:=rfl;rw [this,O2 _ h]
theorem Ov (ns:List Int):KB (ns.map D.int)=some ((CU ns).map D.int):=by
 unfold KB;rw [JV]
def Ky (ps:List (Int×Int)):List (List Key×D):=ps.map λx=>(MW (nrm x),.bl true)
theorem aP (ps:List (Int×Int)) (x:Int×Int):(JJ (Ky ps) (MW (nrm x))).isSome=decide (nrm x∈ps.map nrm):=by
 unfold JJ Ky
 induction ps with
 | nil=>rfl
 | cons y ps ih=>
  rw [An,Cy]
  by_cases e:MW (nrm y)=MW (nrm x)
  ·rw [wX e]
   simp [UG e]
  ·rw [wY e]
   have e':nrm x≠nrm y:=λz=>e (by rw [z])
   simp only [An,Ax,e',false_or];exact ih
theorem aO (ps:List (Int×Int)) (x:Int×Int) (h:nrm x∉ps.map nrm):O3 (Ky ps) (MW (nrm x)) (.bl true)=Ky (ps++[x]):=by
 unfold O3;rw [qY]
 ·simp [Ky]
 ·intro z
  obtain ⟨y,hy,e⟩:=Jg.mp z;obtain ⟨a,ha,rfl⟩:=A5.mp hy;exact h (by rw [<-UG (of_decide_eq_true e)];exact XO ha)
theorem lR {S:Sto} {n:Nat} {kvs:List (List Key×D)} {x:Int×Int} (h:S[n]?=some (.dT kvs)) (neg:Bool):inA neg (pairD x) (.ref n) S=.ok (.bl (if neg then !(JJ kvs (MW x)).isSome else (JJ kvs (MW x)).isSome)) S:=by
 show JQ (inD neg (pairD x) (.ref n) S) (Mf neg (pairD x) (.ref n) S)=_
 have e:inD neg (pairD x) (.ref n) S=.bad:=by
  unfold inD Ge;dsimp only;rw [h]
 have e2:YS (.ref n) (pairD x) S=some (JJ kvs (MW x)):=by
  unfold YS pairD;dsimp only;rw [h];rfl
 rw [e];show Mf neg (pairD x) (.ref n) S=_;unfold Mf;rw [e2]
theorem bU {mo mi mv:ME} {e:Lo} {S:Sto} {d:Nat} {kvs:List (List Key×D)} {x:Int×Int} {v:D} (hv:mv e S=.ok v S) (ho:mo e S=.ok (.ref d) S) (hi:mi e S=.ok (pairD x) S) (h:S[d]?=some (.dT kvs)) (hl:kvs.length < sizeLine) :
  O1 mo mi mv e S=.ok (.nx e) (S.set d (.dT (O3 kvs (MW x) v))):=by
 unfold O1;rw [hv];dsimp only [Res.lift];rw [ho];dsimp only [Res.lift];rw [hi];dsimp only [Res.lift]
 have:fB (.ref d) (pairD x) v S=some (S.set d (.dT (O3 kvs (MW x) v))):=by
  unfold fB pairD;dsimp only;rw [h];show (if kvs.length < sizeLine then some (S.set d (.dT (O3 kvs (MW x) v))) else none)=_;rw [qX hl]
 rw [this]
theorem ix0 (x:Int×Int) (S:Sto):ixA (pairD x) (.int 0) S=.ok (.int x.1) S:=rfl
theorem ix1 (x:Int×Int) (S:Sto):ixA (pairD x) (.int 1) S=.ok (.int x.2) S:=rfl
def Fit (p:Int) (x:Int×Int):Prop:=(nrm x).1≠(nrm x).2/\0<=(nrm x).1/\(nrm x).2 < p
abbrev bf (W:Wd):MS:=BY (CB 5 (HC (AX (mQ RB (AX (AG 3) (AX (AG 4) A1))) (AX (mQ RC (AX (AG 3) (AX (AG 4) A1))) A1))))
  (BY (sIf (mB (m2 (eqD false) (m2 ixA (AG 5) (mC (.int 0))) (m2 ixA (AG 5) (mC (.int 1))))) (Ei W.BadTie (AX (mC (.str "a tie has one place twice")) A1)) sNx)
  (BY (sIf (mOr (mB (m2 ltD (m2 ixA (AG 5) (mC (.int 0))) (mC (.int 0)))) (mB (m2 geD (m2 ixA (AG 5) (mC (.int 1))) (AG 0)))) (Ei W.BadTie (AX (mC (.str "a tie has a place that is not there")) A1)) sNx)
  (BY (sIf (mB (m2 (inA false) (AG 5) (AG 2))) (Ei W.BadTie (AX (mC (.str "a tie is there twice")) A1)) sNx)
  (O1 (AG 2) (AG 5) (mC (.bl true))))))
theorem ZZ {W:Wd} {p:Int} {t:D} {n:Nat} {S:Sto} {x:Int×Int} {z5:Option D} {ps:List (Int×Int)} (hn:S[n]?=some (.dT (Ky ps))) (hl:ps.length<=100000) :
  (Fit p x/\nrm x∉ps.map nrm->bf W [sI p,some t,sR n,sI x.1,sI x.2,z5] S=oN [sI p,some t,sR n,sI x.1,sI x.2,some (pairD (nrm x))] (S.set n (.dT (Ky (ps++[x]))))) /\
  (¬(Fit p x/\nrm x∉ps.map nrm)->bf W [sI p,some t,sR n,sI x.1,sI x.2,z5] S=.ok (.ex W.BadTie [sI p,some t,sR n,sI x.1,sI x.2,some (pairD (nrm x))]) S):=by
 have e0:CB 5 (HC (AX (mQ RB (AX (AG 3) (AX (AG 4) A1))) (AX (mQ RC (AX (AG 3) (AX (AG 4) A1))) A1))) [sI p,some t,sR n,sI x.1,sI x.2,z5] S =
   oN [sI p,some t,sR n,sI x.1,sI x.2,some (pairD (nrm x))] S:=
  D6 (i:=5) (R1 (ds:=[.int (nrm x).1,.int (nrm x).2]) (Bv (iI (ds:=[.int x.1,.int x.2]) (S1:=S) rfl rfl) (Bv (iI (ds:=[.int x.1,.int x.2]) (S1:=S) rfl rfl) rfl)) (by simp))
 have t1:=Hg (t:=mB (m2 (eqD false) (m2 ixA (AG 5) (mC (.int 0))) (m2 ixA (AG 5) (mC (.int 1))))) (a:=Ei W.BadTie (AX (mC (.str "a tie has one place twice")) A1)) (b:=sNx) (e:=[sI p,some t,sR n,sI x.1,sI x.2,some (pairD (nrm x))]) (S:=S) (S1:=S)
  (Kz (Be (Be rfl rfl (ix0 _ _)) (Be rfl rfl (ix1 _ _)) (Vz (b:=decide ((nrm x).1=(nrm x).2)) rfl)))
 have t2:mOr (mB (m2 ltD (m2 ixA (AG 5) (mC (.int 0))) (mC (.int 0)))) (mB (m2 geD (m2 ixA (AG 5) (mC (.int 1))) (AG 0))) [sI p,some t,sR n,sI x.1,sI x.2,some (pairD (nrm x))] S=.ok (decide ((nrm x).1 < 0∨p<=(nrm x).2)) S:=by
  by_cases c:(nrm x).1 < 0
  ·rw [il (Kz (Be (Be rfl rfl (ix0 _ _)) rfl (PQ (wX c))))]
   simp [c]
  ·rw [Vb (Kz (Be (Be rfl rfl (ix0 _ _)) rfl (PQ (wY c)))),Kz (Be (Be rfl rfl (ix1 _ _)) rfl (jP (b:=decide (p<=(nrm x).2)) rfl))]
   simp [c]
 have t3:mB (m2 (inA false) (AG 5) (AG 2)) [sI p,some t,sR n,sI x.1,sI x.2,some (pairD (nrm x))] S=.ok (decide (nrm x∈ps.map nrm)) S:=by
  refine Kz (Be rfl rfl ?_);rw [lR hn,<-aP];rfl
 have rz:∀s:Str,Ei W.BadTie (AX (mC (.str s)) A1) [sI p,some t,sR n,sI x.1,sI x.2,some (pairD (nrm x))] S=.ok (.ex W.BadTie [sI p,some t,sR n,sI x.1,sI x.2,some (pairD (nrm x))]) S:=λs=>Z0 rfl (by simp)
 constructor
 ·rintro ⟨⟨f1,f2,f3⟩,f4⟩
  rw [wY f1,qY AO] at t1;have t2':=Hg (a:=Ei W.BadTie (AX (mC (.str "a tie has a place that is not there")) A1)) (b:=sNx) t2;rw [wY (by lia),qY AO] at t2';have t3':=Hg (a:=Ei W.BadTie (AX (mC (.str "a tie is there twice")) A1)) (b:=sNx) t3;rw [wY f4,qY AO] at t3';unfold bf;rw [BU e0,BU (t1.trans rfl),BU (t2'.trans rfl),BU (t3'.trans rfl),bU (x:=nrm x) rfl rfl rfl hn (by unfold Ky;rw [AJ];exact B5 hl (by decide)),aO _ _ f4]
 ·intro nf
  unfold bf;rw [BU e0]
  by_cases f1:(nrm x).1=(nrm x).2
  ·rw [wX f1,qX rfl] at t1
   exact VX (t1.trans (rz _))
  rw [wY f1,qY AO] at t1;rw [BU (t1.trans rfl)];have t2':=Hg (a:=Ei W.BadTie (AX (mC (.str "a tie has a place that is not there")) A1)) (b:=sNx) t2
  by_cases f2:(nrm x).1 < 0∨p<=(nrm x).2
  ·rw [wX f2,qX rfl] at t2'
   exact VX (t2'.trans (rz _))
  rw [wY f2,qY AO] at t2';rw [BU (t2'.trans rfl)];have t3':=Hg (a:=Ei W.BadTie (AX (mC (.str "a tie is there twice")) A1)) (b:=sNx) t3
  by_cases f3:nrm x∈ps.map nrm
  ·rw [wX f3,qX rfl] at t3'
   exact VX (t3'.trans (rz _))
  ·exact zX ⟨⟨f1,by lia,by lia⟩,f3⟩ nf
theorem X9 {m:ME} {e:Lo} {S S1:Sto} {d:D} {xs:List D} (h:m e S=.ok d S1) (hx:FE d S1=some xs):Fb m e S=.ok (FE d) S1:=by
 unfold Fb;rw [h];dsimp only [Res.bind];rw [hx]
def Dx (p:Int) (ps:List (Int×Int)):Prop:=(∀x∈ps,Fit p x)/\(ps.map nrm).Nodup
theorem Dx.snoc {p:Int} {ps:List (Int×Int)} {x:Int×Int}:Dx p (ps++[x])↔Dx p ps/\Fit p x/\nrm x∉ps.map nrm:=by
 unfold Dx;rw [BM,NQ]
 constructor
 ·rintro ⟨h1,h2,h3,h4⟩
  exact ⟨⟨λy hy=>h1 y (by simp [hy]),h2⟩,h1 x (by simp),λz=>h4 _ z _ (by simp) rfl⟩
 ·rintro ⟨⟨h1,h2⟩,h3,h4⟩
  refine ⟨λy hy=>?_,h2,by simp,λa ha b hb e=>?_⟩
  ·rcases Ap.mp hy with hy | hy
   ·exact h1 y hy
   ·rw [AS.mp hy];exact h3
  ·simp at hb
   subst hb;subst e;exact h4 ha
theorem Dx.take {p:Int} {ps:List (Int×Int)} (h:Dx p ps) (i:Nat):Dx p (ps.take i):=by
 refine ⟨λx hx=>h.1 x (WI hx),?_⟩;rw [TC];exact h.2.sublist (NP _ _)
theorem take_snoc {α:Type} {l:List α} {i:Nat} {x:α} (h:l[i]?=some x):l.take (i+1)=l.take i++[x]:=by
 rw [IX,h];rfl
theorem Sn (W:Wd) {p:Int} {d:D} {S:Sto} {ps:List (Int×Int)} (hv:∀S',Keeps S S'->FE d S'=some (ps.map pairD)) (hl:ps.length<=100000) :
  ∃f S',Gz (Fb (AG 1)) (Jj 2 (Df (tgN 3) (Df (tgN 4) KA))) (bf W) [sI p,some d,sR S.length,none,none,none] (S++[.dT []])=.ok f S' /\
   ((Dx p ps/\(∃z3 z4 z5,f=.nx [sI p,some d,sR S.length,z3,z4,z5])/\S'=S++[.dT (Ky ps)])∨(¬Dx p ps/\∃e',f=.ex W.BadTie e'/\Keeps S S')):=by
 rw [IS (X9 (m:=AG 1) (d:=d) (S1:=S++[.dT []]) rfl (hv _ (Keeps.app _ _)))];refine KR (xs:=ps.map pairD) (λi e S'=>(∃z3 z4 z5,e=[sI p,some d,sR S.length,z3,z4,z5])/\S'=S++[.dT (Ky (ps.take i))]/\Dx p (ps.take i)) _ ⟨⟨none,none,none,rfl⟩,by simp [Ky],by simp [Dx]⟩ ?_ ?_ ?_
 ·rintro i e S' ⟨_,rfl,_⟩
  exact hv _ (Keeps.app _ _)
 ·rintro i y e S' hy ⟨⟨z3,z4,z5,rfl⟩,rfl,af⟩
  rw [Ag] at hy
  cases hx:ps[i]? with
  | none=>rw [hx] at hy;cases hy
  | some x=>
   rw [hx] at hy;cases hy;have hlt:=(AK.mp hx).1;refine ⟨[sI p,some d,sR S.length,sI x.1,sI x.2,z5],_,rfl,?_⟩;obtain ⟨s1,s2⟩:=ZZ (W:=W) (p:=p) (t:=d) (z5:=z5) (x:=x) (CF S (.dT (Ky (ps.take i)))) (by rw [Ch];lia)
   by_cases c:Fit p x/\nrm x∉(ps.take i).map nrm
   ·refine ⟨_,_,s1 c,⟨⟨_,_,_,rfl⟩,?_,?_⟩⟩
    ·rw [take_snoc hx];simp
    ·rw [take_snoc hx];exact Dx.snoc.mpr ⟨af,c⟩
   ·refine ⟨_,_,s2 c,.inr ⟨λa=>c ?_,_,rfl,Keeps.app _ _⟩⟩
    have:=a.take (i+1);rw [take_snoc hx] at this;exact (Dx.snoc.mp this).2
 ·rintro e S' ⟨z,rfl,af⟩
  rw [AJ,G5] at *
  obtain ⟨z3,z4,z5,rfl⟩:=z;exact .inl ⟨af,⟨_,_,_,rfl⟩,rfl⟩
def JL (ps:List (Int×Int)):List (List Int):=GZ (ps.map λx=>SB (nrm x))
theorem So (W:Wd) {p:Int} {d:D} {S:Sto} {ps:List (Int×Int)} (hv:∀S',Keeps S S'->FE d S'=some (ps.map pairD)) (hl:ps.length<=100000) (hf:Dx p ps) :
  ∃S',Fv W [.int p,d] S=.ok (.tup ((JL ps).map Ij)) S'/\Keeps S S':=by
 obtain ⟨f,S1,h1,⟨_,⟨z3,z4,z5,rfl⟩,rfl⟩ | ⟨h,_⟩⟩:=Sn W hv hl (p:=p)
 ·have hi:IR (.ref S.length) (S++[.dT (Ky ps)])=some ((ps.map λx=>SB (nrm x)).map Ij):=by
   unfold IR;dsimp only;rw [CF];dsimp only;unfold Ky;rw [Bk,Bk];rfl
  have hs:=Ig (m:=AG 2) (e:=[sI p,some d,sR S.length,z3,z4,z5]) (S:=S++[.dT (Ky ps)]) rfl hi (VQ _ (by intro r hr;obtain ⟨x,_,rfl⟩:=A5.mp hr;simp [SB]));refine ⟨S++[.dT (Ky ps)]++[.lst ((JL ps).map Ij)],Gg ?_,(Keeps.app S _).trans (Keeps.app _ _)⟩;refine DF (BU (e:=[sI p,some d,none,none,none,none]) (e1:=[sI p,some d,sR S.length,none,none,none]) (S:=S) (S1:=S++[.dT []]) rfl) ?_;refine DF (BU h1) ?_;exact KG (MD hs (CZ (CF _ _)))
 ·exact zX hf h
end M
namespace M
open PySem L2
def Bt (ts:List (Int×Int)) (x:Nat):List Int:=ts.flatMap λt=>(if t.1=(x:Int) then [t.2] else [])++(if t.2=(x:Int) then [t.1] else [])
theorem Ng (ts:List (Int×Int)) (t:Int×Int) (x:Nat):Bt (ts++[t]) x=Bt ts x++((if t.1=(x:Int) then [t.2] else [])++(if t.2=(x:Int) then [t.1] else [])):=by
 unfold Bt;rw [List.flatMap_append];simp
def E5 (p:Nat) (F:Nat->List Int):Sto:=(BQ p).map λx=>Ob.lst ((F x).map D.int)
def DI (k p:Nat):List D:=(BQ p).map λx=>D.ref (k+x)
def stN (S:Sto) (p:Nat) (F:Nat->List Int):Sto:=S++E5 p F++[.lst (DI S.length p)]
theorem Gh (p:Nat) (F:Nat->List Int):(E5 p F).length=p:=by simp [E5]
theorem R3 (S:Sto) (p:Nat) (F:Nat->List Int):(stN S p F).length=S.length+p+1:=by simp [stN,Gh];lia
theorem HW (S:Sto) (p:Nat) (F:Nat->List Int):Keeps S (stN S p F):=(Keeps.app S _).trans (Keeps.app _ _)
theorem Hc (S:Sto) (p:Nat) (F:Nat->List Int):(stN S p F)[S.length+p]?=some (.lst (DI S.length p)):=by
 have:S.length+p=(S++E5 p F).length:=by simp [Gh]
 unfold stN;rw [this];exact CF _ _
theorem IB (S:Sto) {p a:Nat} (F:Nat->List Int) (h:a < p):(stN S p F)[S.length+a]?=some (.lst ((F a).map D.int)):=by
 unfold stN;rw [BC,BB (by lia),Ah (by rw [Gh];lia),show S.length+a - S.length=a by lia];unfold E5;rw [Ag,CC h];rfl
theorem WZ (S:Sto) {p a:Nat} (F:Nat->List Int) (ys:List Int) (h:a < p):(stN S p F).set (S.length+a) (.lst (ys.map D.int))=stN S p (λx=>if x=a then ys else F x):=by
 apply Ef
 intro j
 by_cases e:S.length+a=j
 ·subst e
  rw [BI (by rw [R3];lia),IB _ _ h,qX rfl]
 ·rw [A8 e]
  by_cases h1:j < S.length
  ·rw [(HW S p F).2 j h1,(HW S p _).2 j h1]
  by_cases h2:j - S.length < p
  ·have e2:j=S.length+(j - S.length):=by lia
   rw [e2,IB S F h2,IB S _ h2,qY (by lia)]
  by_cases h3:j=S.length+p
  ·subst h3
   rw [Hc,Hc]
  ·rw [Bx (by rw [R3];lia),Bx (by rw [R3];lia)]
theorem Wp {S:Sto} {p a:Nat} (F:Nat->List Int) (h:a < p):ixA (.ref (S.length+p)) (.int a) (stN S p F)=.ok (.ref (S.length+a)) (stN S p F):=by
 show JQ (ixD _ _ _) _=_;have e1:Ge (.ref (S.length+p)) (stN S p F)=some (DI S.length p):=CZ (Hc S p F)
 have e2:atI (DI S.length p) (a:Int)=some (.ref (S.length+a)):=by
  unfold atI ixN;rw [show (DI S.length p).length=p by simp [DI],qX (by lia),qX (by lia)];simp only [AQ,A7];unfold DI;rw [Ag,CC h];rfl
 have:ixD (.ref (S.length+p)) (.int a) (stN S p F)=.ok (.ref (S.length+a)) (stN S p F):=by
  unfold ixD;rw [e1];dsimp only;rw [e2]
 rw [this];rfl
theorem Zd (S:Sto):∀p:Nat,S++E5 (p+1) (λ_=>[])=S++E5 p (λ_=>[])++[.lst []]:=λp=>by
 unfold E5;rw [J6,BM,BC];rfl
theorem Q1 {p:Nat} (hp:p<=60) {mp:ME} {e:Lo} {S:Sto} (h0:mp e S=.ok (.int p) S) :
  Fp 1 (iR1 (AX mp A1)) (tgN 0) GB (C5 (Ci A1)) e S=.ok (DI S.length p) (S++E5 p λ_=>[]):=by
 have hi:iR1 (AX mp A1) e S=.ok (Fh (DW 0 p)) S:=by
  have:=Pb (ml:=AX mp A1) (e:=e) (S:=S) (S1:=S) (j:=p) (Bv h0 rfl) (by lia) (by lia);simpa using this
 obtain ⟨r,S1,q1,e',⟨z,_⟩,rfl,rfl⟩:=Sk (v:=Fh (DW 0 p)) (g:=tgN 0) (c:=GB) (m:=C5 (Ci A1)) (xs:=DW 0 p) (e:=none :: e) (S:=S)
  (λi e' S' acc=>(∃z,e'=z :: e)/\S'=S++E5 i (λ_=>[])/\acc=DI S.length i)
  ⟨⟨none,rfl⟩,by simp [E5],rfl⟩ (λ_ _ _ _ _=>rfl)
  (by
   rintro i d e' S' acc hd ⟨⟨z,rfl⟩,rfl,rfl⟩;obtain ⟨hi,rfl⟩:=KF hd;refine ⟨by simp [DI];exact B5 (m:=60) (by lia) (by decide),some (.int (0+i)) :: e,_,rfl,true,_,rfl,.inl ⟨rfl,.ref (S++E5 i λ_=>[]).length,_,rfl,⟨_,rfl⟩,(Zd S i).symm,?_⟩⟩;unfold DI;rw [J6,BM,Af,Gh]
   rfl)
 rw [Ik] at q1;exact (OR hi).trans q1
abbrev RU:MS:=BY (CY (GP (m2 ixA (AG 2) (AG 3)) (AG 4))) (CY (GP (m2 ixA (AG 2) (AG 4)) (AG 3)))
def In (p:Nat) (t:Int×Int):Prop:=0<=t.1/\t.1 < p/\0<=t.2/\t.2 < p/\t.1≠t.2
theorem Q0 {p:Nat} {S:Sto} {F:Nat->List Int} {t:Int×Int} {d0 d1:D} (ht:In p t) (hF:∀x,(F x).length < 200000) :
  RU [some d0,some d1,sR (S.length+p),sI t.1,sI t.2] (stN S p F)=.ok (.nx [some d0,some d1,sR (S.length+p),sI t.1,sI t.2])
   (stN S p λx=>F x++((if t.1=(x:Int) then [t.2] else [])++(if t.2=(x:Int) then [t.1] else []))):=by
 obtain ⟨a,ha⟩:∃a:Nat,t.1=a:=⟨t.1.toNat,by have:=ht.1;lia⟩
 obtain ⟨b,hb⟩:∃b:Nat,t.2=b:=⟨t.2.toNat,by have:=ht.2.2.1;lia⟩
 obtain ⟨_,h2,_,h4,h5⟩:=ht
 have hab:a≠b:=λe=>h5 (by rw [ha,hb,e])
 rw [ha,hb]
 have hz:∀x,((F x).map D.int).length < sizeLine:=λx=>by rw [AJ];exact U0 (hF x) (by decide)
 have s1:=Kf (mo:=m2 ixA (AG 2) (AG 3)) (ma:=AG 4) (e:=[some d0,some d1,sR (S.length+p),sI a,sI b]) (S:=stN S p F) (S1:=stN S p F) (S2:=stN S p F) (n:=S.length+a) (y:=.int b) (Be rfl rfl (Wp F (by lia))) (IB S F (by lia)) rfl (IB S F (by lia)) (hz a);rw [show (F a).map D.int++[D.int b]=(F a++[(b:Int)]).map D.int by simp,WZ S F _ (by lia)] at s1
 have hrow:(stN S p λx=>if x=a then F a++[(b:Int)] else F x)[S.length+b]?=some (.lst ((F b).map D.int)):=by
  rw [IB S _ (by lia),qY (Bl hab)]
 have s2:=Kf (mo:=m2 ixA (AG 2) (AG 4)) (ma:=AG 3) (e:=[some d0,some d1,sR (S.length+p),sI a,sI b]) (S:=stN S p λx=>if x=a then F a++[(b:Int)] else F x) (S1:=stN S p λx=>if x=a then F a++[(b:Int)] else F x) (S2:=stN S p λx=>if x=a then F a++[(b:Int)] else F x) (n:=S.length+b) (y:=.int a) (Be rfl rfl (Wp _ (by lia))) hrow rfl hrow (hz b);rw [show (F b).map D.int++[D.int a]=(F b++[(a:Int)]).map D.int by simp,WZ S _ _ (by lia)] at s2;unfold RU;rw [BU (E0 s1),E0 s2]
 congr 2
 funext x
 by_cases e1:x=b
 ·subst e1
  have:¬((a:Int)=(x:Int)):=by lia
  simp [this]
 ·by_cases e2:x=a
  ·subst e2
   have:¬((b:Int)=(x:Int)):=by lia
   simp [e1,this]
  ·have h1:¬((a:Int)=(x:Int)):=by lia
   have h2:¬((b:Int)=(x:Int)):=by lia
   simp [e1,e2,h1,h2]
theorem PH (ts:List (Int×Int)) (x:Nat):(Bt ts x).length<=2 * ts.length:=by
 unfold Bt
 induction ts with
 | nil=>simp
 | cons t ts ih=>
  rw [List.flatMap_cons,Af,Aq]
  have:((if t.1=(x:Int) then [t.2] else [])++(if t.2=(x:Int) then [t.1] else [])).length<=2:=by split <;> split <;> simp
  lia
def M4 (p:Nat) (ts:List (Int×Int)):List D:=(BQ p).map λx=>.tup ((CU (Bt ts x)).map D.int)
theorem eE (W:Wd) {p:Nat} (hp:p<=60) {ts:List (Int×Int)} (ht:∀t∈ts,In p t) (hl:ts.length<=90000) (S:Sto) :
  ∃S',Fu W [.int p,.tup (ts.map pairD)] S=.ok (.tup (M4 p ts)) S'/\Keeps S S':=by
 have a1:=D6 (i:=2) (KJ (Q1 hp (mp:=AG 0) (e:=[sI p,some (.tup (ts.map pairD)),none,none,none]) (S:=S) rfl));have e1:(S++E5 p λ_=>[])++[.lst (DI S.length p)]=stN S p (Bt []):=rfl
 have e2:(S++E5 p λ_=>[]).length=S.length+p:=by simp [Gh]
 rw [e1,e2] at a1
 obtain ⟨f,S1,h1,⟨z3,z4,rfl⟩,rfl⟩:=KR (v:=Fh (ts.map pairD)) (g:=Jj 2 (Df (tgN 3) (Df (tgN 4) KA))) (b:=RU) (xs:=ts.map pairD) (e:=[sI p,some (.tup (ts.map pairD)),sR (S.length+p),none,none]) (S:=stN S p (Bt []))
  (λi e S'=>(∃z3 z4,e=[sI p,some (.tup (ts.map pairD)),sR (S.length+p),z3,z4])/\S'=stN S p (Bt (ts.take i)))
  (λf S'=>(∃z3 z4,f=.nx [sI p,some (.tup (ts.map pairD)),sR (S.length+p),z3,z4])/\S'=stN S p (Bt ts))
  ⟨⟨none,none,rfl⟩,rfl⟩ (λ_ _ _ _=>rfl)
  (by
   rintro i y e S' hy ⟨⟨z3,z4,rfl⟩,rfl⟩;rw [Ag] at hy
   cases hx:ts[i]? with
   | none=>rw [hx] at hy;cases hy
   | some t=>
    rw [hx] at hy;cases hy;refine ⟨[sI p,some (.tup (ts.map pairD)),sR (S.length+p),sI t.1,sI t.2],_,rfl,_,_,Q0 (ht t (Bp hx)) (λx=>?_),⟨_,_,rfl⟩,?_⟩
    ·have:=PH (ts.take i) x
     rw [Ch] at this;exact B5 (As this (Nat.mul_le_mul_left 2 (As (cJ _ _) hl))) (by decide)
    ·rw [take_snoc hx,show Bt (ts.take i++[t])=_ from funext λx=>Ng _ _ x])
  (by
   rintro e S' ⟨⟨z3,z4,rfl⟩,rfl⟩;rw [AJ,G5]
   exact ⟨⟨_,_,rfl⟩,rfl⟩)
 have a2:=(IS (g:=Jj 2 (Df (tgN 3) (Df (tgN 4) KA))) (b:=RU) (UI (m:=AG 1) (e:=[sI p,some (.tup (ts.map pairD)),sR (S.length+p),none,none]) (S:=stN S p (Bt [])) (S1:=stN S p (Bt [])) (xs:=ts.map pairD) rfl)).trans h1
 obtain ⟨r,S2,q1,e',⟨z,_⟩,K,rfl⟩:=Sk (v:=FE (.ref (S.length+p))) (g:=tgN 0) (c:=GB) (m:=HB (Dm (AG 0))) (xs:=DI S.length p) (e:=[none,sI p,some (.tup (ts.map pairD)),sR (S.length+p),z3,z4]) (S:=stN S p (Bt ts))
  (λi e' S' acc=>(∃z,e'=[z,sI p,some (.tup (ts.map pairD)),sR (S.length+p),z3,z4])/\Keeps (stN S p (Bt ts)) S'/\acc=(BQ i).map λx=>.tup ((CU (Bt ts x)).map D.int))
  ⟨⟨none,rfl⟩,.refl _,rfl⟩ (λi e' S' acc h=>ED (h.2.1.at (Hc S p _)))
  (by
   rintro i d e' S' acc hd ⟨⟨z,rfl⟩,K,rfl⟩
   have hi:i < p:=by
    have:=(AK.mp hd).1;simpa [DI] using this
   unfold DI at hd;rw [Ag,CC hi] at hd;cases hd;have hit:IR (.ref (S.length+i)) S'=some ((Bt ts i).map D.int):=Lg (K.at (IB S _ hi));have hs:=Ig (m:=AG 0) (e:=[sR (S.length+i),sI p,some (.tup (ts.map pairD)),sR (S.length+p),z3,z4]) (S:=S') (S1:=S') rfl hit (Ov _);refine ⟨by simp;exact B5 (m:=60) (by lia) (by decide),[sR (S.length+i),sI p,some (.tup (ts.map pairD)),sR (S.length+p),z3,z4],_,rfl,true,_,rfl,.inl ⟨rfl,_,_,MD hs (CZ (CF _ _)),⟨_,rfl⟩,K.trans (Keeps.app _ _),?_⟩⟩;rw [J6,BM]
   rfl)
 have a3:=(OR (n:=1) (g:=tgN 0) (c:=GB) (m:=HB (Dm (AG 0))) (MY (m:=AG 2) (e:=[sI p,some (.tup (ts.map pairD)),sR (S.length+p),z3,z4]) (S:=stN S p (Bt ts)) (S1:=stN S p (Bt ts)) rfl (Hc S p _))).trans q1;rw [show (DI S.length p).length=p by simp [DI]] at a3;refine ⟨S2++[.lst (M4 p ts)],Gg ?_,((HW S p _).trans K).trans (Keeps.app _ _)⟩;unfold Kd;refine DF (BU a1) ?_;refine DF (BU a2) ?_;exact KG (MD (KJ a3) (CZ (CF _ _)))
end M
namespace M
open PySem L2
open Srt (ltL)
def toP (r:List Int):Int×Int:=(r.getD 0 0,r.getD 1 0)
def Hw (ps:List (Int×Int)):List (Int×Int):=(JL ps).map toP
theorem Ot {ps:List (Int×Int)} {r:List Int} (h:r∈JL ps):∃x∈ps,r=SB (nrm x):=by
 have:=(FN _).mem_iff.mp h;obtain ⟨x,hx,rfl⟩:=A5.mp this;exact ⟨x,hx,rfl⟩
theorem Xe (ps:List (Int×Int)):(Hw ps).map SB=JL ps:=by
 unfold Hw;rw [Bk]
 conv=>rhs;rw [<-Oa (JL ps)]
 refine D0 λr hr=>?_
 obtain ⟨x,_,rfl⟩:=Ot hr;rfl
theorem VJ (ps:List (Int×Int)):(JL ps).map Ij=(Hw ps).map pairD:=by
 rw [<-Xe,Bk];rfl
theorem ZW {ps:List (Int×Int)} {t:Int×Int} (h:t∈Hw ps):∃x∈ps,t=nrm x:=by
 obtain ⟨r,hr,rfl⟩:=A5.mp h;obtain ⟨x,hx,rfl⟩:=Ot hr;exact ⟨x,hx,rfl⟩
theorem Qr (ps:List (Int×Int)):(Hw ps).Perm (ps.map nrm):=by
 unfold Hw JL;have:=(FN (ps.map λx=>SB (nrm x))).map toP;refine this.trans ?_;rw [Bk];exact WK rfl
theorem iy (x:Int×Int):(nrm x).1<=(nrm x).2:=by
 unfold nrm;dsimp only
 split <;> split <;> lia
theorem Fit.in {p:Nat} {x:Int×Int} (h:Fit p x):In p (nrm x):=by
 obtain ⟨h1,h2,h3⟩:=h;have:=iy x;exact ⟨h2,by lia,by lia,h3,h1⟩
theorem lI:¬(("places" : Str) = "ties"):=by decide +kernel
theorem lJ:¬(("places" : Str) = "near_sets"):=by decide +kernel
theorem lH:¬(("ties" : Str) = "near_sets"):=by decide +kernel
theorem put2 (a b:D):Ny "ties" b [(("places" : Str),a)]=([("places",a),("ties",b)]:List (Str×D)):=by
 show (if ("places" : Str) = "ties" then _ else _)=_;rw [qY lI];rfl
theorem put3 (a b c:D):Ny "near_sets" c [(("places" : Str),a),("ties",b)]=([("places",a),("ties",b),("near_sets",c)]:List (Str×D)):=by
 show (if ("places" : Str) = "near_sets" then _ else _)=_;rw [qY lJ]
 have:Ny "near_sets" c [(("ties" : Str),b)]=([("ties",b),("near_sets",c)]:List (Str×D)):=by
  show (if ("ties" : Str) = "near_sets" then _ else _)=_;rw [qY lH];rfl
 rw [this]
theorem lO (a b c:D):([("places",a),("ties",b),("near_sets",c)]:List (Str×D)).lookup ("places" : Str)=some a:=by
 rw [CO,show (("places" : Str)=="places")=true by decide +kernel]
theorem lN (a b c:D):([("places",a),("ties",b),("near_sets",c)]:List (Str×D)).lookup ("near_sets" : Str)=some c:=by
 rw [CO,show (("near_sets" : Str)=="places")=false by decide +kernel];dsimp only;rw [CO,show (("near_sets" : Str)=="ties")=false by decide +kernel];dsimp only;rw [CO,show (("near_sets" : Str)=="near_sets")=true by decide +kernel]
theorem i0 (a b:D):([("places",a),("ties",b)]:List (Str×D)).lookup ("ties" : Str)=some b:=by
 rw [CO,show (("ties" : Str)=="places")=false by decide +kernel];dsimp only;rw [CO,show (("ties" : Str)=="ties")=true by decide +kernel]
end M
namespace M
open PySem L2
end M
namespace M
open PySem L2
open Srt (ltL)
theorem fG (W:Wd) (ns:List Int) (k:Nat) (S:Sto):∃h:Int,Fx W [.fro (ns.map D.int),.int k] S=.ok (.int h) S:=by
 by_cases hk:k < ns.length
 ·refine ⟨ns[k],Gg ?_⟩
  unfold Hn;have t:mB (m2 ltD (AG 1) (Gj (AG 0))) (E4 2 [.fro (ns.map D.int),.int k]) S=.ok true S:=Kz (Be rfl (KN (d:=.fro (ns.map D.int)) rfl rfl) (PQ (wX (by simp;omega))));refine Zq (DF (Hg t) ?_);rw [qX rfl];refine KG (Be rfl rfl (Wq (ds:=ns.map D.int) rfl (by lia) ?_));simp [hk]
 ·refine ⟨0,Gg ?_⟩
  unfold Hn;have t:mB (m2 ltD (AG 1) (Gj (AG 0))) (E4 2 [.fro (ns.map D.int),.int k]) S=.ok false S:=Kz (Be rfl (KN (d:=.fro (ns.map D.int)) rfl rfl) (PQ (wY (by simp;lia))));refine DF (BU (DF (Hg t) rfl)) ?_;rfl
theorem SK {i j:Int} {S:Sto} (h:-1000000000000<=j) (h1:j<=1000000000000):PJ (.int i) (.int j) S=.ok (.int (i * j)) S:=by
 show (if Ye i j then _ else _)=_;rw [qX (.inr ⟨Int.lt_of_lt_of_le (by decide) h,Y9 h1 (by decide)⟩)]
theorem T6 (W:Wd) (c s:Int):∃v:Int,0<=v/\v < 2147483629/\∀S,DZ W [.int c,.int s] S=.ok (.int v) S:=by
 have h0:=EO ((c % 2147483647+s) * 48271) (show (2147483647:Int)≠0 by decide);have h1:=DP ((c % 2147483647+s) * 48271) (show (0:Int) < 2147483647 by decide);refine ⟨(c % 2147483647+s) * 48271 % 2147483647 * ((c % 2147483647+s) * 48271 % 2147483647) % 2147483629,EO _ (by decide),DP _ (by decide),λS=>Gg ?_⟩;unfold Mh
 have s1:CB 2 (m2 EQ (m2 PJ (m2 E8 (m2 EQ (AG 0) (mC (.int 2147483647))) (AG 1)) (mC (.int 48271))) (mC (.int 2147483647))) (E4 3 [.int c,.int s]) S=oN [sI c,sI s,sI ((c % 2147483647+s) * 48271 % 2147483647)] S:=
  D6 (i:=2) (Be (Be (Be (Be rfl rfl (FH (by decide))) rfl rfl) rfl (SK (by decide) (by decide))) rfl (FH (by decide)))
 rw [BU s1]
 generalize (c % 2147483647+s) * 48271 % 2147483647=m at *
 exact KG (Be (Be rfl rfl (SK (by lia) (by lia))) rfl (FH (by decide)))
abbrev gB:MS:=BY (CB 4 (ON (AG 0) (HH (m2 E8 (AG 1) (AG 3))) Jk (HH (mC (.int 24)))))
  (sIf (mB (m2 (eqD true) (AG 4) (C5 (Ci A1)))) (CY (GP (AG 2) (Vk (AG 4)))) sNx)
theorem hW {m:ME} {e:Lo} {S S1:Sto} {n:Nat} {ns:List Int} (h:m e S=.ok (.ref n) S1) (hn:S1[n]?=some (.lst (ns.map D.int))):Vk m e S=.ok (.int (c7 ns)) S1:=by
 unfold Vk;rw [h];dsimp only [Res.bind];rw [Ip hn];dsimp only;rw [JV]
theorem Xm {S:Sto} {ns ps:List Int} {n:Nat} {s k:Int} {z4:Option D} (hn:S[n]?=some (.lst (ps.map D.int))) (hl:ps.length<=1000) :
  ∃(S':Sto) (z:Option D) (qs:List Int),gB [sF ns,sI s,sR n,sI k,z4] S=oN [sF ns,sI s,sR n,sI k,z] S'/\S'[n]?=some (.lst (qs.map D.int))/\ps.length<=qs.length/\qs.length<=ps.length+1/\S.length<=S'.length/\∀j,j < S.length->j≠n->S'[j]?=S[j]?:=by
 have hlt:n < S.length:=(AK.mp hn).1
 have s1:CB 4 (ON (AG 0) (HH (m2 E8 (AG 1) (AG 3))) Jk (HH (mC (.int 24)))) [sF ns,sI s,sR n,sI k,z4] S=oN [sF ns,sI s,sR n,sI k,sR S.length] (S++[.lst ((pickG ns (some (s+k)) none (some 24)).map D.int)]):=by
  refine D6 (i:=4) ?_;rw [<-Xo];rfl
 generalize pickG ns (some (s+k)) none (some 24)=cs at s1;have hc:=CF S (.lst (cs.map D.int));have K1:Keeps S (S++[.lst (cs.map D.int)]):=Keeps.app _ _
 have e1:(S++[Ob.lst (cs.map D.int)]).length=S.length+1:=by simp
 generalize S++[Ob.lst (cs.map D.int)]=S1 at s1 hc K1 e1
 have t:mB (m2 (eqD true) (AG 4) (C5 (Ci A1))) [sF ns,sI s,sR n,sI k,sR S.length] S1=.ok (!cs.isEmpty) (S1++[.lst []]):=by
  refine Kz (Be (S2:=S1++[.lst []]) rfl rfl ?_);rw [jT true ((Keeps.app S1 _).at hc) (CF _ _)];simp
 have K2:Keeps S (S1++[.lst []]):=K1.trans (Keeps.app _ _);have hc2:=(Keeps.app S1 [.lst []]).at hc;generalize S1++[Ob.lst []]=S2 at t K2 hc2;have hn2:=K2.at hn;have i1:=Hg (a:=CY (GP (AG 2) (Vk (AG 4)))) (b:=sNx) t
 cases hq:cs.isEmpty with
 | true=>
  rw [hq] at i1;refine ⟨S2,_,ps,(BU s1).trans (i1.trans rfl),hn2,AM _,EC _,K2.1,λj h1 _=>K2.2 j h1⟩
 | false=>
  rw [hq] at i1;have a1:=Kf (mo:=AG 2) (ma:=Vk (AG 4)) (e:=[sF ns,sI s,sR n,sI k,sR S.length]) (S:=S2) (n:=n) (S1:=S2) (S2:=S2) rfl hn2 (hW rfl hc2) hn2 (by rw [AJ];exact B5 hl (by decide));refine ⟨_,_,ps++[c7 cs],(BU s1).trans (i1.trans (E0 a1)),?_,by simp,by simp,by simpa using K2.1,λj h1 h2=>?_⟩
  ·rw [BI (Ab hlt K2.1),BM]
   rfl
  ·rw [A8 (Bl h2)]
   exact K2.2 j h1
theorem dR (W:Wd) (ns:List Int) (S:Sto):∃(S':Sto) (ps:List Int),IF W [.fro (ns.map D.int),.int 1] S=.ok (.ref S.length) S'/\Keeps S S'/\S'[S.length]?=some (.lst (ps.map D.int))/\1<=ps.length/\ps.length<=25:=by
 have s1:CB 2 (C5 (Ci (AX (Gj (AG 0)) A1))) (E4 5 [.fro (ns.map D.int),.int 1]) S=oN [sF ns,sI 1,sR S.length,none,none] (S++[.lst ([(ns.length:Int)].map D.int)]):=by
  refine D6 (i:=2) (KJ ?_);unfold Ci;rw [Bv (r:=A1) (KN (d:=.fro (ns.map D.int)) (S1:=S) rfl rfl) rfl,AJ];rfl
 obtain ⟨f,S1,h1,⟨z3,z4,rfl⟩,K,ps,hn,hl1,hl2⟩:=KR (v:=Fh (DW 0 24)) (g:=tgN 3) (b:=gB) (xs:=DW 0 24) (e:=[sF ns,sI 1,sR S.length,none,none]) (S:=S++[.lst ([(ns.length:Int)].map D.int)])
  (λi e S'=>(∃z3 z4,e=[sF ns,sI 1,sR S.length,z3,z4])/\Keeps S S'/\∃ps:List Int,S'[S.length]?=some (.lst (ps.map D.int))/\1<=ps.length/\ps.length<=i+1)
  (λf S'=>(∃z3 z4,f=.nx [sF ns,sI 1,sR S.length,z3,z4])/\Keeps S S'/\∃ps:List Int,S'[S.length]?=some (.lst (ps.map D.int))/\1<=ps.length/\ps.length<=25)
  ⟨⟨none,none,rfl⟩,Keeps.app _ _,[(ns.length:Int)],CF _ _,by simp,by simp⟩ (λ_ _ _ _=>rfl)
  (by
   rintro i d e S' hd ⟨⟨z3,z4,rfl⟩,K,ps,hn,h1,h2⟩;obtain ⟨hi,rfl⟩:=KF hd;obtain ⟨S2,z,qs,q1,q2,q3,q4,q5,q6⟩:=Xm (S:=S') (ns:=ns) (s:=1) (k:=0+i) (z4:=z4) hn (by lia)
   exact ⟨_,_,rfl,_,_,q1,⟨_,_,rfl⟩,⟨As K.1 q5,λj hj=>(q6 j (Ab hj K.1) (by lia)).trans (K.2 j hj)⟩,qs,q2,by lia,by lia⟩)
  (by
   rintro e S' ⟨⟨z3,z4,rfl⟩,K,ps,hn,h1,h2⟩;rw [Ik] at h2
   exact ⟨⟨_,_,rfl⟩,K,ps,hn,h1,by omega⟩)
 refine ⟨S1,ps,Gg ?_,K,hn,hl1,hl2⟩;unfold Nm;rw [BU s1];refine DF (BU ((IS (Pb (j:=24) rfl (by lia) (by lia))).trans h1)) ?_;rfl
end M
namespace M
open PySem L2
def GF (o j:Nat) (ts:List (Int×Int)):Prop:=(∀x∈ts,0<=x.1/\x.1 < x.2/\(x.2 < o∨x.2=o/\x.1 < j))/\ts.Nodup
theorem GF.nil (o j:Nat):GF o j []:=⟨λ_ h=>zX h CN,Qg⟩
theorem GF.skip {o j:Nat} {ts:List (Int×Int)} (h:GF o j ts):GF o (j+1) ts:=⟨λx hx=>by
 obtain ⟨h1,h2,h3⟩:=h.1 x hx;refine ⟨h1,h2,?_⟩
 lia,h.2⟩
theorem GF.add {o j:Nat} {ts:List (Int×Int)} (h:GF o j ts) (hj:j < o):GF o (j+1) (ts++[((j:Int),(o:Int))]):=by
 refine ⟨λx hx=>?_,?_⟩
 ·rcases Ap.mp hx with hx | hx
  ·exact h.skip.1 x hx
  ·rw [AS.mp hx]
   dsimp only
   lia
 ·rw [NQ]
  refine ⟨h.2,by simp,λx hx y hy e=>?_⟩;rw [AS.mp hy] at e;subst e;have:=(h.1 _ hx).2.2;dsimp only at this
  lia
theorem GF.next {o:Nat} {ts:List (Int×Int)} (h:GF o o ts):GF (o+1) 0 ts:=⟨λx hx=>by
 obtain ⟨h1,h2,h3⟩:=h.1 x hx;refine ⟨h1,h2,?_⟩
 lia,h.2⟩
theorem aH {x:Int×Int} (h:x.1 < x.2):nrm x=x:=by
 unfold nrm;rw [qY (by lia),qX (by omega)]
theorem GF.nrm {o j:Nat} {ts:List (Int×Int)} (h:GF o j ts):ts.map M.nrm=ts:=by
 conv=>rhs;rw [<-Oa ts]
 exact D0 λx hx=>aH (h.1 x hx).2.1
theorem GF.fit {p:Nat} {ts:List (Int×Int)} (h:GF p 0 ts):Dx p ts:=by
 refine ⟨λx hx=>?_,by rw [h.nrm];exact h.2⟩;obtain ⟨h1,h2,h3⟩:=h.1 x hx;unfold Fit;rw [aH h2]
 lia
theorem OS (S:Sto) (o o':Ob):(S++[o]).set S.length o'=S++[o']:=by simp
abbrev XA (W:Wd):MS:=BY (CB 7 (m2 ixA (AG 0) (m2 EQ (AG 4) (Gj (AG 0)))))
  (BY (CB 4 (m2 E8 (AG 4) (mC (.int 1))))
  (sIf (mB (m2 ltD (m2 EQ (B3 2 (DZ W) (AX (AG 7) (AX (m2 E8 (m2 PJ (mC (.int 7)) (AG 6)) (m2 PJ (mC (.int 61)) (AG 5))) A1))) (mC (.int 6))) (AG 2))) (CY (GP (AG 3) (HC (AX (AG 6) (AX (AG 5) A1))))) sNx))
theorem Xf (W:Wd) {S:Sto} {a:Nat} {pool:List Int} {d1:D} {th at_:Int} {o j:Nat} {z7:Option D} {ts:List (Int×Int)} (ha:S[a]?=some (.lst (pool.map D.int))) (hp:1<=pool.length) (ho:o<=1000) (hj:j < o) (hu:GF o j ts) (hl:ts.length<=90000) :
  ∃(c:Int) (qs:List (Int×Int)),XA W [sR a,some d1,sI th,sR S.length,sI at_,sI o,sI j,z7] (S++[.lst (ts.map pairD)])=oN [sR a,some d1,sI th,sR S.length,sI (at_+1),sI o,sI j,sI c] (S++[.lst (qs.map pairD)])/\GF o (j+1) qs/\qs.length<=ts.length+1:=by
 have ha':=(Keeps.app S [.lst (ts.map pairD)]).at ha;have h0:=EO at_ (show (pool.length:Int)≠0 by lia);have h1:=DP at_ (show (0:Int) < pool.length by lia)
 have hlt:(at_ % pool.length).toNat < pool.length:=by lia
 have s1:CB 7 (m2 ixA (AG 0) (m2 EQ (AG 4) (Gj (AG 0)))) [sR a,some d1,sI th,sR S.length,sI at_,sI o,sI j,z7] (S++[.lst (ts.map pairD)])=.ok (.nx [sR a,some d1,sI th,sR S.length,sI at_,sI o,sI j,some (.int pool[(at_ % pool.length).toNat])]) (S++[.lst (ts.map pairD)]):=by
  refine D6 (i:=7) (Be rfl (Be rfl (KN (d:=.ref a) rfl (CZ ha')) (FH (by rw [AJ];lia))) (SR ha' (by rw [AJ];exact h0) ?_));rw [AJ,Ag,A0 hlt];rfl
 generalize pool[(at_ % pool.length).toNat]=c at s1;have s2:CB 4 (m2 E8 (AG 4) (mC (.int 1))) [sR a,some d1,sI th,sR S.length,sI at_,sI o,sI j,sI c] (S++[.lst (ts.map pairD)])=oN [sR a,some d1,sI th,sR S.length,sI (at_+1),sI o,sI j,sI c] (S++[.lst (ts.map pairD)]):=rfl;obtain ⟨v,_,_,hv⟩:=T6 W c (7 * j+61 * o)
 have t:mB (m2 ltD (m2 EQ (B3 2 (DZ W) (AX (AG 7) (AX (m2 E8 (m2 PJ (mC (.int 7)) (AG 6)) (m2 PJ (mC (.int 61)) (AG 5))) A1))) (mC (.int 6))) (AG 2)) [sR a,some d1,sI th,sR S.length,sI (at_+1),sI o,sI j,sI c] (S++[.lst (ts.map pairD)])=.ok (decide (v % 6 < th)) (S++[.lst (ts.map pairD)]):=
  Kz (Be (Be ((EA (ds:=[.int c,.int (7 * j+61 * o)]) (S1:=S++[.lst (ts.map pairD)]) (Bv rfl (Bv (Be (Be rfl rfl (SK (by lia) (by lia))) (Be rfl rfl (SK (by lia) (by lia))) rfl) rfl)) rfl).trans (hv _)) rfl (FH (by decide))) rfl (PQ rfl))
 have i1:=Hg (a:=CY (GP (AG 3) (HC (AX (AG 6) (AX (AG 5) A1))))) (b:=sNx) t
 by_cases c0:v % 6 < th
 ·rw [wX c0,qX rfl] at i1
  have a1:=Kf (mo:=AG 3) (ma:=HC (AX (AG 6) (AX (AG 5) A1))) (e:=[sR a,some d1,sI th,sR S.length,sI (at_+1),sI o,sI j,sI c]) (S:=S++[.lst (ts.map pairD)]) (n:=S.length) (S1:=S++[.lst (ts.map pairD)]) (S2:=S++[.lst (ts.map pairD)]) (y:=pairD ((j:Int),(o:Int))) rfl (CF _ _) (R1 (ds:=[.int j,.int o]) rfl (by simp)) (CF _ _) (by rw [AJ];exact B5 hl (by decide));rw [OS,show ts.map pairD++[pairD ((j:Int),(o:Int))]=(ts++[((j:Int),(o:Int))]).map pairD by simp] at a1;exact ⟨c,_,((BU s1).trans (BU s2)).trans (i1.trans (E0 a1)),hu.add hj,by simp⟩
 ·rw [wY c0,qY AO] at i1
  exact ⟨c,ts,((BU s1).trans (BU s2)).trans (i1.trans rfl),hu.skip,by lia⟩
theorem ZY (W:Wd) {S:Sto} {a:Nat} {pool:List Int} {d1:D} {th at_:Int} {o:Nat} {z6 z7:Option D} {ts:List (Int×Int)} (ha:S[a]?=some (.lst (pool.map D.int))) (hp:1<=pool.length) (ho:o<=1000) (hu:GF o 0 ts) (hl:ts.length<=80000) :
  ∃(at':Int) (y6 y7:Option D) (qs:List (Int×Int)),Gz (iR1 (AX (AG 5) A1)) (tgN 6) (XA W) [sR a,some d1,sI th,sR S.length,sI at_,sI o,z6,z7] (S++[.lst (ts.map pairD)])=oN [sR a,some d1,sI th,sR S.length,sI at',sI o,y6,y7] (S++[.lst (qs.map pairD)])/\GF (o+1) 0 qs/\qs.length<=ts.length+o:=by
 obtain ⟨f,S1,h1,at',y6,y7,qs,rfl,rfl,q1,q2⟩:=KR (v:=Fh (DW 0 o)) (g:=tgN 6) (b:=XA W) (xs:=DW 0 o) (e:=[sR a,some d1,sI th,sR S.length,sI at_,sI o,z6,z7]) (S:=S++[.lst (ts.map pairD)])
  (λi e S'=>∃(at':Int) (y6 y7:Option D) (qs:List (Int×Int)),e=[sR a,some d1,sI th,sR S.length,sI at',sI o,y6,y7]/\S'=S++[.lst (qs.map pairD)]/\GF o i qs/\qs.length<=ts.length+i)
  (λf S'=>∃(at':Int) (y6 y7:Option D) (qs:List (Int×Int)),f=.nx [sR a,some d1,sI th,sR S.length,sI at',sI o,y6,y7]/\S'=S++[.lst (qs.map pairD)]/\GF o o qs/\qs.length<=ts.length+o)
  ⟨at_,z6,z7,ts,rfl,rfl,hu,AM _⟩ (λ_ _ _ _=>rfl)
  (by
   rintro i d e S' hd ⟨at',y6,y7,qs,rfl,rfl,q1,q2⟩;obtain ⟨hi,rfl⟩:=KF hd;obtain ⟨c,rs,k1,k2,k3⟩:=Xf W (d1:=d1) (th:=th) (at_:=at') (z7:=y7) ha hp ho hi q1 (by lia);refine ⟨[sR a,some d1,sI th,sR S.length,sI at',sI o,sI i,y7],_,?_,_,_,k1,_,_,_,rs,rfl,rfl,k2,by lia⟩;show Res.ok [sR a,some d1,sI th,sR S.length,sI at',sI o,sI (0+(i:Int)),y7] _=_
   rw [kI])
  (by
   rintro e S' ⟨at',y6,y7,qs,rfl,rfl,q1,q2⟩;rw [Ik] at q1 q2
   exact ⟨_,_,_,qs,rfl,rfl,q1,q2⟩)
 have hi:iR1 (AX (AG 5) A1) [sR a,some d1,sI th,sR S.length,sI at_,sI o,z6,z7] (S++[.lst (ts.map pairD)])=.ok (Fh (DW 0 o)) (S++[.lst (ts.map pairD)]):=by
  have:=Pb (ml:=AX (AG 5) A1) (e:=[sR a,some d1,sI th,sR S.length,sI at_,sI o,z6,z7]) (S:=S++[.lst (ts.map pairD)]) (S1:=S++[.lst (ts.map pairD)]) (j:=o) rfl (by lia) (by lia);simpa using this
 exact ⟨at',y6,y7,qs,(IS hi).trans h1,q1.next,q2⟩
theorem UD (W:Wd) {S:Sto} {a m:Nat} {pool:List Int} (th:Int) (ha:S[a]?=some (.lst (pool.map D.int))) (hp:1<=pool.length) (hm1:1<=m) (hm:m<=60) :
  ∃ts:List (Int×Int),IE W [.ref a,.int m,.int th] S=.ok (.ref S.length) (S++[.lst (ts.map pairD)])/\GF m 0 ts/\ts.length<=3600:=by
 obtain ⟨f,S1,h1,at',y5,y6,y7,qs,rfl,rfl,q1,q2⟩:=KR (v:=Fh (DW 1 (m - 1))) (g:=tgN 5) (b:=Gz (iR1 (AX (AG 5) A1)) (tgN 6) (XA W)) (xs:=DW 1 (m - 1)) (e:=[sR a,sI m,sI th,sR S.length,sI 0,none,none,none]) (S:=S++[.lst []])
  (λi e S'=>∃(at':Int) (y5 y6 y7:Option D) (qs:List (Int×Int)),e=[sR a,sI m,sI th,sR S.length,sI at',y5,y6,y7]/\S'=S++[.lst (qs.map pairD)]/\GF (1+i) 0 qs/\qs.length<=60 * i)
  (λf S'=>∃(at':Int) (y5 y6 y7:Option D) (qs:List (Int×Int)),f=.nx [sR a,sI m,sI th,sR S.length,sI at',y5,y6,y7]/\S'=S++[.lst (qs.map pairD)]/\GF m 0 qs/\qs.length<=3600)
  ⟨0,none,none,none,[],rfl,rfl,GF.nil _ _,by simp⟩ (λ_ _ _ _=>rfl)
  (by
   rintro i d e S' hd ⟨at',y5,y6,y7,qs,rfl,rfl,q1,q2⟩;obtain ⟨hi,rfl⟩:=KF hd;obtain ⟨at2,w6,w7,rs,k1,k2,k3⟩:=ZY W (d1:=.int m) (th:=th) (at_:=at') (o:=1+i) (z6:=y6) (z7:=y7) ha hp (by lia) q1 (by lia);refine ⟨[sR a,sI m,sI th,sR S.length,sI at',sI ((1+i:Nat):Int),y6,y7],_,?_,_,_,k1,_,_,_,_,rs,rfl,rfl,k2,by lia⟩;show Res.ok [sR a,sI m,sI th,sR S.length,sI at',sI (1+(i:Int)),y6,y7] _=_;rw [fc]
   rfl)
  (by
   rintro e S' ⟨at',y5,y6,y7,qs,rfl,rfl,q1,q2⟩;rw [Ik] at q1 q2;rw [show 1+(m - 1)=m by lia] at q1
   exact ⟨_,_,_,_,qs,rfl,rfl,q1,by lia⟩)
 have hi:iR2 (AX (mC (.int 1)) (AX (AG 1) A1)) [sR a,sI m,sI th,sR S.length,sI 0,none,none,none] (S++[.lst []])=.ok (Fh (DW 1 (m - 1))) (S++[.lst []]):=by
  have:=jF (ml:=AX (mC (.int 1)) (AX (AG 1) A1)) (e:=[sR a,sI m,sI th,sR S.length,sI 0,none,none,none]) (S:=S++[.lst []]) (S1:=S++[.lst []]) (i:=1) (j:=m) rfl (by lia) (by lia) (by lia) (by lia);rw [this,show ((m:Int) - 1).toNat=m - 1 by lia]
 refine ⟨qs,Gg ?_,q1,q2⟩;unfold Nl;refine DF (BU (e:=E4 8 [.ref a,.int m,.int th]) (e1:=[sR a,sI m,sI th,sR S.length,none,none,none,none]) (S1:=S++[.lst []]) rfl) ?_;refine DF (BU (e1:=[sR a,sI m,sI th,sR S.length,sI 0,none,none,none]) (S1:=S++[.lst []]) rfl) ?_;refine DF (BU ((IS hi).trans h1)) ?_;rfl
end M
namespace M
open PySem L2
open Srt (ltL)
theorem aI (x:Int×Int):nrm (x.2,x.1)=nrm x:=by
 unfold nrm;dsimp only
 congr 1
 ·split <;> split <;> lia
 ·split <;> split <;> lia
theorem iF {mo:ME} {e:Lo} {S S1:Sto} {n:Nat} {xs:List D} (h:mo e S=.ok (.ref n) S1) (hn:S1[n]?=some (.lst xs)):aR mo e S=.ok .non (S1.set n (.lst xs.reverse)):=by
 unfold aR;rw [h];dsimp only [Res.bind]
 have:atL (.ref n) S1=some (n,xs):=by unfold atL;dsimp only;rw [hn]
 rw [this]
abbrev bd (W:Wd):MS:=sIf (mB (m2 (eqD false) (m2 EQ (B3 2 (DZ W) (AX (AG 1) (AX (AG 3) A1))) (mC (.int 2))) (mC (.int 0)))) (CY (GP (AG 2) (m2 ixA (AG 0) (AG 3)))) (CY (GP (AG 2) (HC (AX (m2 ixA (m2 ixA (AG 0) (AG 3)) (mC (.int 1))) (AX (m2 ixA (m2 ixA (AG 0) (AG 3)) (mC (.int 0))) A1)))))
theorem Xc (W:Wd) {S:Sto} {t i:Nat} {c:Int} {ts us:List (Int×Int)} {x:Int×Int} (ht:S[t]?=some (.lst (ts.map pairD))) (hx:ts[i]?=some x) (hl:us.length<=90000) :
  ∃y:Int×Int,nrm y=nrm x/\bd W [sR t,sI c,sR S.length,sI i] (S++[.lst (us.map pairD)])=oN [sR t,sI c,sR S.length,sI i] (S++[.lst ((us++[y]).map pairD)]):=by
 have ht':=(Keeps.app S [.lst (us.map pairD)]).at ht;obtain ⟨v,_,_,hv⟩:=T6 W c i
 have tt:mB (m2 (eqD false) (m2 EQ (B3 2 (DZ W) (AX (AG 1) (AX (AG 3) A1))) (mC (.int 2))) (mC (.int 0))) [sR t,sI c,sR S.length,sI i] (S++[.lst (us.map pairD)])=.ok (decide (v % 2=0)) (S++[.lst (us.map pairD)]):=
  Kz (Be (Be ((EA (ds:=[.int c,.int i]) (S1:=S++[.lst (us.map pairD)]) rfl rfl).trans (hv _)) rfl (FH (by decide))) rfl (Vz rfl))
 have gx:m2 ixA (AG 0) (AG 3) [sR t,sI c,sR S.length,sI i] (S++[.lst (us.map pairD)])=.ok (pairD x) (S++[.lst (us.map pairD)]):=Be rfl rfl (SR ht' (by lia) (by rw [Ag,A7,hx];rfl));have i1:=Hg (a:=CY (GP (AG 2) (m2 ixA (AG 0) (AG 3)))) (b:=CY (GP (AG 2) (HC (AX (m2 ixA (m2 ixA (AG 0) (AG 3)) (mC (.int 1))) (AX (m2 ixA (m2 ixA (AG 0) (AG 3)) (mC (.int 0))) A1))))) tt
 have hz:(us.map pairD).length < sizeLine:=by rw [AJ];exact B5 hl (by decide)
 by_cases c0:v % 2=0
 ·rw [wX c0,qX rfl] at i1
  have a1:=Kf (mo:=AG 2) (ma:=m2 ixA (AG 0) (AG 3)) (e:=[sR t,sI c,sR S.length,sI i]) (S:=S++[.lst (us.map pairD)]) (n:=S.length) (S1:=S++[.lst (us.map pairD)]) (S2:=S++[.lst (us.map pairD)]) rfl (CF _ _) gx (CF _ _) hz;rw [OS,show us.map pairD++[pairD x]=(us++[x]).map pairD by simp] at a1;exact ⟨x,rfl,i1.trans (E0 a1)⟩
 ·rw [wY c0,qY AO] at i1
  have a1:=Kf (mo:=AG 2) (ma:=HC (AX (m2 ixA (m2 ixA (AG 0) (AG 3)) (mC (.int 1))) (AX (m2 ixA (m2 ixA (AG 0) (AG 3)) (mC (.int 0))) A1))) (e:=[sR t,sI c,sR S.length,sI i]) (S:=S++[.lst (us.map pairD)]) (n:=S.length) (S1:=S++[.lst (us.map pairD)]) (S2:=S++[.lst (us.map pairD)]) (y:=pairD (x.2,x.1)) rfl (CF _ _) (R1 (ds:=[.int x.2,.int x.1]) (Bv (Be gx rfl (ix1 _ _)) (Bv (Be gx rfl (ix0 _ _)) rfl)) (by simp)) (CF _ _) hz;rw [OS,show us.map pairD++[pairD (x.2,x.1)]=(us++[(x.2,x.1)]).map pairD by simp] at a1;exact ⟨(x.2,x.1),aI x,i1.trans (E0 a1)⟩
theorem Xb (W:Wd) {S:Sto} {t:Nat} {ts:List (Int×Int)} (c:Int) (ht:S[t]?=some (.lst (ts.map pairD))) (hl:ts.length<=80000) :
  ∃us:List (Int×Int),Dg W [.ref t,.int c] S=.ok (.ref S.length) (S++[.lst (us.map pairD)])/\(us.map nrm).Perm (ts.map nrm)/\us.length=ts.length:=by
 obtain ⟨f,S1,h1,z3,us,rfl,rfl,q1,q2⟩:=KR (v:=Fh (DW 0 ts.length)) (g:=tgN 3) (b:=bd W) (xs:=DW 0 ts.length) (e:=[sR t,sI c,sR S.length,none]) (S:=S++[.lst []])
  (λi e S'=>∃(z3:Option D) (us:List (Int×Int)),e=[sR t,sI c,sR S.length,z3]/\S'=S++[.lst (us.map pairD)]/\us.map nrm=(ts.take i).map nrm/\us.length=i)
  (λf S'=>∃(z3:Option D) (us:List (Int×Int)),f=.nx [sR t,sI c,sR S.length,z3]/\S'=S++[.lst (us.map pairD)]/\us.map nrm=ts.map nrm/\us.length=ts.length)
  ⟨none,[],rfl,rfl,rfl,rfl⟩ (λ_ _ _ _=>rfl)
  (by
   rintro i d e S' hd ⟨z3,us,rfl,rfl,q1,q2⟩;obtain ⟨hi,rfl⟩:=KF hd;have hx:ts[i]?=some ts[i]:=A0 hi;obtain ⟨y,k1,k2⟩:=Xc W (c:=c) (us:=us) ht hx (by lia);refine ⟨[sR t,sI c,sR S.length,sI i],_,?_,_,_,k2,_,us++[y],rfl,rfl,?_,by simp [q2]⟩
   ·show Res.ok ([sR t,sI c,sR S.length,sI (0+(i:Int))]:Lo) _=_
    rw [kI]
   ·rw [take_snoc hx,BM,BM,q1]
    simp [k1])
  (by
   rintro e S' ⟨z3,us,rfl,rfl,q1,q2⟩;rw [Ik] at q1 q2;rw [G5] at q1
   exact ⟨_,us,rfl,rfl,q1,q2⟩)
 have hi:iR1 (AX (Gj (AG 0)) A1) [sR t,sI c,sR S.length,none] (S++[.lst []])=.ok (Fh (DW 0 ts.length)) (S++[.lst []]):=by
  have:=Pb (ml:=AX (Gj (AG 0)) A1) (e:=[sR t,sI c,sR S.length,none]) (S:=S++[.lst []]) (S1:=S++[.lst []]) (j:=((ts.map pairD).length:Nat)) (Bv (KN (d:=.ref t) rfl (CZ ((Keeps.app S _).at ht))) rfl) (by lia) (by rw [AJ];lia);rw [AJ] at this;simpa using this
 have e0:Dg W [.ref t,.int c] S=Fj 4 (Gv W) [.ref t,.int c] S:=rfl
 have b2:∀(b:MS),BY (CB 2 (C5 (Ci A1))) (BY (Gz (iR1 (AX (Gj (AG 0)) A1)) (tgN 3) (bd W)) b) (E4 4 [.ref t,.int c]) S=b [sR t,sI c,sR S.length,z3] (S++[.lst (us.map pairD)]):=λb=>by
  refine DF (BU (e1:=[sR t,sI c,sR S.length,none]) (S1:=S++[.lst []]) rfl) ?_;exact BU ((IS hi).trans h1)
 have tt:mB (m2 (eqD false) (m2 EQ (AG 1) (mC (.int 2))) (mC (.int 1))) [sR t,sI c,sR S.length,z3] (S++[.lst (us.map pairD)])=.ok (decide (c % 2=1)) (S++[.lst (us.map pairD)]):=Kz (Be (Be rfl rfl (FH (by decide))) rfl (Vz rfl));have i1:=Hg (a:=CY (aR (AG 2))) (b:=sNx) tt
 by_cases c0:c % 2=1
 ·rw [wX c0,qX rfl] at i1
  have r1:=iF (mo:=AG 2) (e:=[sR t,sI c,sR S.length,z3]) (S:=S++[.lst (us.map pairD)]) rfl (CF _ _);rw [OS,<-bu] at r1;refine ⟨us.reverse,Gg ?_,?_,by rw [XQ];exact q2⟩
  ·unfold Gv
   rw [b2];refine DF (BU (i1.trans (E0 r1))) ?_;rfl
  ·rw [bu,q1]
   exact List.reverse_perm _
 ·rw [wY c0,qY AO] at i1
  refine ⟨us,Gg ?_,by rw [q1],q2⟩;unfold Gv;rw [b2];refine DF (BU (i1.trans rfl)) ?_;rfl
theorem Zi {l l':List (List Int)} (h:l.Perm l'):GZ l=GZ l':=Kn ((FN l).trans (h.trans (FN l').symm)) (Ih l) (Ih l')
theorem cw {ps qs:List (Int×Int)} (h:(ps.map nrm).Perm (qs.map nrm)):Hw ps=Hw qs:=by
 unfold Hw JL;have:=h.map SB;rw [Bk,Bk] at this;rw [show (λx=>SB (nrm x))=SB∘nrm from rfl,Zi this]
theorem Dx.of {p:Int} {ps qs:List (Int×Int)} (h:(ps.map nrm).Perm (qs.map nrm)) (f:Dx p qs):Dx p ps:=by
 refine ⟨λx hx=>?_,h.nodup_iff.mpr f.2⟩;obtain ⟨y,hy,e⟩:=A5.mp (h.mem_iff.mp (XO hx));have:=f.1 y hy;unfold Fit at this ⊢;rw [<-e];exact this
end M
namespace M
open PySem L2
theorem Ti {l l':List Int} (h:l.Perm l'):CU l=CU l':=
 (((D5 l).trans h).trans (D5 l').symm).eq_of_pairwise (λa b _ _ h1 h2=>Kj h1 h2) (Hd l) (Hd l')
theorem YJ {l l':List (Int×Int)} (h:l.Perm l') (x:Nat):(Bt l x).Perm (Bt l' x):=Cu.flatMap_right _ h
def nr (ts:List (Int×Int)) (x:Nat):List Int:=CU (Bt ts x)
theorem d9 {o:Nat} {ts:List (Int×Int)} (hu:GF o 0 ts) (x:Nat):nr (Hw ts) x=nr ts x:=by
 have:=Qr ts;rw [hu.nrm] at this;exact Ti (YJ this x)
theorem aJ {ts:List (Int×Int)} {x:Nat} {z:Int}:z∈nr ts x↔((x:Int),z)∈ts∨(z,(x:Int))∈ts:=by
 unfold nr;rw [(D5 _).mem_iff];unfold Bt;rw [List.mem_flatMap]
 constructor
 ·rintro ⟨t,ht,h⟩
  rcases Ap.mp h with h | h
  ·split at h
   ·rename_i e
    rw [AS.mp h,<-e];exact .inl ht
   ·cases h
  ·split at h
   ·rename_i e
    rw [AS.mp h,<-e];exact .inr ht
   ·cases h
 ·rintro (h | h)
  ·exact ⟨_,h,Ck _ (by simp)⟩
  ·exact ⟨_,h,BG _ (by simp)⟩
theorem eC {ts:List (Int×Int)} {x y:Nat}:(y:Int)∈nr ts x↔(x:Int)∈nr ts y:=by
 rw [aJ,aJ];exact Or.comm
def Jd (S:Sto) (n o:Nat) (ts:List (Int×Int)):Prop:=∃rs:List Nat,S[n]?=some (.lst (rs.map D.ref))/\rs.length=o/\∀x,x < o->∃r,rs[x]?=some r/\S[r]?=some (.lst ((nr ts x).map D.int))
theorem Jd.keeps {S S':Sto} {n o:Nat} {ts:List (Int×Int)} (h:Jd S n o ts) (k:Keeps S S'):Jd S' n o ts:=by
 obtain ⟨rs,h1,h2,h3⟩:=h
 exact ⟨rs,k.at h1,h2,λx hx=>by
  obtain ⟨r,q1,q2⟩:=h3 x hx
  exact ⟨r,q1,k.at q2⟩⟩
theorem aK (W:Wd) {S:Sto} {t o:Nat} {ts:List (Int×Int)} (ht:S[t]?=some (.lst (ts.map pairD))) (hu:GF o 0 ts) (ho:o<=60) (hl:ts.length<=40000) :
  ∃n S',HR W [.ref t,.int o] S=.ok (.ref n) S'/\Keeps S S'/\Jd S' n o ts:=by
 have a1:=D6 (i:=2) (KJ (Q1 ho (mp:=AG 1) (e:=[sR t,sI o,none,none,none]) (S:=S) rfl));have e1:(S++E5 o λ_=>[])++[.lst (DI S.length o)]=stN S o (Bt []):=rfl
 have e2:(S++E5 o λ_=>[]).length=S.length+o:=by simp [Gh]
 rw [e1,e2] at a1
 obtain ⟨f,S1,h1,⟨z3,z4,rfl⟩,rfl⟩:=KR (v:=FE (.ref t)) (g:=Jj 2 (Df (tgN 3) (Df (tgN 4) KA))) (b:=RU) (xs:=ts.map pairD) (e:=[sR t,sI o,sR (S.length+o),none,none]) (S:=stN S o (Bt []))
  (λi e S'=>(∃z3 z4,e=[sR t,sI o,sR (S.length+o),z3,z4])/\S'=stN S o (Bt (ts.take i)))
  (λf S'=>(∃z3 z4,f=.nx [sR t,sI o,sR (S.length+o),z3,z4])/\S'=stN S o (Bt ts))
  ⟨⟨none,none,rfl⟩,rfl⟩ (by rintro i e S' ⟨_,rfl⟩;exact ED ((HW S o _).at ht))
  (by
   rintro i y e S' hy ⟨⟨z3,z4,rfl⟩,rfl⟩;rw [Ag] at hy
   cases hx:ts[i]? with
   | none=>rw [hx] at hy;cases hy
   | some x=>
    rw [hx] at hy;cases hy
    have hin:In o x:=by
     obtain ⟨g1,g2,g3⟩:=hu.1 x (Bp hx);exact ⟨by omega,by lia,by lia,by lia,by lia⟩
    refine ⟨[sR t,sI o,sR (S.length+o),sI x.1,sI x.2],_,rfl,_,_,Q0 hin (λz=>?_),⟨_,_,rfl⟩,?_⟩
    ·have:=PH (ts.take i) z
     rw [Ch] at this
     lia
    ·rw [take_snoc hx,show Bt (ts.take i++[x])=_ from funext λz=>Ng _ _ z])
  (by
   rintro e S' ⟨⟨z3,z4,rfl⟩,rfl⟩;rw [AJ,G5]
   exact ⟨⟨_,_,rfl⟩,rfl⟩)
 have a2:=(IS (g:=Jj 2 (Df (tgN 3) (Df (tgN 4) KA))) (b:=RU) (MY (m:=AG 0) (e:=[sR t,sI o,sR (S.length+o),none,none]) (S:=stN S o (Bt [])) (S1:=stN S o (Bt [])) rfl ((HW S o _).at ht))).trans h1
 obtain ⟨r,S2,q1,e',⟨z,_⟩,K,rs,rfl,q2,q3⟩:=Sk (v:=FE (.ref (S.length+o))) (g:=tgN 0) (c:=GB) (m:=Dm (AG 0)) (xs:=DI S.length o) (e:=[none,sR t,sI o,sR (S.length+o),z3,z4]) (S:=stN S o (Bt ts))
  (λi e' S' acc=>(∃z,e'=[z,sR t,sI o,sR (S.length+o),z3,z4])/\Keeps (stN S o (Bt ts)) S'/\∃rs:List Nat,acc=rs.map D.ref/\rs.length=i/\∀x,x < i->∃r,rs[x]?=some r/\S'[r]?=some (.lst ((nr ts x).map D.int)))
  ⟨⟨none,rfl⟩,.refl _,[],rfl,rfl,λx hx=>zX hx (QA _)⟩ (λi e' S' acc h=>ED (h.2.1.at (Hc S o _)))
  (by
   rintro i d e' S' acc hd ⟨⟨z,rfl⟩,K,rs,rfl,k2,k3⟩
   have hi:i < o:=by
    have:=(AK.mp hd).1;simpa [DI] using this
   unfold DI at hd;rw [Ag,CC hi] at hd;cases hd;have hit:IR (.ref (S.length+i)) S'=some ((Bt ts i).map D.int):=Lg (K.at (IB S _ hi));have hs:=Ig (m:=AG 0) (e:=[sR (S.length+i),sR t,sI o,sR (S.length+o),z3,z4]) (S:=S') (S1:=S') rfl hit (Ov _);have K2:=Keeps.app S' [.lst ((CU (Bt ts i)).map D.int)];refine ⟨by rw [AJ];exact B5 (show rs.length<=1000 by lia) (by decide),[sR (S.length+i),sR t,sI o,sR (S.length+o),z3,z4],_,rfl,true,_,rfl,.inl ⟨rfl,_,_,hs,⟨_,rfl⟩,K.trans K2,rs++[S'.length],by simp,by simp [k2],λx hx=>?_⟩⟩
   by_cases c:x < i
   ·obtain ⟨r,g1,g2⟩:=k3 x c
    exact ⟨r,by rw [Ah (by lia)];exact g1,K2.at g2⟩
   ·have:x=rs.length:=by lia
    subst this
    exact ⟨S'.length,by simp,by rw [k2];exact CF _ _⟩)
 rw [show (DI S.length o).length=o by simp [DI]] at q2 q3;have a3:=KJ ((OR (n:=1) (g:=tgN 0) (c:=GB) (m:=Dm (AG 0)) (MY (m:=AG 2) (e:=[sR t,sI o,sR (S.length+o),z3,z4]) (S:=stN S o (Bt ts)) (S1:=stN S o (Bt ts)) rfl (Hc S o _))).trans q1);have K3:=Keeps.app S2 [.lst (rs.map D.ref)];refine ⟨_,_,Gg ?_,((HW S o _).trans K).trans K3,rs,CF _ _,q2,λx hx=>?_⟩
 ·unfold Mg
  refine DF (BU a1) ?_;refine DF (BU a2) ?_;exact KG a3
 ·obtain ⟨r,g1,g2⟩:=q3 x hx
  exact ⟨r,g1,K3.at g2⟩
theorem Zg {l:List Int} (h:l.Nodup):(CU l).Pairwise (· < ·):=by
 have h1:(CU l).Nodup:=(D5 l).nodup_iff.mpr h
 exact ((Hd l).and h1).imp λ{a b} ⟨q1,q2⟩=>by omega
end M
namespace M
open PySem L2 L4
def G1 (W:Wd) (w:Nat×List (Int×Int)):Ob:=.ins W.Web [("places",.int w.1),("ties",.tup (w.2.map pairD)),("near_sets",.tup (M4 w.1 w.2))]
def PD (p:Nat) (ts:List (Int×Int)):List (List Int):=(BQ p).map λx=>CU (Bt ts x)
theorem aL (p:Nat) (ts:List (Int×Int)):D.tup (M4 p ts)=eT (eT D.int) (PD p ts):=by
 unfold M4 PD eT;rw [Bk];rfl
section
variable {W:Wd} {A:List Sl} {a b m:ME} {p:Option (Nat×List (Int×Int))}
theorem WV {α:Type} {f:Str} {enc:α->D} {g:Nat×List (Int×Int)->α} (h:VE A m (rO (G1 W)) p) (hl:∀w,([("places",D.int w.1),("ties",.tup (w.2.map pairD)),("near_sets",.tup (M4 w.1 w.2))]:List (Str×D)).lookup f=some (enc (g w))):VE A (PM W.Web f m) (rV enc) (p.bind λw=>some (g w)):=λv hv S0 e F S hs=>by
 obtain ⟨w,h1,h2⟩:=BH hv;cases h2;obtain ⟨d,S',h3,h4,n,rfl,hn⟩:=h w h1 S0 e F S hs;exact ⟨_,S',bN h3 hn (hl w),h4,rfl⟩
theorem Qp (h:VE A m (rO (G1 W)) p):VE A (PM W.Web "places" m) (rV D.int) (p.bind λw=>some (w.1:Int)):=WV h λw=>lO _ _ _
theorem cm (h:VE A m (rO (G1 W)) p):VE A (PM W.Web "near_sets" m) (rV (eT (eT D.int))) (p.bind λw=>some (PD w.1 w.2)):=WV h λw=>by rw [<-aL];exact lN _ _ _
theorem gk (W:Wd) {p:Nat} (h1:1<=p) (hp:p<=60) {d:D} {S:Sto} {ps:List (Int×Int)} (hv:∀S',Keeps S S'->FE d S'=some (ps.map pairD)) (hl:ps.length<=90000) (hf:Dx p ps) {e:Lo} {ml:ML} {S0:Sto} (ha:ml e S0=.ok [.int p,d] S) :
  ∃S',PL W.Web 3 (Hk W) ml e S0=.ok (.ref S.length) S'/\Keeps S S'/\S'[S.length]?=some (G1 W (p,Hw ps)):=by
 have t0:N3 (mB (m3 leD leD (mC (.int 1)) (AG 1) (mC (.int 60)))) [sR S.length,sI p,some d] (S++[.ins W.Web []])=.ok false (S++[.ins W.Web []]):=
  Ve (b:=true) (Kz (fv (S3:=S++[.ins W.Web []]) rfl rfl (aY (wX (by omega))) rfl (aY (wX (by omega)))))
 have hq0:(S++[Ob.ins W.Web []])[S.length]?=some (.ins W.Web []):=CF _ _;have e1:=R6 (C:=W.Web) (f:="places") (mo:=AG 0) (mv:=AG 1) (e:=[sR S.length,sI p,some d]) (S:=S++[.ins W.Web []]) (v:=.int p) rfl rfl hq0 (by decide);have K1:Keeps S ((S++[Ob.ins W.Web []]).set S.length (.ins W.Web (Ny "places" (.int p) []))):=(Keeps.app S _).set (AM _) _;generalize hS1:(S++[Ob.ins W.Web []]).set S.length (.ins W.Web (Ny "places" (.int p) []))=S1 at e1 K1
 have hq1:S1[S.length]?=some (.ins W.Web [("places",.int p)]):=by rw [<-hS1];exact BI (by simp)
 obtain ⟨S2,c2,K2⟩:=So W (p:=p) (d:=d) (S:=S1) (ps:=ps) (λS' k=>hv S' (K1.trans k)) (As hl (by decide)) hf;rw [VJ] at c2;have e2:=R6 (C:=W.Web) (f:="ties") (mo:=AG 0) (mv:=B3 2 (Fv W) (AX (AG 1) (AX (AG 2) A1))) (e:=[sR S.length,sI p,some d]) (S:=S1) ((EA rfl rfl).trans c2) rfl (K2.at hq1) (by simp);have K3:Keeps S (S2.set S.length (.ins W.Web (Ny "ties" (.tup ((Hw ps).map pairD)) [("places",.int p)]))):=(K1.trans K2).set (AM _) _;rw [put2] at e2 K3;have hlt2:S.length < S2.length:=(AK.mp (K2.at hq1)).1;generalize hS3:S2.set S.length (.ins W.Web [("places",.int p),("ties",.tup ((Hw ps).map pairD))])=S3 at e2 K3
 have hq3:S3[S.length]?=some (.ins W.Web [("places",.int p),("ties",.tup ((Hw ps).map pairD))]):=by rw [<-hS3];exact BI hlt2
 obtain ⟨S4,c4,K4⟩:=eE W hp (ts:=Hw ps) (λt ht=>by
  obtain ⟨x,hx,rfl⟩:=ZW ht
  exact (hf.1 x hx).in) (by rw [(Qr ps).length_eq,AJ];exact hl) S3
 have e3:=R6 (C:=W.Web) (f:="near_sets") (mo:=AG 0) (mv:=B3 2 (Fu W) (AX (AG 1) (AX (PM W.Web "ties" (AG 0)) A1))) (e:=[sR S.length,sI p,some d]) (S:=S3)
  ((EA (Bv (S1:=S3) rfl (Bv (bN rfl hq3 (i0 _ _)) rfl)) rfl).trans c4) rfl (K4.at hq3) (by simp)
 have hlt4:S.length < S4.length:=(AK.mp (K4.at hq3)).1;rw [put3] at e3;refine ⟨_,eJ ha rfl (Zt (e:=[sR S.length,sI p,some d]) ?_),(K3.trans K4).set (AM _) _,BI hlt4⟩;unfold Pq;refine DF (BU (e:=[sR S.length,sI p,some d]) (e1:=[sR S.length,sI p,some d]) (S1:=S++[.ins W.Web []]) (DF (Hg t0) rfl)) ?_;rw [BU e1,BU e2];exact e3
end
def EL (BV:(Nat×List (Int×Int))) (Cq:Int):Option (Fw Unit Unit):=
 (((some (0:Int)).bind λx2=>(some Cq).bind λx3=>if decide (x2<=x3)=true then ((some BV).bind λx1=>some (x1.1:Int)).bind λx4=>some (decide (x3 < x4)) else some false).bind λx5=>some (!x5)).bind λx6=>if x6=true then none else some (.nx ())
def Fn (BV:(Nat×List (Int×Int))) (Cq:Int):Option Unit:=dn (EL BV Cq)
theorem MA (W:Wd) (BV:(Nat×List (Int×Int))) (Cq:Int):VF (Ft W) [.z ((G1 W) BV),.v (D.int Cq)] (rV eU) (Fn BV Cq):=by
 refine gq (n:=2) (b:=GC W) (p:=EL BV Cq) (B:=λ_=>[.z ((G1 W) BV),.v (D.int Cq)]) ?_;show VS [.z ((G1 W) BV),.v (D.int Cq)] _ _ _ _;unfold GC EL;exact (Ji (B:=(λ(_:Unit)=>[.z ((G1 W) BV),.v (D.int Cq)])) (ZQ (Kw (ZN lm ll (IM rfl) (A9 rfl) (Qp (Gs rfl))))) gm (Jh (.same (.same .nil))))
def SC (BV:(Nat×List (Int×Int))) (Cq:Int):Option (Fw (List Int) Unit):=
 Cp ((((some BV).bind λx1=>((some Cq).bind λx2=>(some ()).bind λx3=>some (x2,x3)).bind λx4=>some (x1,x4)).bind λz5=>Fn z5.1 z5.2.1).bind λ_=>some (.nx ())) λ_=>(((some BV).bind λx6=>some (PD x6.1 x6.2)).bind λl7=>(some Cq).bind λx8=>atI l7 x8).bind λx9=>some (.rt x9)
def O6 (BV:(Nat×List (Int×Int))) (Cq:Int):Option (List Int):=O7 (SC BV Cq)
theorem gy (W:Wd) (BV:(Nat×List (Int×Int))) (Cq:Int):VF (Vy W) [.z ((G1 W) BV),.v (D.int Cq)] (rV (eT D.int)) (O6 BV Cq):=by
 refine Na (n:=2) (b:=V7 W) (p:=SC BV Cq) (B:=λ_=>[]) ?_;show VS [.z ((G1 W) BV),.v (D.int Cq)] _ _ _ _;unfold V7 SC;exact (Cd (cg (L9 (ZS (Gs rfl) (XY (A9 rfl) Op)) (λz5=>MA W z5.1 z5.2.1) (λ_=>rfl) Tv)) (λ_=>(IK (gr (cm (Gs rfl)) (A9 rfl)))))
def HK (BV:(Nat×List (Int×Int))) (CJ:(List Int)) (Ej:Bool):Option (Fw (Option (Int×Int)) Unit):=
 Cp (((some CJ).bind λx1=>some (Me x1)).bind λl34=>GR l34 () λ(_:Unit) x3=>Cp ((((some BV).bind λx5=>((some x3.2).bind λx6=>(some ()).bind λx7=>some (x6,x7)).bind λx8=>some (x5,x8)).bind λz9=>O6 z9.1 z9.2.1).bind λx10=>some (.nx x10)) λv4=>Gi (λ_=>()) (((some CJ).bind λl15=>(((some x3.1).bind λx12=>(some (1:Int)).bind λx13=>some (x12+x13)).bind λx14=>some (some x14)).bind λx16=>(some none).bind λx17=>some (E7 l15 x16 x17)).bind λl31=>GR l31 () λ(_:Unit) x19=>Gi (λ_=>()) ((((some x19).bind λx22=>(some v4).bind λx23=>some (decide (x22∈x23))).bind λx20=>(some Ej).bind λx21=>some (decide (x20=x21))).bind λx28=>if x28=true then (((some x3.2).bind λx24=>(some x19).bind λx25=>some (x24,x25)).bind λx26=>some (some x26)).bind λx27=>some (.rt x27) else some (.nx ())))) λ_=>(some none).bind λx38=>some (.rt x38)
def HP (BV:(Nat×List (Int×Int))) (CJ:(List Int)) (Ej:Bool):Option (Option (Int×Int)):=O7 (HK BV CJ Ej)
theorem Ry (W:Wd) (BV:(Nat×List (Int×Int))) (CJ:(List Int)) (Ej:Bool):VF (JX W) [.z ((G1 W) BV),.v ((eT D.int) CJ),.v (D.bl Ej)] (rV (eO (eP D.int D.int))) (HP BV CJ Ej):=by
 refine Na (n:=7) (b:=Ja W) (p:=HK BV CJ Ej) (B:=λ_=>[]) ?_;show VS [.z ((G1 W) BV),.v ((eT D.int) CJ),.v (D.bl Ej),.u,.u,.u,.u] _ _ _ _;unfold Ja HK;exact (Cd (LV (s0:=()) (B:=(λ(_:Unit)=>[.z ((G1 W) BV),.v ((eT D.int) CJ),.v (D.bl Ej),.u,.u,.u,.u])) (ZF (A9 rfl)) cX (.same (.same (.same (.same (.same (.same (.same .nil))))))) (λ_ x3=>(Cd (Of (L9 (ZS (Gs rfl) (XY (A9 rfl) Op)) (λz9=>gy W z9.1 z9.2.1) (λ_=>rfl) Tv)) (λv4=>(FL (LV (s0:=()) (B:=(λ(_:Unit)=>[.z ((G1 W) BV),.v ((eT D.int) CJ),.v (D.bl Ej),.v (D.int x3.1),.v (D.int x3.2),.v ((eT D.int) v4),.u])) (Rs (Ru (A9 rfl) (JG (ZP (A9 rfl) (IM rfl))) JH)) Kk (.same (.same (.same (.same (.same (.same (.same .nil))))))) (λ_ x19=>(FL (Ji (B:=(λ(_:Unit)=>[.z ((G1 W) BV),.v ((eT D.int) CJ),.v (D.bl Ej),.v (D.int x3.1),.v (D.int x3.2),.v ((eT D.int) v4),.v (D.int x19)])) (Kw (Nc jU lG (gt DK (A9 rfl) (A9 rfl)) (A9 rfl))) (IK (ck (cn (A9 rfl) (A9 rfl)))) (Jh (.same (.same (.same (.same (.same (.same (.same .nil))))))))) (λ_=>(.same (.same (.same (.same (.same (.same (.drop .nil))))))))))) (λ_=>(.same (.same (.same (.drop (.drop (.drop (.same .nil))))))))))))) (λ_=>(IK cp)))
def IC (BV:(Nat×List (Int×Int))) (CJ:(List Int)):Option (Fw (Option (Int×Int)) Unit):=
 (((some BV).bind λx1=>((some CJ).bind λx2=>((some false).bind λx3=>(some ()).bind λx4=>some (x3,x4)).bind λx5=>some (x2,x5)).bind λx6=>some (x1,x6)).bind λz7=>HP z7.1 z7.2.1 z7.2.2.1).bind λx8=>some (.rt x8)
def KI (BV:(Nat×List (Int×Int))) (CJ:(List Int)):Option (Option (Int×Int)):=O7 (IC BV CJ)
theorem Tc (W:Wd) (BV:(Nat×List (Int×Int))) (CJ:(List Int)):VF (KU W) [.z ((G1 W) BV),.v ((eT D.int) CJ)] (rV (eO (eP D.int D.int))) (KI BV CJ):=by
 refine Na (n:=2) (b:=Ke W) (p:=IC BV CJ) (B:=λ_=>[]) ?_;show VS [.z ((G1 W) BV),.v ((eT D.int) CJ)] _ _ _ _;unfold Ke IC;exact (IK (L9 (ZS (Gs rfl) (XY (A9 rfl) (XY (IM rfl) Op))) (λz7=>Ry W z7.1 z7.2.1 z7.2.2.1) (λ_=>rfl) Tv))
def Kp (BV:(Nat×List (Int×Int))) (CJ:(List Int)):Option (Fw Bool Unit):=
 ((((some CJ).bind λx3=>some (x3.length:Int)).bind λx1=>(some (0:Int)).bind λx2=>some (decide (x2 < x1))).bind λx11=>if x11=true then (((some BV).bind λx6=>((some CJ).bind λx7=>(some ()).bind λx8=>some (x7,x8)).bind λx9=>some (x6,x9)).bind λz10=>KI z10.1 z10.2.1).bind λx4=>some x4.isNone else some false).bind λx12=>some (.rt x12)
def Ez (BV:(Nat×List (Int×Int))) (CJ:(List Int)):Option Bool:=O7 (Kp BV CJ)
theorem XZ (W:Wd) (BV:(Nat×List (Int×Int))) (CJ:(List Int)):VF (ND W) [.z ((G1 W) BV),.v ((eT D.int) CJ)] (rV D.bl) (Ez BV CJ):=by
 refine Na (n:=2) (b:=NG W) (p:=Kp BV CJ) (B:=λ_=>[]) ?_;show VS [.z ((G1 W) BV),.v ((eT D.int) CJ)] _ _ _ _;unfold NG Kp;exact (IK (Rx (kQ (cq (A9 rfl)) (IM rfl)) (gs eD (L9 (ZS (Gs rfl) (XY (A9 rfl) Op)) (λz10=>Tc W z10.1 z10.2.1) (λ_=>rfl) Tv))))
def HJ (BV:(Nat×List (Int×Int))) (BX:(List (List Int))):Option (Fw Bool Unit):=
 Cp (((some []).bind KS).bind λx2=>some (.nx x2)) λv1=>Cp ((some BX).bind λl8=>GR l8 v1 λ(s3:(List Int)) x4=>Gi (λv5=>v5) ((some x4).bind λx6=>(IT s3 x6).bind λl7=>some (.nx l7))) λs9=>Cp ((((some s9).bind λx13=>some (CU x13)).bind λx11=>(((some BV).bind λx14=>some (x14.1:Int)).bind QO).bind λx12=>some (!decide (x11=x12))).bind λx16=>if x16=true then (some false).bind λx15=>some (.rt x15) else some (.nx ())) λ_=>Cp (((some BX).bind λx19=>(((some BX).bind λl23=>Jl l23 (λx21=>some true) (λx21=>(some x21).bind λx22=>some (CU x22))).bind λx24=>some (GZ x24)).bind λx20=>some (!decide (x19=x20))).bind λx26=>if x26=true then (some false).bind λx25=>some (.rt x25) else some (.nx ())) λ_=>(((some BX).bind λl35=>Jl l35 (λx29=>some true) (λx29=>((some BV).bind λx30=>((some x29).bind λx31=>(some ()).bind λx32=>some (x31,x32)).bind λx33=>some (x30,x33)).bind λz34=>Ez z34.1 z34.2.1)).bind λx36=>some (x36.all id)).bind λx37=>some (.rt x37)
def JN (BV:(Nat×List (Int×Int))) (BX:(List (List Int))):Option Bool:=O7 (HJ BV BX)
theorem MB (W:Wd) (BV:(Nat×List (Int×Int))) (BX:(List (List Int))):VF (D9 W) [.z ((G1 W) BV),.z ((oL (eT D.int)) BX)] (rV D.bl) (JN BV BX):=by
 refine Na (n:=4) (b:=JZ W) (p:=HJ BV BX) (B:=λ_=>[]) ?_;show VS [.z ((G1 W) BV),.z ((oL (eT D.int)) BX),.u,.u] _ _ _ _;unfold JZ HJ;exact (Cd (JF (FM (Ie IL))) (λv1=>(Cd (LV (s0:=v1) (B:=(λ(s10:(List Int))=>[.z ((G1 W) BV),.z ((oL (eT D.int)) BX),.w 2 ((oL D.int) s10),.u])) (Rr rfl) Kk (.same (.same (.same (.same .nil)))) (λs3 x4=>(FL (cf rfl (A9 rfl) rfl) (λv5=>(.same (.same (.same (.drop .nil)))))))) (λs9=>(Cd (Ji (B:=(λ(_:Unit)=>[.z ((G1 W) BV),.z ((oL (eT D.int)) BX),.w 2 ((oL D.int) s9),.u])) (Kw (ZK DK (FF (Ol (Cf rfl))) (FF (FM (Qn (Qp (Gs rfl))))))) (IK (IM rfl)) (Jh (.same (.same (.same (.same .nil)))))) (λ_=>(Cd (Ji (B:=(λ(_:Unit)=>[.z ((G1 W) BV),.z ((oL (eT D.int)) BX),.w 2 ((oL D.int) s9),.u])) (Kw (ZK (W1 DK) (Gs rfl) (FF (ZG (FF (FM (L6 (VI.k (Rr rfl)) (λx21=>OJ) (λx21=>(M3 (FF (XX (A9 rfl)))))))))))) (IK (IM rfl)) (Jh (.same (.same (.same (.same .nil)))))) (λ_=>(IK (ZO (Rp (FF (FM (L6 (VI.k (Rr rfl)) (λx29=>OJ) (λx29=>(L9 (ZS (Gs rfl) (XY (A9 rfl) Op)) (λz34=>XZ W z34.1 z34.2.1) (λ_=>rfl) Tv))))))))))))))))
def EM (B9:(List (List Int))) (BX:(List (List Int))):Option (Fw Bool Unit):=
 Cp (((some []).bind KS).bind λx2=>some (.nx x2)) λv1=>Cp (((some []).bind KS).bind λx4=>some (.nx x4)) λv3=>Cp ((some BX).bind λl40=>GR l40 (v1,v3) λ(s5:(List Int)×(List Int)) x6=>Cp ((some x6).bind λl24=>GR l24 () λ(_:Unit) x8=>Gi (λ_=>()) ((some x6).bind λl21=>GR l21 () λ(_:Unit) x10=>Gi (λ_=>()) ((((some x8).bind λx11=>(some x10).bind λx12=>some (!decide (x11=x12))).bind λx16=>if x16=true then (some x10).bind λx13=>((some x8).bind λx15=>atI B9 x15).bind λx14=>some (!decide (x13∈x14)) else some false).bind λx18=>if x18=true then (some false).bind λx17=>some (.rt x17) else some (.nx ())))) λ_=>Cp ((some x6).bind λx28=>(IT s5.1 x28).bind λl29=>some (.nx l29)) λv27=>Gi (λv30=>(v27,v30)) ((((some x6).bind λx36=>((((some (1:Int)).bind λx33=>some (-x33)).bind λx34=>(some []).bind λl35=>some (x34 :: l35)).bind KS).bind λx37=>IT x36 x37).bind λl38=>(some (0:Int)).bind λx39=>atI l38 x39).bind λx31=>(V8 s5.2 x31).bind λl32=>some (.nx l32))) λs41=>((((some s41.1).bind λx45=>some (CU x45)).bind λx43=>((some (B9.length:Int)).bind QO).bind λx44=>some (decide (x43=x44))).bind λx53=>if x53=true then (((some s41.2).bind λx48=>some (CU x48)).bind λx46=>(some s41.2).bind λx47=>some (decide (x46=x47))).bind λx52=>if x52=true then ((some (1:Int)).bind λx51=>some (-x51)).bind λx49=>(some s41.2).bind λx50=>some (!decide (x49∈x50)) else some false else some false).bind λx54=>some (.rt x54)
def Fo (B9:(List (List Int))) (BX:(List (List Int))):Option Bool:=O7 (EM B9 BX)
theorem MC (W:Wd) (B9:(List (List Int))) (BX:(List (List Int))):VF (Co W) [.q (Nst D.int B9),.z ((oL (eT D.int)) BX)] (rV D.bl) (Fo B9 BX):=by
 refine Na (n:=7) (b:=GD W) (p:=EM B9 BX) (B:=λ_=>[]) ?_;show VS [.q (Nst D.int B9),.z ((oL (eT D.int)) BX),.u,.u,.u,.u,.u] _ _ _ _;unfold GD EM;exact (Cd (JF (FM (Ie IL))) (λv1=>(Cd (JF (FM (Ie IL))) (λv3=>(Cd (LV (s0:=(v1,v3)) (B:=(λ(s42:(List Int)×(List Int))=>[.q (Nst D.int B9),.z ((oL (eT D.int)) BX),.w 2 ((oL D.int) s42.1),.w 3 ((oL D.int) s42.2),.u,.u,.u])) (Rr rfl) Kk (.same (.same (.same (.same (.same (.same (.same .nil))))))) (λs5 x6=>(Cd (LV (s0:=()) (B:=(λ(_:Unit)=>[.q (Nst D.int B9),.z ((oL (eT D.int)) BX),.w 2 ((oL D.int) s5.1),.w 3 ((oL D.int) s5.2),.v ((eT D.int) x6),.u,.u])) (Rs (A9 rfl)) Kk (.same (.same (.same (.same (.same (.same (.same .nil))))))) (λ_ x8=>(FL (LV (s0:=()) (B:=(λ(_:Unit)=>[.q (Nst D.int B9),.z ((oL (eT D.int)) BX),.w 2 ((oL D.int) s5.1),.w 3 ((oL D.int) s5.2),.v ((eT D.int) x6),.v (D.int x8),.u])) (Rs (A9 rfl)) Kk (.same (.same (.same (.same (.same (.same (.same .nil))))))) (λ_ x10=>(FL (Ji (B:=(λ(_:Unit)=>[.q (Nst D.int B9),.z ((oL (eT D.int)) BX),.w 2 ((oL D.int) s5.1),.w 3 ((oL D.int) s5.2),.v ((eT D.int) x6),.v (D.int x8),.v (D.int x10)])) (U7 (Kw (fh DK JR (A9 rfl) (A9 rfl))) (Kw (WU DK (A9 rfl) (ZH rfl (A9 rfl))))) (IK (IM rfl)) (Jh (.same (.same (.same (.same (.same (.same (.same .nil))))))))) (λ_=>(.same (.same (.same (.same (.same (.same (.drop .nil))))))))))) (λ_=>(.same (.same (.same (.same (.same (.drop (.same .nil))))))))))) (λ_=>(Cd (gl rfl (FM (Rq (WR (A9 rfl)))) rfl) (λv27=>(FL (U6 rfl (JI (FF (OI (FF (FM (Rq (WR (A9 rfl))))) (FF (FM (Ie (OF (ZJ (IM rfl)) IL)))))) (IM rfl)) rfl) (λv30=>(.same (.same (.same (.same (.drop (.same (.same .nil))))))))))))))) (λs41=>(IK (Rx (ZM DK (FF (Ol (Cf rfl))) (FF (FM (Qn (WT rfl))))) (Rx (ZM DK (FF (Ol (Cf rfl))) (Cf rfl)) (WU DK (ZJ (IM rfl)) (Cf rfl)))))))))))
def HM (B9:(List (List Int))):Option (Fw (List (List Int)) Unit):=
 Cp (((some []).bind KS).bind λx2=>some (.nx x2)) λv1=>Cp (((some (B9.length:Int)).bind QO).bind λl47=>GR l47 v1 λ(s3:(List (List Int))) x4=>Cp ((some (0:Int)).bind λx6=>some (.nx x6)) λv5=>Cp (whF (λ(s7:Int)=>((some s7).bind λx9=>((some s3).bind λx11=>some (x11.length:Int)).bind λx10=>some (decide (x9 < x10))).bind λx21=>if x21=true then ((((some s3).bind λl12=>(some s7).bind λx13=>atI l12 x13).bind λl18=>Jl l18 (λx14=>some true) (λx14=>(some x14).bind λx15=>((some x4).bind λx17=>atI B9 x17).bind λx16=>some (decide (x15∈x16)))).bind λx19=>some (x19.all id)).bind λx20=>some (!x20) else some false) (λ(s7:Int)=>Gi (λv22=>v22) (((some s7).bind λx24=>(some (1:Int)).bind λx25=>some (x24+x25)).bind λx26=>some (.nx x26))) wN v5) λs8=>Cp (((some s8).bind λx28=>((some s3).bind λx30=>some (x30.length:Int)).bind λx29=>some (decide (x28=x29))).bind λx34=>if x34=true then Gi (λv31=>v31) (((some []).bind KS).bind λx32=>(V8 s3 x32).bind λl33=>some (.nx l33)) else some (.nx s3)) λs35=>Gi (λv43=>v43) ((((some s35).bind λl37=>(some s8).bind λx38=>atI l37 x38).bind λx41=>(((some x4).bind λx39=>(some []).bind λl40=>some (x39 :: l40)).bind KS).bind λx42=>IT x41 x42).bind λx44=>(some s8).bind λx45=>(Ox s35 x45 x44).bind λl46=>some (.nx l46))) λs48=>some (.rt s48)
def JO (B9:(List (List Int))):Option (List (List Int)):=O7 (HM B9)
theorem Rz (W:Wd) (B9:(List (List Int))):VF (HS W) [.q (Nst D.int B9)] (rN (oL (eT D.int))) (JO B9):=by
 refine Na (n:=4) (b:=Jb W) (p:=HM B9) (B:=λ_=>[]) ?_;show VS [.q (Nst D.int B9),.u,.u,.u] _ _ _ _;unfold Jb HM;exact (Cd (JF (FM (Ie IL))) (λv1=>(Cd (LV (s0:=v1) (B:=(λ(s49:(List (List Int)))=>[.q (Nst D.int B9),.w 1 ((oL (eT D.int)) s49),.u,.u])) (Qo (WT rfl)) Kk (.same (.same (.same (.same .nil)))) (λs3 x4=>(Cd (Of (IM rfl)) (λv5=>(Cd (ZD (s0:=v5) (B:=(λ(s27:Int)=>[.q (Nst D.int B9),.w 1 ((oL (eT D.int)) s3),.v (D.int x4),.v (D.int s27)])) (.same (.same (.same (.same .nil)))) (λs7=>(U7 (Kw (kP (A9 rfl) (OG (Cf rfl)))) (ZQ (Kw (ZO (Rp (FF (FM (L6 (VI.k (Rs (JI (Cf rfl) (A9 rfl)))) (λx14=>OJ) (λx14=>(gu DK (A9 rfl) (ZH rfl (A9 rfl))))))))))))) (λs7=>(FL (Of (ZP (A9 rfl) (IM rfl))) (λv22=>(.same (.same (.same (.same .nil)))))))) (λs8=>(Cd (Ji (B:=(λ(s36:(List (List Int)))=>[.q (Nst D.int B9),.w 1 ((oL (eT D.int)) s36),.v (D.int x4),.v (D.int s8)])) (Kw (Nc DK JR (A9 rfl) (OG (Cf rfl)))) (FL (U6 rfl (Rt IL) rfl) (λv31=>(.same (.same (.same (.same .nil)))))) (Jh (.same (.same (.same (.same .nil)))))) (λs35=>(FL (OE rfl (A9 rfl) (Rv (JI (Cf rfl) (A9 rfl)) (Rt (OF (A9 rfl) IL))) rfl) (λv43=>(.same (.same (.drop (.drop .nil)))))))))))))) (λs48=>(WQ rfl)))))
def Fk (BX:(List (List Int))) (Di:Int):Option (Fw (List (List Int)) Unit):=
 Cp ((some BX).bind λx2=>some (.nx x2)) λv1=>Cp ((((some Di).bind λx4=>some (x4 / 6)).bind λx6=>((some v1).bind λx5=>some (x5.length:Int)).bind λx7=>aN x6 x7).bind λx8=>some (.nx x8)) λv3=>Cp ((((some Di).bind λx10=>some (x10 / 97)).bind λx12=>((some v1).bind λx11=>some (x11.length:Int)).bind λx13=>aN x12 x13).bind λx14=>some (.nx x14)) λv9=>Cp ((((some Di).bind λx17=>some (x17 % 6)).bind λx15=>(some (0:Int)).bind λx16=>some (decide (x15=x16))).bind λx32=>if x32=true then Gi (λv28=>v28) (((((some v1).bind λl18=>(some v9).bind λx19=>atI l18 x19).bind λx26=>(((some v1).bind λl20=>(some v3).bind λx21=>atI l20 x21).bind λl23=>(some none).bind λx24=>((some (1:Int)).bind λx22=>some (some x22)).bind λx25=>some (E7 l23 x24 x25)).bind λx27=>IT x26 x27).bind Qv).bind λx29=>(some v9).bind λx30=>(Ox v1 x30 x29).bind λl31=>some (.nx l31)) else some (.nx v1)) λs33=>Cp ((((some Di).bind λx37=>some (x37 % 6)).bind λx35=>(some (1:Int)).bind λx36=>some (decide (x35=x36))).bind λx48=>if x48=true then Gi (λv44=>v44) ((((some s33).bind λl38=>(some v3).bind λx39=>atI l38 x39).bind λl41=>((some (1:Int)).bind λx40=>some (some x40)).bind λx42=>(some none).bind λx43=>some (E7 l41 x42 x43)).bind λx45=>(some v3).bind λx46=>(Ox s33 x46 x45).bind λl47=>some (.nx l47)) else some (.nx s33)) λs49=>Cp ((((some Di).bind λx53=>some (x53 % 6)).bind λx51=>(some (2:Int)).bind λx52=>some (decide (x51=x52))).bind λx59=>if x59=true then Gi (λv54=>v54) (((some s49).bind λl57=>(some v3).bind λx58=>atI l57 x58).bind λx55=>(V8 s49 x55).bind λl56=>some (.nx l56)) else some (.nx s49)) λs60=>Cp (((((some Di).bind λx64=>some (x64 % 6)).bind λx62=>(some (3:Int)).bind λx63=>some (decide (x62=x63))).bind λx67=>if x67=true then (some v3).bind λx65=>(some v9).bind λx66=>some (!decide (x65=x66)) else some false).bind λx82=>if x82=true then Cp (((((some s60).bind λl68=>(some v9).bind λx69=>atI l68 x69).bind λx72=>((some s60).bind λl70=>(some v3).bind λx71=>atI l70 x71).bind λx73=>IT x72 x73).bind Qv).bind λx75=>(some v9).bind λx76=>(Ox s60 x76 x75).bind λl77=>some (.nx l77)) λv74=>Gi (λv78=>v78) ((some v3).bind λx81=>(Wf v74 x81).bind λl80=>some (.nx l80)) else some (.nx s60)) λs83=>Cp ((((some Di).bind λx87=>some (x87 % 6)).bind λx85=>(some (4:Int)).bind λx86=>some (decide (x85=x86))).bind λx100=>if x100=true then Gi (λv88=>v88) ((((some s83).bind λl90=>((some v9).bind λx89=>some (some x89)).bind λx91=>(some none).bind λx92=>some (E7 l90 x91 x92)).bind λx97=>((some s83).bind λl94=>(some none).bind λx95=>((some v9).bind λx93=>some (some x93)).bind λx96=>some (E7 l94 x95 x96)).bind λx98=>IT x97 x98).bind λx99=>some (.nx x99)) else some (.nx s83)) λs101=>Cp ((((some Di).bind λx105=>some (x105 % 6)).bind λx103=>(some (5:Int)).bind λx104=>some (decide (x103=x104))).bind λx122=>if x122=true then Gi (λv106=>v106) (((((some s101).bind λl108=>(some none).bind λx109=>((some v3).bind λx107=>some (some x107)).bind λx110=>some (E7 l108 x109 x110)).bind λx113=>((((some []).bind KS).bind λx111=>(some []).bind λl112=>some (x111 :: l112)).bind KS).bind λx114=>IT x113 x114).bind λx119=>((some s101).bind λl116=>((some v3).bind λx115=>some (some x115)).bind λx117=>(some none).bind λx118=>some (E7 l116 x117 x118)).bind λx120=>IT x119 x120).bind λx121=>some (.nx x121)) else some (.nx s101)) λs123=>some (.rt s123)
def Hf (BX:(List (List Int))) (Di:Int):Option (List (List Int)):=O7 (Fk BX Di)
theorem Oq (W:Wd) (BX:(List (List Int))) (Di:Int):VF (Dw W) [.z ((oL (eT D.int)) BX),.v (D.int Di)] (rN (oL (eT D.int))) (Hf BX Di):=by
 refine Na (n:=4) (b:=Hm W) (p:=Fk BX Di) (B:=λ_=>[]) ?_;show VS [.z ((oL (eT D.int)) BX),.v (D.int Di),.u,.u] _ _ _ _;unfold Hm Fk;exact (Cd (JF (FM (Rq (Rp (Gs rfl))))) (λv1=>(Cd (Of (ZL (Ta rfl (A9 rfl)) (OG (Cf rfl)))) (λv3=>(Cd (Of (ZL (Ta rfl (A9 rfl)) (OG (Cf rfl)))) (λv9=>(Cd (Ji (B:=(λ(s34:(List (List Int)))=>[.w 0 ((oL (eT D.int)) s34),.v (D.int Di),.v (D.int v3),.v (D.int v9)])) (Kw (Nc DK JR (Kl rfl (A9 rfl)) (IM rfl))) (FL (OE rfl (A9 rfl) (M3 (FF (Om (Rv (JI (Cf rfl) (A9 rfl)) (Ru (JI (Cf rfl) (A9 rfl)) JH (JG (IM rfl))))))) rfl) (λv28=>(.same (.same (.same (.same .nil)))))) (Jh (.same (.same (.same (.same .nil)))))) (λs33=>(Cd (Ji (B:=(λ(s50:(List (List Int)))=>[.w 0 ((oL (eT D.int)) s50),.v (D.int Di),.v (D.int v3),.v (D.int v9)])) (Kw (Nc DK JR (Kl rfl (A9 rfl)) (IM rfl))) (FL (OE rfl (A9 rfl) (Ru (JI (Cf rfl) (A9 rfl)) (JG (IM rfl)) JH) rfl) (λv44=>(.same (.same (.same (.same .nil)))))) (Jh (.same (.same (.same (.same .nil)))))) (λs49=>(Cd (Ji (B:=(λ(s61:(List (List Int)))=>[.w 0 ((oL (eT D.int)) s61),.v (D.int Di),.v (D.int v3),.v (D.int v9)])) (Kw (Nc DK JR (Kl rfl (A9 rfl)) (IM rfl))) (FL (U6 rfl (JI (Cf rfl) (A9 rfl)) rfl) (λv54=>(.same (.same (.same (.same .nil)))))) (Jh (.same (.same (.same (.same .nil)))))) (λs60=>(Cd (Ji (B:=(λ(s84:(List (List Int)))=>[.w 0 ((oL (eT D.int)) s84),.v (D.int Di),.v (D.int v3),.v (D.int v9)])) (U7 (Kw (Nc DK JR (Kl rfl (A9 rfl)) (IM rfl))) (Kw (fh DK JR (A9 rfl) (A9 rfl)))) (Cd (OE rfl (A9 rfl) (M3 (FF (Om (Rv (JI (Cf rfl) (A9 rfl)) (JI (Cf rfl) (A9 rfl)))))) rfl) (λv74=>(FL (cY rfl (A9 rfl) rfl) (λv78=>(.same (.same (.same (.same .nil)))))))) (Jh (.same (.same (.same (.same .nil)))))) (λs83=>(Cd (Ji (B:=(λ(s102:(List (List Int)))=>[.w 0 ((oL (eT D.int)) s102),.v (D.int Di),.v (D.int v3),.v (D.int v9)])) (Kw (Nc DK JR (Kl rfl (A9 rfl)) (IM rfl))) (FL (JF (OI (FF (OH (Cf rfl) (JG (A9 rfl)) JH)) (FF (OH (Cf rfl) JH (JG (A9 rfl)))))) (λv88=>(.same (.same (.same (.same .nil)))))) (Jh (.same (.same (.same (.same .nil)))))) (λs101=>(Cd (Ji (B:=(λ(s124:(List (List Int)))=>[.w 0 ((oL (eT D.int)) s124),.v (D.int Di),.v (D.int v3),.v (D.int v9)])) (Kw (Nc DK JR (Kl rfl (A9 rfl)) (IM rfl))) (FL (JF (OI (FF (OI (FF (OH (Cf rfl) JH (JG (A9 rfl)))) (FF (FM (Ie (OF (Rt IL) IL)))))) (FF (OH (Cf rfl) (JG (A9 rfl)) JH)))) (λv106=>(.same (.same (.same (.same .nil)))))) (Jh (.same (.same (.same (.same .nil)))))) (λs123=>(WQ rfl)))))))))))))))))))
structure Nb (n:Nat) (nears:List (List Int)) (w:Nat×List (Int×Int)) (nb:Int->List Int):Prop where
 hn:n<=60
 at_:∀x:Int,0<=x->x < n->atI nears x=some (nb x)
 ln:nears.length=n
 wn:w.1=n
 near:∀x:Int,0<=x->x < n->O6 w x=some (nb x)
 sym:∀x y:Int,0<=x->x < n->0<=y->y < n->y∈nb x->x∈nb y
def Rw (n:Int) (r:List Int):Prop:=r.Pairwise (· < ·)/\∀x∈r,0<=x/\x < n
theorem Rw.len {n:Nat} {r:List Int} (h:Rw n r):r.length<=n:=by
 have:=Vf (l:=r) (k:=GN 0 n) (h.1.imp λh=>by omega) λx hx=>PK.mpr (by have:=h.2 x hx;omega)
 rwa [G0] at this
theorem fC {α:Type} (l:List α) {k:Int} (h0:0<=k):E7 l (some k) none=l.drop k.toNat:=by
 unfold E7;rw [show (k:Int)=((k.toNat:Nat):Int) by omega,HT.dE,HT.Zs,A7]
 by_cases c:k.toNat<=l.length
 ·rw [Nat.min_eq_left c,DD (by simp)]
 ·rw [Nat.min_eq_right (by omega),Uh (AM _),Uh (by omega)]
  simp
section
variable {n:Nat} {nears:List (List Int)} {w:Nat×List (Int×Int)} {nb:Int->List Int}
theorem UO (B:Nb n nears w nb) {r:List Int} (h:Rw n r):∃o,HP w r false=some o/\(o.isNone=true↔r.Pairwise λa b=>b∈nb a):=by
 unfold HP HK;simp only [AQ]
 have key:∀(x:Int×Int),x∈Me r->(0<=x.1/\x.1 < r.length/\r[x.1.toNat]?=some x.2):=λx hx=>by
  unfold Me at hx;obtain ⟨y,hy,rfl⟩:=A5.mp hx;have:=List.mem_zipIdx hy;simp at this;dsimp only;refine ⟨by omega,by omega,?_⟩;rw [A7,A0 this.1];exact congrArg some this.2.symm
 have hx2:∀(k:Nat) (hk:k < r.length),((k:Int),r[k])∈Me r:=λk hk=>by
  unfold Me;refine A5.mpr ⟨(r[k],k),?_,rfl⟩;exact List.mk_mem_zipIdx_iff_getElem?.mpr (A0 hk)
 rcases Iw (ρ:=Option (Int×Int)) (l:=Me r) (s0:=()) (q:=λ(_:Unit) x3=>Cp ((O6 w x3.2).bind λx10=>some (.nx x10)) λv4=>Gi (λ_=>()) (GR (E7 r (some (x3.1+1)) none) () λ(_:Unit) x19=>Gi (λ_=>()) (if decide (decide (x19∈v4)=false)=true then some (.rt (some (x3.2,x19))) else some (.nx ()))))
  (λpre _=>∀x∈pre,∀y∈r.drop (x.1.toNat+1),y∈nb x.2) (λo=>o.isNone=false/\¬r.Pairwise λa b=>b∈nb a) (by simp) (by
  intro pre x _ hx _ hI;obtain ⟨k1,k2,k3⟩:=key x hx;have hx0:=h.2 x.2 (Bp k3);rw [B.near _ hx0.1 hx0.2,AQ,Cv,fC _ (by omega),show (x.1+1).toNat=x.1.toNat+1 by omega]
  rcases Iw (ρ:=Option (Int×Int)) (l:=r.drop (x.1.toNat+1)) (s0:=()) (q:=λ(_:Unit) x19=>Gi (λ_=>()) (if decide (decide (x19∈nb x.2)=false)=true then some (.rt (some (x.2,x19))) else some (.nx ())))
   (λpre _=>∀y∈pre,y∈nb x.2) (λo=>o.isNone=false/\¬r.Pairwise λa b=>b∈nb a) (by simp) (by
   intro p2 y _ hy _ hI2
   by_cases c:y∈nb x.2
   ·refine .inl ⟨(),?_,?_⟩
    ·rw [wX c]
     rfl
    ·intro z hz
     rcases Ap.mp hz with hz | hz
     ·exact hI2 z hz
     ·rw [AS.mp hz];exact c
   ·refine .inr ⟨some (x.2,y),?_,rfl,λhp=>c ?_⟩
    ·rw [wY c]
     rfl
    ·obtain ⟨j,hj,e⟩:=B2.mp hy
     rw [Y5] at e
     have hjl:x.1.toNat+1+j < r.length:=by rw [D1] at hj;omega
     have:=Da.mp hp x.1.toNat (x.1.toNat+1+j) (by omega) hjl (by omega);rw [e] at this;rw [A0 (by omega)] at k3;rw [CA k3] at this
     exact this) with ⟨s,e,hI2⟩ | ⟨o,e,ho⟩
  ·refine .inl ⟨(),?_,?_⟩
   ·rw [e];rfl
   ·intro z hz
    rcases Ap.mp hz with hz | hz
    ·exact hI z hz
    ·rw [AS.mp hz];exact hI2
  ·refine .inr ⟨o,?_,ho⟩
   rw [e];rfl) with ⟨s,e,hI⟩ | ⟨o,e,ho⟩
 ·refine ⟨none,?_,λ_=>?_,λ_=>rfl⟩
  ·rw [e];rfl
  ·refine Da.mpr λi j hi hj hij=>?_
   refine hI _ (hx2 i hi) _ ?_;rw [A7];refine B2.mpr ⟨j - (i+1),by rw [D1];omega,?_⟩;rw [Y5]
   congr 1
   omega
 ·refine ⟨o,?_,?_⟩
  ·rw [e];rfl
  ·rw [ho.1]
   exact ⟨λh=>zX h (by decide),λh=>zX h ho.2⟩
theorem X7 (B:Nb n nears w nb) {r:List Int} (h:Rw n r):∃b,Ez w r=some b/\(b=true↔r≠[]/\r.Pairwise λa b=>b∈nb a):=by
 obtain ⟨o,e,ho⟩:=UO B h;unfold Ez Kp KI IC;simp only [AQ];rw [e];simp only [AQ]
 by_cases c:(0:Int) < r.length
 ·rw [wX c,qX rfl]
  refine ⟨o.isNone,rfl,?_⟩;rw [ho];exact ⟨λh=>⟨λz=>by rw [z] at c;simp at c,h⟩,λh=>h.2⟩
 ·rw [wY c,qY AO]
  refine ⟨false,rfl,λh=>zX h (by decide),λh=>zX (List.length_pos_iff.mpr h.1) (by omega)⟩
theorem UN {cs:List (List Int)} (h:∀r∈cs,r.length<=60):cs.flatten.length<=60 * cs.length:=by
 induction cs with
 | nil=>simp
 | cons r cs ih=>
  rw [Y6,Af,Aq]
  have h1:=ih λr hr=>h r (Ac _ hr)
  have h2:=h r Ae;omega
theorem MF {s:List Int} (h:s.Pairwise (· < ·)):CU s=s:=(D5 s).eq_of_pairwise (λa b _ _ h1 h2=>Kj h1 h2) (Hd s) (h.imp λ{a b} z=>by omega)
def bj (n:Nat) (nb:Int->List Int) (cs:List (List Int)):Prop:=CU cs.flatten=GN 0 n/\cs=GZ cs/\∀r∈cs,r≠[]/\r.Pairwise λa b=>b∈nb a
theorem MX (B:Nb n nears w nb) {cs:List (List Int)} (h:∀r∈cs,Rw n r) (hl:cs.length<=1000):∃b,JN w cs=some b/\(b=true↔bj n nb cs):=by
 have hlen:∀r∈cs,r.length<=60:=λr hr=>As (h r hr).len B.hn
 unfold JN HJ;simp only [AQ,e7,Cv]
 obtain ⟨s,e,hI⟩:=eu (ρ:=Bool) (l:=cs) (s0:=([]:List Int)) (q:=λ(s3:(List Int)) x4=>Gi (λv5=>v5) ((IT s3 x4).bind λl7=>some (.nx l7))) (λpre s=>s=pre.flatten) rfl (by
  rintro pre x s hx ⟨t,ht⟩ rfl
  have h1:=UN (cs:=pre++[x]) λr hr=>hlen r (by rw [<-ht];exact Ck _ hr)
  have h2:(pre++[x]).length<=1000:=by rw [<-ht] at hl;rw [Af] at hl;omega
  rw [Hb,Af] at h1
  have h3:[x].flatten=x:=by simp
  rw [h3] at h1;refine ⟨pre.flatten++x,?_,by simp⟩;rw [Gu (by omega)]
  rfl)
 subst hI;rw [e,Cv];have hwn:=B.wn;rw [hwn,OK (by omega) (by have:=B.hn;omega),A7];simp only [AQ]
 by_cases c1:CU cs.flatten=GN 0 n
 ·rw [wX c1]
  simp only [L3,BN,if_false,Cv];rw [Kt (f:=λx=>x) (by omega) λx hx=>by rw [MF (h x hx).1]];rw [ju];simp only [AQ]
  by_cases c2:cs=GZ cs
  ·rw [wX c2]
   simp only [L3,BN,if_false,Cv]
   have hc:∀r∈cs,∃b,Ez w r=some b/\(b=true↔r≠[]/\r.Pairwise λa b=>b∈nb a):=λr hr=>X7 B (h r hr)
   have he:∀r∈cs,Ez w r=some ((Ez w r).getD false):=λr hr=>by
    obtain ⟨b,h1,_⟩:=hc r hr;rw [h1];rfl
   rw [Kt (f:=λx=>(Ez w x).getD false) (by omega) he];refine ⟨_,rfl,?_⟩;rw [D2]
   constructor
   ·intro hh
    refine ⟨c1,c2,λr hr=>?_⟩;obtain ⟨b,h1,h2⟩:=hc r hr;have:=hh ((Ez w r).getD false) (A5.mpr ⟨r,hr,rfl⟩);rw [h1] at this;exact h2.mp this
   ·rintro ⟨_,_,hh⟩ b hb
    obtain ⟨r,hr,rfl⟩:=A5.mp hb;obtain ⟨b,h1,h2⟩:=hc r hr;rw [h1];exact h2.mpr (hh r hr)
  ·rw [wY c2]
   exact ⟨false,rfl,λh=>zX h (by decide),λh=>zX h.2.1 c2⟩
 ·rw [wY c1]
  exact ⟨false,rfl,λh=>zX h (by decide),λh=>zX h.1 c1⟩
def hd1 (r:List Int):Int:=(r++[-1]).headD 0
def gD (n:Nat) (nb:Int->List Int) (cs:List (List Int)):Prop:=(∀r∈cs,∀x∈r,∀y∈r,x≠y->y∈nb x)/\CU cs.flatten=GN 0 n/\CU (cs.map hd1)=cs.map hd1/\(-1:Int)∉cs.map hd1
theorem SD (B:Nb n nears w nb) {cs:List (List Int)} (h:∀r∈cs,Rw n r) (hl:cs.length<=1000):∃b,Fo nears cs=some b/\(b=true↔gD n nb cs):=by
 have hlen:∀r∈cs,r.length<=60:=λr hr=>As (h r hr).len B.hn
 unfold Fo EM;simp only [AQ,e7,Cv,ez]
 rcases Iw (ρ:=Bool) (l:=cs) (s0:=(([],[]):List Int×List Int)) (q:=λ(s5:(List Int)×(List Int)) x6=>Cp (GR x6 () λ(_:Unit) x8=>Gi (λ_=>()) (GR x6 () λ(_:Unit) x10=>Gi (λ_=>()) ((if (!decide (x8=x10))=true then (atI nears x8).bind λx14=>some (!decide (x10∈x14)) else some false).bind λx18=>if x18=true then some (.rt false) else some (.nx ())))) λ_=>Cp ((IT s5.1 x6).bind λl29=>some (.nx l29)) λv27=>Gi (λv30=>(v27,v30)) (((IT x6 [-1]).bind λl38=>atI l38 0).bind λx31=>(V8 s5.2 x31).bind λl32=>some (.nx l32)))
  (λpre s=>s=(pre.flatten,pre.map hd1)/\∀r∈pre,∀x∈r,∀y∈r,x≠y->y∈nb x) (λb=>b=false/\¬ ∀r∈cs,∀x∈r,∀y∈r,x≠y->y∈nb x) ⟨rfl,by simp⟩ (by
  rintro pre r s hr ⟨t,ht⟩ ⟨rfl,hI⟩;have hrw:=h r hr
  have h1:=UN (cs:=pre++[r]) λr hr=>hlen r (by rw [<-ht];exact Ck _ hr)
  have h2:(pre++[r]).length<=1000:=by rw [<-ht] at hl;rw [Af] at hl;omega
  rw [Hb,Af] at h1
  have h3:[r].flatten=r:=by simp
  rw [h3] at h1;rw [Af,Bi] at h2
  rcases Iw (ρ:=Bool) (l:=r) (s0:=()) (q:=λ(_:Unit) x8=>Gi (λ_=>()) (GR r () λ(_:Unit) x10=>Gi (λ_=>()) ((if (!decide (x8=x10))=true then (atI nears x8).bind λx14=>some (!decide (x10∈x14)) else some false).bind λx18=>if x18=true then some (.rt false) else some (.nx ()))))
   (λp2 _=>∀x∈p2,∀y∈r,x≠y->y∈nb x) (λb=>b=false/\¬ ∀x∈r,∀y∈r,x≠y->y∈nb x) (by simp) (by
   intro p2 x _ hx _ hI2;have hx0:=hrw.2 x hx;rw [B.at_ x hx0.1 hx0.2]
   rcases Iw (ρ:=Bool) (l:=r) (s0:=()) (q:=λ(_:Unit) x10=>Gi (λ_=>()) ((if (!decide (x=x10))=true then (some (nb x)).bind λx14=>some (!decide (x10∈x14)) else some false).bind λx18=>if x18=true then some (.rt false) else some (.nx ())))
    (λp3 _=>∀y∈p3,x≠y->y∈nb x) (λb=>b=false/\¬ ∀x∈r,∀y∈r,x≠y->y∈nb x) (by simp) (by
    intro p3 y _ hy _ hI3
    by_cases c:x=y
    ·refine .inl ⟨(),?_,λz hz hxz=>?_⟩
     ·rw [wX c];rfl
     ·rcases Ap.mp hz with hz | hz
      ·exact hI3 z hz hxz
      ·exact zX (c.trans (AS.mp hz).symm) hxz
    ·by_cases d:y∈nb x
     ·refine .inl ⟨(),?_,λz hz hxz=>?_⟩
      ·rw [wY c]
       simp only [Ql,if_true,AQ];rw [wX d];rfl
      ·rcases Ap.mp hz with hz | hz
       ·exact hI3 z hz hxz
       ·rw [AS.mp hz];exact d
     ·refine .inr ⟨false,?_,rfl,λhh=>d (hh x hx y hy c)⟩
      rw [wY c];simp only [Ql,if_true,AQ]
      rw [wY d];rfl) with ⟨s,e,hI3⟩ | ⟨b,e,hb⟩
   ·refine .inl ⟨(),?_,λz hz=>?_⟩
    ·rw [e];rfl
    ·rcases Ap.mp hz with hz | hz
     ·exact hI2 z hz
     ·rw [AS.mp hz];exact hI3
   ·refine .inr ⟨b,?_,hb⟩
    rw [e];rfl) with ⟨s,e,hI2⟩ | ⟨b,e,hb⟩
  ·refine .inl ⟨(pre.flatten++r,pre.map hd1++[hd1 r]),?_,by simp,λz hz=>?_⟩
   ·rw [e,Cv,Gu (by show pre.flatten.length+r.length<=_;rw [Af,Bi] at h1;omega),Gu (by have:=hlen r hr;simp;omega)]
    simp only [AQ,Cv]
    have:atI (r++[-1]) 0=some (hd1 r):=by
     cases r with
     | nil=>rfl
     | cons x r=>exact Pr (mL _) rfl
    rw [this];simp only [AQ];rw [Su (by rw [AJ];omega)];rfl
   ·rcases Ap.mp hz with hz | hz
    ·exact hI z hz
    ·rw [AS.mp hz];exact hI2
  ·refine .inr ⟨b,?_,hb.1,λhh=>hb.2 (hh r hr)⟩
   rw [e];rfl) with ⟨s,e,hs,hI⟩ | ⟨b,e,hb,hn⟩
 ·subst hs
  rw [e,Cv];have hln:=B.ln;rw [hln,OK (by omega) (by have:=B.hn;omega),A7];simp only [AQ]
  by_cases c1:CU cs.flatten=GN 0 n
  ·rw [wX c1,qX rfl]
   by_cases c2:CU (cs.map hd1)=cs.map hd1
   ·rw [wX c2,qX rfl]
    refine ⟨!decide ((-1:Int)∈cs.map hd1),rfl,?_⟩
    by_cases c3:(-1:Int)∈cs.map hd1
    ·rw [wX c3]
     exact ⟨λh=>zX h (by decide),λh=>zX c3 h.2.2.2⟩
    ·rw [wY c3]
     exact ⟨λ_=>⟨hI,c1,c2,c3⟩,λ_=>rfl⟩
   ·rw [wY c2,qY AO]
    exact ⟨false,rfl,λh=>zX h (by decide),λh=>zX h.2.2.1 c2⟩
  ·rw [wY c1,qY AO]
   exact ⟨false,rfl,λh=>zX h (by decide),λh=>zX h.2.1 c1⟩
 ·subst hb
  rw [e];exact ⟨false,rfl,λh=>zX h (by decide),λh=>zX h.1 hn⟩
end
end M
namespace M
open PySem L2 L4
open Srt (ltL)
theorem Fs (x:Int) (r:List Int):hd1 (x :: r)=x:=rfl
theorem Xy {x y:Int} {r s:List Int} (h:x < y):ltL (y :: s) (x :: r)=false:=by
 unfold ltL;rw [qY (by omega)];exact wY (by omega)
theorem Zh {rs:List (List Int)} (h:rs.Pairwise λa b=>ltL b a=false):GZ rs=rs:=Kn (FN rs) (Ih rs) h
theorem Wx {n:Nat} {cs:List (List Int)} (h:CU cs.flatten=GN 0 n):cs.flatten.Nodup:=by
 have h1:(GN 0 n).Nodup:=(Wb 0 n).imp λh=>by omega
 rw [<-h] at h1;exact (D5 _).nodup_iff.mp h1
theorem UJ {cs:List (List Int)} (h:cs.flatten.Nodup):cs.Pairwise λa b=>∀x∈a,∀y∈b,x≠y:=by
 exact (List.pairwise_flatten.mp h).2
section
variable {n:Nat} {nears:List (List Int)} {w:Nat×List (Int×Int)} {nb:Int->List Int}
theorem PF (B:Nb n nears w nb) {r:List Int} (h:Rw n r):(r.Pairwise λa b=>b∈nb a)↔∀x∈r,∀y∈r,x≠y->y∈nb x:=by
 constructor
 ·intro hp x hx y hy hne
  obtain ⟨i,hi,rfl⟩:=B2.mp hx;obtain ⟨j,hj,rfl⟩:=B2.mp hy
  have hij:i≠j:=λe=>by subst e;exact hne rfl
  have hp:=Da.mp hp
  rcases Nat.lt_or_gt_of_ne hij with c | c
  ·exact hp i j hi hj c
  ·have h1:=h.2 _ hx
   have h2:=h.2 _ hy;exact B.sym _ _ h2.1 h2.2 h1.1 h1.2 (hp j i hj hi c)
 ·intro hh
  exact h.1.imp_of_mem λ{a b} ha hb hab=>hh a ha b hb (by omega)
theorem UL (B:Nb n nears w nb) {cs:List (List Int)} (h:∀r∈cs,Rw n r):bj n nb cs↔gD n nb cs:=by
 constructor
 ·rintro ⟨h1,h2,h3⟩
  have nd:=UJ (Wx h1);refine ⟨λr hr=>(PF B (h r hr)).mp (h3 r hr).2,h1,?_,?_⟩
  ·refine MF ?_
   rw [BR]
   have hs:cs.Pairwise λa b=>ltL b a=false:=by rw [h2];exact Ih cs
   refine (hs.and nd).imp_of_mem λ{a b} ha hb ⟨hl,hne⟩=>?_
   have na:=(h3 a ha).1;have nb':=(h3 b hb).1
   match a,b,na,nb' with
   | x :: a,y :: b,_,_=>
    rw [Fs,Fs];have hxy:=hne x Ae y Ae;unfold ltL at hl;rw [qY (Bl hxy)] at hl;have:=of_decide_eq_false hl;omega
  ·intro hm
   obtain ⟨r,hr,e⟩:=A5.mp hm;have nr':=(h3 r hr).1
   match r,nr' with
   | x :: r,_=>
    rw [Fs] at e;have:=(h _ hr).2 x Ae;omega
 ·rintro ⟨h1,h2,h3,h4⟩
  have nd:=UJ (Wx h2)
  have ne:∀r∈cs,r≠[]:=λr hr e=>h4 (A5.mpr ⟨r,hr,by rw [e];rfl⟩)
  refine ⟨h2,(Zh ?_).symm,λr hr=>⟨ne r hr,(PF B (h r hr)).mpr (h1 r hr)⟩⟩
  have hs:(cs.map hd1).Pairwise (·<=·):=by rw [<-h3];exact Hd _
  rw [BR] at hs
  refine (hs.and nd).imp_of_mem λ{a b} ha hb ⟨hl,hne⟩=>?_
  have na:=ne a ha;have nb':=ne b hb
  match a,b,na,nb' with
  | x :: a,y :: b,_,_=>
   rw [Fs,Fs] at hl;have hxy:=hne x Ae y Ae;exact Xy (by omega)
structure Cl (n k:Nat) (nb:Int->List Int) (cs:List (List Int)):Prop where
 rw_:∀r∈cs,Rw k r
 ne:∀r∈cs,r≠[]
 nr:∀r∈cs,r.Pairwise λa b=>b∈nb a
 up:(cs.map hd1).Pairwise (· < ·)
 pm:cs.flatten.Perm (GN 0 k)
theorem Cl.len {k:Nat} {cs:List (List Int)} (h:Cl n k nb cs):cs.length<=k:=by
 have:=Vf (l:=cs.map hd1) (k:=GN 0 k) (h.up.imp λh=>by omega) λx hx=>by
  obtain ⟨r,hr,rfl⟩:=A5.mp hx;have hne:=h.ne r hr
  match r,hne with
  | x :: r,_=>exact PK.mpr (by have:=(h.rw_ _ hr).2 x Ae;rw [Fs];omega)
 rwa [AJ,G0] at this
theorem Q4 (k:Nat):GN 0 (k+1)=GN 0 k++[(k:Int)]:=by
 unfold GN;rw [J6,BM];simp
theorem eS {r:List Int} (h:r≠[]) (s:List Int):hd1 (r++s)=hd1 r:=by
 match r,h with
 | x :: r,_=>rfl
theorem Rw.snoc {k:Nat} {r:List Int} (h:Rw k r):Rw (k+1:Nat) (r++[(k:Int)]):=by
 refine ⟨BE.mpr ⟨h.1,Bz _ _,λa ha b hb=>?_⟩,λx hx=>?_⟩
 ·rw [AS.mp hb]
  exact (h.2 a ha).2
 ·rcases Ap.mp hx with hx | hx
  ·have:=h.2 x hx;omega
  ·rw [AS.mp hx];omega
theorem Rw.le {k j:Nat} {r:List Int} (h:Rw k r) (hk:k<=j):Rw j r:=⟨h.1,λx hx=>by have:=h.2 x hx;omega⟩
theorem Cl.new {k:Nat} {cs:List (List Int)} (h:Cl n k nb cs):Cl n (k+1) nb (cs++[[(k:Int)]]):=by
 refine ⟨λr hr=>?_,λr hr=>?_,λr hr=>?_,?_,?_⟩
 ·rcases Ap.mp hr with hr | hr
  ·exact (h.rw_ r hr).le (by omega)
  ·rw [AS.mp hr]
   exact ⟨Bz _ _,λx hx=>by rw [AS.mp hx];omega⟩
 ·rcases Ap.mp hr with hr | hr
  ·exact h.ne r hr
  ·rw [AS.mp hr];simp
 ·rcases Ap.mp hr with hr | hr
  ·exact h.nr r hr
  ·rw [AS.mp hr];exact Bz _ _
 ·rw [BM]
  refine BE.mpr ⟨h.up,Bz _ _,λa ha b hb=>?_⟩;rw [AS.mp hb];obtain ⟨r,hr,rfl⟩:=A5.mp ha;have hne:=h.ne r hr
  match r,hne with
  | x :: r,_=>
   have:=(h.rw_ _ hr).2 x Ae;rw [Fs,Fs];exact this.2
 ·rw [Q4,Hb]
  exact U3 h.pm (by simp)
theorem Cl.put (B:Nb n nears w nb) {k:Nat} (hk:k < n) {cs:List (List Int)} (h:Cl n k nb cs) {i:Nat} {r:List Int} (hi:cs[i]?=some r) (hr:∀x∈r,x∈nb k):Cl n (k+1) nb (cs.set i (r++[(k:Int)])):=by
 have hrm:=Bp hi
 have mem:∀s∈cs.set i (r++[(k:Int)]),s∈cs∨s=r++[(k:Int)]:=λs hs=>Rg hs
 refine ⟨λs hs=>?_,λs hs=>?_,λs hs=>?_,?_,?_⟩
 ·rcases mem s hs with hs | rfl
  ·exact (h.rw_ s hs).le (by omega)
  ·exact (h.rw_ r hrm).snoc
 ·rcases mem s hs with hs | rfl
  ·exact h.ne s hs
  ·simp
 ·rcases mem s hs with hs | rfl
  ·exact h.nr s hs
  ·refine BE.mpr ⟨h.nr r hrm,Bz _ _,λa ha b hb=>?_⟩
   rw [AS.mp hb];have:=(h.rw_ r hrm).2 a ha;exact B.sym k a (by omega) (by omega) this.1 (by omega) (hr a ha)
 ·rw [jt,eS (h.ne r hrm)]
  rw [show (cs.map hd1).set i (hd1 r)=cs.map hd1 from by
   apply Ef
   intro j;rw [GY];split
   ·rename_i e
    subst e;rw [Ag,hi];rw [qX (by rw [AJ];exact (AK.mp hi).1)];rfl
   ·rfl]
  exact h.up
 ·rw [Q4]
  obtain ⟨hl,e⟩:=AK.mp hi
  have e1:cs=cs.take i++r :: cs.drop (i+1):=by
   rw [<-e];exact (EV i cs).symm.trans (by rw [FC hl])
  have e2:cs.set i (r++[(k:Int)])=cs.take i++(r++[(k:Int)]) :: cs.drop (i+1):=by
   rw [List.set_eq_take_append_cons_drop,qX hl]
  have pm:=h.pm;rw [e1] at pm;rw [e2];simp only [Hb,Y6] at pm ⊢;refine WJ ?_ (Ia [(k:Int)] pm);rw [BC,BC,BC];exact DE _ (DE _ Kg)
end
end M
namespace L4
open PySem L2
theorem OkF.while {ρ σ:Type} {c:σ->Option Bool} {q:σ->Option (Fw ρ σ)} {R:ρ->Prop} (I:σ->Prop) (μ:σ->Nat) (h:∀s,I s->c s=some false∨(c s=some true/\∃s',q s=some (.nx s')/\I s'/\μ s' < μ s)) :
  ∀(n:Nat) (s:σ),I s->μ s < n->OkF (whF c q n s) (λs'=>I s'/\c s'=some false) R
 | 0,s,_,hn=>zX hn (QA _)
 | n+1,s,hI,hn=>by
  unfold whF
  rcases h s hI with hc | ⟨hc,s',hq,h2,h3⟩
  ·rw [hc]
   exact .inl ⟨s,rfl,hI,hc⟩
  ·rw [hc]
   simp only [AQ,if_true];rw [hq];exact OkF.while I μ h n s' h2 (by omega)
theorem KC {α:Type} {l:List α} {i:Int} {x:α} (h0:0<=i) (h1:i < l.length):Ox l i x=some (l.set i.toNat x):=qX ⟨h0,h1⟩
theorem Z7 {α:Type} {l:List α} {i:Int} (h0:0<=i) (h1:i < l.length) (h2:l.length<=1000000):Wf l i=some (l.eraseIdx i.toNat):=qX ⟨h0,by omega,h1⟩
end L4
namespace M
open PySem L2 L4
theorem Vx (v:Nat->Int) (z:Int):∀i:Nat,z∈C3 v i->∃j,j < i/\v j=z
 | 0,h=>zX h CN
 | i+1,h=>by
  rw [Mn] at h;unfold Nr at h;split at h
  ·obtain ⟨j,h1,h2⟩:=Vx v z i h
   exact ⟨j,by omega,h2⟩
  ·rcases Ap.mp h with h | h
   ·obtain ⟨j,h1,h2⟩:=Vx v z i h
    exact ⟨j,by omega,h2⟩
   ·exact ⟨i,by omega,(AS.mp h).symm⟩
theorem bM (v:Nat->Int):∀i:Nat,(C3 v i).Nodup
 | 0=>Qg
 | i+1=>by
  rw [Mn];unfold Nr;split
  ·exact bM v i
  ·rename_i h
   refine NQ.mpr ⟨bM v i,Bz _ _,λa ha b hb e=>h (Jg.mpr ⟨a,ha,?_⟩)⟩;rw [AS.mp hb] at e;simp [e]
theorem Wa {n:Int} {l:List Int} (h:∀x∈l,0<=x/\x < n):Rw n (QG l):=by
 refine ⟨Zg (bM _ _),λx hx=>?_⟩;have hx:=(D5 _).mem_iff.mp hx;obtain ⟨j,h1,h2⟩:=Vx _ _ _ hx;refine h x ?_;rw [<-h2,List.getD_eq_getElem?_getD,A0 h1];exact OB h1
theorem jY {n:Int} {l:List Int} (h:Rw n l) (lo hi:Option Int):Rw n (E7 l lo hi):=by
 refine ⟨?_,λx hx=>h.2 x (Sj hx)⟩;unfold E7;exact h.1.sublist ((NP _ _).trans (Y7 _ _))
section
variable {n:Nat} {nears:List (List Int)} {w:Nat×List (Int×Int)} {nb:Int->List Int}
theorem fF (B:Nb n nears w nb):Ok (JO nears) (Cl n n nb):=by
 unfold JO HM;simp only [AQ,e7,ez,Cv];have hn:=B.hn;rw [B.ln,OK (by omega) (by omega),A7];simp only [AQ];refine OkF.out (OkF.seq (OkF.for (λpre s=>Cl n pre.length nb s) ⟨by simp,by simp,by simp,HG,Cu.refl _⟩ (λpre x s hx hp hI=>?_)) λs hs=>OkF.rt ?_)
 ·obtain ⟨e,hk⟩:=Zv hp
  have e:x=(pre.length:Int):=by omega
  rw [Af,Bi];generalize pre.length=k at hI e hk;subst e;have hl:=hI.len
  have hc:∀s7:Int,0<=s7->s7 < s.length->∃r,s[s7.toNat]?=some r/\atI s s7=some r/\Jl r (λ_=>some true) (λx14=>(atI nears (k:Int)).bind λx16=>some (decide (x14∈x16)))=some (r.map λz=>decide (z∈nb k)):=λs7 h0 h1=>by
   obtain ⟨r,h2,h3⟩:=bg h0 h1;refine ⟨r,h3,h2,?_⟩;rw [B.at_ k (by omega) (by omega)];have:=(hI.rw_ r (Bp h3)).len
   exact Kt (by omega) λx _=>rfl
  refine OkF.seq (OkF.while (λs7:Int=>0<=s7/\s7<=s.length) (λs7=>(s.length - s7).toNat) (λs7 h=>?_) wN 0 ⟨mL _,by omega⟩ (by show _ < 1000000;omega)) λs8 hs8=>?_
  ·by_cases c:s7 < s.length
   ·obtain ⟨r,h1,h2,h3⟩:=hc s7 h.1 c
    rw [wX c,qX rfl,h2];simp only [AQ];rw [h3];simp only [AQ]
    cases hb:(r.map λz=>decide (z∈nb k)).all id with
    | true=>exact .inl rfl
    | false=>exact .inr ⟨rfl,s7+1,rfl,⟨by omega,by omega⟩,by omega⟩
   ·rw [wY c]
    exact .inl rfl
  ·obtain ⟨⟨h0,h1⟩,h2⟩:=hs8
   by_cases c:s8=s.length
   ·subst c
    rw [wX rfl,qX rfl,Su (by omega)];simp only [AQ,eI,Cv];rw [Pr (x:=([]:List Int)) (by omega) (by simp)];simp only [AQ];rw [Gu (by simp)];simp only [AQ];rw [KC (by omega) (by simp;omega)];refine OkF.nx ?_;rw [A7,U2 _ _ (AM _),Uz];exact hI.new
   ·rw [wY c,qY AO,Cv]
    have hlt:s8 < s.length:=by omega
    obtain ⟨r,h3,h4,h5⟩:=hc s8 h0 hlt;rw [wX hlt,qX rfl,h4] at h2;simp only [AQ] at h2;rw [h5] at h2;simp only [AQ] at h2;rw [h4];simp only [AQ];have hr:=(hI.rw_ r (Bp h3)).len;rw [Gu (by simp;omega)];simp only [AQ];rw [KC h0 hlt];refine OkF.nx ?_
    refine hI.put B hk h3 λx hx=>?_
    have h6:(r.map λz=>decide (z∈nb k)).all id=true:=by
     cases hb:(r.map λz=>decide (z∈nb k)).all id with
     | true=>rfl
     | false=>rw [hb] at h2;cases h2
    exact of_decide_eq_true (D2.mp h6 _ (A5.mpr ⟨x,hx,rfl⟩))
 ·rw [G0] at hs
  exact hs
def Rws (n:Int) (cs:List (List Int)):Prop:=∀r∈cs,Rw n r
theorem Rws.set {n:Int} {cs:List (List Int)} (h:Rws n cs) {i:Nat} {r:List Int} (hr:Rw n r):Rws n (cs.set i r):=λs hs=>by
 rcases Rg hs with hs | rfl
 ·exact h s hs
 ·exact hr
theorem Rws.app {n:Int} {cs ds:List (List Int)} (h:Rws n cs) (h2:Rws n ds):Rws n (cs++ds):=λs hs=>by
 rcases Ap.mp hs with hs | hs
 ·exact h s hs
 ·exact h2 s hs
theorem Rws.cut {n:Int} {cs:List (List Int)} (h:Rws n cs) (lo hi:Option Int):Rws n (E7 cs lo hi):=λs hs=>h s (Sj hs)
theorem YU {n:Nat} (hn:n<=60) {cs:List (List Int)} (h:Rws n cs) (h1:1<=cs.length) (h2:cs.length<=60) (cell:Int):Ok (Hf cs cell) (λds=>Rws n ds/\ds.length<=1000):=by
 have hpos:(0:Int) < cs.length:=by omega
 unfold Hf Fk;simp only [AQ,Cv];rw [Wj hpos,Wj hpos];simp only [AQ,Cv];have a0:=EO (cell / 6) (show (cs.length:Int)≠0 by omega);have a1:=DP (cell / 6) hpos;have t0:=EO (cell / 97) (show (cs.length:Int)≠0 by omega);have t1:=DP (cell / 97) hpos;generalize cell / 6 % (cs.length:Int)=a at a0 a1;generalize cell / 97 % (cs.length:Int)=t at t0 t1
 have get:∀ {s:List (List Int)} {i:Int},Rws n s->cs.length<=s.length->0<=i->i < cs.length->∃r,atI s i=some r/\Rw n r/\r.length<=60:=λ{s i} hs hl h0 h1=>by
  obtain ⟨r,q1,q2⟩:=bg (l:=s) h0 (by omega);have:=hs r (Bp q2);exact ⟨r,q1,this,As this.len hn⟩
 refine OkF.out ?_
 refine OkF.seq (N:=λs=>Rws n s/\s.length=cs.length) (OkF.ite (λ_=>?_) λ_=>OkF.nx ⟨h,rfl⟩) λs ⟨g1,g2⟩=>?_
 ·obtain ⟨r,e1,r1,r2⟩:=get h (AM _) t0 t1
  obtain ⟨r',e2,r3,r4⟩:=get h (AM _) a0 a1;rw [e1,e2];simp only [AQ];have hc:=Ka r' none (some 1);rw [Gu (by omega)];simp only [AQ];unfold Qv;rw [qX (by rw [Af];omega)];simp only [AQ];rw [KC t0 t1];refine OkF.nx ⟨h.set (Wa λx hx=>?_),Cw⟩
  rcases Ap.mp hx with hx | hx
  ·exact r1.2 x hx
  ·exact r3.2 x (Sj hx)
 refine OkF.seq (N:=λs=>Rws n s/\s.length=cs.length) (OkF.ite (λ_=>?_) λ_=>OkF.nx ⟨g1,g2⟩) λs ⟨g1,g2⟩=>?_
 ·obtain ⟨r,e1,r1,r2⟩:=get g1 (J5 g2.symm) a0 a1
  rw [e1];simp only [AQ];rw [KC a0 (by omega)];exact OkF.nx ⟨g1.set (jY r1 _ _),by rw [Cw];exact g2⟩
 refine OkF.seq (N:=λs=>Rws n s/\cs.length<=s.length/\s.length<=61) (OkF.ite (λ_=>?_) λ_=>OkF.nx ⟨g1,by omega,by omega⟩) λs ⟨g1,g2,g3⟩=>?_
 ·obtain ⟨r,e1,r1,r2⟩:=get g1 (J5 g2.symm) a0 a1
  rw [e1];simp only [AQ];rw [Su (by omega)];exact OkF.nx ⟨g1.app λs hs=>by rw [AS.mp hs];exact r1,by rw [Af,Bi];omega,by rw [Af,Bi];omega⟩
 refine OkF.seq (N:=λs=>Rws n s/\s.length<=61) ?_ λs ⟨g1,g3⟩=>?_
 ·by_cases c:cell % 6=3/\a≠t
  ·rw [wX c.1,qX rfl]
   simp only [AQ];rw [wY c.2];obtain ⟨r,e1,r1,r2⟩:=get g1 g2 t0 t1;obtain ⟨r',e2,r3,r4⟩:=get g1 g2 a0 a1;simp only [Ql,if_true];rw [e1,e2];simp only [AQ];rw [Gu (by omega)];simp only [AQ];unfold Qv;rw [qX (by rw [Af];omega)];simp only [AQ];rw [KC t0 (by omega)];simp only [AQ,Cv];rw [Z7 a0 (by rw [Cw];omega) (by rw [Cw];omega)];refine OkF.nx ⟨λx hx=>(g1.set (Wa λx hx=>?_):Rws n _) x (List.mem_of_mem_eraseIdx hx),?_⟩
   ·rcases Ap.mp hx with hx | hx
    ·exact r1.2 x hx
    ·exact r3.2 x hx
   ·have:=List.length_eraseIdx_le (s.set t.toNat (QG (r++r'))) a.toNat
    rw [Cw] at this;exact As this g3
  ·have:((if decide (cell % 6=3)=true then some (!decide (a=t)) else some false):Option Bool)=some false:=by
    by_cases c1:cell % 6=3
    ·rw [wX c1,qX rfl,wX (by by_cases c2:a=t;exact c2;exact zX ⟨c1,c2⟩ c)]
     rfl
    ·rw [wY c1,qY AO]
   rw [this];exact OkF.nx ⟨g1,g3⟩
 refine OkF.seq (N:=λs=>Rws n s/\s.length<=122) (OkF.ite (λ_=>?_) λ_=>OkF.nx ⟨g1,by omega⟩) λs ⟨g1,g3⟩=>?_
 ·have q1:=Ka s (some t) none
  have q2:=Ka s none (some t);rw [Gu (by omega)];exact OkF.nx ⟨(g1.cut _ _).app (g1.cut _ _),by rw [Af];omega⟩
 refine OkF.seq (N:=λs=>Rws n s/\s.length<=1000) (OkF.ite (λ_=>?_) λ_=>OkF.nx ⟨g1,by omega⟩) λs hs=>OkF.rt hs
 ·have q1:=Ka s none (some a)
  have q2:=Ka s (some a) none;rw [e7];simp only [AQ];rw [ez];simp only [AQ];rw [Gu (by simp;omega)];simp only [AQ];rw [Gu (by simp;omega)];refine OkF.nx ⟨((g1.cut _ _).app λx hx=>?_).app (g1.cut _ _),by simp;omega⟩;rw [AS.mp hx];exact ⟨HG,λx hx=>zX hx CN⟩
end
theorem VM {α:Type} {l:List α} {i:Nat} {x:α} (h:l[i]?=some x):l.take (i+1)=l.take i++[x]:=by
 rw [IX,h];rfl
theorem W3 {α:Type} {f:α->D} {l:List α} {v:IU} {g:MG} {b:MS} {e:Lo} {S:Sto} (I:List α->Lo->Sto->Prop) (h0:I [] e S) (hv:∀t e S,I t e S->v S=some (l.map f))
  (step:∀t x e S,x∈l->t.length < l.length->I t e S->∃e1 S1,g (f x) e S=.ok e1 S1/\∃e2 S2,b e1 S1=.ok (.nx e2) S2/\I (t++[x]) e2 S2) :
  ∃e' S',JW v g b (C4 v S) 0 e S=.ok (.nx e') S'/\I l e' S':=by
 obtain ⟨f',S',h1,e',rfl,h2⟩:=KR (v:=v) (g:=g) (b:=b) (xs:=l.map f) (e:=e) (S:=S) (λi e S=>I (l.take i) e S) (λf' S'=>∃e',f'=.nx e'/\I l e' S') h0 (λi e S h=>hv _ e S h)
  (by
   intro i d e S hd hI;rw [Ag] at hd
   cases hx:l[i]? with
   | none=>rw [hx] at hd;cases hd
   | some x=>
    rw [hx] at hd;cases hd;have hlt:=(AK.mp hx).1;obtain ⟨e1,S1,q1,e2,S2,q2,q3⟩:=step (l.take i) x e S (Bp hx) (by rw [Ch];omega) hI;refine ⟨e1,S1,q1,.nx e2,S2,q2,?_⟩;show I (l.take (i+1)) e2 S2;rw [VM hx]
    exact q3)
  (by
   intro e S hI;rw [AJ,G5] at hI
   exact ⟨e,rfl,hI⟩)
 exact ⟨e',S',h1,h2⟩
theorem Wn {m:ME} {e:Lo} {S S1:Sto} {d:D} {ds:List D} (h:m e S=.ok d S1) (hs:Ge d S1=some ds) (hl:ds.length<=1000000):C5 (mN Iq (IN m)) e S=.ok (.ref S1.length) (S1++[.lst ds]):=by
 refine KJ ?_;unfold mN;rw [Zr h hs];rfl
theorem Wr {m:ME} {e:Lo} {S S1:Sto} {d:D} {ds:List D} (h:m e S=.ok d S1) (hv:FE d S1=some ds):Fb m e S=.ok (FE d) S1:=by
 unfold Fb;rw [h];dsimp only [Res.bind];rw [hv]
theorem YI (W:Wd) {S:Sto} {t m:Nat} {ts:List (Int×Int)} {c:Int} (ht:S[t]?=some (.lst (ts.map pairD))) (hm1:1<=m) (hm:m<=60) (hf:Dx m ts) (hl:ts.length<=80000) {e:Lo} {mp mt:ME} {mc:ML} (h1:mp e S=.ok (.int m) S) (h2:AX mt mc e S=.ok [.ref t,.int c] S) :
  ∃(q:Nat) (S':Sto),PL W.Web 3 (Hk W) (AX mp (AX (B3 2 (Dg W) (AX mt mc)) A1)) e S=.ok (.ref q) S'/\Keeps S S'/\S.length<=q/\S'[q]?=some (G1 W (m,Hw ts)):=by
 obtain ⟨us,c1,p1,l1⟩:=Xb W c ht hl;obtain ⟨S',c2,K,hw⟩:=gk W (p:=m) (d:=.ref S.length) (S:=S++[.lst (us.map pairD)]) (ps:=us) hm1 hm (λS' k=>ED (k.at (CF _ _))) (by lia) (hf.of p1) (ml:=AX mp (AX (B3 2 (Dg W) (AX mt mc)) A1)) (e:=e) (S0:=S) (Bv h1 (Bv ((EA h2 rfl).trans c1) rfl));rw [cw p1] at hw;exact ⟨_,S',c2,(Keeps.app _ _).trans K,by simp,hw⟩
theorem aG {S:Sto} {n o:Nat} {ts:List (Int×Int)} (h:Jd S n o ts) (L:Nat->Option Ob) (hL:∀n o,S[n]?=some o->L n=some o):Nst D.int ((BQ o).map (nr ts)) L (.ref n):=by
 obtain ⟨rs,h1,h2,h3⟩:=h;refine ⟨n,rs,rfl,hL _ _ h1,by simp [h2],λk xs hk=>?_⟩;rw [Ag] at hk
 by_cases c:k < o
 ·rw [CC c] at hk
  cases hk;obtain ⟨r,h4,h5⟩:=h3 k c;exact ⟨r,h4,hL _ _ h5⟩
 ·rw [Bx (by simp;omega)] at hk
  cases hk
theorem fq {m:Nat} {us:List (Int×Int)} (hu:GF m 0 us) (hm:m<=60):Nb m ((BQ m).map (nr us)) (m,Hw us) (λx=>nr us x.toNat):=by
 have at_:∀(ts:List (Int×Int)) (x:Int),0<=x->x < m->atI ((BQ m).map (nr ts)) x=some (nr ts x.toNat):=λts x h0 h1=>by
  refine Pr h0 ?_;rw [Ag,CC (by omega)];rfl
 refine ⟨hm,at_ us,by simp,rfl,λx h0 h1=>?_,λx y hx0 hx1 hy0 hy1 h=>?_⟩
 ·unfold O6 SC Fn EL
  simp only [AQ];rw [wX h0,qX rfl,wX h1];simp only [AQ];show O7 (Cp (((dn (some (Fw.nx ()))).bind λ_=>some (.nx ()))) λ_=>_)=_;simp only [dk,AQ,Cv];rw [show PD m (Hw us)=(BQ m).map (nr (Hw us)) from rfl,at_ _ x h0 h1,d9 hu];rfl
 ·have:=(eC (ts:=us) (x:=x.toNat) (y:=y.toNat)).mp (by rw [Yu hy0];exact h)
  rwa [Yu hx0] at this
def Old (S S':Sto) (a:Nat):Prop:=S.length<=S'.length/\∀j ob,j≠a->S[j]?=some ob->S'[j]?=some ob
def Sw (n:Int) (S:Sto) (r:Nat):Prop:=∃cs,S[r]?=some (oL (eT D.int) cs)/\Rws n cs/\cs.length<=1000
theorem ZX (W:Wd) {S0:Sto} {n a3 a7 a8 c0 c1:Nat} {ps:List Int} {d0 d1 d2 d4 d5 d6:D} {cs0 cs1:List (List Int)} (hn:n<=60) (h3:S0[a3]?=some (.lst (ps.map D.int))) (hps:ps.length<=25) (h7:S0[a7]?=some (.lst [.ref c0,.ref c1])) (h8:S0[a8]?=some (.lst [.ref c0,.ref c1]))
  (n3:a3≠a8) (n7:a7≠a8) (n0:c0≠a8) (n1:c1≠a8) (k0:S0[c0]?=some (oL (eT D.int) cs0)) (k1:S0[c1]?=some (oL (eT D.int) cs1)) (r0:Rws n cs0) (r1:Rws n cs1) (l0:1<=cs0.length/\cs0.length<=60) (l1:1<=cs1.length/\cs1.length<=60) :
  ∃z S',Gz (Fb (AG 3)) (tgN 9) (CY (GP (AG 8) (B3 2 (Dw W) (AX (m2 ixA (AG 7) (m2 EQ (m2 Hj (AG 9) (mC (.int 3))) (mC (.int 2)))) (AX (m2 Hj (AG 9) (mC (.int 7))) A1)))))
   [some d0,some d1,some d2,sR a3,some d4,some d5,some d6,sR a7,sR a8,none,none,none,none] S0=oN [some d0,some d1,some d2,sR a3,some d4,some d5,some d6,sR a7,sR a8,z,none,none,none] S'/\Old S0 S' a8 /\
   ∃rs:List Nat,S'[a8]?=some (.lst (rs.map D.ref))/\rs.length<=27/\∀r∈rs,r≠a8/\Sw n S' r:=by
 rw [IS (Wr (m:=AG 3) rfl (ED h3))]
 obtain ⟨e',S',h,⟨z,rfl⟩,o,rs,q1,q2,q3⟩:=W3 (f:=D.int) (l:=ps) (v:=FE (.ref a3)) (g:=tgN 9) (b:=CY (GP (AG 8) (B3 2 (Dw W) (AX (m2 ixA (AG 7) (m2 EQ (m2 Hj (AG 9) (mC (.int 3))) (mC (.int 2)))) (AX (m2 Hj (AG 9) (mC (.int 7))) A1)))))
  (e:=[some d0,some d1,some d2,sR a3,some d4,some d5,some d6,sR a7,sR a8,none,none,none,none]) (S:=S0)
  (λt e S=>(∃z,e=[some d0,some d1,some d2,sR a3,some d4,some d5,some d6,sR a7,sR a8,z,none,none,none])/\Old S0 S a8/\∃rs:List Nat,S[a8]?=some (.lst (rs.map D.ref))/\rs.length=2+t.length/\∀r∈rs,r≠a8/\Sw n S r)
  ⟨⟨_,rfl⟩,⟨AM _,λ_ _ _ h=>h⟩,[c0,c1],h8,rfl,λr hr=>by
   rcases Ax.mp hr with rfl | hr
   ·exact ⟨n0,cs0,k0,r0,by omega⟩
   ·rw [AS.mp hr];exact ⟨n1,cs1,k1,r1,by omega⟩⟩
  (λt e S hI=>ED (hI.2.1.2 _ _ n3 h3))
  (by
   rintro t x e S hx ht ⟨⟨z,rfl⟩,o,rs,q1,q2,q3⟩;refine ⟨_,S,rfl,?_⟩;have hj0:=EO (x / 3) (show (2:Int)≠0 by decide);have hj1:=DP (x / 3) (show (0:Int) < 2 by decide);have h7':=o.2 _ _ n7 h7
   obtain ⟨c,cs,hc,kc,rc,l1',l2'⟩:∃c cs,([D.ref c0,.ref c1])[(x / 3 % 2).toNat]?=some (.ref c)/\S[c]?=some (oL (eT D.int) cs)/\Rws n cs/\1<=cs.length/\cs.length<=60:=by
    by_cases c:x / 3 % 2=0
    ·rw [c];exact ⟨c0,cs0,rfl,o.2 _ _ n0 k0,r0,l0.1,l0.2⟩
    ·rw [show x / 3 % 2=1 by omega];exact ⟨c1,cs1,rfl,o.2 _ _ n1 k1,r1,l1.1,l1.2⟩
   obtain ⟨ds,e1,rd,ld⟩:=YU hn rc l1' l2' (x / 7);obtain ⟨d,S1,c2,K1,k,rfl,hk1,hk2⟩:=Oq W cs (x / 7) ds e1 S [.ref c,.int (x / 7)] ⟨⟨c,rfl,kc⟩,rfl,trivial⟩
   have cc:B3 2 (Dw W) (AX (m2 ixA (AG 7) (m2 EQ (m2 Hj (AG 9) (mC (.int 3))) (mC (.int 2)))) (AX (m2 Hj (AG 9) (mC (.int 7))) A1)) [some d0,some d1,some d2,sR a3,some d4,some d5,some d6,sR a7,sR a8,sI x,none,none,none] S=.ok (.ref k) S1:=
    (EA (ds:=[.ref c,.int (x / 7)]) (S1:=S) (Bv (Be (x:=.ref a7) (y:=.int (x / 3 % 2)) (S1:=S) (S2:=S) rfl (Be (Be rfl rfl (Md (by decide) (by decide))) rfl (FH (by decide))) (SR h7' hj0 hc)) (Bv (Be rfl rfl (Md (by decide) (by decide))) rfl)) rfl).trans c2
   have ha:=Kf (mo:=AG 8) (S:=S) (S1:=S) rfl q1 cc (K1.at q1) (iz (by rw [AJ];omega))
   have ka8:k≠a8:=λz=>by
    have:=CV q1;omega
   refine ⟨_,_,E0 ha,⟨_,rfl⟩,⟨?_,λj ob hj hb=>?_⟩,rs++[k],?_,?_,λr hr=>?_⟩
   ·rw [Cw];exact As o.1 K1.1
   ·rw [A8 (Bl hj)]
    exact K1.at (o.2 j ob hj hb)
   ·rw [BI (CV (K1.at q1)),BM]
    rfl
   ·rw [Af,Af,Bi,Bi];omega
   ·rcases Ap.mp hr with hr | hr
    ·obtain ⟨g1,cs',g2,g3,g4⟩:=q3 r hr
     exact ⟨g1,cs',by rw [A8 (Bl g1)];exact K1.at g2,g3,g4⟩
    ·rw [AS.mp hr]
     exact ⟨ka8,ds,by rw [A8 (Bl ka8)];exact hk2,rd,ld⟩)
 exact ⟨z,S',h,o,rs,q1,by omega,q3⟩
theorem bh (W:Wd) {S0:Sto} {m a8 q n:Nat} {us:List (Int×Int)} {d0 d1 d2 d3 d4 d7:D} {z9:Option D} {rs:List Nat} (hu:GF m 0 us) (hm:m<=60) (hw:S0[q]?=some (G1 W (m,Hw us))) (hn:Jd S0 n m us) (h8:S0[a8]?=some (.lst (rs.map D.ref))) (hr:∀r∈rs,Sw m S0 r) :
  ∃x y z S',Gz (Fb (AG 8)) (tgN 10)
  (BY (CB 11 (C5 (mN Iq (IN (AG 10)))))
  (BY (CB 12 (B3 2 (D9 W) (AX (AG 5) (AX (AG 11) A1))))
  (sIf (mOr (N3 (mB (mIs (isB "bool") (λ_=>none) (AG 12)))) (mOr (mB (m2 (eqD true) (AG 12) (B3 2 (Co W) (AX (AG 6) (AX (AG 10) A1))))) (mB (m2 (eqD true) (AG 11) (AG 10))))) (Fa (mC (.bl false))) sNx)))
   [some d0,some d1,some d2,some d3,some d4,sR q,sR n,some d7,sR a8,z9,none,none,none] S0=oN [some d0,some d1,some d2,some d3,some d4,sR q,sR n,some d7,sR a8,z9,x,y,z] S'/\Keeps S0 S':=by
 have B:=fq hu hm;rw [IS (Wr (m:=AG 8) rfl (ED h8))]
 obtain ⟨e',S',h,⟨x,y,z,rfl⟩,K⟩:=W3 (f:=D.ref) (l:=rs) (v:=FE (.ref a8)) (g:=tgN 10) (b:=BY (CB 11 (C5 (mN Iq (IN (AG 10)))))
  (BY (CB 12 (B3 2 (D9 W) (AX (AG 5) (AX (AG 11) A1))))
  (sIf (mOr (N3 (mB (mIs (isB "bool") (λ_=>none) (AG 12)))) (mOr (mB (m2 (eqD true) (AG 12) (B3 2 (Co W) (AX (AG 6) (AX (AG 10) A1))))) (mB (m2 (eqD true) (AG 11) (AG 10))))) (Fa (mC (.bl false))) sNx)))
  (e:=[some d0,some d1,some d2,some d3,some d4,sR q,sR n,some d7,sR a8,z9,none,none,none]) (S:=S0)
  (λt e S=>(∃x y z,e=[some d0,some d1,some d2,some d3,some d4,sR q,sR n,some d7,sR a8,z9,x,y,z])/\Keeps S0 S)
  ⟨⟨_,_,_,rfl⟩,Keeps.refl _⟩ (λt e S hI=>ED (hI.2.at h8))
  (by
   rintro t r e S hx ht ⟨⟨x,y,z,rfl⟩,K⟩;refine ⟨_,S,rfl,?_⟩;obtain ⟨cs,g1,g2,g3⟩:=hr r hx;have g1:=K.at g1
   have s1:CB 11 (C5 (mN Iq (IN (AG 10)))) [some d0,some d1,some d2,some d3,some d4,sR q,sR n,some d7,sR a8,z9,sR r,y,z] S=oN [some d0,some d1,some d2,some d3,some d4,sR q,sR n,some d7,sR a8,z9,sR r,sR S.length,z] (S++[oL (eT D.int) cs]):=
    D6 (i:=11) (Wn (m:=AG 10) (S1:=S) rfl (CZ g1) (by rw [AJ];omega))
   have K1:=Keeps.app S [oL (eT D.int) cs];obtain ⟨b,e1,hb⟩:=MX B g2 g3;obtain ⟨d,S2,c2,K2,r2⟩:=MB W (m,Hw us) cs b e1 (S++[oL (eT D.int) cs]) [.ref q,.ref S.length] ⟨⟨q,rfl,(K.trans K1).at hw⟩,⟨S.length,rfl,CF _ _⟩,trivial⟩;have r2:d=.bl b:=r2;subst r2
   have s2:CB 12 (B3 2 (D9 W) (AX (AG 5) (AX (AG 11) A1))) [some d0,some d1,some d2,some d3,some d4,sR q,sR n,some d7,sR a8,z9,sR r,sR S.length,z] (S++[oL (eT D.int) cs])=oN [some d0,some d1,some d2,some d3,some d4,sR q,sR n,some d7,sR a8,z9,sR r,sR S.length,some (.bl b)] S2:=
    D6 (i:=12) ((EA (ds:=[.ref q,.ref S.length]) (S1:=S++[oL (eT D.int) cs]) rfl rfl).trans c2)
   obtain ⟨b',e3,hb'⟩:=SD B g2 g3
   have hbb:b'=b:=by
    have:=(hb.trans (UL B g2)).trans hb'.symm
    cases b <;> cases b' <;> first | rfl | exact zX (this.mp rfl) (by decide) | exact zX (this.mpr rfl) (by decide)
   subst hbb;obtain ⟨d,S3,c3,K3,r3⟩:=MC W ((BQ m).map (nr us)) cs b' e3 S2 [.ref n,.ref r] ⟨aG (hn.keeps ((K.trans K1).trans K2)),⟨r,rfl,(K1.trans K2).at g1⟩,trivial⟩;have r3:d=.bl b':=r3;subst r3
   have t1:N3 (mB (mIs (isB "bool") (λ_=>none) (AG 12))) [some d0,some d1,some d2,some d3,some d4,sR q,sR n,some d7,sR a8,z9,sR r,sR S.length,some (.bl b')] S2=.ok false S2:=
    Ve (b:=true) (Kz (lQ (T:="bool") (S1:=S2) (d:=.bl b') rfl rfl (by decide +kernel)))
   have t2:mB (m2 (eqD true) (AG 12) (B3 2 (Co W) (AX (AG 6) (AX (AG 10) A1)))) [some d0,some d1,some d2,some d3,some d4,sR q,sR n,some d7,sR a8,z9,sR r,sR S.length,some (.bl b')] S2=.ok false S3:=
    Kz (Be (x:=.bl b') (y:=.bl b') (S1:=S2) (S2:=S3) rfl ((EA (ds:=[.ref n,.ref r]) (S1:=S2) rfl rfl).trans c3) (by cases b' <;> rfl))
   have t3:mB (m2 (eqD true) (AG 11) (AG 10)) [some d0,some d1,some d2,some d3,some d4,sR q,sR n,some d7,sR a8,z9,sR r,sR S.length,some (.bl b')] S3=.ok false S3:=by
    have:=NE (enc:=eT D.int) (W1 DK) (l:=cs) (k:=cs) (n:=S.length) (m:=r) (S:=S3) true ((K2.trans K3).at (CF _ _)) (((K1.trans K2).trans K3).at g1);rw [wX rfl] at this;exact Kz (Be (x:=.ref S.length) (y:=.ref r) (S1:=S3) (S2:=S3) rfl rfl this)
   refine ⟨_,S3,(BU s1).trans ((BU s2).trans ((Hg ((Vb t1).trans ((Vb t2).trans t3))).trans ((qY AO).trans rfl))),⟨_,_,_,rfl⟩,((K.trans K1).trans K2).trans K3⟩)
 exact ⟨x,y,z,S',h,K⟩
theorem Cl.good {n:Nat} {nears:List (List Int)} {w:Nat×List (Int×Int)} {nb:Int->List Int} (B:Nb n nears w nb) {cs:List (List Int)} (h:Cl n n nb cs):bj n nb cs:=by
 have h1:CU cs.flatten=GN 0 n:=(Ti h.pm).trans (MF (Wb 0 n));refine (UL B h.rw_).mpr ⟨λr hr=>(PF B (h.rw_ r hr)).mp (h.nr r hr),h1,MF h.up,λhm=>?_⟩;obtain ⟨r,hr,e⟩:=A5.mp hm;have hne:=h.ne r hr
 match r,hne with
 | x :: r,_=>
  rw [Fs] at e;have:=(h.rw_ _ hr).2 x Ae;omega
theorem cZ {S:Sto} {e:Lo} {A:List Sl} (h:∀(i:Nat) (a:Sl),A[i]?=some a->∃x,e[i]?=some x/\a.ok S (Jm S) S x):Vs S A e (Jm S) S:=by
 refine ⟨Keeps.refl S,λn o q=>?_,λn i q=>?_,λn hn=>by unfold Jm;rw [Bx hn],h⟩
 ·unfold Jm at q
  split at q
  ·rename_i o' ho;cases q;exact ho
  ·cases q
 ·unfold Jm at q
  split at q <;> cases q
theorem VU {S:Sto} {m:Nat} {d0 d1:Option D} {r:Lo} (hm:m<=60):∃k S',C5 (Fp 1 (iR1 (AX (AG 2) A1)) (tgN 0) GB (HC (AX (AG 0) A1))) (d0 :: d1 :: some (.int m) :: r) S=.ok (.ref k) S'/\Keeps S S'/\S.length<=k/\S'[k]?=some (oL (eT D.int) ((GN 0 m).map λx=>[x])):=by
 have hv:VE [.u,.u,.v (D.int m)] (C5 (Fp 1 (iR1 (AX (AG 2) A1)) (tgN 0) GB (HC (AX (AG 0) A1)))) (rN (oL (eT D.int))) (((some (m:Int)).bind QO).bind λl=>Jl l (λ_=>some true) λx=>((some x).bind λx=>(some []).bind λl=>some (x :: l)).bind KS):=
  FM (L6 (VI.k (Qo (A9 rfl))) (λx=>OJ) (λx=>Rt (OF (A9 rfl) IL)))
 have hp:(((some (m:Int)).bind QO).bind λl=>Jl l (λ_=>some true) λx=>((some x).bind λx=>(some []).bind λl=>some (x :: l)).bind KS)=some ((GN 0 m).map λx=>[x]):=by
  rw [AQ,OK (by omega) (by omega),A7,AQ]
  exact Kt (by rw [G0];omega) λx _=>ez x
 obtain ⟨d,S',h1,h2,k,rfl,h3,h4⟩:=hv _ hp S (d0 :: d1 :: some (.int m) :: r) (Jm S) S (cZ λi a ha=>by
  match i with
  | 0=>cases ha;exact ⟨_,rfl,trivial⟩
  | 1=>cases ha;exact ⟨_,rfl,trivial⟩
  | 2=>cases ha;exact ⟨_,rfl,rfl⟩
  | i+3=>simp at ha)
 exact ⟨k,S',h1,h2,h3,h4⟩
theorem good (W:Wd) (nd:W.excs.Nodup) (ns:List Int) (hns:ns.length<=63):∃S',bO W [.fro (ns.map D.int)] []=.ok (.bl true) S':=by
 obtain ⟨h,hc⟩:=fG W ns 0 [];have s1:CB 1 (B3 2 (Fx W) (AX (AG 0) (AX (mC (.int 0)) A1))) (E4 13 [.fro (ns.map D.int)]) []=oN [sF ns,sI h,none,none,none,none,none,none,none,none,none,none,none] []:=D6 (i:=1) ((EA (ds:=[.fro (ns.map D.int),.int 0]) (S1:=[]) rfl rfl).trans hc);have hm0:=EO h (show (14:Int)≠0 by decide);have hm14:=DP h (show (0:Int) < 14 by decide)
 obtain ⟨m,hm⟩:∃m:Nat,(m:Int)=1+h % 14:=⟨(1+h % 14).toNat,by omega⟩
 have hm1:1<=m:=by omega
 have hm60:m<=60:=by omega
 have s2:CB 2 (m2 E8 (mC (.int 1)) (m2 EQ (AG 1) (mC (.int 14)))) [sF ns,sI h,none,none,none,none,none,none,none,none,none,none,none] []=oN [sF ns,sI h,sI m,none,none,none,none,none,none,none,none,none,none] []:=by
  rw [hm];exact D6 (i:=2) (Be (S1:=[]) (S2:=[]) rfl (Be rfl rfl (FH (by decide))) rfl)
 obtain ⟨S1,pool,q1,K1,b1,p1,p2⟩:=dR W ns [];have s3:CB 3 (B3 2 (IF W) (AX (AG 0) (AX (mC (.int 1)) A1))) [sF ns,sI h,sI m,none,none,none,none,none,none,none,none,none,none] []=oN [sF ns,sI h,sI m,sR 0,none,none,none,none,none,none,none,none,none] S1:=D6 (i:=3) ((EA (ds:=[.fro (ns.map D.int),.int 1]) (S1:=[]) rfl rfl).trans q1);obtain ⟨us,q2,u2,l2⟩:=UD W (1+h / 5 % 6) b1 p1 hm1 hm60;have s4:CB 4 (B3 3 (IE W) (AX (AG 3) (AX (AG 2) (AX (m2 E8 (mC (.int 1)) (m2 EQ (m2 Hj (AG 1) (mC (.int 5))) (mC (.int 6)))) A1)))) [sF ns,sI h,sI m,sR 0,none,none,none,none,none,none,none,none,none] S1=oN [sF ns,sI h,sI m,sR 0,sR S1.length,none,none,none,none,none,none,none,none] (S1++[.lst (us.map pairD)]):=D6 (i:=4) ((EA (ds:=[.ref 0,.int m,.int (1+h / 5 % 6)]) (S1:=S1) (Bv rfl (Bv rfl (Bv (Be rfl (Be (Be rfl rfl (Md (by decide) (by decide))) rfl (FH (by decide))) rfl) rfl))) rfl).trans q2);have K2:=Keeps.app S1 [Ob.lst (us.map pairD)];have t2:(S1++[Ob.lst (us.map pairD)])[S1.length]?=some (.lst (us.map pairD)):=CF _ _;have b2:=K2.at b1;generalize S1++[Ob.lst (us.map pairD)]=S2 at s4 t2 K2 b2;generalize S1.length=tt at s4 t2;obtain ⟨q,S3,c3,K3,q3,w3⟩:=YI W (c:=h) t2 hm1 hm60 u2.fit (by omega) (e:=[sF ns,sI h,sI m,sR 0,sR tt,none,none,none,none,none,none,none,none]) (mp:=AG 2) (mt:=AG 4) (mc:=AX (AG 1) A1) rfl rfl;have s5:CB 5 (PL W.Web 3 (Hk W) (AX (AG 2) (AX (B3 2 (Dg W) (AX (AG 4) (AX (AG 1) A1))) A1))) [sF ns,sI h,sI m,sR 0,sR tt,none,none,none,none,none,none,none,none] S2=oN [sF ns,sI h,sI m,sR 0,sR tt,sR q,none,none,none,none,none,none,none] S3:=D6 (i:=5) c3;obtain ⟨n,S4,c4,K4,n4⟩:=aK W (K3.at t2) u2 hm60 (by omega);have s6:CB 6 (B3 2 (HR W) (AX (AG 4) (AX (AG 2) A1))) [sF ns,sI h,sI m,sR 0,sR tt,sR q,none,none,none,none,none,none,none] S3=oN [sF ns,sI h,sI m,sR 0,sR tt,sR q,sR n,none,none,none,none,none,none] S4:=D6 (i:=6) ((EA (ds:=[.ref tt,.int m]) (S1:=S3) rfl rfl).trans c4);have B:=fq u2 hm60;obtain ⟨cs,e5,hcl⟩:=fF B;obtain ⟨d,S5,c5,K5,c0,rfl,hc0,k0⟩:=Rz W _ cs e5 S4 [.ref n] ⟨aG n4,trivial⟩
 obtain ⟨c1,S6,c6,K6,hc1,k1⟩:=VU (S:=S5) (m:=m) (d0:=some (.fro (ns.map D.int))) (d1:=some (.int h)) (r:=[sR 0,sR tt,sR q,sR n,none,none,none,none,none,none]) hm60
 have s7:CB 7 (C5 (Ci (AX (B3 1 (HS W) (AX (AG 6) A1)) (AX (C5 (Fp 1 (iR1 (AX (AG 2) A1)) (tgN 0) GB (HC (AX (AG 0) A1)))) A1)))) [sF ns,sI h,sI m,sR 0,sR tt,sR q,sR n,none,none,none,none,none,none] S4=oN [sF ns,sI h,sI m,sR 0,sR tt,sR q,sR n,sR S6.length,none,none,none,none,none] (S6++[.lst [.ref c0,.ref c1]]):=
  D6 (i:=7) (KJ (aX (Bv ((EA (ds:=[.ref n]) (S1:=S4) rfl rfl).trans c5) (Bv c6 rfl)) (by simp)))
 have K7:=Keeps.app S6 [Ob.lst [.ref c0,.ref c1]];have t7:(S6++[Ob.lst [.ref c0,.ref c1]])[S6.length]?=some (.lst [.ref c0,.ref c1]):=CF _ _
 have l7:(S6++[Ob.lst [.ref c0,.ref c1]]).length=S6.length+1:=by simp
 generalize hS7:S6++[Ob.lst [.ref c0,.ref c1]]=S7 at s7 K7 t7 l7
 have s8:CB 8 (C5 (mN Iq (IN (AG 7)))) [sF ns,sI h,sI m,sR 0,sR tt,sR q,sR n,sR S6.length,none,none,none,none,none] S7=oN [sF ns,sI h,sI m,sR 0,sR tt,sR q,sR n,sR S6.length,sR S7.length,none,none,none,none] (S7++[.lst [.ref c0,.ref c1]]):=
  D6 (i:=8) (Wn (m:=AG 7) (S1:=S7) rfl (CZ t7) (by simp))
 have K8:=Keeps.app S7 [Ob.lst [.ref c0,.ref c1]];have Kb:Keeps S1 (S7++[Ob.lst [.ref c0,.ref c1]]):=(((((K2.trans K3).trans K4).trans K5).trans K6).trans K7).trans K8;have k0':=(K6.trans (K7.trans K8)).at k0;have k1':=(K7.trans K8).at k1;have lt0:c0 < S7.length:=CV ((K6.trans K7).at k0);have lt1:c1 < S7.length:=CV (K7.at k1);have lt3:0 < S7.length:=CV ((((((K2.trans K3).trans K4).trans K5).trans K6).trans K7).at b1);have hlen:=hcl.len
 have hne:1<=cs.length:=by
  cases cs with
  | nil=>
   have:=hcl.pm.length_eq;rw [G0] at this;simp at this;omega
  | cons _ _=>simp
 have rs1:Rws m ((GN 0 m).map λx=>[x]):=λr hr=>by
  obtain ⟨x,hx,rfl⟩:=A5.mp hr;exact ⟨Bz _ _,λy hy=>by rw [AS.mp hy];have:=PK.mp hx;omega⟩
 obtain ⟨z9,S9,s9,o9,rs,a9,l9,r9⟩:=ZX W (S0:=S7++[Ob.lst [.ref c0,.ref c1]]) (n:=m) (a3:=0) (a7:=S6.length) (a8:=S7.length) (c0:=c0) (c1:=c1) (ps:=pool) (d0:=.fro (ns.map D.int)) (d1:=.int h) (d2:=.int m) (d4:=.ref tt) (d5:=.ref q) (d6:=.ref n) hm60 (Kb.at b1) p2 (K8.at t7) (CF _ _) (by omega) (by omega) (by omega) (by omega) k0' k1' hcl.rw_ rs1 ⟨hne,by omega⟩ ⟨by rw [AJ,G0];omega,by rw [AJ,G0];omega⟩
 have old:∀j ob,S7[j]?=some ob->S9[j]?=some ob:=λj ob hj=>o9.2 j ob (Ad (CV hj)) (K8.at hj)
 have w7:=((K4.trans K5).trans (K6.trans K7)).at w3;have w9:=old _ _ w7;have n7:=n4.keeps ((K5.trans K6).trans K7)
 have n9:Jd S9 n m us:=by
  obtain ⟨rs,h1,h2,h3⟩:=n7;exact ⟨rs,old _ _ h1,h2,λx hx=>by obtain ⟨r,g1,g2⟩:=h3 x hx;exact ⟨r,g1,old _ _ g2⟩⟩
 obtain ⟨x,y,z,S10,s10,K10⟩:=bh W (S0:=S9) (m:=m) (a8:=S7.length) (q:=q) (n:=n) (us:=us) (d0:=.fro (ns.map D.int)) (d1:=.int h) (d2:=.int m) (d3:=.ref 0) (d4:=.ref tt) (d7:=.ref S6.length) (z9:=z9) u2 hm60 w9 n9 a9 λr hr=>(r9 r hr).2
 have t10:=K10.at (old _ _ t7);have k10:=K10.at (old _ _ ((K6.trans K7).at k0));obtain ⟨b,e11,hb⟩:=MX B (cs:=cs) hcl.rw_ (by omega);have hbt:b=true:=hb.mpr (hcl.good B);subst hbt;obtain ⟨d,S11,c11,K11,r11⟩:=MB W (m,Hw us) cs true e11 S10 [.ref q,.ref c0] ⟨⟨q,rfl,K10.at w9⟩,⟨c0,rfl,k10⟩,trivial⟩;have r11:d=.bl true:=r11;subst r11;refine ⟨S11,Gg (n:=13) (mb:=ba W) ?_⟩;unfold ba;refine (BU s1).trans ((BU s2).trans ((BU s3).trans ((BU s4).trans ((BU s5).trans ((BU s6).trans ((BU s7).trans ((BU s8).trans ((BU s9).trans ((BU s10).trans (KG ?_))))))))));exact (EA (ds:=[.ref q,.ref c0]) (S1:=S10) (Bv rfl (Bv (Be (x:=.ref S6.length) (y:=.int 0) (S1:=S10) (S2:=S10) rfl rfl (SR t10 (by decide) rfl)) rfl)) rfl).trans c11
end M
def PySem.W.Fast.tw16595666377036834494:Nat:=0
def PySem.W.Fast.tw15289903877388244191:Nat:=0
def PySem.W.Fast.tw13381933417557810938:Nat:=0
def PySem.W.Fast.tw11085989114918105339:Nat:=0
def PySem.W.Fast.tw9959835568585219365:Nat:=0
def PySem.W.Fast.tw11550715703837741304:Nat:=0
def PySem.W.Fast.tw6774085428747623548:Nat:=0
def PySem.W.Fast.tw17959515481586350476:Nat:=0
def PySem.W.Fast.tw10513816778867723906:Nat:=0
def PySem.W.Fast.tw15992424122474919947:Nat:=0
def PySem.W.Fast.tw15505417769289372453:Nat:=0
def PySem.W.Fast.tw12794241061958162202:Nat:=0
def PySem.W.Fast.tw9402842028495147621:Nat:=0
def PySem.W.Fast.tw9375456671311697495:Nat:=0
def PySem.W.Fast.tw12836559336060890987:Nat:=0
def PySem.W.Fast.tw1843589334773349008:Nat:=0
def PySem.W.Fast.tw16503692473464618660:Nat:=0
def PySem.W.Fast.tw11658216968759440915:Nat:=0
def PySem.W.Fast.tw9652636233381205208:Nat:=0
def PySem.W.Fast.tw13258365151893921006:Nat:=0
def PySem.W.Fast.tw3949297206208216203:Nat:=0
def PySem.W.Fast.tw15910390087413013617:Nat:=0
def PySem.W.Fast.tw5137104814785688461:Nat:=0
def PySem.W.Fast.tw13429029959900967502:Nat:=0
def PySem.W.Fast.tw9242186502420186858:Nat:=0
def PySem.W.Fast.tw14969167769202063631:Nat:=0
def PySem.W.Fast.tw7956511081082980136:Nat:=0
def PySem.W.Fast.tw8646614229067898431:Nat:=0
def PySem.W.Fast.tw3069846114651312528:Nat:=0
def PySem.W.Fast.tw2610648422819850840:Nat:=0
def PySem.W.Fast.tw1634086398400786032:Nat:=0
def PySem.W.Fast.tw2537912446231923480:Nat:=0
namespace M
open PySem PySem.Spec PyProof.Rows L2 PySem.W
theorem ja {l:OpenLaw} {w:A2} {K:Frag} {h:BP} {mg:Str->Option AB} {fa:AI} (X:K.In h) (G:h.Ns Aj mg) (hfa:mg "law" = some (.ref fa))
  {f1 f2 f3 f4 f5 f6 f7 f8 f9 f10 f11 f12 f13 f14 f15 f16 f17 f18 f19 cBadPlaces cBadTie cNoPlace cWeb:AI} {tk_MOST_PLACES:Tok}
  {od1 an1 od2 an2 od3 an3 od4 an4 od5 an5 od6 an6 od7 an7 od8 an8 od9 an9 od10 an10 od11 an11 od12 an12 od13 an13 od14 an14 od15 an15 od16 an16 od17 an17 od18 an18 od19 an19:Option AI} {sl1 sl2 sl3 sl4 sl5 sl6 sl7 sl8 sl9 sl10 sl11 sl12 sl13 sl14 sl15 sl16 sl17 sl18 sl19:Array (Option AB)} {oc1 kV1 dc1 pm1 cd1 ct1 oc2 kV2 dc2 pm2 cd2 ct2 oc3 kV3 dc3 pm3 cd3 ct3 oc4 kV4 dc4 pm4 cd4 ct4 oc5 kV5 dc5 pm5 cd5 ct5 oc6 kV6 dc6 pm6 cd6 ct6 oc7 kV7 dc7 pm7 cd7 ct7 oc8 kV8 dc8 pm8 cd8 ct8 oc9 kV9 dc9 pm9 cd9 ct9 oc10 kV10 dc10 pm10 cd10 ct10 oc11 kV11 dc11 pm11 cd11 ct11 oc12 kV12 dc12 pm12 cd12 ct12 oc13 kV13 dc13 pm13 cd13 ct13 oc14 kV14 dc14 pm14 cd14 ct14 oc15 kV15 dc15 pm15 cd15 ct15 oc16 kV16 dc16 pm16 cd16 ct16 oc17 kV17 dc17 pm17 cd17 ct17 oc18 kV18 dc18 pm18 cd18 ct18 oc19 kV19 dc19 pm19 cd19 ct19:AB}
  (a_Web:nsIn K Aj "Web" = some (some (.ref cWeb)))
  (a_BadPlaces:nsIn K Aj "BadPlaces" = some (some (.ref cBadPlaces)))
  (a_BadTie:nsIn K Aj "BadTie" = some (some (.ref cBadTie)))
  (a_NoPlace:nsIn K Aj "NoPlace" = some (some (.ref cNoPlace)))
  (a1:nsIn K Aj "checked_ties" = some (some (.ref f1)))
  (l1:K.lookup f1=some ⟨oc1,od1,.func (fnOf "checked_ties" "checked_ties" (CW Ds) (CH Ds) (Au Ds) .none kV1 dc1 pm1 an1 cd1 ct1),sl1⟩)
  (k1c:codeIn K cd1 "checked_ties" = true)
  (k1:keepIn K (.ref f1)=true)
  (a2:nsIn K Aj "near_sets_of" = some (some (.ref f2)))
  (l2:K.lookup f2=some ⟨oc2,od2,.func (fnOf "near_sets_of" "near_sets_of" (CW Dr) (CH Dr) (Au Dr) .none kV2 dc2 pm2 an2 cd2 ct2),sl2⟩)
  (k2c:codeIn K cd2 "near_sets_of" = true)
  (k2:keepIn K (.ref f2)=true)
  (a3:findIn K (.ref cWeb) "__init__" = some (some (.ref f3)))
  (i3:isFn K (.ref f3)=true)
  (l3:K.lookup f3=some ⟨oc3,od3,.func (fnOf "__init__" "Web.__init__" (CW Gf) (CH Gf) (Au Gf) .none kV3 dc3 pm3 an3 cd3 ct3),sl3⟩)
  (k3c:codeIn K cd3 "Web.__init__" = true)
  (k3:keepIn K (.ref f3)=true)
  (a4:nsIn K Aj "refuse_no_place" = some (some (.ref f4)))
  (l4:K.lookup f4=some ⟨oc4,od4,.func (fnOf "refuse_no_place" "refuse_no_place" (CW Cm) (CH Cm) (Au Cm) .none kV4 dc4 pm4 an4 cd4 ct4),sl4⟩)
  (k4c:codeIn K cd4 "refuse_no_place" = true)
  (k4:keepIn K (.ref f4)=true)
  (a5:nsIn K Aj "near" = some (some (.ref f5)))
  (l5:K.lookup f5=some ⟨oc5,od5,.func (fnOf "near" "near" (CW M5) (CH M5) (Au M5) .none kV5 dc5 pm5 an5 cd5 ct5),sl5⟩)
  (k5c:codeIn K cd5 "near" = true)
  (k5:keepIn K (.ref f5)=true)
  (a6:nsIn K Aj "first_pair" = some (some (.ref f6)))
  (l6:K.lookup f6=some ⟨oc6,od6,.func (fnOf "first_pair" "first_pair" (CW Eu) (CH Eu) (Au Eu) .none kV6 dc6 pm6 an6 cd6 ct6),sl6⟩)
  (k6c:codeIn K cd6 "first_pair" = true)
  (k6:keepIn K (.ref f6)=true)
  (a7:nsIn K Aj "first_far" = some (some (.ref f7)))
  (l7:K.lookup f7=some ⟨oc7,od7,.func (fnOf "first_far" "first_far" (CW FR) (CH FR) (Au FR) .none kV7 dc7 pm7 an7 cd7 ct7),sl7⟩)
  (k7c:codeIn K cd7 "first_far" = true)
  (k7:keepIn K (.ref f7)=true)
  (a8:nsIn K Aj "is_club" = some (some (.ref f8)))
  (l8:K.lookup f8=some ⟨oc8,od8,.func (fnOf "is_club" "is_club" (CW HX) (CH HX) (Au HX) .none kV8 dc8 pm8 an8 cd8 ct8),sl8⟩)
  (k8c:codeIn K cd8 "is_club" = true)
  (k8:keepIn K (.ref f8)=true)
  (a9:nsIn K Aj "is_parting" = some (some (.ref f9)))
  (l9:K.lookup f9=some ⟨oc9,od9,.func (fnOf "is_parting" "is_parting" (CW Et) (CH Et) (Au Et) .none kV9 dc9 pm9 an9 cd9 ct9),sl9⟩)
  (k9c:codeIn K cd9 "is_parting" = true)
  (k9:keepIn K (.ref f9)=true)
  (a10:nsIn K Aj "_law_cell_at" = some (some (.ref f10)))
  (l10:K.lookup f10=some ⟨oc10,od10,.func (fnOf "_law_cell_at" "_law_cell_at" (CW Du) (CH Du) (Au Du) .none kV10 dc10 pm10 an10 cd10 ct10),sl10⟩)
  (k10c:codeIn K cd10 "_law_cell_at" = true)
  (k10:keepIn K (.ref f10)=true)
  (a11:nsIn K Aj "_law_mixed" = some (some (.ref f11)))
  (l11:K.lookup f11=some ⟨oc11,od11,.func (fnOf "_law_mixed" "_law_mixed" (CW Ew) (CH Ew) (Au Ew) .none kV11 dc11 pm11 an11 cd11 ct11),sl11⟩)
  (k11c:codeIn K cd11 "_law_mixed" = true)
  (k11:keepIn K (.ref f11)=true)
  (a12:nsIn K Aj "_law_pool" = some (some (.ref f12)))
  (l12:K.lookup f12=some ⟨oc12,od12,.func (fnOf "_law_pool" "_law_pool" (CW FT) (CH FT) (Au FT) .none kV12 dc12 pm12 an12 cd12 ct12),sl12⟩)
  (k12c:codeIn K cd12 "_law_pool" = true)
  (k12:keepIn K (.ref f12)=true)
  (a13:nsIn K Aj "_law_ties" = some (some (.ref f13)))
  (l13:K.lookup f13=some ⟨oc13,od13,.func (fnOf "_law_ties" "_law_ties" (CW FS) (CH FS) (Au FS) .none kV13 dc13 pm13 an13 cd13 ct13),sl13⟩)
  (k13c:codeIn K cd13 "_law_ties" = true)
  (k13:keepIn K (.ref f13)=true)
  (a14:nsIn K Aj "_law_turned" = some (some (.ref f14)))
  (l14:K.lookup f14=some ⟨oc14,od14,.func (fnOf "_law_turned" "_law_turned" (CW EE) (CH EE) (Au EE) .none kV14 dc14 pm14 an14 cd14 ct14),sl14⟩)
  (k14c:codeIn K cd14 "_law_turned" = true)
  (k14:keepIn K (.ref f14)=true)
  (a15:nsIn K Aj "_law_nears" = some (some (.ref f15)))
  (l15:K.lookup f15=some ⟨oc15,od15,.func (fnOf "_law_nears" "_law_nears" (CW Ev) (CH Ev) (Au Ev) .none kV15 dc15 pm15 an15 cd15 ct15),sl15⟩)
  (k15c:codeIn K cd15 "_law_nears" = true)
  (k15:keepIn K (.ref f15)=true)
  (a16:nsIn K Aj "_law_clubs" = some (some (.ref f16)))
  (l16:K.lookup f16=some ⟨oc16,od16,.func (fnOf "_law_clubs" "_law_clubs" (CW Ex) (CH Ex) (Au Ex) .none kV16 dc16 pm16 an16 cd16 ct16),sl16⟩)
  (k16c:codeIn K cd16 "_law_clubs" = true)
  (k16:keepIn K (.ref f16)=true)
  (a17:nsIn K Aj "_law_parts_well" = some (some (.ref f17)))
  (l17:K.lookup f17=some ⟨oc17,od17,.func (fnOf "_law_parts_well" "_law_parts_well" (CW Cn) (CH Cn) (Au Cn) .none kV17 dc17 pm17 an17 cd17 ct17),sl17⟩)
  (k17c:codeIn K cd17 "_law_parts_well" = true)
  (k17:keepIn K (.ref f17)=true)
  (a18:nsIn K Aj "_law_changed" = some (some (.ref f18)))
  (l18:K.lookup f18=some ⟨oc18,od18,.func (fnOf "_law_changed" "_law_changed" (CW Dt) (CH Dt) (Au Dt) .none kV18 dc18 pm18 an18 cd18 ct18),sl18⟩)
  (k18c:codeIn K cd18 "_law_changed" = true)
  (k18:keepIn K (.ref f18)=true)
  (a19:nsIn K Aj "law" = some (some (.ref f19)))
  (l19:K.lookup f19=some ⟨oc19,od19,.func (fnOf "law" "law" (CW Qy) (CH Qy) (Au Qy) .none kV19 dc19 pm19 an19 cd19 ct19),sl19⟩)
  (k19c:codeIn K cd19 "law" = true)
  (k19:keepIn K (.ref f19)=true)
  (pg_Web:plainGet K cWeb Uc=true)
  (hd_Web:hasDictIn K cWeb=true)
  (po_Web:plainOver K cWeb=true)
  (sa_Web:findIn K (.ref cWeb) "__setattr__" = some (some (.builtin "object.__setattr__")))
  (mk_Web:makesIn K cWeb=true)
  (kc_Web:keepIn K (.ref cWeb)=true)
  (n_Web_places:findIn K (.ref cWeb) "places" = some none)
  (n_Web_ties:findIn K (.ref cWeb) "ties" = some none)
  (n_Web_near_sets:findIn K (.ref cWeb) "near_sets" = some none)
  (sp:specialIn K (.builtin "object.__class__") "__get__" = some (some (.builtin "getset_descriptor.__get__")))
  (tk:takesIn K (.builtin "object.__class__")=some true)
  (xnd:([cBadPlaces,cBadTie,cNoPlace]:List AI).Nodup)
  (xo_BadPlaces:mroIn K cBadPlaces (.type "object")=some true)
  (xb_BadPlaces:mroIn K cBadPlaces (.type "BaseException")=some true)
  (xo_BadTie:mroIn K cBadTie (.type "object")=some true)
  (xb_BadTie:mroIn K cBadTie (.type "BaseException")=some true)
  (xo_NoPlace:mroIn K cNoPlace (.type "object")=some true)
  (xb_NoPlace:mroIn K cNoPlace (.type "BaseException")=some true)
  (xe_BadPlaces:excIn K cBadPlaces RO "ValueError.__new__" = true)
  (xg_BadPlaces:findIn K (.ref cBadPlaces) "__getattribute__" = some (some (.builtin "BaseException.__getattribute__")))
  (xn_BadPlaces:findIn K (.ref cBadPlaces) "__getattr__" = some none)
  (xa_BadPlaces:findIn K (.ref cBadPlaces) "__class__" = some (some (.builtin "object.__class__")))
  (xe_BadTie:excIn K cBadTie RO "ValueError.__new__" = true)
  (xg_BadTie:findIn K (.ref cBadTie) "__getattribute__" = some (some (.builtin "BaseException.__getattribute__")))
  (xn_BadTie:findIn K (.ref cBadTie) "__getattr__" = some none)
  (xa_BadTie:findIn K (.ref cBadTie) "__class__" = some (some (.builtin "object.__class__")))
  (xe_NoPlace:excIn K cNoPlace RO "ValueError.__new__" = true)
  (xg_NoPlace:findIn K (.ref cNoPlace) "__getattribute__" = some (some (.builtin "BaseException.__getattribute__")))
  (xn_NoPlace:findIn K (.ref cNoPlace) "__getattr__" = some none)
  (xa_NoPlace:findIn K (.ref cNoPlace) "__class__" = some (some (.builtin "object.__class__")))
  (z_all:nsIn K Aj "all" = some none)
  (z_bool:nsIn K Aj "bool" = some none)
  (z_enumerate:nsIn K Aj "enumerate" = some none)
  (z_isinstance:nsIn K Aj "isinstance" = some none)
  (z_len:nsIn K Aj "len" = some none)
  (z_list:nsIn K Aj "list" = some none)
  (z_max:nsIn K Aj "max" = some none)
  (z_min:nsIn K Aj "min" = some none)
  (z_range:nsIn K Aj "range" = some none)
  (z_set:nsIn K Aj "set" = some none)
  (z_sorted:nsIn K Aj "sorted" = some none)
  (z_sum:nsIn K Aj "sum" = some none)
  (z_tuple:nsIn K Aj "tuple" = some none)
  (g_MOST_PLACES:nsIn K Aj "MOST_PLACES" = some (some (.int 60 tk_MOST_PLACES)))
  : ∃(W:Wd) (T:Txt K mg W),fa=T.d_law.f/\W.excs.Nodup/\∀(s:AE) (v:AB),Uj s T.d_law.fd ⟨[v],[]⟩ [("script",v)]:=by
 have F1:=D8 (st:=Ds) l1 k1c k1
 have b1:=F1.binds (ps:=["places", "ties"]) λ_ _ _ _ _ _ us hl=>by obtain ⟨a,b,rfl⟩:=Lf hl;rfl
 have F2:=D8 (st:=Dr) l2 k2c k2
 have b2:=F2.binds (ps:=["places", "ties"]) λ_ _ _ _ _ _ us hl=>by obtain ⟨a,b,rfl⟩:=Lf hl;rfl
 have F3:=D8 (st:=Gf) l3 k3c k3
 have b3:=F3.binds (ps:=["self", "places", "ties"]) λ_ _ _ _ _ _ us hl=>by obtain ⟨a,b,c,rfl⟩:=i5 hl;rfl
 have F4:=D8 (st:=Cm) l4 k4c k4
 have b4:=F4.binds (ps:=["web", "place"]) λ_ _ _ _ _ _ us hl=>by obtain ⟨a,b,rfl⟩:=Lf hl;rfl
 have F5:=D8 (st:=M5) l5 k5c k5
 have b5:=F5.binds (ps:=["web", "place"]) λ_ _ _ _ _ _ us hl=>by obtain ⟨a,b,rfl⟩:=Lf hl;rfl
 have F6:=D8 (st:=Eu) l6 k6c k6
 have b6:=F6.binds (ps:=["web", "some", "wanted"]) λ_ _ _ _ _ _ us hl=>by obtain ⟨a,b,c,rfl⟩:=i5 hl;rfl
 have F7:=D8 (st:=FR) l7 k7c k7
 have b7:=F7.binds (ps:=["web", "some"]) λ_ _ _ _ _ _ us hl=>by obtain ⟨a,b,rfl⟩:=Lf hl;rfl
 have F8:=D8 (st:=HX) l8 k8c k8
 have b8:=F8.binds (ps:=["web", "some"]) λ_ _ _ _ _ _ us hl=>by obtain ⟨a,b,rfl⟩:=Lf hl;rfl
 have F9:=D8 (st:=Et) l9 k9c k9
 have b9:=F9.binds (ps:=["web", "clubs"]) λ_ _ _ _ _ _ us hl=>by obtain ⟨a,b,rfl⟩:=Lf hl;rfl
 have F10:=D8 (st:=Du) l10 k10c k10
 have b10:=F10.binds (ps:=["script", "k"]) λ_ _ _ _ _ _ us hl=>by obtain ⟨a,b,rfl⟩:=Lf hl;rfl
 have F11:=D8 (st:=Ew) l11 k11c k11
 have b11:=F11.binds (ps:=["cell", "salt"]) λ_ _ _ _ _ _ us hl=>by obtain ⟨a,b,rfl⟩:=Lf hl;rfl
 have F12:=D8 (st:=FT) l12 k12c k12
 have b12:=F12.binds (ps:=["script", "start"]) λ_ _ _ _ _ _ us hl=>by obtain ⟨a,b,rfl⟩:=Lf hl;rfl
 have F13:=D8 (st:=FS) l13 k13c k13
 have b13:=F13.binds (ps:=["pool", "many", "thick"]) λ_ _ _ _ _ _ us hl=>by obtain ⟨a,b,c,rfl⟩:=i5 hl;rfl
 have F14:=D8 (st:=EE) l14 k14c k14
 have b14:=F14.binds (ps:=["ties", "cell"]) λ_ _ _ _ _ _ us hl=>by obtain ⟨a,b,rfl⟩:=Lf hl;rfl
 have F15:=D8 (st:=Ev) l15 k15c k15
 have b15:=F15.binds (ps:=["ties", "many"]) λ_ _ _ _ _ _ us hl=>by obtain ⟨a,b,rfl⟩:=Lf hl;rfl
 have F16:=D8 (st:=Ex) l16 k16c k16
 have b16:=F16.binds (ps:=["nears"]) λ_ _ _ _ _ _ us hl=>by obtain ⟨a,rfl⟩:=i6 hl;rfl
 have F17:=D8 (st:=Cn) l17 k17c k17
 have b17:=F17.binds (ps:=["nears", "clubs"]) λ_ _ _ _ _ _ us hl=>by obtain ⟨a,b,rfl⟩:=Lf hl;rfl
 have F18:=D8 (st:=Dt) l18 k18c k18
 have b18:=F18.binds (ps:=["clubs", "cell"]) λ_ _ _ _ _ _ us hl=>by obtain ⟨a,b,rfl⟩:=Lf hl;rfl
 have F19:=D8 (st:=Qy) l19 k19c k19
 have b19:=F19.binds (ps:=["script"]) λ_ _ _ _ _ _ us hl=>by obtain ⟨a,rfl⟩:=i6 hl;rfl
 let W:Wd:=⟨cBadPlaces,cBadTie,cNoPlace,cWeb⟩
 have xc_BadPlaces:(clsIn K cBadPlaces).isSome=true:=Lj xo_BadPlaces;have xc_BadTie:(clsIn K cBadTie).isSome=true:=Lj xo_BadTie;have xc_NoPlace:(clsIn K cNoPlace).isSome=true:=Lj xo_NoPlace;have X_BadPlaces:XIs K cBadPlaces:=⟨xc_BadPlaces,xg_BadPlaces,xn_BadPlaces,xa_BadPlaces,sp,tk,xo_BadPlaces,xb_BadPlaces⟩;have X_BadTie:XIs K cBadTie:=⟨xc_BadTie,xg_BadTie,xn_BadTie,xa_BadTie,sp,tk,xo_BadTie,xb_BadTie⟩;have X_NoPlace:XIs K cNoPlace:=⟨xc_NoPlace,xg_NoPlace,xn_NoPlace,xa_NoPlace,sp,tk,xo_NoPlace,xb_NoPlace⟩
 let T:Txt K mg W:={
  d_checked_ties:=⟨f1,_,F1,b1,Fc X G a1⟩
  d_near_sets_of:=⟨f2,_,F2,b2,Fc X G a2⟩
  d_Web_init:=⟨f3,_,F3,b3⟩
  d_refuse_no_place:=⟨f4,_,F4,b4,Fc X G a4⟩
  d_near:=⟨f5,_,F5,b5,Fc X G a5⟩
  d_first_pair:=⟨f6,_,F6,b6,Fc X G a6⟩
  d_first_far:=⟨f7,_,F7,b7,Fc X G a7⟩
  d_is_club:=⟨f8,_,F8,b8,Fc X G a8⟩
  d_is_parting:=⟨f9,_,F9,b9,Fc X G a9⟩
  d__law_cell_at:=⟨f10,_,F10,b10,Fc X G a10⟩
  d__law_mixed:=⟨f11,_,F11,b11,Fc X G a11⟩
  d__law_pool:=⟨f12,_,F12,b12,Fc X G a12⟩
  d__law_ties:=⟨f13,_,F13,b13,Fc X G a13⟩
  d__law_turned:=⟨f14,_,F14,b14,Fc X G a14⟩
  d__law_nears:=⟨f15,_,F15,b15,Fc X G a15⟩
  d__law_clubs:=⟨f16,_,F16,b16,Fc X G a16⟩
  d__law_parts_well:=⟨f17,_,F17,b17,Fc X G a17⟩
  d__law_changed:=⟨f18,_,F18,b18,Fc X G a18⟩
  d_law:=⟨f19,_,F19,b19,Fc X G a19⟩
  c_Web:=⟨⟨pg_Web,hd_Web,po_Web,sa_Web⟩,⟨mk_Web,a3,i3,kc_Web⟩,Fc X G a_Web⟩
  n_Web_places:=n_Web_places
  n_Web_ties:=n_Web_ties
  n_Web_near_sets:=n_Web_near_sets
  x_BadPlaces:=⟨⟨xe_BadPlaces⟩,Fc X G a_BadPlaces⟩
  x_BadTie:=⟨⟨xe_BadTie⟩,Fc X G a_BadTie⟩
  x_NoPlace:=⟨⟨xe_NoPlace⟩,Fc X G a_NoPlace⟩
  nd:=xnd
  b_all:=Dd X G z_all
  b_bool:=Dd X G z_bool
  b_enumerate:=Dd X G z_enumerate
  b_isinstance:=Dd X G z_isinstance
  b_len:=Dd X G z_len
  b_list:=Dd X G z_list
  b_max:=Dd X G z_max
  b_min:=Dd X G z_min
  b_range:=Dd X G z_range
  b_set:=Dd X G z_set
  b_sorted:=Dd X G z_sorted
  b_sum:=Dd X G z_sum
  b_tuple:=Dd X G z_tuple
  g_MOST_PLACES:=⟨tk_MOST_PLACES,Fc X G g_MOST_PLACES⟩ }
 refine ⟨W,T,?_,xnd,λs v=>.of_eq rfl⟩;have e:=hfa.symm.trans (Fc X G a19);cases e;rfl
theorem walk {l:OpenLaw} {q:Al} {loose:List Str} {XP:(Str->Option AB)->BP->Prop} {YP:A2->BP->Prop} {d:DefRec} {K:Params->Frag} (hn:l.most=some 63) (hdf:d.params.defaults=[])
  (hY:∀(w:A2) (h:BP),YP w h->(K w.params).In h)
  (F:∀(w:A2) (mg:Str->Option AB) (fa:AI) (h:BP),(K w.params).In h->h.Ns Aj mg->mg d.name=some (.ref fa) ->
   ∃(W:Wd) (T:Txt (K w.params) mg W),fa=T.d_law.f/\W.excs.Nodup/\∀(s:AE) (v:AB),Uj s T.d_law.fd ⟨[v],[]⟩ [("script",v)])
  (good:∀(W:Wd),W.excs.Nodup->∀ns:List Int,ns.length<=63->∃S',bO W [.fro (ns.map D.int)] []=.ok (.bl true) S') :
  WalkO q loose XP YP l.row.toRowW d [] (λf vs=>XJ f vs):=
 L2.cW (n:=63) (k:=7) (x:="script") (CX:=λw=>CXG l.prog w) (sp:=λw=>Ze (K w.params)) hn (by decide) hdf ⟨rfl,by decide,by decide⟩ hY
  (λw mg fa h KX G hmg=>by
   obtain ⟨W,T,e,nd,hb⟩:=F w mg fa h KX G hmg;subst e
   exact ⟨T.d_law.fd,hb,λbase _ _=>aZ (iu T) (good W nd)⟩)
  (λ_ _ a ns hl hO hS=>⟨a,ns,rfl,jQ hO hS,hl,λ_=>rfl⟩) (λw H s e s' z=>jX z)
end M
open PySem PySem.W PyProof.Rows
set_option maxRecDepth 100000 in
set_option maxHeartbeats 0 in
theorem PySem.Challenge.cw_guardround_k07_what_is_a_parting_holds : PySem.Challenge.rw_guardround_k07_what_is_a_parting.Holds := by
 w_on;o_law;k_head;(case hw=>w_witness2)
 k_fill
 refine M.walk (l:=GV) rfl rfl (λw h Y=>by first | exact kIn_of Y | exact km_in_of Y) ?F M.good
 case F=>
  intro w mg fa h KX G hmg;refine' M.ja (l:=GV) (w:=w) KX G hmg ?a_Web ?a_BadPlaces ?a_BadTie ?a_NoPlace ?a1 ?l1 ?k1c ?k1 ?a2 ?l2 ?k2c ?k2 ?a3 ?i3 ?l3 ?k3c ?k3 ?a4 ?l4 ?k4c ?k4 ?a5 ?l5 ?k5c ?k5 ?a6 ?l6 ?k6c ?k6 ?a7 ?l7 ?k7c ?k7 ?a8 ?l8 ?k8c ?k8 ?a9 ?l9 ?k9c ?k9 ?a10 ?l10 ?k10c ?k10 ?a11 ?l11 ?k11c ?k11 ?a12 ?l12 ?k12c ?k12 ?a13 ?l13 ?k13c ?k13 ?a14 ?l14 ?k14c ?k14 ?a15 ?l15 ?k15c ?k15 ?a16 ?l16 ?k16c ?k16 ?a17 ?l17 ?k17c ?k17 ?a18 ?l18 ?k18c ?k18 ?a19 ?l19 ?k19c ?k19 ?pg_Web ?hd_Web ?po_Web ?sa_Web ?mk_Web ?kc_Web ?n_Web_places ?n_Web_ties ?n_Web_near_sets ?sp ?tk ?xnd ?xo_BadPlaces ?xb_BadPlaces ?xo_BadTie ?xb_BadTie ?xo_NoPlace ?xb_NoPlace ?xe_BadPlaces ?xg_BadPlaces ?xn_BadPlaces ?xa_BadPlaces ?xe_BadTie ?xg_BadTie ?xn_BadTie ?xa_BadTie ?xe_NoPlace ?xg_NoPlace ?xn_NoPlace ?xa_NoPlace ?z_all ?z_bool ?z_enumerate ?z_isinstance ?z_len ?z_list ?z_max ?z_min ?z_range ?z_set ?z_sorted ?z_sum ?z_tuple ?g_MOST_PLACES
  (case a_Web | a_BadPlaces | a_BadTie | a_NoPlace | a1 | l1 | k1c | k1 | a2 | l2 | k2c | k2 | a3 | i3 | l3 | k3c | k3 | a4 | l4 | k4c | k4 | a5 | l5 | k5c | k5 | a6 | l6 | k6c | k6 | a7 | l7 | k7c | k7 | a8 | l8 | k8c | k8 | a9 | l9 | k9c | k9 | a10 | l10 | k10c | k10 | a11 | l11 | k11c | k11 | a12 | l12 | k12c | k12 | a13 | l13 | k13c | k13 | a14 | l14 | k14c | k14 | a15 | l15 | k15c | k15 | a16 | l16 | k16c | k16 | a17 | l17 | k17c | k17 | a18 | l18 | k18c | k18 | a19 | l19 | k19c | k19 | pg_Web | hd_Web | po_Web | sa_Web | mk_Web | kc_Web | n_Web_places | n_Web_ties | n_Web_near_sets | sp | tk=>k_is)
  (case xnd=>decide)
  (case xo_BadPlaces | xb_BadPlaces | xo_BadTie | xb_BadTie | xo_NoPlace | xb_NoPlace=>k_is)
  (case xe_BadPlaces=>k_exc)
  (case xg_BadPlaces | xn_BadPlaces | xa_BadPlaces=>k_is)
  (case xe_BadTie=>k_exc)
  (case xg_BadTie | xn_BadTie | xa_BadTie=>k_is)
  (case xe_NoPlace=>k_exc)
  (case xg_NoPlace | xn_NoPlace | xa_NoPlace | z_all | z_bool | z_enumerate | z_isinstance | z_len | z_list | z_max | z_min | z_range | z_set | z_sorted | z_sum | z_tuple | g_MOST_PLACES=>k_is)
#print axioms PySem.Challenge.cw_guardround_k07_what_is_a_parting_holds
