import PyProof.Rows.All
import Wide.All
import OpenK.AllK
import Wide.FinOn
import Lean
import PyProof.EqAt
import PyProof.EqKinds
import PyProof.TupleCall
import PyProof.ExcBaseAll.ValueError
import PyProof.NsDelKeeps
import PyProof.NeKinds
import PyProof.Rows.SortShell
import PyProof.Rows.FStr
import PyProof.FString
import PyProof.ExcAttrAll.ValueError
import PyProof.ExcArgsOwn
import PyProof.Rows.SortRuns
import PyProof.TupleIter
import PyProof.Dict
import KE.KDictSum
import PyProof.Rows.SetFrom
import PyProof.SetRoads
import PyProof.Rows.Range3
import PyProof.WalksMore
import PyProof.Rows.SortRev
import PyProof.Rows.RuleB_bool
import PyProof.TupleOfSeq
import PyProof.EnumMake
import PyProof.SliceList
import PyProof.MinMaxWalk
import PyProof.Rows.EnumRows
import PyProof.WalkInts
import PyProof.Rows.SeqCalls
import KE.KRevIter
import PyProof.CollectIter
import PyProof.TupleOfGen
import PyProof.Rows.FactsT2
import PyProof.ListRange
import PyProof.Rows.CallKwBuiltin
import PyProof.ZipIter
import PyProof.Rows.ZipGen
import PyProof.Rows.RuleM_int
import PyProof.Rows.AssignMoreSeq
import KE.KIntText
import PyProof.Rows.StrKeys3
import PyProof.StrBlock
import PyProof.StrCalls2
import PyProof.StrWalks
import PyProof.Rows.RuleN_abs
import PySem.Challenge.RW_guardround_k46_colonies_looked_at
set_option Elab.async false
set_option linter.all false
set_option compiler.extract_closed false
set_option bootstrap.genMatcherCode false
set_option genSizeOf false
set_option maxRecDepth 100000
set_option maxHeartbeats 8000000
abbrev ZLi:=List Int
abbrev ZPi:=Int×Int
def qX{c:Prop}{h:Decidable c}(g:c){j:Sort u}{t e:j}:ite c t e=t:=if_pos g
def qY{c:Prop}{h:Decidable c}(g:Not c){j:Sort u}{t e:j}:ite c t e=e:=if_neg g
def wX{p:Prop}[i:Decidable p](h:p):decide p=true:=decide_eq_true h
def wY{p:Prop}[i:Decidable p](h:Not p):decide p=false:=decide_eq_false h
def zX{a b:Prop}(h:a)(n:Not a):b:=absurd h n
noncomputable section
open Array renaming append_assoc->bg,ext'->uQ,getD->Ov,getD_eq_getD_getElem?->FW,getElem?_eq_getElem->ES,getElem?_eq_none->Hd,getElem?_eq_some_iff->Ft,getElem?_setIfInBounds_ne->Qc,getElem?_toList->IG,length_toList->BM,mem_extract_iff_getElem->RF,mem_of_getElem?->DO,mem_toList_iff->Bh,perm_iff_toList_perm->Fs,toList->pp,toList_append->BX,toList_map->LQ,toList_modify->Z0,toList_push->FV,toList_reverse->Fq,toList_setIfInBounds->Tl
open Array.Perm renaming refl->Pi
open Bool renaming and_eq_true->DU,and_false->UP,eq_iff_iff->Mo,false_and->oq,false_eq_true->BA,false_ne_true->AV,false_or->pf,not_eq_true->kM,not_eq_true'->fH,not_false->UO,not_true->Em,true_and->pe
open Classical renaming byContradiction->JT
open Eq renaming trans->FU
open False renaming elim->Eh
open ForInStep renaming yield->IT
open Iff renaming rfl->uK
open Int renaming emod_lt_of_pos->Bj,emod_nonneg->By,le_antisymm->Nb,le_refl->bd,lt_of_le_of_lt->KN,lt_of_lt_of_le->Pt,mul_one->wG,toNat_natCast->Ay,toNat_of_nonneg->Cf,zero_add->Yl
open List renaming Perm->Dk,all_cons->Wl,all_eq_true->DA,all_map->YN,any_cons->Ij,any_eq_false->fD,any_eq_true->EB,any_map->tf,any_toArray->MM,append_assoc->A7,append_nil->BI,drop_drop->UM,drop_eq_getElem_cons->Km,drop_eq_nil_of_le->Hh,drop_nil->pd,drop_sublist->QZ,drop_zero->UL,eq_nil_of_length_eq_zero->Iq,ext_getElem?->Hg,extract->QY,filterMap_cons->Ol,filterMap_map->eZ,filter_eq_nil_iff->Md,find?_cons->Bv,flatMap_append->bY,flatMap_cons->QX,flatten_cons->Fa,foldl->eY,foldl_append->fC,foldl_cons->ka,forIn_cons->Mm,forIn_nil->N9,getD_eq_getElem?_getD->Bz,getElem?_append_left->Ab,getElem?_append_right->BG,getElem?_drop->EG,getElem?_eq_getElem->Aj,getElem?_eq_none->CA,getElem?_eq_none_iff->DN,getElem?_eq_some_iff->AC,getElem?_map->Ao,getElem?_of_mem->CN,getElem?_range->CC,getElem?_replicate->Dj,getElem?_set->Kt,getElem?_set_ne->Az,getElem?_set_self->BL,getElem?_set_self'->Wv,getElem?_take_of_lt->El,getElem?_toArray->Yk,getElem?_zipIdx->Zw,getElem_inj->kJ,getElem_mem->kI,getElem_of_mem->bX,length->F7,length_append->AK,length_cons->A1,length_drop->Ca,length_eraseIdx_of_lt->UK,length_erase_of_mem->Wj,length_filter_le->Na,length_map->AG,length_nil->JL,length_pos_iff->DI,length_pos_of_mem->YM,length_replicate->NZ,length_set->Do,length_singleton->Ai,length_take->Be,lookup->Ip,lookup_cons->Bd,map->N8,mapM_toArray->fB,map_append->BD,map_congr_left->Cy,map_cons->A4,map_filterMap->eX,map_id->N7,map_id'->tZ,map_map->BV,map_nil->Mc,map_take->pZ,mem_append->Aq,mem_append_left->As,mem_append_right->Av,mem_cons->A2,mem_cons_of_mem->AY,mem_cons_self->Ax,mem_filter->BU,mem_filterMap->eW,mem_flatMap->Ic,mem_flatten->RE,mem_iff_getElem->F6,mem_map->Aw,mem_of_getElem?->Ac,mem_of_mem_drop->Zv,mem_of_mem_take->Zu,mem_range->UJ,mem_reverse->kH,mem_singleton->AN,mergeSort_perm->bW,nil_append->kZ,nodup_append->Bu,nodup_cons->Cq,nodup_nil->E0,not_mem_nil->BY,of_mem_zip->TW,pairwise_append->Bg,pairwise_cons->Ph,pairwise_iff_getElem->CO,pairwise_lt_range->Mb,pairwise_map->B2,pairwise_mergeSort->Wu,pairwise_reverse->NY,pairwise_singleton->Ez,perm_append_comm->Yj,range->Bs,range_succ->TV,range_succ_eq_map->YL,replicate->Ak,replicate_succ->Dy,singleton_append->EL,size_toArray->AT,take_add_one->Ks,take_append_drop->EK,take_length->GU,take_of_length_le->Br,take_sublist->Eg,zipIdx_cons->kG,zipIdx_nil->kY
open List.Pairwise renaming drop->uJ,filterMap->uI,imp_of_mem->uH,nil->GV,take->uG
open List.Perm renaming append_left->HY,append_right->Tj,of_eq->Zx,swap->bZ
open Nat renaming add_le_add_left->Oq,add_zero->Yh,le_of_eq->Yg,le_of_lt->Ml,le_of_not_lt->MR,le_of_succ_le->Qw,le_refl->AL,le_succ->F9,le_trans->Ap,lt_irrefl->Db,lt_of_le_of_lt->B8,lt_of_lt_of_le->Af,lt_of_succ_lt_succ->Yf,lt_succ_of_lt->Dm,lt_succ_self->Cc,lt_trans->Ye,lt_trichotomy->Ho,min_eq_left->JS,min_eq_right->Ri,min_le_right->kX,mul_le_mul_left->eV,ne_of_gt->FJ,ne_of_lt->Al,not_lt->G5,not_lt_zero->Dr,sub_self->uF,sub_zero->uE,zero_add->Mj,zero_le->Ce
open Nat.succ renaming inj->LJ
open Ne renaming symm->CK
open Option renaming bind_eq_some_iff->VP,bind_some->AD,getD_none->eS,getD_some->eR,isSome_iff_exists->UI,isSome_map->Pe,isSome_some->Zt,map->TU
open Option.some renaming inj->Cw
open Or renaming inl->QW,inr->Oj
open Prod renaming ext->MK,fst->UH,snd->oi
open PyProof.Rows renaming AllBare->Jo,IntsAre->wF,IsTup->kb,Keyed->BO,SortKind->Pn,SortSt->BH,Subscript_->pX,args_tuple_getitem->pW,arrOf->Aa,boot_all->wE,boot_any->wD,boot_int->wC,boot_isinstance->Oi,boot_list->RD,boot_max->Rh,boot_min->Rg,boot_range->pV,boot_set->wB,boot_sorted->wA,boot_tuple->vz,bubble->pU,callWith_builtin1->N6,callWith_type1->CT,elem'_eq->kS,entry_list_sort->vm,entry_tuple_getitem->oZ,envOfC->OK,failedOf->Jq,firstMet->Gy,firstMet_length_le->pT,firstMet_succ->vy,firstOfTuple'->bS,general'->YY,listUpdate_at->bR,ltAt'->tV,mirror->LM,mirror_perm->Wi,pairsOf->MY,pendingOf->Ae,reverseSlice'->RB,reverseSlice'_eq->Nu,seqEpoch_at->kP,seqObj->Hm,slot_tuple_getitem->Cb,sortedHeap->YS,step_dedup->vx,subscriptTail->bP,subscriptTail_builtinR->eh,tuples'->tS,wpS_bind->Am,wpS_forRange->Di,wpS_get->Ie,wpS_modify->D6,wpS_mono->HZ,wpS_pure->An
open PyProof.Rows.F renaming entry_set_update_loop->Zz,plain_set_update_loop->Mn
open PyProof.Rows.IntsAre renaming int_at->eQ
open PyProof.Rows.IsTup renaming new->fE
open PyProof.Rows.SortSt renaming mk'->ID
open PySem renaming Addr->AW,Around->B5,BindsTo->YQ,DictEntry->ef,ElemsOf->t5,FuncData->LP,Heap->CZ,IsEnum->fF,IsPart->Ps,Keyword->Jn,Model->Yi,NameKind->Pr,Paired->Hn,PassesOwn->QV,Program->Bq,Scope->Tf,SetTable->Fp,Shared->AM,Stmt->EF,Value->AI,Within->Wt,World->CQ,argBest->Ii,assign->OM,assignEach->FY,atKey->Ya,attributeBase->E3,backTo->DH,backToKw->Te,behindInMarks->Cu,binaryOp->DZ,bindArgs->kU,bindC->eI,bindL->eG,bootBuiltins->FX,boot_len->kW,builtinLookup_eq_fast->kE,builtinsNs->YZ,cLine->FS,call->bU,call_meets->OL,callerA->Td,cellsFrom->CV,checkBuiltinCall->VJ,codeAny->Ih,codeAny_builtin->Hf,codeAny_call_builtin->kT,codeAny_mono->Ig,codeAny_of_tree->vn,compareOp->CJ,concat_meets->e8,drawOrder->uA,eval->B1,firstArgMember->FI,fits_of_scanBound->Tc,foldedSetIterable->GP,getItem->Ma,holding->Kq,intKind->He,intKind_is->pS,isSubtype->eE,isSubtype_stop->Pm,isSubtype_type->LN,isTrue->YX,keywordEach->MZ,letOwnedTupleGo->Oh,mainGlobals->BC,mem_of_lookup->Dq,model->Ah,newExc->VH,newFields->t9,newFunctionEnv->YW,newTuple->YV,noFill_tuple_add->VD,noteFrame->eD,pickOrder->QU,plainId_quiet->Mf,pushCells->FH,pushCells_keeps->Wr,pyIter->VC,pyNext->G3,raiseNew->kQ,rawInt->Eo,relabel->Kp,relayAll->Pl,scanBound->LG,seqIndex_of->kO,seq_tuple_add->bQ,setField->kN,setItem->tU,setsByText->YU,sizeLine_eq->Pk,sliceBounds->Jp,slotArgs->YT,slot_list_getitem->tT,spliced->ez,standAt->YG,starEach->AQ,subscripted->Wh,swapsWith->Gx,sysModules->D7,truthy->pR,tupleKind->U9,tupleKind_room_in1->LL,typeIs_int->pQ,typeLookup_type->vk,valueAt->TZ,wpAny->Ag,wpAny_Call_Name_kw->Eb,wpAny_Dict_empty->t8,wpAny_Name->pP,wpAny_askSetting->Gw,wpAny_assign_Name->tR,wpAny_attempt->EO,wpAny_bind->AA,wpAny_call->Ra,wpAny_callSpecial?_slot->Bm,wpAny_call_entry->Bl,wpAny_comprehension_free->bO,wpAny_dictEntries->TY,wpAny_dictEpoch->Wq,wpAny_eqBool_int->t7,wpAny_execs_cons->t6,wpAny_execs_nil->KL,wpAny_field->Dp,wpAny_fieldsOf->FG,wpAny_handled->RA,wpAny_holding->CP,wpAny_isInstance->JR,wpAny_isOneOf_keyiter->Om,wpAny_isTrue_Compare1->kD,wpAny_ite_split->Wp,wpAny_load->pO,wpAny_loadPart->YR,wpAny_mono->E2,wpAny_newList->bN,wpAny_newObj_type->BQ,wpAny_of_eq->MX,wpAny_passesOwn->Fm,wpAny_pure->AE,wpAny_pyIter_enum->tQ,wpAny_pyIter_list->MW,wpAny_pyIter_slot->TX,wpAny_pyIter_tuple->Df,wpAny_rule->Hl,wpAny_seqItems->Pj,wpAny_sequenceKey->tP,wpAny_setEntries_of->G2,wpAny_setField->Ea,wpAny_setField_rec->LK,wpAny_setState_of->D5,wpAny_specialOf->vj,wpAny_standAt->bM,wpAny_storeSet_of->tO,wpAny_throw->Wg,wpAny_truthy_bool->C7,wpAny_typeNameOfWhole_keyiter->FR,wpAny_typeNameOf_keyiter->Ha,wpAny_typeOf->Ko,wpAny_updateSeq->Wo
open PySem.Around renaming under->Wn,under_plainId->Fk
open PySem.AutoSeq1 renaming wpAny_loadPart'->DP
open PySem.Builtin.Dict renaming dictSlotNone->wH,showsAll->Rj
open PySem.Builtin.Dict_items renaming ownsTuple->Me
open PySem.Builtin.Frozenset renaming addrOf->kh,newClass->kg,sizeOf->kf,slot0->ke,updateFrom->kd
open PySem.Builtin.List renaming listExtendWith->IF,listItems->Jt,listLengthHint->Ou,listSameRef->Qb,listTooLong->DL
open PySem.Builtin.ObjectAttr renaming bindTo->kL
open PySem.Builtin.Range renaming rangeSize->Qa
open PySem.Builtin.Slice renaming sliceAdjust->Ik,sliceApplied->Ot,sliceFields->uP,slicePartIndex->uO,slicePlaces->FM
open PySem.Builtin.SmallTypes renaming nextOf->E4
open PySem.Builtin.Tuple renaming tupleExact->Fb,tupleIsExact->uN,tupleItemsOf->Os
open PySem.Calls renaming Name_function_global->Tk,callWith_builtin->Ww,call_function_entry->UN,evalArgs_plain->Nx,spliced_cons->Jr,spliced_nil->Kn
open PySem.Challenge renaming pw_guardround_k46_colonies_looked_at->pY,rw_guardround_k46_colonies_looked_at->Hc
open PySem.CmpOf renaming ints_gt->oo,ints_lt->om
open PySem.Code renaming frames->uM,isFrame->YO
open PySem.Data renaming fields->uL
open PySem.EntryCells renaming newEntry->VU
open PySem.F renaming args_dict_keyiterator_next_1->Nv,args_list_extend_2->fG,args_tuple_add_2->KM,args_tuple_iterator_next_1->VR,called_set->Gg,entry_dict_keyiterator_next->N5,entry_list_extend->kK,entry_tuple_add->Kr,entry_tuple_iterator_next->Wm,excAttr_ValueError->Rf,plainAttrs_list->Gn,plain_extend_loop->TR,plain_list_iadd->UG,plain_set_new->t4,slot_dict_iter->VN,slot_dict_keyiterator_next->C6,slot_dict_update->Ti,slot_enumerate_next->ee,slot_int_rmul->tt,slot_list_extend->Th,slot_list_extend->kc,slot_set_iter->tq,slot_tuple_add->LO,slot_tuple_iterator_next->GX,type_list_extend->Tg
open PySem.Heap renaming ExtBut->OA,SameBut->C8,get?_none_of_le->Zy,get?_push_of_some->AF,get?_push_size->AR,get?_update_ne->bf,get?_update_other->B3,get?_update_self->Cg,lt_size->AZ,size_push->B0
open PySem.Heap.IsSliceOf renaming new->tm
open PySem.Heap.SameBut renaming refl->VQ,update->C9
open PySem.IsRange renaming new->oj
open PySem.NameKind renaming cell->DB,free->GR
open PySem.Obj renaming cls_mapFields->LH,data_mapFields->Cp,isFreed_of_fields->FZ,mapFields->Da,mapSeq->EJ,putSet->Pp
open PySem.Paired renaming length->Ef,snoc->YK
open PySem.SeqAt.RcAt renaming tuples->uB
open PySem.SetTable renaming below->Hb,grown->FT
open PySem.SetTable.probe renaming go->kR
open PySem.Source renaming order->Pd
open PySem.Str renaming ofString->D9
open PySem.Value renaming bool->On,builtin->oh,bytes->tY,float->Yb,int->G1,isInt->tX,isInt_shape->eJ,isStrOf->og,none->BW,ref->A0,str->Qt,type->DQ
open PySem.W renaming Frag->AJ,InstAt->fA,Looks->IE,callWith_K->Yd,cellsFrom_some->VM,clsIn->FC,codeIn->Re,emptyDict->DD,excIn->kF,findIn->DC,findObj->eN,fnOf->Iu,handedIn->bV,hasDictIn->Op,hideAll->MJ,hideAll_get->YJ,hideAll_none->Mi,instObj->EQ,kdu_collect->YI,keepIn->G4,kia_one->Co,kitAny->Ep,kitOne->CS,kitx_dict->Zs,kitx_list->Zr,lookIn->Rc,looks_findIn->Mh,looks_subIn->YH,makesIn->eM,methodObj->Oo,mg_none_of->D8,mg_of->Tb,mroIn->N4,nsOkIn->Rb,of_hideAll->ON,plainGet->Po,plainOver->Zq,specialIn->Zp,subIn->N3,tail_of_in->Yc,takerIn->Qv,takesIn->eK,typeIn->Mg
open PySem.W.Looks renaming here->uD,ld->uC
open PySem.W.WData renaming int->vq
open PySem.W.WShape renaming has->tW
open PySem.Walks renaming list->bT,tuple->RC
open PySem.Within renaming cons->vt
open PySem.pickOrder renaming go->Ta
open Sum renaming inl->C5,inr->Qu
open Sum.inl renaming inj->Ws
open True renaming intro->DT
open PySem PySem.Spec PyProof.Rows
namespace L2
abbrev Key:=Sum Int Str
def Uq:Key->AI->Bool
 | .inl k,v=>tX k v
 | .inr x,v=>og x v
def keyH(w:CQ):Key->Int
 | .inl k=>hashInt k
 | .inr x=>hashStr w x
def D0:∀{k:Key} {v:AI},Uq k v=true->(∃i t,k=C5 i/\v=G1 i t)∨(∃x t,k=Qu x/\v=Qt x t)
 | .inl i,v,h=>by
  obtain⟨t,e⟩:=eJ (k:=i) (v:=v) h;exact .inl ⟨i,t,rfl,e⟩
 | .inr x,v,h=>by
  obtain⟨t,e⟩:=AI.isStrOf_shape (x:=x) (v:=v) h;exact .inr ⟨x,t,rfl,e⟩
def dA(i:Int)(t:Tok):Uq (.inl i) (.int i t)=true:=by simp[Uq,tX]
def cz(x:Str)(t:Tok):Uq (.inr x) (.str x t)=true:=by simp[Uq,og]
def sG(a b:Int):decide ((C5 a:Key)=C5 b)=(a==b):=by
 by_cases e:a=b
 ·subst e;simp
 ·have h:¬(C5 a:Key)=C5 b:=λq=>e (Ws q)
  rw[wY h];exact(beq_eq_false_iff_ne.mpr e).symm
def sC(a b:Str):decide ((Qu a:Key)=Qu b)=decide (a=b):=by
 by_cases e:a=b
 ·subst e;simp
 ·have h:¬(Qu a:Key)=Qu b:=λq=>e (Qu.inj q)
  rw[wY h,wY e]
def sE(a:Int)(b:Str):decide ((C5 a:Key)=Qu b)=false:=wY (λq=>nomatch q)
def sD(a:Str)(b:Int):decide ((Qu a:Key)=C5 b)=false:=wY (λq=>nomatch q)
def ED(prog:Bq)(w:CQ):PySem.KeyKind prog w Key where
 is:=Uq
 hash:=keyH w
 inj:=λv a b m hb=>by
  rcases D0 m with⟨i,t,rfl,rfl⟩ | ⟨x,t,rfl,rfl⟩
  ·rcases D0 hb with⟨j,u,rfl,e⟩ | ⟨y,u,rfl,e⟩
   ·injection e with g _;rw[g]
   ·exact nomatch e
  ·rcases D0 hb with⟨j,u,rfl,e⟩ | ⟨y,u,rfl,e⟩
   ·exact nomatch e
   ·injection e with g _;rw[g]
 byValue:=λk v h=>by
  rcases D0 h with⟨i,t,rfl,rfl⟩ | ⟨x,t,rfl,rfl⟩ <;> rfl
 pyHash:=λl h=>by
  rcases D0 l with⟨i,t,rfl,rfl⟩ | ⟨x,t,rfl,rfl⟩
  ·exact wpAny_pyHash_int h
  ·exact wpAny_pyHash_str h
 eqBool:=λo l h=>by
  rcases D0 o with⟨i,t,rfl,rfl⟩ | ⟨x,t,rfl,rfl⟩
  ·rcases D0 l with⟨j,u,rfl,rfl⟩ | ⟨y,u,rfl,rfl⟩
   ·rw[sG]at h;exact t7 h
   ·rw[sE]at h;exact SeqAt.EqAt.int_str i t y u _ _ _ _ h
  ·rcases D0 l with⟨j,u,rfl,rfl⟩ | ⟨y,u,rfl,rfl⟩
   ·rw[sD]at h;exact SeqAt.EqAt.str_int x t j u _ _ _ _ h
   ·rw[sC]at h;exact wpAny_eqBool_str h
 «strs»:=λk x t v h=>by
  rcases D0 h with⟨i,u,rfl,e⟩ | ⟨y,u,rfl,e⟩
  ·exact nomatch e
  ·injection e with g _
   subst g
   cases v <;> rfl
def Xi(prog:Bq)(w:CQ)(i:Int)(t:Tok):(ED prog w).is (.inl i) (.int i t)=true:=dA i t
def Xh(prog:Bq)(w:CQ)(x:Str)(t:Tok):(ED prog w).is (.inr x) (.str x t)=true:=cz x t
inductive V where
 | non | bl (b:Bool) | int (i:Int) | str (x:Str) | byt (b:Array UInt8) | flt (b:UInt64) | ref (a:AW) | ty (n:String)
 deriving DecidableEq
def RelV:V->AI->Prop
 | .non,u=>u=BW
 | .bl b,u=>u=On b
 | .int i,u=>∃t,u=G1 i t
 | .str x,u=>∃t,u=Qt x t
 | .byt b,u=>∃t,u=tY b t
 | .flt b,u=>∃t,u=Yb b t
 | .ref a,u=>u=A0 a
 | .ty n,u=>u=DQ n
abbrev Bx:List V->List AI->Prop:=Hn RelV
def Bx.length(r:Bx xs g):xs.length=g.length:=Ef r
def Bx.get:∀{xs:List V} {g:List AI} {i:Nat} {x:V},Bx xs g->xs[i]?=some x->∃u,g[i]?=some u/\RelV x u
 | _,_,_,_,.nil,e=>by simp at e
 | _,_,0,_,.cons r _,e=>by simp at e;subst e;exact⟨_,rfl,r⟩
 | _,_,i+1,x,.cons _ t,e=>by
  obtain⟨u,j,l⟩:=Bx.get (i:=i) (x:=x) t (by simpa using e);exact⟨u,by simpa using j,l⟩
def Bx.set(r:RelV x u):∀{xs:List V} {g:List AI} (i:Nat),Bx xs g->Bx (xs.set i x) (g.set i u)
 | _,_,_,.nil=>.nil
 | _,_,0,.cons _ t=>.cons r t
 | _,_,i+1,.cons q t=>.cons q (Bx.set r i t)
def Bx.append:∀{xs ys:List V} {g j:List AI},Bx xs g->Bx ys j->Bx (xs++ys) (g++j)
 | _,_,_,_,.nil,s=>s
 | _,_,_,_,.cons r t,s=>.cons r (Bx.append t s)
def Bx.take:∀{xs:List V} {g:List AI} (n:Nat),Bx xs g->Bx (xs.take n) (g.take n)
 | _,_,0,_=>.nil
 | _,_,_+1,.nil=>.nil
 | _,_,n+1,.cons r t=>.cons r (Bx.take n t)
def Bx.drop:∀{xs:List V} {g:List AI} (n:Nat),Bx xs g->Bx (xs.drop n) (g.drop n)
 | _,_,0,r=>r
 | _,_,_+1,.nil=>.nil
 | _,_,n+1,.cons _ t=>Bx.drop n t
def QS:Option V->Option AI->Prop
 | some v,some u=>RelV v u
 | none,none=>True
 | _,_=>False
def KV{g:Type}:List (g×V)->List (g×AI)->Prop:=Hn λ(p:g×V) (q:g×AI)=>p.1=q.1/\RelV p.2 q.2
def kV:Key->V
 | .inl i=>.int i
 | .inr x=>.str x
inductive HO where
 | lst (xs:List V)
 | tup (xs:List V)
 | dK (kvs:List (Key×V)) | dT (kvs:List (List Key×V))
 | set (S:Int->Bool) (n:Nat)
 | ins (C dx:AW) (fs:List (Str×V))
 | own (x:AW)
 | xd (fs:List (Str×V))
 | met (f x:AW)
 | rng (lo hi:Int)
 | frz (o:Obj) (u:HO)
 | tbl (ps:Array AI)
 | ext (φ:CZ->Prop)
abbrev Hp:=AW->Option HO
def upd(H:Hp)(a:AW)(o:HO):Hp:=λb=>if b=a then some o else H b
def Bi:upd H a o a=some o:=by unfold upd;rw[qX rfl]
def Bk(h:b≠a):upd H a o b=H b:=by unfold upd;rw[qY h]
def vF{H:Hp}{a b:AW}{o u:HO}(h:H a=some o)(h':H b=some u)(d:o≠u):a≠b:=by
 intro e;subst e;rw[h]at h';exact d (Cw h')
def B6{H:Hp}{a b:AW}{o:HO}(h:H a=some o)(h':H b=none):a≠b:=by
 intro e;subst e;rw[h]at h';cases h'
section
variable(P:Bq)(w:CQ)
def DG(H:Hp)(h:CZ)(a:AW):HO->Prop
 | .lst j=>j.length<=sizeLine/\∃(m:List AI) (n:Nat),Bx j m/\h.get? a=some { cls:=.type "list",data:=.seq m.toArray n }
 | .tup j=>(j.length<=sizeLine/\∃o,h.get? a=some o/\o.dict=none)/\∃m:List AI,Bx j m/\kb h a m.toArray
 | .dK g=>g.length<=sizeLine/\(a==D7)=false/\∃B,KV g B/\h.DictOf (ED P w) a B
 | .dT g=>g.length<=sizeLine/\(a==D7)=false/\∃j:List (List Key×AW×AI),
   Hn (λ(p:List Key×V) (q:List Key×AW×AI)=>p.1=q.1/\H q.2.1=some (.tup (p.1.map kV))/\RelV p.2 q.2.2) g j /\
   ∃o E J,h.get? a=some o/\o.ExactDict/\o.data=.dict E J/\E.toList=j.map (entryOfKey (U9 (ED P w)))/\(j.map (·.1)).Nodup
 | .set S n=>h.SetOf (He P w) a S n
 | .ins C s fs=>H s=some (.own a)/\fs.length<=1000/\s≠a/\h.get? a=some (EQ C s) /\
   ∃l,h.Ns1 s l/\(∀f,QS (fs.lookup f) (l f))/\Wt l (fs.map (·.1))
 | .own _=>∃o,h.get? a=some o
 | .xd fs=>∃l,h.Ns1 a l/\∀f,QS (fs.lookup f) (l f)
 | .rng lo L=>∃t u v,h.get? a=some { cls:=.type "range",data:=.fields #[.int lo t,.int L u,.int 1 v] }
 | .frz o u=>h.get? a=some o/\DG H h a u
 | .tbl N=>h.get? a=some { cls:=.none,data:=.fields N }
 | .met f x=>h.get? a=some (Oo (.ref f) (.ref x))
 | .ext A=>A h/\(∃o,h.get? a=some o)/\∀G I:CZ,A G->(∀o,G.get? a=some o->I.get? a=some o)->A I
def HOk(H:Hp)(h:CZ):Prop:=∀a o,H a=some o->DG P w H h a o
end
section
variable{P:Bq}{w:CQ}{H H':Hp}{h h':CZ}{a:AW}{o:HO}
def DG.lt(x:DG P w H h a o):a < h.objs.size:=by
 cases o with
 | lst j=>obtain⟨_,_,_,_,e⟩:=x;exact AZ e
 | tup j=>obtain⟨_,_,_,p⟩:=x;exact p.lt
 | dK g=>obtain⟨_,_,_,_,o,_,_,e,_⟩:=x;exact AZ e
 | dT g=>obtain⟨_,_,_,_,o,_,_,e,_⟩:=x;exact AZ e
 | set S n=>obtain⟨o,_,_,_,e,_⟩:=x;exact AZ e
 | ins C l fs=>obtain⟨_,_,_,e,_⟩:=x;exact AZ e
 | own y=>obtain⟨_,e⟩:=x;exact AZ e
 | xd fs=>obtain⟨_,⟨_,_,_,e,_⟩,_⟩:=x;exact AZ e
 | rng lo m=>obtain⟨_,_,_,e⟩:=x;exact AZ e
 | frz s u=>obtain⟨e,_⟩:=x;exact AZ e
 | tbl A=>exact AZ (show h.get? a=some _ from x)
 | met f y=>exact AZ (show h.get? a=some _ from x)
 | ext B=>obtain⟨_,⟨_,e⟩,_⟩:=x;exact AZ e
def Hn.mapP{l m:Type}{F G:l->m->Prop}:∀{g:List l} {j:List m},Hn F g j->(∀a b,F a b->G a b)->Hn G g j
 | _,_,.nil,_=>.nil
 | _,_,.cons r t,f=>.cons (f _ _ r) (Hn.mapP t f)
def DG.stay(x:DG P w H h a o)(k:∀b u,(b=a∨H b=some (.own a))->h.get? b=some u->h'.get? b=some u)
  (ho:∀b,H b=some (.own a)->H' b=some (.own a)) (I:∀b xs,H b=some (.tup xs)->H' b=some (.tup xs)):DG P w H' h' a o:=by
 induction o with
 | lst xs=>obtain⟨z,m,n,r,e⟩:=x;exact⟨z,m,n,r,k _ _ (.inl rfl) e⟩
 | tup xs=>obtain⟨⟨z,J,s,L⟩,m,r,g,e,c⟩:=x;exact⟨⟨z,J,k _ _ (.inl rfl) s,L⟩,m,r,g,k _ _ (.inl rfl) e,c⟩
 | dK A=>obtain⟨z,y,N,r,g,j,l,e,c⟩:=x;exact⟨z,y,N,r,g,j,l,k _ _ (.inl rfl) e,c⟩
 | dT A=>
  obtain⟨z,y,xs,r,g,j,l,e,c⟩:=x;exact⟨z,y,xs,Hn.mapP r λp q z=>⟨z.1,I _ _ z.2.1,z.2.2⟩,g,j,l,k _ _ (.inl rfl) e,c⟩
 | set S n=>obtain⟨g,j,l,t,e,c⟩:=x;exact⟨g,j,l,t,k _ _ (.inl rfl) e,c⟩
 | ins C R fs=>
  obtain⟨d,z,O,e,B,⟨E,j,l,s,c⟩,r⟩:=x;exact⟨ho _ d,z,O,k _ _ (.inl rfl) e,B,⟨E,j,l,k _ _ (.inr d) s,c⟩,r⟩
 | own y=>obtain⟨g,e⟩:=x;exact⟨g,k _ _ (.inl rfl) e⟩
 | xd fs=>obtain⟨B,⟨E,j,l,e,c⟩,r⟩:=x;exact⟨B,⟨E,j,l,k _ _ (.inl rfl) e,c⟩,r⟩
 | rng lo T=>obtain⟨t,u,v,e⟩:=x;exact⟨t,u,v,k _ _ (.inl rfl) e⟩
 | frz g u Q=>obtain⟨e,q⟩:=x;exact⟨k _ _ (.inl rfl) e,Q q⟩
 | tbl G=>
  have e:h.get? a=some { cls:=.none,data:=.fields G }:=x;show h'.get? a=some { cls:=.none,data:=.fields G };exact k a _ (.inl rfl) e
 | met f y=>
  have e:h.get? a=some (Oo (.ref f) (.ref y)):=x;show h'.get? a=some (Oo (.ref f) (.ref y));exact k a _ (.inl rfl) e
 | ext U=>obtain⟨p,⟨o,e⟩,st⟩:=x;exact⟨st _ _ p λo q=>k _ _ (.inl rfl) q,⟨o,k _ _ (.inl rfl) e⟩,st⟩
def HOk.lt(x:HOk P w H h)(e:H a=some o):a < h.objs.size:=(x a o e).lt
def HOk.fresh(x:HOk P w H h)(e:h.objs.size<=a):H a=none:=by
 cases q:H a with
 | none=>rfl
 | some u=>exact zX (Af (x.lt q) e) (Db _)
def HOk.kept(x:HOk P w H h)(k:∀b u,h.get? b=some u->h'.get? b=some u):HOk P w H h':=λa o e=>
 (x a o e).stay (λb u _ q=>k b u q) (λ_ q=>q) λ_ _ q=>q
def HOk.laid(x:HOk P w H h)(k:∀b u,h.get? b=some u->h'.get? b=some u)(j:h.objs.size<=a)(new:DG P w (upd H a o) h' a o):HOk P w (upd H a o) h':=λb u e=>by
 have g:=x.fresh j
 by_cases hb:b=a
 ·subst hb;rw[Bi]at e;cases e;exact new
 ·rw[Bk hb]at e
  exact(x b u e).stay (λc v _ q=>k c v q) (λc q=>by rw[Bk (B6 q g)];exact q) λc l q=>by rw[Bk (B6 q g)];exact q
end
def Rd(H:Hp)(a:AW)(u:HO):Prop:=H a=some u∨∃o,H a=some (.frz o u)
def Rd.ok(r:Rd H a u)(x:HOk P w H h):DG P w H h a u:=by
 rcases r with r | ⟨o,r⟩
 ·exact x a u r
 ·obtain⟨_,q⟩:=x a _ r
  exact q
def Mut:Option HO->Prop
 | some (.lst _)=>True
 | some (.dK _)=>True
 | some (.dT _)=>True
 | some (.set _ _)=>True
 | some (.ins _ _ _)=>True
 | some (.ext _)=>True
 | _=>False
section
variable{P:Bq}{w:CQ}{H:Hp}{h h':CZ}{x e:AW}
def HOk.write(ok:HOk P w H h)(l:Mut (H x))(s:e=x∨H e=some (.own x))(k:∀b u,b≠e->h.get? b=some u->h'.get? b=some u)(C:∃u,h'.get? e=some u)
  (new:DG P w (upd H x o') h' x o'):HOk P w (upd H x o') h':=λb u q=>by
 have A:∀c y,H c=some (.own y)->c≠x:=λc y r z=>by subst z;rw[r]at l;exact l
 have j:∀c m,H c=some (.tup m)->c≠x:=λc m r z=>by subst z;rw[r]at l;exact l
 by_cases hb:b=x
 ·subst hb;rw[Bi]at q;cases q;exact new
 ·rw[Bk hb]at q
  by_cases g:b=e
  ·have B:H b=some (.own x):=by
    rcases s with z | z
    ·exact zX (g.trans z) hb
    ·rw[g];exact z
   rw[q]at B;cases B;obtain⟨v,E⟩:=C;exact⟨v,by rw[g];exact E⟩
  ·refine(ok b u q).stay (λc v o r=>k c v ?_ r) (λc r=>by rw[Bk (A c b r)];exact r) λc m r=>by rw[Bk (j c m r)];exact r
   rcases o with rfl | o
   ·exact g
   ·rintro rfl
    rcases s with z | z
    ·exact A c b o z
    ·rw[o]at z;cases z;exact hb rfl
end
structure Un(fs ex:List AW)(H H':Hp)(h h':CZ):Prop where
 keep:∀b o,h.get? b=some o->H b=none->b∉fs->b∉ex->h'.get? b=some o
 slot:∀b o,h.get? b=some o->H b=none->b∈fs->b∉ex->∃sl,h'.get? b=some { o with slots:=sl }
 free:∀b o,h.get? b=some o->H b=none->b∉ex->H' b=none
 there:∀b o,h.get? b=some o->b∉ex->∃o',h'.get? b=some o'
 tups:∀b xs,H b=some (.tup xs)->H' b=some (.tup xs)
 frzs:∀b o u,H b=some (.frz o u)->H' b=some (.frz o u)
 tbls:∀b ps,H b=some (.tbl ps)->∃more,H' b=some (.tbl (ps++more))
section
variable{fs ex:List AW}{H H1:Hp}{h h1 h':CZ}{a x e:AW}{o:HO}
def Un.any(u:Un fs ex H H1 h h1)(q:h.get? b=some g)(n:H b=none)(j:b∉ex):∃sl,h1.get? b=some { g with slots:=sl }:=by
 by_cases hb:b∈fs
 ·exact u.slot b g q n hb j
 ·exact⟨g.slots,u.keep b g q n hb j⟩
def Un.kept(k:∀b u,h.get? b=some u->h'.get? b=some u):Un fs ex H H h h':=
 ⟨λb g q _ _ _=>k b g q,λb g q _ _ _=>⟨g.slots,k b g q⟩,λ_ _ _ n _=>n,λb g q _=>⟨g,k b g q⟩,λ_ _ q=>q,λ_ _ _ q=>q,λ_ j q=>⟨#[],by rw[q];simp⟩⟩
def Un.refl:Un fs ex H H h h:=Un.kept λ_ _ q=>q
def Un.laid(k:∀b u,h.get? b=some u->h'.get? b=some u)(j:h.objs.size<=a)(g:H a=none):Un fs ex H (upd H a o) h h' where
 keep:=λb u q _ _ _=>k b u q
 slot:=λb u q _ _ _=>⟨u.slots,k b u q⟩
 free:=λb u q n _=>by rw[Bk (Al (Af (AZ q) j))];exact n
 there:=λb u q _=>⟨u,k b u q⟩
 tups:=λb l q=>by rw[Bk (B6 q g)];exact q
 frzs:=λb u l q=>by rw[Bk (B6 q g)];exact q
 tbls:=λb m q=>⟨#[],by rw[Bk (B6 q g),q];simp⟩
def Un.write(j:Mut (H x))(s:e=x∨H e=some (.own x))(k:∀b u,b≠e->h.get? b=some u->h'.get? b=some u)(A:∃u,h'.get? e=some u):Un fs ex H (upd H x o) h h':=by
 have m:∀b,H b=none->b≠x:=λb n z=>by subst z;rw[n]at j;exact j
 have hb:∀b,H b=none->b≠e:=λb n z=>by
  subst z
  rcases s with r | r
  ·exact m b n r
  ·rw[n]at r;cases r
 have l:∀b u,H b=some u->¬Mut (some u)->b≠x:=λb u q B z=>by subst z;rw[q]at j;exact B j
 refine⟨λb u q n _ _=>k b u (hb b n) q,λb u q n _ _=>⟨u.slots,k b u (hb b n) q⟩,λb u q n _=>by rw[Bk (m b n)];exact n,λb u q _=>?_,
  λb C q=>by rw[Bk (l b _ q λz=>z)];exact q,λb u C q=>by rw[Bk (l b _ q λz=>z)];exact q,λb E q=>⟨#[],by rw[Bk (l b _ q λz=>z),q];simp⟩⟩
 by_cases g:b=e
 ·subst g;exact A
 ·exact⟨u,k b u g q⟩
end
def trk(h:CZ)(H:Hp):List AW:=(Bs h.objs.size).filter λa=>(H a).isSome
def WH(h:CZ)(H:Hp):CZ:=MJ h (trk h H)
def dJ(h:CZ)(H:Hp):(WH h H).objs.size=h.objs.size:=PySem.W.hideAll_size _ _
def jN(e:h.get? b=some o)(n:H b=none):(WH h H).get? b=some o:=
 YJ _ e λg=>by
  have q:(H b).isSome=true:=(BU.mp g).2;rw[n]at q;simp at q
def nF(e:(WH h H).get? b=some o):h.get? b=some o/\H b=none:=by
 have g:h.get? b=some o:=ON (trk h H) e;refine⟨g,?_⟩
 cases q:H b with
 | none=>rfl
 | some x=>
  have j:b∈trk h H:=BU.mpr ⟨UJ.mpr (AZ g),by simp[q]⟩;have z:(WH h H).get? b=none:=Mi (trk h H) j;rw[z]at e;cases e
structure Mod(K:AJ)(mg:Str->Option AI)(base:CZ):Prop where
 kin:K.In base
 glob:base.Ns BC mg
 blt:∃mb,base.Ns YZ mb/\∀x:Str,x≠"__name__"->mb x=FX x
 nolimit:base.NoLimit
structure Cx where
 prog:Bq
 w:CQ
 K:AJ
 mg:Str->Option AI
 base:CZ
 A:B5
 N:List Str
 s₀:AM
 H₀:Hp
 env:Env
 outer:List Env
 stack:List Env
 ex:List AW
 fn:Str->Bool
 calm:Bool
 pn:List (AW×Obj)
 xe:AI->AM->Prop
def frs(l:List Env):List AW:=l.filterMap (·.frame)
abbrev Cx.fs(X:Cx):List AW:=frs X.outer
def Vis(g:Tf)(x:Str):Prop:=g.names.lookup x=some .local∨g.names.lookup x=some .cell∨g.names.lookup x=some .free
def Loc(g:Tf)(x:Str):Prop:=g.names.lookup x=some .local∨g.names.lookup x=some .cell
def Look(env:Env)(h:CZ)(m:Str->Option AI)(x:Str)(u:AI):Prop:=
 (env.kindOf x=some .local/\m x=some u)∨((env.kindOf x=some .cell∨env.kindOf x=some .free)/\∃c,env.cells.lookup x=some c/\h.IsCell c (some u))
structure Cx.Ok(X:Cx):Prop where
 mod:Mod X.K X.mg X.base
 kind:X.env.scope.kind=.function
 glob:X.env.globals=BC
 blt:X.env.builtins=YZ
 above:X.s₀.heap.objs.size<=X.env.locals
 inj:∀x y c,X.env.cells.lookup x=some c->X.env.cells.lookup y=some c->x=y
 has:∀x,(X.env.kindOf x=some .cell∨X.env.kindOf x=some .free)->∃c,X.env.cells.lookup x=some c
 cab:∀x c,X.fn x=true->X.env.cells.lookup x=some c->X.s₀.heap.objs.size<=c
 hd:X.calm=true->X.A.handled=none
 frames:X.A.frames=some X.stack
 stk:X.stack=X.outer∨(X.stack=X.env :: X.outer/\X.env.frame=some X.env.locals)
 exf:∀b∈X.ex,b≠X.env.locals/\∀x c,X.env.cells.lookup x=some c->c≠b
 bs:∀b o,X.base.get? b=some o->X.s₀.heap.get? b=some o/\X.H₀ b=none
 bsz:X.base.objs.size<=X.s₀.heap.objs.size
 noex:∀b o,X.base.get? b=some o->b∉X.ex
 exfs:∀b∈X.ex,b∉X.fs
 funs:X.s₀.heap.FunFrames X.base X.outer
 frf:∀b∈X.fs,X.H₀ b=none
structure Inv(X:Cx)(ζ:List (AW×Obj))(σ:List (Option V))(H:Hp)(s:AM):Prop where
 ok:X.Ok
 os:s.os=X.s₀.os
 bare:Jo s.gens
 base:Un X.fs X.ex X.H₀ H X.s₀.heap s.heap
 loc:∃m,s.heap.Ns X.env.locals m/\∀(i:Nat) (x:Str) (v:V),X.N[i]?=some x->σ[i]?=some (some v)->Vis X.env.scope x->∃u,RelV v u/\Look X.env s.heap m x u
 cell:∀x c,X.env.cells.lookup x=some c->∃v,s.heap.IsCell c v
 free:H X.env.locals=none
 freeC:∀x c,X.env.cells.lookup x=some c->H c=none
 pin:∀p∈X.pn++ζ,s.heap.get? p.1=some p.2/\H p.1=none/\p.1≠X.env.locals/\p.1∉X.fs/\∀v,p.2.data≠.cell v
 hok:HOk X.prog X.w H s.heap
 len:σ.length=X.N.length
section
variable{X:Cx}{ζ:List (AW×Obj)}{σ:List (Option V)}{H H':Hp}{s:AM}{h':CZ}
def Cx.Ok.nofr(ok:X.Ok)(e:X.base.get? b=some o):b∉X.fs:=λhb=>by
 have:=(ok.funs.mem hb).1;rw[e]at this;cases this
def Inv.bs(I:Inv X ζ σ H s):∀b o,X.base.get? b=some o->s.heap.get? b=some o/\H b=none:=λb o e=>
 ⟨I.base.keep b o (I.ok.bs b o e).1 (I.ok.bs b o e).2 (I.ok.nofr e) (I.ok.noex b o e),I.base.free b o (I.ok.bs b o e).1 (I.ok.bs b o e).2 (I.ok.noex b o e)⟩
def Inv.bk(I:Inv X ζ σ H s):∀b o,X.base.get? b=some o->s.heap.get? b=some o:=λb o e=>(I.bs b o e).1
def Inv.mod(I:Inv X ζ σ H s):Mod X.K X.mg X.base:=I.ok.mod
def Inv.kIn(I:Inv X ζ σ H s):X.K.In s.heap:=I.ok.mod.kin.keeps I.bk
def Inv.lt(I:Inv X ζ σ H s):X.env.locals < s.heap.objs.size:=let ⟨_,g,_⟩:=I.loc;g.lt
def Inv.sz(I:Inv X ζ σ H s):X.s₀.heap.objs.size<=s.heap.objs.size:=Ap I.ok.above (Ml I.lt)
def Inv.nofs(I:Inv X ζ σ H s)(h:s.heap.objs.size<=a):a∉X.fs:=λhb=>by
 obtain⟨_,o,g,_⟩:=I.ok.funs.mem hb;exact zX (Af (AZ g) (Ap I.sz h)) (Db _)
def Inv.cne(I:Inv X ζ σ H s):∀x c,X.env.cells.lookup x=some c->c≠X.env.locals:=λx c e z=>by
 obtain⟨v,o,g,hd⟩:=I.cell x c e;obtain⟨m,⟨A,B,C,j,l,_⟩,_⟩:=I.loc;rw[z,j]at g;cases g;rw[l]at hd;cases hd
def Inv.funs(I:Inv X ζ σ H s):s.heap.FunFrames X.base X.outer:=by
 have all:∀(l:List Env),(∀b∈frs l,b∈X.fs)->X.s₀.heap.FunFrames X.base l->s.heap.FunFrames X.base l:=by
  intro l
  induction l with
  | nil=>intro _ _;trivial
  | cons A r B=>
   intro m C;obtain⟨E,⟨L,o,g,G,J,hd⟩,N⟩:=C;have j:L∈X.fs:=m L (by unfold frs;rw[Ol,g];exact Ax)
   obtain⟨sl,e⟩:=I.base.slot L o J (I.ok.frf L j) j λz=>I.ok.exfs L z j
   exact⟨E,⟨L,_,g,G,e,hd⟩,B (λb hb=>m b (by unfold frs;rw[Ol,g];exact AY _ hb)) N⟩
 exact all X.outer (λ_ hb=>hb) I.ok.funs
def Inv.stack(I:Inv X ζ σ H s):s.heap.FunFrames X.base X.stack:=by
 rcases I.ok.stk with e | ⟨e,g⟩
 ·rw[e];exact I.funs
 ·rw[e]
  obtain⟨m,j,_⟩:=I.loc;refine .cons (by rw[I.ok.kind];decide) g j ?_ I.funs;exact Zy (Ap I.ok.bsz I.ok.above)
def Inv.stkSub(I:Inv X ζ σ H s):∀b∈frs X.stack,b∈X.env.locals :: X.fs:=λb hb=>by
 rcases I.ok.stk with e | ⟨e,g⟩
 ·rw[e]at hb;exact AY _ hb
 ·rw[e]at hb
  unfold frs at hb;rw[Ol,g]at hb;exact hb
def Inv.stkFree(I:Inv X ζ σ H s):∀b∈frs X.stack,H b=none:=λb hb=>by
 rcases A2.mp (I.stkSub b hb)with e | hb
 ·rw[e];exact I.free
 ·obtain⟨_,o,g,_⟩:=I.ok.funs.mem hb
  exact I.base.free b o g (I.ok.frf b hb) λz=>I.ok.exfs b z hb
def Inv.step{g':Array GenState}{t':Nat}{d':Drawn}{ch:List AW}(I:Inv X ζ σ H s)
  (C:∀b∈ch,(b∈X.ex∨X.s₀.heap.objs.size<=b)/\b≠X.env.locals/\(∀x c,X.env.cells.lookup x=some c->c≠b)/\∀p∈X.pn++ζ,p.1≠b)
  (keep:∀b o,b≠X.env.locals->b∉X.fs->b∉ch->s.heap.get? b=some o->H b=none->h'.get? b=some o)
  (slot:∀b o,b≠X.env.locals->b∈X.fs->b∉ch->s.heap.get? b=some o->H b=none->∃sl,h'.get? b=some { o with slots:=sl }) (free:∀b o,b∉ch->s.heap.get? b=some o->H b=none->H' b=none)
  (there:∀b o,b∉ch->s.heap.get? b=some o->∃o',h'.get? b=some o')
  (E:∀b xs,H b=some (.tup xs)->H' b=some (.tup xs)) (G:∀b o u,H b=some (.frz o u)->H' b=some (.frz o u)) (J:∀b ps,H b=some (.tbl ps)->∃more,H' b=some (.tbl (ps++more)))
  (ns:∀m,s.heap.Ns X.env.locals m->h'.Ns X.env.locals m) (P:HOk X.prog X.w H' h') (Y:Jo g') :
  Inv X ζ σ H' { s with heap:=h',gens:=g',drawn:=d',toks:=t' }:=by
 have Q:∀b o,X.s₀.heap.get? b=some o->b≠X.env.locals:=λb o e=>Al (Af (AZ e) I.ok.above)
 have O:∀b o,X.s₀.heap.get? b=some o->b∉X.ex->b∉ch:=λb o e g hb=>by
  rcases(C b hb).1 with z | z
  ·exact g z
  ·exact zX (Af (AZ e) z) (Db _)
 have j:∀x c,X.env.cells.lookup x=some c->∀v,s.heap.IsCell c v->h'.IsCell c v:=by
  rintro x c e v ⟨o,B,hd⟩
  have L:c∉ch:=λz=>(C c z).2.2.1 x c e rfl
  by_cases R:c∈X.fs
  ·obtain⟨sl,q⟩:=slot c o (I.cne x c e) R L B (I.freeC x c e)
   exact⟨_,q,hd⟩
  ·exact⟨o,keep c o (I.cne x c e) R L B (I.freeC x c e),hd⟩
 refine⟨I.ok,I.os,Y,⟨λb o e n hb g=>?_,λb o e n hb g=>?_,λb o e n g=>?_,λb o e g=>?_,λb xs e=>E b xs (I.base.tups b xs e),λb o xs e=>G b o xs (I.base.frzs b o xs e),λb ps e=>?_⟩,?_,λx c e=>?_,?_,λx c e=>?_,λp S=>?_,P,I.len⟩
 ·exact keep b o (Q b o e) hb (O b o e g) (I.base.keep b o e n hb g) (I.base.free b o e n g)
 ·obtain⟨sl,A⟩:=I.base.slot b o e n hb g
  obtain⟨Z,N⟩:=slot b _ (Q b o e) hb (O b o e g) A (I.base.free b o e n g);exact⟨Z,N⟩
 ·obtain⟨o',A⟩:=I.base.there b o e g
  exact free b o' (O b o e g) A (I.base.free b o e n g)
 ·obtain⟨o',A⟩:=I.base.there b o e g
  exact there b o' (O b o e g) A
 ·obtain⟨m1,A⟩:=I.base.tbls b ps e
  obtain⟨m2,N⟩:=J b _ A;exact⟨m1++m2,by rw[N,bg]⟩
 ·obtain⟨m,hn,hl⟩:=I.loc
  refine⟨m,ns m hn,λi x v A N e3=>?_⟩;obtain⟨u,r,l⟩:=hl i x v A N e3;refine⟨u,r,?_⟩
  rcases l with l | ⟨k,c,e,z⟩
  ·exact .inl l
  ·exact .inr ⟨k,c,e,j x c e _ z⟩
 ·obtain⟨v,z⟩:=I.cell x c e
  exact⟨v,j x c e v z⟩
 ·obtain⟨m,⟨o,_,_,B,_⟩,_⟩:=I.loc
  exact free _ o (λz=>(C _ z).2.1 rfl) B I.free
 ·obtain⟨v,o,B,hd⟩:=I.cell x c e
  exact free c o (λz=>(C c z).2.2.1 x c e rfl) B (I.freeC x c e)
 ·obtain⟨e,n,T,U,d⟩:=I.pin p S
  have L:p.1∉ch:=λz=>(C p.1 z).2.2.2 p S rfl
  exact⟨keep p.1 p.2 T U L e n,free p.1 p.2 L e n,T,U,d⟩
def Inv.stepN{g':Array GenState}{t':Nat}{d':Drawn}{ch:List AW}(I:Inv X ζ σ H s)
  (C:∀b∈ch,(b∈X.ex∨X.s₀.heap.get? b=none)/\b≠X.env.locals/\(∀x c,X.env.cells.lookup x=some c->c≠b)/\∀p∈X.pn++ζ,p.1≠b)
  (keep:∀b o,b≠X.env.locals->b∉X.fs->b∉ch->s.heap.get? b=some o->H b=none->h'.get? b=some o)
  (slot:∀b o,b≠X.env.locals->b∈X.fs->b∉ch->s.heap.get? b=some o->H b=none->∃sl,h'.get? b=some { o with slots:=sl }) (free:∀b o,b∉ch->s.heap.get? b=some o->H b=none->H' b=none)
  (there:∀b o,b∉ch->s.heap.get? b=some o->∃o',h'.get? b=some o')
  (E:∀b xs,H b=some (.tup xs)->H' b=some (.tup xs)) (G:∀b o u,H b=some (.frz o u)->H' b=some (.frz o u)) (J:∀b ps,H b=some (.tbl ps)->∃more,H' b=some (.tbl (ps++more)))
  (ns:∀m,s.heap.Ns X.env.locals m->h'.Ns X.env.locals m) (P:HOk X.prog X.w H' h') (Y:Jo g') :
  Inv X ζ σ H' { s with heap:=h',gens:=g',drawn:=d',toks:=t' }:=by
 have Q:∀b o,X.s₀.heap.get? b=some o->b≠X.env.locals:=λb o e=>Al (Af (AZ e) I.ok.above)
 have O:∀b o,X.s₀.heap.get? b=some o->b∉X.ex->b∉ch:=λb o e g hb=>by
  rcases(C b hb).1 with z | z
  ·exact g z
  ·rw[z]at e;cases e
 have j:∀x c,X.env.cells.lookup x=some c->∀v,s.heap.IsCell c v->h'.IsCell c v:=by
  rintro x c e v ⟨o,B,hd⟩
  have L:c∉ch:=λz=>(C c z).2.2.1 x c e rfl
  by_cases R:c∈X.fs
  ·obtain⟨sl,q⟩:=slot c o (I.cne x c e) R L B (I.freeC x c e)
   exact⟨_,q,hd⟩
  ·exact⟨o,keep c o (I.cne x c e) R L B (I.freeC x c e),hd⟩
 refine⟨I.ok,I.os,Y,⟨λb o e n hb g=>?_,λb o e n hb g=>?_,λb o e n g=>?_,λb o e g=>?_,λb xs e=>E b xs (I.base.tups b xs e),λb o xs e=>G b o xs (I.base.frzs b o xs e),λb ps e=>?_⟩,?_,λx c e=>?_,?_,λx c e=>?_,λp S=>?_,P,I.len⟩
 ·exact keep b o (Q b o e) hb (O b o e g) (I.base.keep b o e n hb g) (I.base.free b o e n g)
 ·obtain⟨sl,A⟩:=I.base.slot b o e n hb g
  obtain⟨Z,N⟩:=slot b _ (Q b o e) hb (O b o e g) A (I.base.free b o e n g);exact⟨Z,N⟩
 ·obtain⟨o',A⟩:=I.base.there b o e g
  exact free b o' (O b o e g) A (I.base.free b o e n g)
 ·obtain⟨o',A⟩:=I.base.there b o e g
  exact there b o' (O b o e g) A
 ·obtain⟨m1,A⟩:=I.base.tbls b ps e
  obtain⟨m2,N⟩:=J b _ A;exact⟨m1++m2,by rw[N,bg]⟩
 ·obtain⟨m,hn,hl⟩:=I.loc
  refine⟨m,ns m hn,λi x v A N e3=>?_⟩;obtain⟨u,r,l⟩:=hl i x v A N e3;refine⟨u,r,?_⟩
  rcases l with l | ⟨k,c,e,z⟩
  ·exact .inl l
  ·exact .inr ⟨k,c,e,j x c e _ z⟩
 ·obtain⟨v,z⟩:=I.cell x c e
  exact⟨v,j x c e v z⟩
 ·obtain⟨m,⟨o,_,_,B,_⟩,_⟩:=I.loc
  exact free _ o (λz=>(C _ z).2.1 rfl) B I.free
 ·obtain⟨v,o,B,hd⟩:=I.cell x c e
  exact free c o (λz=>(C c z).2.2.1 x c e rfl) B (I.freeC x c e)
 ·obtain⟨e,n,T,U,d⟩:=I.pin p S
  have L:p.1∉ch:=λz=>(C p.1 z).2.2.2 p S rfl
  exact⟨keep p.1 p.2 T U L e n,free p.1 p.2 L e n,T,U,d⟩
def Inv.un{t':Nat}(I:Inv X ζ σ H s)(u:Un X.fs [] H H' s.heap h')(g:HOk X.prog X.w H' h'):Inv X ζ σ H' { s with heap:=h',toks:=t' }:=by
 obtain⟨m,⟨o,J,L,l,r⟩,_⟩:=id I.loc;obtain⟨sl,B⟩:=u.any l I.free (by simp)
 exact I.step (g':=s.gens) (d':=s.drawn) (ch:=[]) (λ_ z=>nomatch z) (λb o _ hb _ e n=>u.keep b o e n hb (by simp)) (λb o _ hb _ e n=>u.slot b o e n hb (by simp)) (λb o _ e n=>u.free b o e n (by simp)) (λb o _ e=>u.there b o e (by simp)) u.tups u.frzs u.tbls (λN C=>by
  obtain⟨O,E,j,A,G⟩:=C;rw[l]at A;cases A
  exact⟨_,E,j,B,G⟩) g I.bare
def Inv.call{g':Array GenState}{t':Nat}{d':Drawn}{ch:List AW}(I:Inv X ζ σ H s)(u:Un (frs X.stack) ch H H' s.heap h')(j:HOk X.prog X.w H' h')(G:Jo g')
  (B:∀b∈ch,(b∈X.ex∨X.s₀.heap.objs.size<=b)/\b≠X.env.locals/\(∀x c,X.env.cells.lookup x=some c->c≠b)/\∀p∈X.pn++ζ,p.1≠b) :
  Inv X ζ σ H' { s with heap:=h',gens:=g',drawn:=d',toks:=t' }:=by
 obtain⟨m,⟨o,O,P,C,r⟩,_⟩:=id I.loc
 obtain⟨sl,l⟩:=u.any C I.free λz=>(B _ z).2.1 rfl
 exact I.step (ch:=ch) B (λb o l hb g e n=>u.keep b o e n (λz=>(A2.mp (I.stkSub b z)).elim l hb) g) (λb o _ _ g e n=>u.any e n g) (λb o g e n=>u.free b o e n g) (λb o g e=>u.there b o e g) u.tups u.frzs u.tbls (λQ J=>by
  obtain⟨R,L,A,E,N⟩:=J;rw[C]at E;cases E
  exact⟨_,L,A,l,N⟩) j G
def Inv.turned{t':Nat}{it:AW}(I:Inv X ζ σ H s)(k:∀b o,b≠it->s.heap.get? b=some o->h'.get? b=some o)(A:H it=none)(j:it≠X.env.locals)
  (B:it∈X.ex∨X.s₀.heap.objs.size<=it) (C:∀x c,X.env.cells.lookup x=some c->c≠it) (E:∀p∈X.pn++ζ,p.1≠it):Inv X ζ σ H { s with heap:=h',toks:=t' }:=by
 have l:∀b u,H b=some u->b≠it:=λb u e z=>by rw[z,A]at e;cases e
 refine I.step (g':=s.gens) (d':=s.drawn) (ch:=[it]) (λb hb=>?_) (λb o _ _ g e _=>k b o (λz=>g (by simp[z])) e) (λb o _ _ g e _=>⟨o.slots,k b o (λz=>g (by simp[z])) e⟩) (λ_ _ _ _ n=>n)
  (λb o g e=>⟨o,k b o (λz=>g (by simp[z])) e⟩) (λ_ _ e=>e) (λ_ _ _ e=>e) (λb O e=>⟨#[],by rw[e];simp⟩) (λm G=>?_) (λb u e=>?_) I.bare
 ·have e:b=it:=by simpa using hb
  subst e;exact⟨B,j,C,E⟩
 ·obtain⟨o,J,L,N,r⟩:=G
  exact⟨o,J,L,k _ o (CK j) N,r⟩
 ·refine(I.hok b u e).stay (λc v g q=>k c v ?_ q) (λ_ q=>q) λ_ _ q=>q
  rcases g with z | z
  ·rw[z];exact l b u e
  ·exact l c _ z
def Inv.tok(I:Inv X ζ σ H s)(t:Nat):Inv X ζ σ H { s with toks:=t }:=I.un (h':=s.heap) (t':=t) Un.refl I.hok
def Inv.kept(I:Inv X ζ σ H s)(k:∀b u,s.heap.get? b=some u->h'.get? b=some u):Inv X ζ σ H { s with heap:=h',toks:=t' }:=I.un (Un.kept k) (I.hok.kept k)
def Inv.laid(I:Inv X ζ σ H s)(k:∀b u,s.heap.get? b=some u->h'.get? b=some u)(g:s.heap.objs.size<=a)(new:DG X.prog X.w (upd H a o) h' a o) :
  Inv X ζ σ (upd H a o) { s with heap:=h',toks:=t' }:=I.un (Un.laid k g (I.hok.fresh g)) (I.hok.laid k g new)
def Inv.write(I:Inv X ζ σ H s)(g:Mut (H x))(j:e=x∨H e=some (.own x))(k:∀b u,b≠e->s.heap.get? b=some u->h'.get? b=some u)(l:∃u,h'.get? e=some u)
  (new:DG X.prog X.w (upd H x o) h' x o):Inv X ζ σ (upd H x o) { s with heap:=h',toks:=t' }:=I.un (Un.write g j k l) (I.hok.write g j k l new)
def Inv.pins_of(I:Inv X ζ σ H s)(h:∀p∈pins',s.heap.get? p.1=some p.2/\H p.1=none/\p.1≠X.env.locals/\p.1∉X.fs/\∀v,p.2.data≠.cell v):Inv X pins' σ H s:=
 ⟨I.ok,I.os,I.bare,I.base,I.loc,I.cell,I.free,I.freeC,λp g=>(Aq.mp g).elim (λz=>I.pin p (As _ z)) (h p),I.hok,I.len⟩
def SN{N:List Str}(g:N.Nodup){i j:Nat}{x:Str}(a:N[i]?=some x)(b:N[j]?=some x):i=j:=by
 obtain⟨o,l⟩:=AC.mp a;obtain⟨A,m⟩:=AC.mp b;exact(kJ g).mp (l.trans m.symm)
def UX{M:Yi}{A:B5}{E:AI->AM->Prop}{i:Nat}{x:Str}{v:V}{u:AI}{Q:Unit->AM->Prop}(I:Inv X ζ σ H s)(hN:X.N.Nodup)(hi:X.N[i]?=some x)(G:Loc X.env.scope x)(r:RelV v u)
  (h:∀s',Inv X ζ (σ.set i (some v)) H s'->(∃a,C8 a s.heap s'.heap/\(a=X.env.locals∨X.env.cells.lookup x=some a))->Q () s') (hf:X.fn x=true∨X.env.scope.names.lookup x=some .local:=by first | exact .inl rfl | exact .inr rfl | assumption):Ag M A (storeName X.env x u) Q E s:=by
 obtain⟨m,hn,hl⟩:=id I.loc
 have S:(X.env.scope.kind==.class||(X.env.scope.kind==.module&&X.env.locals != X.env.globals))=false:=by rw[I.ok.kind];rfl
 have L:i < σ.length:=by rw[I.len];exact(AC.mp hi).1
 have cne:=I.cne
 have l:∀{a:AW} {h':CZ},(∃o,s.heap.get? a=some o/\H a=none)->C8 a s.heap h'->HOk X.prog X.w H h':=λ{a h'} ha g b ob e=>by
  obtain⟨_,_,zz⟩:=ha
  refine(I.hok b ob e).stay (λc w' C q=>(g.2 c ?_).trans q) (λ_ q=>q) λ_ _ q=>q
  rintro rfl
  rcases C with rfl | C
  ·rw[zz]at e;cases e
  ·rw[zz]at C;cases C
 rcases G with O | O
 ·refine wpAny_storeName_local O hn (λh' yf g=>?_) S
  obtain⟨oL,_,_,hoL,_⟩:=id hn;refine h _ ⟨I.ok,I.os,I.bare,⟨λb o e n hb G=>?_,λb o e n hb G=>?_,I.base.free,λb o e G=>?_,I.base.tups,I.base.frzs,I.base.tbls⟩,⟨_,yf,λj y v' B J e3=>?_⟩,λy c e=>?_,I.free,I.freeC,λp hp=>?_,l ⟨oL,hoL,I.free⟩ g,by simpa using I.len⟩ ⟨_,g,.inl rfl⟩
  ·exact(g.2 b (Al (Af (AZ e) I.ok.above))).trans (I.base.keep b o e n hb G)
  ·obtain⟨sl,B⟩:=I.base.slot b o e n hb G
   exact⟨sl,(g.2 b (Al (Af (AZ e) I.ok.above))).trans B⟩
  ·obtain⟨o',B⟩:=I.base.there b o e G
   exact⟨o',(g.2 b (Al (Af (AZ e) I.ok.above))).trans B⟩
  ·by_cases P:j=i
   ·subst P
    rw[hi]at B;cases B;rw[BL L]at J;cases J;exact⟨u,r,.inl ⟨O,by simp⟩⟩
   ·rw[Az (CK P)]at J
    obtain⟨u',r',q⟩:=hl j y v' B J e3;refine⟨u',r',?_⟩
    rcases q with⟨k,e⟩ | ⟨k,c,e,z⟩
    ·refine .inl ⟨k,?_⟩
     have:y≠x:=λe=>P (SN hN B (e▸hi))
     simp[this,e]
    ·exact .inr ⟨k,c,e,z.sameBut g (cne y c e)⟩
  ·obtain⟨w',z⟩:=I.cell y c e
   exact⟨w',z.sameBut g (cne y c e)⟩
  ·obtain⟨e,n,Z,nf,d⟩:=I.pin p hp
   exact⟨(g.2 p.1 Z).trans e,n,Z,nf,d⟩
 ·have R:X.fn x=true:=by
   rcases hf with z | z
   ·exact z
   ·rw[z]at O;cases O
  obtain⟨c,C⟩:=I.ok.has x (.inl O);obtain⟨w',z⟩:=I.cell x c C;refine wpAny_storeName_cell I.ok.kind O C z (λh' zA g=>?_);obtain⟨oc,T,U⟩:=id z;refine h { s with heap:=h' } ⟨I.ok,I.os,I.bare,⟨λb o e n hb G=>?_,λb o e n hb G=>?_,I.base.free,λb o e G=>?_,I.base.tups,I.base.frzs,I.base.tbls⟩,⟨m,hn.sameBut g (CK (cne x c C)),λj y v' B J e3=>?_⟩,λy c' e=>?_,I.free,I.freeC,λp hp=>?_,l ⟨oc,T,I.freeC x c C⟩ g,by simpa using I.len⟩ ⟨c,g,.inr C⟩
  ·exact(g.2 b (Al (Af (AZ e) (I.ok.cab x c R C)))).trans (I.base.keep b o e n hb G)
  ·obtain⟨sl,B⟩:=I.base.slot b o e n hb G
   exact⟨sl,(g.2 b (Al (Af (AZ e) (I.ok.cab x c R C)))).trans B⟩
  ·obtain⟨o',B⟩:=I.base.there b o e G
   exact⟨o',(g.2 b (Al (Af (AZ e) (I.ok.cab x c R C)))).trans B⟩
  ·by_cases P:j=i
   ·subst P
    rw[hi]at B;cases B;rw[BL L]at J;cases J;exact⟨u,r,.inr ⟨.inl O,c,C,zA⟩⟩
   ·rw[Az (CK P)]at J
    obtain⟨u',r',q⟩:=hl j y v' B J e3;refine⟨u',r',?_⟩
    rcases q with q | ⟨k,c',e,z'⟩
    ·exact .inl q
    ·refine .inr ⟨k,c',e,z'.sameBut g ?_⟩
     rintro rfl;exact P (SN hN B (I.ok.inj _ _ _ e C▸hi))
  ·by_cases Y:c'=c
   ·subst Y;exact⟨_,zA⟩
   ·obtain⟨w2,z2⟩:=I.cell y c' e
    exact⟨w2,z2.sameBut g Y⟩
  ·obtain⟨e,n,Z,nf,d⟩:=I.pin p hp
   refine⟨(g.2 p.1 ?_).trans e,n,Z,nf,d⟩;intro q;rw[q,T]at e;have q':oc=p.2:=Cw e;exact d w' (by rw[<-q'];exact U)
def R3(I:Inv X ζ σ H s)(g:X.N.Nodup)(hi:X.N[i]?=some x)(j:Loc X.env.scope x)(r:RelV v u)
  (h:∀s',Inv X ζ (σ.set i (some v)) H s'->Q () s') (l:X.fn x=true∨X.env.scope.names.lookup x=some .local:=by first | exact .inl rfl | exact .inr rfl | assumption):Ag M A (storeName X.env x u) Q E s:=
 UX I g hi j r (λs' m _=>h s' m) l
def Inv.call'(I:Inv X ζ σ H s)(ho:s'.os=s.os)(u:Un (frs X.stack) ch H H' s.heap s'.heap)(g:HOk X.prog X.w H' s'.heap)(j:Jo s'.gens)
  (l:∀b∈ch,(b∈X.ex∨X.s₀.heap.objs.size<=b)/\b≠X.env.locals/\(∀x c,X.env.cells.lookup x=some c->c≠b)/\∀p∈X.pn++ζ,p.1≠b):Inv X ζ σ H' s':=by
 obtain⟨h',g',d',t',m⟩:=s';have e:m=s.os:=ho;subst e;exact I.call (g':=g') (t':=t') (d':=d') u g j l
end
abbrev XK:=AI->Option AW->Hp->Prop
abbrev St:=List (Option V)
abbrev VK:=V->Hp->Prop
abbrev TE:=St->Hp->VK->Prop
abbrev TT:=St->Hp->(Bool->Hp->Prop)->Prop
abbrev TA:=St->Hp->(List V->Hp->Prop)->Prop
structure Zn where
 nx:St->Hp->Prop
 rt:VK
 bk:St->Hp->Prop:=λ_ _=>False
 ct:St->Hp->Prop:=λ_ _=>False
abbrev TS:=Zn->St->Hp->Prop
def EP(X:Cx)(j:List (AW×Obj))(l:St)(Q:VK)(u:AI)(s':AM):Prop:=∃v g,Inv X j l g s'/\RelV v u/\Q v g
def TP(X:Cx)(j:List (AW×Obj))(l:St)(Q:Bool->Hp->Prop)(b:Bool)(s':AM):Prop:=∃g,Inv X j l g s'/\Q b g
def AP(X:Cx)(l:List (AW×Obj))(m:St)(Q:List V->Hp->Prop)(o:List AI)(s':AM):Prop:=∃g j,Inv X l m j s'/\Bx g o/\Q g j
def SP(X:Cx)(l:List (AW×Obj))(D:Zn)(f:Flow)(s':AM):Prop:=
 match f with
 | .next=>∃g j,Inv X l g j s'/\D.nx g j
 | .brk=>∃g j,Inv X l g j s'/\D.bk g j
 | .cont=>∃g j,Inv X l g j s'/\D.ct g j
 | .ret u=>∃v g j,Inv X l g j s'/\RelV v u/\D.rt v j
def PE(X:Cx)(e:Expr)(t:TE):Prop:=
 ∀(j:List (AW×Obj)) (s:AM) (g:St) (H:Hp) (Q:VK),Inv X j g H s->t g H Q->Ag (Ah X.prog X.w) X.A (B1 e X.env) (EP X j g Q) X.xe s
def PT(X:Cx)(e:Expr)(t:TT):Prop:=
 ∀(j:List (AW×Obj)) (s:AM) (g:St) (H:Hp) (Q:Bool->Hp->Prop),Inv X j g H s->t g H Q->Ag (Ah X.prog X.w) X.A (YX e X.env (B1 e X.env)) (TP X j g Q) X.xe s
def PW(X:Cx)(e:Expr)(t:TT):Prop:=
 ∀(g:Sem AI) (l:List (AW×Obj)) (s:AM) (j:St) (H:Hp) (Q:Bool->Hp->Prop),Inv X l j H s->t j H Q->Ag (Ah X.prog X.w) X.A (YX e X.env g) (TP X l j Q) X.xe s
def PW.pt(h:PW X e t):PT X e t:=h _
def PA(X:Cx)(es:List Expr)(t:TA):Prop:=
 ∀(g:Pos) (l:List (AW×Obj)) (s:AM) (j:St) (H:Hp) (Q:List V->Hp->Prop),Inv X l j H s->t j H Q->Ag (Ah X.prog X.w) X.A (ez (DH g (AQ es X.env))) (AP X l j Q) X.xe s
def PS(X:Cx)(st:EF)(t:TS):Prop:=
 ∀(g:List (AW×Obj)) (s:AM) (j:St) (H:Hp) (D:Zn),Inv X g j H s->t D j H->Ag (Ah X.prog X.w) X.A (exec st X.env) (SP X g D) X.xe s
def PSs(X:Cx)(st:List EF)(t:TS):Prop:=
 ∀(g:List (AW×Obj)) (s:AM) (j:St) (H:Hp) (D:Zn),Inv X g j H s->t D j H->Ag (Ah X.prog X.w) X.A (execs st X.env) (SP X g D) X.xe s
def thn{g:Type}{t:Sem g}{Q j:g->AM->Prop}{M:Yi}{A:B5}{E:AI->AM->Prop}{s:AM}(h:Ag M A t Q E s)(l:∀a s,Q a s->j a s):Ag M A t j E s:=E2 h l λ_ _ x=>x
section
variable{X:Cx}
def qU(i:Nat):TE:=λg H Q=>∃v,g[i]?=some (some v)/\Q v H
def tC(v:V):TE:=λ_ H Q=>Q v H
def rB(A:X.N[i]?=some x)(B:Vis X.env.scope x)(hd:(x==("__debug__" : Str))=false:=by decide) (C:(x==("__classdict__" : Str))=false:=by decide):PE X (.Name x pos) (qU i):=by
 intro E s G H Q I h;obtain⟨v,e,h⟩:=h;obtain⟨m,J,L⟩:=I.loc;obtain⟨u,r,l⟩:=L i x v A e B;have fin:EP X E G Q u s:=⟨v,H,I,r,h⟩
 rcases l with⟨g,O⟩ | ⟨g,c,j,o⟩
 ·exact pP (wpAny_loadName_local I.ok.kind g J O fin) hd
 ·rcases g with g | g
  ·exact pP (wpAny_loadName_cell I.ok.kind g j o fin) hd
  ·exact pP (wpAny_loadName_free I.ok.kind g j o fin C) hd
def rH{i j pos}:PE X (.Constant (.int i) j pos) (tC (.int i)):=λ_ _ _ H _ I h=>wpAny_Constant_int ⟨.int i,H,I.tok _,⟨_,rfl⟩,h⟩
def uz{b j pos}:PE X (.Constant (.bool b) j pos) (tC (.bl b)):=λ_ _ _ H _ I h=>Constant_bool ⟨.bl b,H,I,rfl,h⟩
def rF{j pos}:PE X (.Constant .none j pos) (tC .non):=λ_ _ _ H _ I h=>Constant_none ⟨.non,H,I,rfl,h⟩
def rC{x j pos}:PE X (.Constant (.str x) j pos) (tC (.str x)):=λ_ _ _ H _ I h=>Calls.Constant_str ⟨.str x,H,I.tok _,⟨_,rfl⟩,h⟩
def Gl(X:Cx)(x:Str):Prop:=X.env.kindOf x=some .globalImplicit
def PD(I:Inv X l m H s)(g:Gl X x)(j:X.mg x=some u)(h:Q u s)
  (hd:(x==("__debug__" : Str))=false:=by decide):Ag (Ah X.prog X.w) X.A (B1 (.Name x pos) X.env) Q E s:=
 Tk I.ok.kind g (Calls.loadGlobal_global (by rw[I.ok.glob];exact I.mod.glob.keeps I.bk) j h) hd
def Kc(I:Inv X C G H s)(g:Gl X x)(j:X.mg x=none)(l:FX x=some u)(h:Q u s)
  (m:x≠"__name__":=by decide) (hd:(x==("__debug__" : Str))=false:=by decide):Ag (Ah X.prog X.w) X.A (B1 (.Name x pos) X.env) Q E s:=by
 obtain⟨J,o,B⟩:=I.mod.blt;exact Tk I.ok.kind g (Calls.loadGlobal_builtin (by rw[I.ok.glob];exact I.mod.glob.keeps I.bk) j (by rw[I.ok.blt];exact o.keeps I.bk) ((B x m).trans l) h) hd
def Nh(g:Gl X x)(j:X.mg x=some u)(r:RelV v u)(hd:(x==("__debug__" : Str))=false:=by decide):PE X (.Name x pos) (tC v):=
 λ_ _ _ H _ I h=>PD I g j ⟨v,H,I,r,h⟩ hd
def mq(g:Gl X x)(j:X.mg x=none)(l:FX x=some u)(r:RelV v u)(m:x≠"__name__":=by decide) (hd:(x==("__debug__" : Str))=false:=by decide):PE X (.Name x pos) (tC v):=
 λ_ _ _ H _ I h=>Kc I g j l ⟨v,H,I,r,h⟩ m hd
variable{a b:Expr}{ta tb:TE}{pos:Pos}
def PC(X:Cx)(o:CmpOp)(a b:Expr)(t:TE):Prop:=
 ∀(m:List (AW×Obj)) (s:AM) (l:St) (H:Hp) (Q:VK),Inv X m l H s->t l H Q ->
  Ag (Ah X.prog X.w) X.A (B1 a X.env) (λv g=>Ag (Ah X.prog X.w) X.A (B1 b X.env) (λu j=>Ag (Ah X.prog X.w) X.A (CJ o v u) (EP X m l Q) X.xe j) X.xe g) X.xe s
def tB(t:TE):TT:=λg H Q=>t g H λx j=>∃c,x=.bl c/\Q c j
def rK(h:PC X g a b t)(j:Cu g b=false:=by first | exact nobehind _ (by decide) (by decide) | rfl):PE X (.Compare a [g] [b] pos) t:=λl s m H Q I hw=>wpAny_Compare1 (h l s m H Q I hw) j
def hU(h:PC X j a b t)(g:Cu j b=false:=by first | exact nobehind _ (by decide) (by decide) | rfl):PT X (.Compare a [j] [b] pos) (tB t):=by
 intro l s m H Q I hw;refine kD (thn (h l s m H _ I hw) λv G g=>thn g λu J o=>thn o λc L ⟨x,A,B,C,E⟩=>?_) g;obtain⟨d,rfl,q⟩:=E;cases C;exact C7 ⟨A,B,q⟩
def qq(h:PE X e t)(j:∀g,YX e X.env g=(do let v <-g;YG e.pos;Kq [v] (pR v)):=by intro _;rfl):PT X e (tB t):=by
 intro l s m H Q I hw;refine isTrue_plain (thn (h l s m H _ I hw) λv E ⟨x,o,A,B,C⟩=>?_) (j _);obtain⟨d,rfl,q⟩:=C;cases B;exact C7 ⟨o,A,q⟩
variable{tA tB':TT}{rest:List Expr}
def uf(t u:TT):TT:=λg H Q=>t g H λc j=>if c=true then u g j Q else Q false j
def tOr(t u:TT):TT:=λg H Q=>t g H λc j=>if c=true then Q true j else u g j Q
def tNot(t:TT):TT:=λg H Q=>t g H λc j=>Q (!c) j
def mF(g:PT X a tA):PW X (.BoolOp .And [a] pos) tA:=by
 intro m j s l H Q I h;refine isTrue_and (thn (g j s l H Q I h) λc o e=>?_)
 cases c with
 | true=>exact isTrue_and_nil e
 | false=>exact e
def qm(g:PT X a tA):PW X (.BoolOp .Or [a] pos) tA:=by
 intro m j s l H Q I h;refine isTrue_or (thn (g j s l H Q I h) λc o e=>?_)
 cases c with
 | false=>exact isTrue_or_nil e
 | true=>exact e
def qo(A:PT X a tA)(hb:PW X (.BoolOp .And (b :: rest) pos) tB'):PW X (.BoolOp .And (a :: b :: rest) pos) (uf tA tB'):=by
 intro B g s j H Q I h;refine isTrue_and (thn (A g s j H _ I h) λc C ⟨l,m,o⟩=>?_)
 cases c with
 | true=>exact hb B g C j l Q m o
 | false=>exact⟨l,m,o⟩
def ut(A:PT X a tA)(hb:PW X (.BoolOp .Or (b :: rest) pos) tB'):PW X (.BoolOp .Or (a :: b :: rest) pos) (tOr tA tB'):=by
 intro B g s j H Q I h;refine isTrue_or (thn (A g s j H _ I h) λc C ⟨l,m,o⟩=>?_)
 cases c with
 | true=>exact⟨l,m,o⟩
 | false=>exact hb B g C j l Q m o
def qr(g:PT X a tA):PT X (.UnaryOp .Not a pos) (tNot tA):=by
 intro j s l H Q I h;exact isTrue_not (g j s l H (λc m=>Q (!c) m) I h)
def ue(ta tb:TE):TE:=λg H Q=>ta g H λx j=>∃c,x=.bl c/\if c=true then tb g j Q else Q (.bl false) j
def tOrV(ta tb:TE):TE:=λg H Q=>ta g H λx j=>∃c,x=.bl c/\if c=true then Q (.bl true) j else tb g j Q
def rE{g}{t}(h:PE X a t):PE X (.BoolOp g [a] pos) t:=λj s l H Q I hw=>BoolOp_one (h j s l H Q I hw)
def rL(A:PE X a ta)(hb:PE X (.BoolOp .And (b :: rest) pos) tb):PE X (.BoolOp .And (a :: b :: rest) pos) (ue ta tb):=by
 intro j s l H Q I h;refine BoolOp_and (thn (A j s l H _ I h) λv B ⟨x,m,o,C,g⟩=>?_);obtain⟨c,rfl,g⟩:=g;cases C;refine C7 ?_
 cases c with
 | true=>exact hb j B l m Q o g
 | false=>exact⟨.bl false,m,o,rfl,g⟩
def uw(A:PE X a ta)(hb:PE X (.BoolOp .Or (b :: rest) pos) tb):PE X (.BoolOp .Or (a :: b :: rest) pos) (tOrV ta tb):=by
 intro j s l H Q I h;refine BoolOp_or (thn (A j s l H _ I h) λv B ⟨x,m,o,C,g⟩=>?_);obtain⟨c,rfl,g⟩:=g;cases C;refine C7 ?_
 cases c with
 | false=>exact hb j B l m Q o g
 | true=>exact⟨.bl true,m,o,rfl,g⟩
end
def SqL(K:AJ)(H:Hp)(a:AW)(xs:List V):Prop:=
 Rd H a (.lst xs) ∨
  ∃(o:Obj) (g:Array AI) (n:Nat),K.lookup a=some o/\o.cls=.type "list"/\o.dict=none/\o.data=.seq g n/\g.size<=sizeLine/\Bx xs g.toList
def SqT(K:AJ)(H:Hp)(a:AW)(xs:List V):Prop:=
 Rd H a (.tup xs) ∨
  ∃(o:Obj) (g:Array AI) (n:Nat),K.lookup a=some o/\o.cls=.type "tuple"/\o.data=.seq g n/\g.size<=sizeLine/\Bx xs g.toList
noncomputable def absV:AI->Option V
 | .none=>some .non
 | .bool b=>some (.bl b)
 | .int i _=>some (.int i)
 | .str x _=>some (.str x)
 | .bytes b _=>some (.byt b)
 | .float b _=>some (.flt b)
 | .ref a=>some (.ref a)
 | .type n=>some (.ty n)
 | _=>none
def RelV.abs(r:RelV x u):absV u=some x:=by
 cases x with
 | non=>cases r;rfl
 | bl _=>cases r;rfl
 | int _=>obtain⟨t,rfl⟩:=r;rfl
 | str _=>obtain⟨t,rfl⟩:=r;rfl
 | byt _=>obtain⟨t,rfl⟩:=r;rfl
 | flt _=>obtain⟨t,rfl⟩:=r;rfl
 | ref _=>cases r;rfl
 | ty _=>cases r;rfl
def RelV.inj(r:RelV x u)(q:RelV y u):x=y:=Cw (r.abs.symm.trans q.abs)
def Bx.inj:∀{xs ys:List V} {g:List AI},Bx xs g->Bx ys g->xs=ys
 | _,_,_,.nil,.nil=>rfl
 | _,_,_,.cons r t,.cons j l=>by rw[r.inj j,Bx.inj t l]
section
variable{X:Cx}{ζ:List (AW×Obj)}{σ:St}{H:Hp}{s:AM}{a:AW}{xs ys:List V}
def Inv.list(I:Inv X ζ σ H s)(h:SqL X.K H a xs):∃g:List AI,Bx xs g/\PlainL s.heap a g.toArray/\xs.length<=sizeLine:=by
 rcases h with h | ⟨o,g,n,j,l,hd,m,A,r⟩
 ·obtain⟨z,g,n,r,e⟩:=h.ok I.hok
  exact⟨g,r,⟨_,n,e,rfl,rfl,rfl⟩,z⟩
 ·refine⟨g.toList,r,⟨o,n,I.kIn a o j,l,hd,by simpa using m⟩,?_⟩
  have e:=r.length;simp only[BM]at e
  lia
def Inv.tuple(I:Inv X ζ σ H s)(h:SqT X.K H a xs):∃g:List AI,Bx xs g/\kb s.heap a g.toArray/\xs.length<=sizeLine:=by
 rcases h with h | ⟨o,g,n,j,l,m,A,r⟩
 ·obtain⟨z,g,r,p⟩:=h.ok I.hok
  exact⟨g,r,p,z.1⟩
 ·refine⟨g.toList,r,⟨o,I.kIn a o j,l,n,by simpa using m⟩,?_⟩
  have e:=r.length;simp only[BM]at e
  lia
def Inv.list_inj(I:Inv X ζ σ H s)(h:SqL X.K H a xs)(h':SqL X.K H a ys):xs=ys:=by
 obtain⟨l,r,⟨o,n,e,_,_,d⟩,_⟩:=I.list h;obtain⟨its',m,⟨A,B,g,_,_,j⟩,_⟩:=I.list h';rw[e]at g;cases g;rw[d]at j
 injection j with d1 _
 have:l=its':=by simpa using congrArg pp d1
 subst this;exact r.inj m
def Inv.tuple_inj(I:Inv X ζ σ H s)(h:SqT X.K H a xs)(h':SqT X.K H a ys):xs=ys:=by
 obtain⟨l,r,⟨o,e,_,n,d⟩,_⟩:=I.tuple h;obtain⟨its',m,⟨A,g,_,B,j⟩,_⟩:=I.tuple h';rw[e]at g;cases g;rw[d]at j
 injection j with d1 _
 have:l=its':=by simpa using congrArg pp d1
 subst this;exact r.inj m
end
section
variable{X:Cx}{st:EF}{rest:List EF}{t u:TS}{e:Expr}{te:TE}{pos:Pos}
def uT:TS:=λD g H=>D.nx g H
def tSeq(t u:TS):TS:=λD g H=>t { D with nx:=u D } g H
def mJ:PSs X [] uT:=λ_ _ g H _ I h=>KL ⟨g,H,I,h⟩
def hX(l:PS X st t)(m:PSs X rest u):PSs X (st :: rest) (tSeq t u):=by
 intro j s o H D I h;refine t6 (thn (l j s o H { D with nx:=u D } I h) λf A q=>?_)
 cases f with
 | next=>
  obtain⟨g,B,C,q⟩:=q;exact m j A g B D C q
 | ret v=>exact q
 | brk=>exact q
 | cont=>exact q
def mI(g:PS X st t):PSs X [st] t:=by
 intro j s l H D I h;refine t6 (thn (g j s l H D I h) λf m q=>?_)
 cases f with
 | next=>exact KL q
 | ret v=>exact q
 | brk=>exact q
 | cont=>exact q
def Inv.quiet(I:Inv X g j H s):interactive X.env=false:=by simp[interactive,I.ok.kind]
def uV(te:TE):TS:=λD g H=>te g H λ_ j=>D.nx g j
def mK(j:PE X e te)(l:Gx e none pos.line X.env=pure false:=by rfl):PS X (.Expr e pos) (uV te):=by
 intro m s g H D I h;exact wpAny_Expr_any (thn (j m s g H _ I h) λv C ⟨x,o,A,E,B⟩=>⟨g,o,A,B⟩) I.quiet l
def tRet(te:TE):TS:=λD g H=>te g H D.rt
def qu(j:PE X e te):PS X (.Return (some e) pos) (tRet te):=by
 intro l s g H D I h;exact wpAny_Return_some (thn (j l s g H _ I h) λv C ⟨x,m,o,A,B⟩=>⟨x,g,m,o,A,B⟩)
def tIfS(c:TT)(t u:TS):TS:=λD g H=>c g H λb j=>if b=true then t D g j else u D g j
def uu(B:PT X c tc)(C:PSs X a t)(hb:PSs X b u):PS X (.If c a b pos) (tIfS tc t u):=by
 intro g s j H D I h;refine wpAny_If (thn (B g s j H _ I h) λd l ⟨m,o,A⟩=>?_)
 cases d with
 | true=>exact C g l j m D o A
 | false=>exact hb g l j m D o A
def qW:TS:=λ_ _ _=>False
def iB:PS X st qW:=λ_ _ _ _ _ _ h=>h.elim
end
abbrev TG:=V->St->Hp->(St->Hp->Prop)->Prop
abbrev TGs:=List V->St->Hp->(St->Hp->Prop)->Prop
def PG(X:Cx)(o:Expr)(t:TG):Prop:=
 ∀(j:List (AW×Obj)) (s:AM) (l:St) (H:Hp) (v:V) (u:AI) (Q:St->Hp->Prop),Inv X j l H s->RelV v u->t v l H Q ->
  Ag (Ah X.prog X.w) X.A (OM o X.env u) (λ_ B=>∃g m,Inv X j g m B/\Q g m) X.xe s
def PGs(X:Cx)(ts:List Expr)(t:TGs):Prop:=
 ∀(j:List (AW×Obj)) (s:AM) (l:St) (H:Hp) (m:List V) (o:List AI) (Q:St->Hp->Prop),Inv X j l H s->Bx m o->t m l H Q ->
  Ag (Ah X.prog X.w) X.A (assignInOrder ((FY ts X.env).map (·.2)) o) (λ_ C=>∃g B,Inv X j g B C/\Q g B) X.xe s
abbrev ve:=V->V->V->Hp->(Hp->Prop)->Prop
def vh(X:Cx)(t:ve):Prop:=
 ∀(g:List (AW×Obj)) (s:AM) (j:St) (H:Hp) (o i v:V) (l iv u:AI) (Q:Hp->Prop),Inv X g j H s->RelV o l->RelV i iv->RelV v u->t o i v H Q ->
  Ag (Ah X.prog X.w) X.A (tU l iv u) (λ_ B=>∃m,Inv X g j m B/\Q m) X.xe s
section
variable{X:Cx}{pos:Pos}
def ay(i:Nat):TG:=λv g H Q=>Q (g.set i (some v)) H
def mV(g:X.N.Nodup)(hi:X.N[i]?=some x)(j:Loc X.env.scope x)(l:X.fn x=true∨X.env.scope.names.lookup x=some .local:=by first | exact .inl rfl | exact .inr rfl | assumption):PG X (.Name x pos) (ay i):=by
 intro o s A H v u Q I r h;exact tR (R3 I g hi j r (λB m=>⟨_,H,m,h⟩) l)
def gNil:TGs:=λg j H Q=>g=[]/\Q j H
def vV(t:TG)(u:TGs):TGs:=λj l H Q=>∃v r,j=v :: r/\t v l H λg m=>u r g m Q
def mU:PGs X [] gNil:=by
 intro j s g H l m Q I r h;obtain⟨e,h⟩:=h;subst e;cases r;exact assignInOrder_nil ⟨g,H,I,h⟩
def iJ(l:PG X e t)(m:PGs X es u)
  (o:(FY (e :: es) X.env).map (·.2)=OM e X.env :: (FY es X.env).map (·.2):=by rfl):PGs X (e :: es) (vV t u):=by
 intro j s A H N O Q I r h;obtain⟨v,P,B,h⟩:=h;subst B
 cases r with
 | cons r C=>
  rw[o];refine assignInOrder_cons (thn (l j s A H _ _ _ I r h) λ_ E ⟨g,G,J,L⟩=>?_);exact m j E g G _ _ Q J C L
def gTup(K:AJ)(n:Nat)(t:TGs):TG:=λv j H Q=>∃a g,v=.ref a/\SqT K H a g/\g.length=n/\t g j H Q
def q9(m:X.calm=true)(h:PGs X es t)
  (A:(FY es X.env).length=n:=by rfl) (B:(FY es X.env).findIdx? (·.1)=none:=by rfl):PG X (.Tuple es k pos) (gTup X.K n t):=by
 intro g s j H v u Q I r hw;obtain⟨a,C,E,G,J,hw⟩:=hw;subst E;cases r;obtain⟨R,l,L,S⟩:=I.tuple G
 refine assign_Tuple_tuple (I.ok.hd m) L (by simp[A,<-J,l.length]) B λN O=>?_
 have P:Inv X g j H { s with heap:=N }:=I.kept (t':=s.toks) λb o e=>O b o (Al (AZ e)) e
 exact h g _ j H C _ Q P (by simpa using l) hw
def gSub(to j:TE)(t:ve):TG:=λv g H Q=>to g H λo l=>j g l λi m=>t o i v m λs=>Q g s
def rA(ho:PE X o to)(hi:PE X i m)(A:vh X t)
  (B:∀v,OM (.Subscript o i pos) X.env v=(do
   let g <-Kq [v] (B1 o X.env)
   let iv <-Kq [v,g] (B1 i X.env)
   YG pos
   Kq [v,g,iv] (tU g iv v)
   release [v,g,iv] []):=by intro _;rfl):PG X (.Subscript o i pos) (gSub to m t):=by
 intro l s j H v u Q I r h;rw[B];refine AA (CP (thn (ho l s j H _ I h) λg C ⟨x,E,G,J,L⟩=>?_));refine AA (CP (thn (hi l C j E _ G L) λiv N ⟨y,O,P,R,S⟩=>?_));refine AA (bM (AA (CP (thn (A l N j O x y v g iv u _ P J R r S) λ_ Z ⟨T,U,Y⟩=>?_))));exact wpAny_release ⟨j,T,U,Y⟩
def qc(te:TE)(g:TG):TS:=λD j H=>te j H λx l=>g x j l D.nx
def qy(o:PE X e te)(A:PG X j g)(B:swapsWithSole [j] e pos.line X.env=pure false:=by rfl)(hw:swappedStores [j] e X.env=pure none:=by rfl)
  (C:(FY [j] X.env).map (·.2)=[OM j X.env]:=by rfl):PS X (.Assign [j] e pos) (qc te g):=by
 intro l s m H D I h;refine wpAny_Assign_stores (thn (o l s m H _ I h) λv E ⟨x,G,J,L,N⟩=>?_) B hw;rw[C]
 exact thn (A l E m G x v _ J L N) λ_ O q=>q
def qt(j:X.N.Nodup)(hi:X.N[i]?=some x)(l:Loc X.env.scope x)(m:PE X e te)(o:Gx e (some (.Name x g)) pos.line X.env=pure false:=by rfl)(A:X.fn x=true∨X.env.scope.names.lookup x=some .local:=by first | exact .inl rfl | exact .inr rfl | assumption) :
  PS X (.Assign [.Name x g] e pos) (qc te (ay i)):=by
 intro B s C H D I h;refine wpAny_Assign_Name (thn (m B s C H _ I h) λv P ⟨y,E,G,J,L⟩=>?_) o;exact R3 G j hi l J (λQ O=>⟨_,E,O,L⟩) A
def qT(c:TT)(A:TS):TS:=λD g H=>∃W:Nat->St->Hp->Prop,(∃m,W m g H)/\∀m g H,W m g H ->
 c g H λb l=>if b=true then ∃N:St->Hp->Prop,(∀j o,N j o->∃s,s < m/\W s j o)/\A { D with nx:=N,ct:=N,bk:=D.nx } g l else D.nx g l
def iA(Q:QV (Ah X.prog X.w) X.A X.env X.xe)(Z:PT X c tc)(hb:PSs X body tb):PS X (.While c body [] pos) (qT tc tb):=by
 intro E s σ H D I h;obtain⟨W,⟨m0,w0⟩,l⟩:=h;refine wpAny_While (codeAny_whileLoop (λn s'=>∃m R,Inv X E m R s'/\W n m R) ?_ m0 ⟨σ,H,I,w0⟩);rintro n s1 ⟨j,S,I1,w1⟩;refine Fm Q (thn (Z E s1 j S _ I1 (l n j S w1)) λb s2 ⟨T,U,B⟩=>?_)
 cases b with
 | true=>
  obtain⟨N,Y,B⟩:=B;rw[qX rfl];refine Fm Q (thn (hb E s2 j T _ U B) λf s3 C=>?_)
  cases f with
  | next=>
   obtain⟨g,o,G,J⟩:=C;obtain⟨L,O,P⟩:=Y g o J;exact⟨L,O,g,o,G,P⟩
  | cont=>
   obtain⟨g,o,G,J⟩:=C;obtain⟨L,O,P⟩:=Y g o J;exact⟨L,O,g,o,G,P⟩
  | brk=>exact C
  | ret v=>exact C
 | false=>
  rw[qY AV];exact KL ⟨j,T,U,B⟩
end
structure It where
 go:Nat->Hp->Prop
 yld:Nat->Hp->V->Hp->Prop
 stop:Nat->Hp->Prop
def Of(X:Cx)(g:List (AW×Obj))(H:Hp)(b:AW):Prop:=
 H b=none/\b≠X.env.locals/\b∉X.fs/\(b∈X.ex∨X.s₀.heap.objs.size<=b)/\(∀x c,X.env.cells.lookup x=some c->c≠b)/\∀p∈X.pn++g,p.1≠b
def Inv.fpOk(I:Inv X g o H s)(hb:s.heap.objs.size<=b)(j:l b=none):Of X g l b:=by
 refine⟨j,FJ (Af I.lt hb),I.nofs hb,.inr (Ap I.sz hb),λx c e z=>?_,λp m z=>?_⟩
 ·obtain⟨v,q⟩:=I.cell x c e
  exact zX (Af q.lt (by rw[z];exact hb)) (Db _)
 ·exact zX (Af (AZ (I.pin p m).1) (by rw[z];exact hb)) (Db _)
structure Zj(P:Bq)(w:CQ)(K:AJ)(tg:Expr)(J:It)(fp:List AW)(it:AW)(tn:Nat->CZ->Prop):Prop where
 mem:it∈fp
 obj:∀i h,tn i h->∀b∈fp,∃o,h.get? b=some o/\∀v,o.data≠.cell v
 keep:∀i h h',tn i h->(∀b∈fp,∀o,h.get? b=some o->h'.get? b=some o)->tn i h'
 item:∀(X:Cx),X.prog=P->X.w=w->X.K=K->X.calm=true->∀(i:Nat) (ζ:List (AW×Obj)) (s:AM) (σ:St) (H:Hp) (E:AI->AM->Prop),Inv X ζ σ H s->(∀b∈fp,Of X ζ H b)->tn i s.heap->J.go i H ->
  Ag (Ah P w) X.A (G3 (.ref it)) (λr s1=>∃u,r=some u /\
   Ag (Ah P w) X.A (Oh tg (.ref it) u) (λ_ s2=>∃x H',Inv X ζ σ H' s2/\RelV x u/\J.yld i H x H'/\tn (i+1) s2.heap/\∀b∈fp,H' b=none) E s1) E s
 done:∀(X:Cx),X.prog=P->X.w=w->X.K=K->X.calm=true->∀(i:Nat) (ζ:List (AW×Obj)) (s:AM) (σ:St) (H:Hp) (E:AI->AM->Prop),Inv X ζ σ H s->(∀b∈fp,Of X ζ H b)->tn i s.heap->J.stop i H ->
  Ag (Ah P w) X.A (G3 (.ref it)) (λr s1=>r=none/\Inv X ζ σ H s1) E s
 self:∀(A:B5) (i:Nat) (s:AM) (Q:AI->AM->Prop) (E:AI->AM->Prop),tn i s.heap->Q (.ref it) s->Ag (Ah P w) A (VC (.ref it)) Q E s
abbrev TI:=St->Hp->(It->Hp->Prop)->Prop
def PIE(X:Cx)(l:List (AW×Obj))(A:St)(B:Expr)(R:It->Hp->Prop)(g:AI)(m:AM):Prop:=
 ∃(it:AW) (o:List AW) (s:Nat->CZ->Prop) (J:It) (j:Hp),g=.ref it/\Inv X l A j m/\Zj X.prog X.w X.K B J o it s/\s 0 m.heap/\(∀b∈o,Of X l j b)/\R J j
def PI(X:Cx)(l iter:Expr)(m:TI):Prop:=
 ∀(j:List (AW×Obj)) (s:AM) (g:St) (H:Hp) (R:It->Hp->Prop),Inv X j g H s->m g H R ->
  Ag (Ah X.prog X.w) X.A (B1 iter X.env) (λv o=>Ag (Ah X.prog X.w) X.A (VC v) (PIE X j g l R) X.xe o) X.xe s
def jS(ho:s.heap.get? it=some o)(j:o.cls=.type n)(hd:o.data=.fields l)
  (m:["enumerate", "zip", "dict_itemiterator", "dict_reverseitemiterator", "odict_iterator", "itertools.zip_longest", "itertools.pairwise"].contains n=false) (g:Q () s):Ag M A (Oh B (.ref it) u) Q E s:=by
 unfold Oh
 cases B <;> first
  | exact AE g
  | (cases u <;> first
    | exact AE g
    | (refine AA (pO ho ?_)
       rw[j,hd];show Ag M A (if (["enumerate", "zip", "dict_itemiterator", "dict_reverseitemiterator", "odict_iterator", "itertools.zip_longest", "itertools.pairwise"].contains n&&l[0]?==some (Eo _))=true then _ else _) Q E s;rw[qY (by intro h;rw[m,oq]at h;cases h)]
       exact AE g))
def Itl(K:AJ)(a:AW):It:=
 ⟨λi H=>∃g x,SqL K H a g/\g[i]?=some x,λi H x j=>j=H/\∀g,SqL K H a g->g[i]?=some x,λi H=>∃g,SqL K H a g/\g.length<=i⟩
def Itt(K:AJ)(a:AW):It:=
 ⟨λi H=>∃g x,SqT K H a g/\g[i]?=some x,λi H x j=>j=H/\∀g,SqT K H a g->g[i]?=some x,λi H=>∃g,SqT K H a g/\g.length<=i⟩
def Itr(lo:Int)(n:Nat):It:=⟨λi _=>i < n,λi H x g=>g=H/\x=.int (lo+i),λi _=>n<=i⟩
def bw{P}{w}{K}{Y}(a it:AW):Zj P w K Y (Itl K a) [it] it (λi h=>h.IsListIter it a i) where
 mem:=by simp
 obj:=λi h st b hb=>by
  have e:b=it:=by simpa using hb
  subst e;obtain⟨o,e,c,d⟩:=st;exact⟨o,e,λv z=>by rw[d]at z;cases z⟩
 keep:=λi h j st k=>st.at λo e=>k it (by simp) o e
 item:=by
  intro X A hw B S i T s U H E I l st C;subst A hw B;obtain⟨Z,x,m,G⟩:=C;obtain⟨tx,J,p,hz⟩:=I.list m;obtain⟨u,hu,ru⟩:=J.get G;obtain⟨L,N,f2,O,Q,R⟩:=l it (by simp)
  refine wpAny_pyNext_list_item st p.isList (x:=u) (by simpa using hu) λj g sb=>?_
  have I1:Inv X T U H { s with heap:=j }:=I.turned (t':=s.toks) (λb o hb e=>(sb.2 b hb).trans e) L N O Q R;obtain⟨o,e,c,d⟩:=id g;exact⟨u,rfl,jS (s:={ s with heap:=j }) e c d (by decide) ⟨x,H,I1,ru,⟨rfl,λys hy=>by rw[I.list_inj hy m];exact G⟩,g,λb hb=>(l b hb).1⟩⟩
 done:=by
  intro X A hw B S i T s U H E I l st C;subst A hw B;obtain⟨Z,m,G⟩:=C;obtain⟨tx,J,p,hz⟩:=I.list m;obtain⟨L,N,f2,O,Q,R⟩:=l it (by simp);have hl:=J.length
  exact wpAny_pyNext_list_end (I.ok.hd S) st p.isList (by simp;lia) λj eb=>⟨rfl,I.turned (t':=s.toks) (λb o hb e=>eb b o hb e) L N O Q R⟩
 self:=λ_ _ _ _ _ st h=>wpAny_pyIter_listiter st h
def Yt{P}{w}{K}{Z}(a it:AW):Zj P w K Z (Itt K a) [it] it (λi h=>h.IsTupleIter it a i) where
 mem:=by simp
 obj:=λi h st b hb=>by
  have e:b=it:=by simpa using hb
  subst e;obtain⟨o,e,c,d⟩:=st;exact⟨o,e,λv z=>by rw[d]at z;cases z⟩
 keep:=λi h j st k=>st.at λo e=>k it (by simp) o e
 item:=by
  intro X A hw B T i U s Y H E I l st C;subst A hw B;obtain⟨xs,x,m,G⟩:=C;obtain⟨J,L,p,hz⟩:=I.tuple m;obtain⟨u,hu,ru⟩:=L.get G;obtain⟨N,O,f2,Q,R,S⟩:=l it (by simp)
  refine wpAny_pyNext_tuple_item st (show s.heap.IsTuple a J.toArray from p) (x:=u) (by simpa using hu) λj g sb=>?_
  have I1:Inv X U Y H { s with heap:=j }:=I.turned (t':=s.toks) (λb o hb e=>(sb.2 b hb).trans e) N O Q R S;obtain⟨o,e,c,d⟩:=id g;exact⟨u,rfl,jS (s:={ s with heap:=j }) e c d (by decide) ⟨x,H,I1,ru,⟨rfl,λys hy=>by rw[I.tuple_inj hy m];exact G⟩,g,λb hb=>(l b hb).1⟩⟩
 done:=by
  intro X A hw B T i U s Y H E I l st C;subst A hw B;obtain⟨xs,m,G⟩:=C;obtain⟨J,L,p,hz⟩:=I.tuple m;obtain⟨N,O,f2,Q,R,S⟩:=l it (by simp);have hl:=L.length
  exact wpAny_pyNext_tuple_end (I.ok.hd T) st (show s.heap.IsTuple a J.toArray from p) (by simp;lia) λj eb=>⟨rfl,I.turned (t':=s.toks) (λb o hb e=>eb b o hb e) N O Q R S⟩
 self:=λ_ _ _ _ _ st h=>wpAny_pyIter_tupleiter st h
def Yu{P}{w}{K}{S}(it:AW)(lo:Int)(n:Nat):Zj P w K S (Itr lo n) [it] it (λi h=>IsRangeIter h it (lo+(i:Nat) * 1) ((n:Int) - (i:Nat)) 1) where
 mem:=by simp
 obj:=λi h st b hb=>by
  have e:b=it:=by simpa using hb
  subst e
  exact⟨_,st,λv z=>by
   have T:uL _=Data.cell v:=z
   cases T⟩
 keep:=λi h j st k=>k it (by simp) _ st
 item:=by
  intro X m hw A B i Q s R H E I l st C;subst m hw A;obtain⟨G,J,U,L,N,O⟩:=l it (by simp);have W:=Walks.range (prog:=X.prog) (w:=X.w) (I.ok.hd B) it lo 1 n
  refine W.item i s _ _ C st λv j tk Y g Z=>?_
  obtain⟨t,rfl⟩:=Y;have I1:Inv X Q R H { s with heap:=j,toks:=tk }:=I.turned (λb o hb e=>Z b o (by simpa using hb) e) G J L N O;refine⟨_,rfl,jS (s:={ s with heap:=j,toks:=tk }) (n:="range_iterator") g rfl rfl (by decide) ⟨.int (lo+i),H,I1,⟨t,?_⟩,⟨rfl,rfl⟩,g,λb hb=>(l b hb).1⟩⟩;rw[wG]
 done:=by
  intro X m hw A B i Q s R H E I l st C;subst m hw A;obtain⟨G,J,U,L,N,O⟩:=l it (by simp)
  exact wpAny_pyNext_range_end (I.ok.hd B) st (by have:n<=i:=C;lia) λj eb=>⟨rfl,I.turned (t':=s.toks) (λb o hb e=>eb b o hb e) G J L N O⟩
 self:=λ_ _ _ _ _ st h=>wpAny_pyIter_rangeiter st h
section
variable{X:Cx}
def vR(K:AJ)(j:TE):TI:=λl H R=>j l H λx g=>∃a,x=.ref a/\(∃m,SqL K g a m)/\R (Itl K a) g
def iTup(K:AJ)(j:TE):TI:=λl H R=>j l H λx g=>∃a,x=.ref a/\(∃m,SqT K g a m)/\R (Itt K a) g
def mT{l}{m}(A:PE X l m):PI X N l (vR X.K m):=by
 intro B s C H R I h
 refine thn (A B s C H _ I h) λv g ⟨x,E,j,G,J⟩=>?_
 obtain⟨a,e,⟨O,L⟩,q⟩:=J;subst e;cases G;obtain⟨P,Q,p,S⟩:=j.list L;refine MW p.isList ?_;refine⟨g.heap.objs.size,[g.heap.objs.size],_,_,E,rfl,j.kept (t':=g.toks) λb o e=>AF _ e,bw a _,⟨_,AR _ rfl,rfl,rfl⟩,λb hb=>?_,q⟩
 have e:b=g.heap.objs.size:=by simpa using hb
 subst e;exact j.fpOk (AL _) (j.hok.fresh (AL _))
def qz{l}{m}(A:PE X l m):PI X O l (iTup X.K m):=by
 intro B s C H R I h
 refine thn (A B s C H _ I h) λv g ⟨x,E,j,G,J⟩=>?_
 obtain⟨a,e,⟨P,L⟩,q⟩:=J;subst e;cases G;obtain⟨N,Q,p,S⟩:=j.tuple L;refine Df (show g.heap.IsTuple a N.toArray from p) ?_;refine⟨g.heap.objs.size,[g.heap.objs.size],_,_,E,rfl,j.kept (t':=g.toks) λb o e=>AF _ e,Yt a _,⟨_,AR _ rfl,rfl,rfl⟩,λb hb=>?_,q⟩
 have e:b=g.heap.objs.size:=by simpa using hb
 subst e;exact j.fpOk (AL _) (j.hok.fresh (AL _))
def XW{g}{j}{H}{s}{R}{E}{lo hi}{t u v}{tk}(I:Inv X g j H s)(m:-(2 ^ 62)<=lo)(B:lo < 2 ^ 62)(C:-(2 ^ 62)<=hi)(G:hi < 2 ^ 62)
  (q:R (Itr lo (hi - lo).toNat) H):Ag (Ah X.prog X.w) X.A (VC (.ref s.heap.objs.size)) (PIE X g j N R) E { s with heap:=s.heap.push { cls:=.type "range",data:=.fields #[.int lo t,.int hi u,.int 1 v] },toks:=tk }:=by
 refine wpAny_pyIter_range (oj ..) (small_one m B C G) ?_
 have l:Inv X g j H { s with heap:=s.heap.push { cls:=.type "range",data:=.fields #[.int lo t,.int hi u,.int 1 v] },toks:=tk }:=I.kept λb o e=>AF _ e
 refine⟨(s.heap.push { cls:=.type "range",data:=.fields #[.int lo t,.int hi u,.int 1 v] }).objs.size,[(s.heap.push { cls:=.type "range",data:=.fields #[.int lo t,.int hi u,.int 1 v] }).objs.size],_,_,H,rfl,
  l.kept (t':=tk) λb o e=>AF _ e,Yu _ lo (hi - lo).toNat,?_,λb hb=>?_,q⟩
 ·have J:lo+((0:Nat):Int) * 1=lo:=by simp
  have L:(((hi - lo).toNat:Nat):Int) - ((0:Nat):Int)=Qa lo hi 1:=by rw[rangeSize_one];split <;> lia
  show IsRangeIter _ _ (lo+((0:Nat):Int) * 1) ((((hi - lo).toNat:Nat):Int) - ((0:Nat):Int)) 1;rw[J,L];exact AR _ rfl
 ·have e:b=(s.heap.push { cls:=.type "range",data:=.fields #[.int lo t,.int hi u,.int 1 v] }).objs.size:=by simpa using hb
  subst e;exact l.fpOk (AL _) (l.hok.fresh (AL _))
def vP(g:TA):TI:=λl H R=>g l H λm o=>∃j:Int,m=[.int j]/\-(2 ^ 62)<=j/\j < 2 ^ 62/\R (Itr 0 j.toNat) o
def vO(g:TA):TI:=λl H R=>g l H λm o=>∃i j:Int,m=[.int i,.int j]/\(-(2 ^ 62)<=i/\i < 2 ^ 62/\-(2 ^ 62)<=j/\j < 2 ^ 62)/\R (Itr i (j - i).toNat) o
def cU{a}{l}{p pos}(m:Gl X "range") (o:X.mg "range" = none) (A:PA X [a] l) (B:AQ [a] X.env=[(false,B1 a X.env)]:=by rfl):PI X O (.Call (.Name "range" p) [a] [] pos) (vP l):=by
 intro C s E H R I h;refine Call_ (Kc I m o pV (CT (thn (A pos C s E H _ I h) λP Q ⟨S,T,G,J,g⟩=>?_) B rfl));obtain⟨j,e,g,L,q⟩:=g;subst e
 cases J with
 | cons r N=>
  cases N;obtain⟨t,rfl⟩:=r;exact call_range_1 (XW G (by lia) (by lia) g L (by simpa using q))
def cT(o:Gl X "range") (A:X.mg "range" = none) (B:PA X [a,b] C) (E:AQ [a,b] X.env=[(false,B1 a X.env),(false,B1 b X.env)]:=by rfl) (m:AQ [b] X.env=[(false,B1 b X.env)]:=by rfl) :
  PI X T (.Call (.Name "range" p) [a,b] [] pos) (vO C):=by
 intro G s J H R I h;refine Call_ (Kc I o A pV (CT (thn (B pos G s J H _ I h) λU Y ⟨Z,H1,L,N,g⟩=>?_) (by rw[E,m]) (by rw[m];rfl)));obtain⟨i,j,e,⟨g,O,P,Q⟩,q⟩:=g;subst e
 cases N with
 | cons r l=>
  cases l with
  | cons S l=>
   cases l;obtain⟨t,rfl⟩:=r;obtain⟨t',rfl⟩:=S;exact call_range_2 (XW L g O P Q q)
def tFor(B:TI)(g:TG)(C:TS):TS:=λD j H=>B j H λJ E=>∃W:Nat->Nat->St->Hp->Prop,(∃m,W 0 m j E)/\∀i m j H,W i m j H ->
 (J.stop i H/\D.nx j H)∨(J.go i H/\∃N:St->Hp->Prop,(∀l o,N l o->∃A,A < m/\W (i+1) A l o)/\∀x o,J.yld i H x o->g x j o λs G=>C { D with nx:=N,ct:=N,bk:=D.nx } s G)
def SE(fp:List AW)(h:CZ):List (AW×Obj):=fp.filterMap λb=>(h.get? b).map λo=>(b,o)
def Lp(hb:b∈fp)(e:h.get? b=some o):(b,o)∈SE fp h:=eW.mpr ⟨b,hb,by rw[e];rfl⟩
def cc(g:p∈SE fp h):p.1∈fp/\h.get? p.1=some p.2:=by
 obtain⟨b,hb,e⟩:=eW.mp g
 cases q:h.get? b with
 | none=>rw[q]at e;cases e
 | some o=>
  rw[q]at e;have j:(b,o)=p:=Cw e;subst j;exact⟨hb,q⟩
def Inv.pinned(I:Inv X g l H s)(m:∀b∈fp,Of X g H b)(ho:∀b∈fp,∃o,s.heap.get? b=some o/\∀v,o.data≠.cell v):Inv X (g++SE fp s.heap) l H s:=
 I.pins_of λp A=>(Aq.mp A).elim (λz=>I.pin p (Av _ z)) λz=>by
  obtain⟨hb,e⟩:=cc z;obtain⟨B,C,E,_⟩:=m p.1 hb;obtain⟨o,j,d⟩:=ho p.1 hb;rw[e]at j;cases j;exact⟨e,B,C,E,d⟩
def Inv.unpinned(I:Inv X (g++m) j H s):Inv X g j H s:=I.pins_of λp l=>I.pin p (Av _ (As _ l))
def qv(O:QV (Ah X.prog X.w) X.A X.env X.xe)(hc:X.calm=true)(hi:PI X tg iter wi)(hg:PG X tg g)(hb:PSs X body tb)
  (hs:∀x,GP iter X.env x=pure x:=by intro _;rfl):PS X (.For tg iter body [] pos) (tFor wi g tb):=by
 intro L s σ H D I h;refine wpAny_For (thn (hi L s σ H _ I h) λv s1 h1=>thn h1 λitv s2 h2=>?_) hs;obtain⟨it,P,tn,J,H2,e,I2,T,w8,f2,W,⟨m0,w0⟩,Q⟩:=h2;subst e
 have Z:∀{H':Hp},(∀b∈P,H' b=none)->∀b∈P,Of X L H' b:=λhn b hb=>⟨hn b hb,(f2 b hb).2⟩
 refine codeAny_forLoop_any (λn s'=>∃i l H',Inv X L l H' s'/\tn i s'.heap/\(∀b∈P,H' b=none)/\W i n l H') ?_ m0 ⟨0,σ,H2,I2,w8,λb hb=>(f2 b hb).1,w0⟩;rintro n s3 ⟨i,B,Y,I3,xR,R,w3⟩
 rcases Q i n B Y w3 with⟨S,qn⟩ | ⟨go,N,hN,step⟩
 ·refine Fm O (thn (T.done X rfl rfl rfl hc i L s3 B Y X.xe I3 (Z R) xR S) λr s4 ⟨hr,I4⟩=>?_)
  subst hr;exact KL ⟨B,Y,I4,qn⟩
 ·refine Fm O (thn (T.item X rfl rfl rfl hc i L s3 B Y X.xe I3 (Z R) xR go) λr s4 ⟨u,hr,h4⟩=>?_)
  subst hr;refine Fm O (thn h4 λ_ s5 ⟨x,H5,I5,r5,y5,yV,fr5⟩=>?_);have I5':=I5.pinned (Z fr5) (T.obj _ _ yV);refine Fm O (thn (hg _ s5 B H5 x u _ I5' r5 (step x H5 y5)) λ_ s6 ⟨σ6,H6,I6,q6⟩=>?_);refine Fm O (thn (hb _ s6 σ6 H6 _ I6 q6) λf s7 G=>?_)
  have again:∀{j:St} {C:Hp},Inv X (L++SE P s5.heap) j C s7->N j C->∃m,m < n/\∃i l H',Inv X L l H' s7/\tn i s7.heap/\(∀b∈P,H' b=none)/\W i m l H':=λ{j C} E U=>by
   obtain⟨m',hm,w7⟩:=hN j C U;refine⟨m',hm,i+1,j,C,E.unpinned,T.keep _ _ _ yV λb hb o e=>(E.pin (b,o) (Av _ (Av _ (Lp hb e)))).1,λb hb=>?_,w7⟩;obtain⟨o,e,d⟩:=T.obj _ _ yV b hb;exact(E.pin (b,o) (Av _ (Av _ (Lp hb e)))).2.1
  cases f with
  | next=>obtain⟨j,C,E,U⟩:=G;exact again E U
  | cont=>obtain⟨j,C,E,U⟩:=G;exact again E U
  | brk=>obtain⟨j,C,E,G⟩:=G;exact⟨j,C,E.unpinned,G⟩
  | ret v=>obtain⟨x7,j,C,E,r7,G⟩:=G;exact⟨x7,j,C,E.unpinned,r7,G⟩
end
abbrev R2:=V->V->Hp->VK->Prop
def OpR(X:Cx)(f:AI->AI->Sem AI)(r:R2):Prop:=
 ∀(g:List (AW×Obj)) (s:AM) (j:St) (H:Hp) (x y:V) (v u:AI) (Q:VK),Inv X g j H s->RelV x v->RelV y u->r x y H Q ->
  Ag (Ah X.prog X.w) X.A (f v u) (EP X g j Q) X.xe s
def UnR(X:Cx)(f:AI->Sem AI)(r:V->Hp->VK->Prop):Prop:=
 ∀(g:List (AW×Obj)) (s:AM) (j:St) (H:Hp) (x:V) (v:AI) (Q:VK),Inv X g j H s->RelV x v->r x H Q ->
  Ag (Ah X.prog X.w) X.A (f v) (EP X g j Q) X.xe s
def HX(X:Cx)(f:AI)(r:List V->Hp->VK->Prop):Prop:=
 ∀(g:List (AW×Obj)) (s:AM) (j:St) (H:Hp) (l:List V) (m:List AI) (Q:VK),Inv X g j H s->Bx l m->r l H Q ->
  Ag (Ah X.prog X.w) X.A (call f m) (EP X g j Q) X.xe s
def TruR(X:Cx)(r:V->Hp->(Bool->Hp->Prop)->Prop):Prop:=
 ∀(g:List (AW×Obj)) (s:AM) (j:St) (H:Hp) (x:V) (v:AI) (Q:Bool->Hp->Prop),Inv X g j H s->RelV x v->r x H Q ->
  Ag (Ah X.prog X.w) X.A (pR v) (TP X g j Q) X.xe s
def tOp(r:R2)(j l:TE):TE:=λg H Q=>j g H λx m=>l g m λy o=>r x y o Q
def tUn(r:V->Hp->VK->Prop)(g:TE):TE:=λj H Q=>g j H λx l=>r x l Q
def rI(C:Int->Int->Prop)(g:Int->Int->V):R2:=λx y H Q=>∃i j,x=.int i/\y=.int j/\C i j/\Q (g i j) H
def rI0(g:Int->Int->V):R2:=λx y H Q=>∃i j,x=.int i/\y=.int j/\Q (g i j) H
def rU(g:Int->V):V->Hp->VK->Prop:=λx H Q=>∃i,x=.int i/\Q (g i) H
section
variable{X:Cx}{a b:Expr}{ta tb:TE}{pos:Pos}
def tF(E:PE X a ta)(hb:PE X b tb){o:List (AW×Obj)}{s:AM}{g:St}{H:Hp}{R:V->V->Hp->Prop}(I:Inv X o g H s)
  (h:ta g H λx C=>tb g C λy j=>R x y j) {Q:AI->AM->Prop} {f:AI->AI->Sem AI}
  (G:∀v u B x y j,Inv X o g j B->RelV x v->RelV y u->R x y j->Ag (Ah X.prog X.w) X.A (f v u) Q X.xe B) :
  Ag (Ah X.prog X.w) X.A (B1 a X.env) (λv l=>Ag (Ah X.prog X.w) X.A (B1 b X.env) (λu m=>Ag (Ah X.prog X.w) X.A (f v u) Q X.xe m) X.xe l) X.xe s:=by
 refine thn (E o s g H _ I h) λv J ⟨x,C,L,N,O⟩=>?_
 refine thn (hb o J g C _ L O) λu B ⟨y,j,P,S,T⟩=>?_
 exact G v u B x y j P N S T
def ux{g:Operator}{r:R2}(ho:OpR X (DZ g) r)(j:PE X a ta)(hb:PE X b tb):PE X (.BinOp a g b pos) (tOp r ta tb):=by
 intro l s m H Q I h;exact wpAny_BinOp (tF j hb I h λv u o x y A B C E q=>ho l o m A x y v u Q B C E q)
def uv(ho:UnR X (unaryOp l) r)(m:PE X a ta):PE X (.UnaryOp l a pos) (tUn r ta):=by
 intro g s j H Q I h;exact UnaryOp_ (thn (m g s j H _ I h) λv o ⟨x,A,B,C,E⟩=>ho g o j A x v Q B C E)
def opI{f:AI->AI->Sem AI}{C:Int->Int->Prop}{g:Int->Int->Int}
  (rule:∀(i j:Int) (t u:Tok) (s:AM) (Q:AI->AM->Prop) (E:AI->AM->Prop),C i j->Q (.int (g i j) s.toks) { s with toks:=s.toks+1 }->Ag (Ah X.prog X.w) X.A (f (.int i t) (.int j u)) Q E s) :
  OpR X f (rI C λi j=>.int (g i j)):=by
 intro G s J H x y v u Q I l m h;obtain⟨i,j,rfl,rfl,o,q⟩:=h;obtain⟨t,rfl⟩:=l;obtain⟨B,rfl⟩:=m;exact rule i j t B s _ _ o ⟨.int (g i j),H,I.tok _,⟨_,rfl⟩,q⟩
def u9{f:AI->AI->Sem AI}{g:Int->Int->Int}
  (rule:∀(i j:Int) (t u:Tok) (s:AM) (Q:AI->AM->Prop) (E:AI->AM->Prop),Q (.int (g i j) s.toks) { s with toks:=s.toks+1 }->Ag (Ah X.prog X.w) X.A (f (.int i t) (.int j u)) Q E s) :
  OpR X f (rI0 λi j=>.int (g i j)):=by
 intro B s C H x y v u Q I l m h;obtain⟨i,j,rfl,rfl,q⟩:=h;obtain⟨t,rfl⟩:=l;obtain⟨o,rfl⟩:=m;exact rule i j t o s _ _ ⟨.int (g i j),H,I.tok _,⟨_,rfl⟩,q⟩
def nE{f:AI->AI->Sem AI}{g:Int->Int->Bool}
  (rule:∀(i j:Int) (t u:Tok) (s:AM) (Q:AI->AM->Prop) (E:AI->AM->Prop),Q (.bool (g i j)) s->Ag (Ah X.prog X.w) X.A (f (.int i t) (.int j u)) Q E s) :
  OpR X f (rI0 λi j=>.bl (g i j)):=by
 intro B s C H x y v u Q I l m h;obtain⟨i,j,rfl,rfl,q⟩:=h;obtain⟨t,rfl⟩:=l;obtain⟨o,rfl⟩:=m;exact rule i j t o s _ _ ⟨.bl (g i j),H,I,rfl,q⟩
def kC(i j:Int):Prop:=0 < j/\j < 1073741824
def oY(i j:Int):Prop:=0<=j/\j<=1000000/\i.natAbs < 2 ^ 64
def YF(i j:Int):Prop:=(-(2 ^ 64) < i/\i < 2 ^ 64)∨(-(2 ^ 64) < j/\j < 2 ^ 64)
def YF.ok(h:YF i j):IntMulOk i j:=by
 rcases h with⟨g,l⟩ | ⟨g,l⟩
 ·exact .of_left (intBits_le_64 g l)
 ·exact .of_right (intBits_le_64 g l)
def rZ:OpR X (DZ .Add) (rI0 λi j=>.int (i+j)):=u9 λ_ _ _ _ _ _ _ q=>add_int q
def rQ:OpR X (DZ .Sub) (rI0 λi j=>.int (i - j)):=u9 λ_ _ _ _ _ _ _ q=>sub_int q
def rT:OpR X (DZ .Mult) (rI YF λi j=>.int (i * j)):=opI λ_ _ _ _ _ _ _ g q=>mul_int q g.ok
def nB:OpR X (DZ .FloorDiv) (rI kC λi j=>.int (i / j)):=opI λi j _ _ _ _ _ g q=>by
 have l:(0:Int) < j:=g.1;have m:j < 1073741824:=g.2;exact floordiv_int (by lia) (by rw[Int.fdiv_eq_ediv_of_nonneg i (by lia)];exact q) (.inl (PyProof.noPylong_small (by omega)))
def rW:OpR X (DZ .Mod) (rI (λ_ j=>0 < j) λi j=>.int (i % j)):=opI λi j _ _ _ _ _ g q=>by
 have l:(0:Int) < j:=g;exact mod_int' (by lia) (by rw[Int.fmod_eq_emod_of_nonneg i (by lia)];exact q)
def rS:OpR X (DZ .Pow) (rI oY λi j=>.int (i ^ j.toNat)):=opI λ_ _ _ _ _ _ _ g q=>pow_int_small g.1 g.2.1 g.2.2 q
def unI{f:AI->Sem AI}{g:Int->Int}
  (rule:∀(i:Int) (t:Tok) (s:AM) (Q:AI->AM->Prop) (E:AI->AM->Prop),Q (.int (g i) s.toks) { s with toks:=s.toks+1 }->Ag (Ah X.prog X.w) X.A (f (.int i t)) Q E s) :
  UnR X f (rU λi=>.int (g i)):=by
 intro l s m H x v Q I j h;obtain⟨i,rfl,q⟩:=h;obtain⟨t,rfl⟩:=j;exact rule i t s _ _ ⟨.int (g i),H,I.tok _,⟨_,rfl⟩,q⟩
def qM:UnR X (unaryOp .USub) (rU λi=>.int (-i)):=unI λ_ _ _ _ _ q=>neg_int q
end
section
variable{X:Cx}{a b c:Expr}{ta tb tc:TE}{pos:Pos}
def sj(I:Inv X g j H s)(q:Q (.bl k) H)(e:k=l):EP X g j Q (.bool l) s:=by
 subst e;exact⟨.bl k,H,I,rfl,q⟩
def u5:OpR X (CJ .Lt) (rI0 λi j=>.bl (decide (i < j))):=nE λ_ _ _ _ _ _ _ q=>lt_int q
def u6:OpR X (CJ .LtE) (rI0 λi j=>.bl (decide (i<=j))):=nE λ_ _ _ _ _ _ _ q=>le_int q
def u7:OpR X (CJ .Gt) (rI0 λi j=>.bl (decide (j < i))):=nE λ_ _ _ _ _ _ _ q=>gt_int q
def u8:OpR X (CJ .GtE) (rI0 λi j=>.bl (decide (j<=i))):=nE λ_ _ _ _ _ _ _ q=>ge_int q
def rX:OpR X (CJ .Is) (λx y H Q=>y=.non/\Q (.bl (decide (x=.non))) H):=by
 intro l s m H x y v u Q I g j h;obtain⟨rfl,q⟩:=h;cases j;refine is_none_gen (sj I q ?_)
 cases x <;> first
  | (cases g;rfl)
  | (obtain⟨t,rfl⟩:=g;rfl)
def OpR.or(h:OpR X f r)(h':OpR X f o):OpR X f (λx y H Q=>r x y H Q∨o x y H Q):=by
 intro g s j H x y v u Q I l m q
 rcases q with q | q
 ·exact h g s j H x y v u Q I l m q
 ·exact h' g s j H x y v u Q I l m q
def Ci(b:Expr)(h:g≠.In:=by decide)(j:g≠.NotIn:=by decide):Cu g b=false:=by
 have l:(g==CmpOp.In)=false:=by cases g <;> first | rfl | exact zX rfl h
 have m:(g==CmpOp.NotIn)=false:=by cases g <;> first | rfl | exact zX rfl j
 cases b <;> simp[Cu,l,m]
def mj{g:CmpOp}{r:R2}(ho:OpR X (CJ g) r)(j:PE X a ta)(hb:PE X b tb)(l:Cu g b=false):PE X (.Compare a [g] [b] pos) (tOp r ta tb):=by
 intro m s o H Q I h;exact wpAny_Compare1 (tF j hb I h λv u A x y B C E G q=>ho m A o B x y v u Q C E G q) l
def oy(t:TE):TT:=λg H Q=>t g H λx j=>∃k,x=.bl k/\Q k j
def mH(ho:OpR X (CJ l) r)(m:PE X a ta)(hb:PE X b tb)(o:Cu l b=false):PT X (.Compare a [l] [b] pos) (oy (tOp r ta tb)):=by
 intro g s j H Q I h
 refine kD (thn (m g s j H _ I h) λv A ⟨x,B,C,E,G⟩=>thn (hb g A j B _ C G) λu J ⟨y,L,N,O,P⟩=>
  thn (ho g J j L x y v u _ N E O P) λc Y ⟨z,R,S,T,k,e,U⟩=>?_) o
 subst e;cases T;exact C7 ⟨R,S,U⟩
def gF(r l:R2)(ta tb tc:TE):TE:=λg H Q=>ta g H λx m=>tb g m λy o=>r x y o λz j=>∃k,z=.bl k /\
 (if k=true then tc g j λw' s=>l y w' s Q else Q (.bl false) j)
def hV(ho:OpR X (CJ m) r)(E:OpR X (CJ g) G)(J:PE X a ta)(hb:PE X b tb)(L:PE X c tc)
  (N:lastMarks [m,g] [b,c]=false:=by with_unfolding_all rfl):PT X (.Compare a [m,g] [b,c] pos) (oy (gF r G ta tb tc)):=by
 intro j s l H Q I h
 refine isTrue_chain (thn (J j s l H _ I h) λv O ⟨x,P,R,S,T⟩=>test_link (thn (hb j O l P _ R T) λu U ⟨y,Y,Z,o,q2⟩=>
  thn (ho j U l Y x y v u _ Z S o q2) λd s3 ⟨z,A,B,r3,k,e,C⟩=>?_)) N
 subst e;cases r3;refine C7 ?_
 cases k with
 | false=>
  obtain⟨k',e',q'⟩:=C;cases e';exact ite_ff ⟨A,B,q'⟩
 | true=>
  refine ite_tt (test_last (thn (L j s3 l A _ B C) λw' s4 ⟨z',H4,I4,r4,q4⟩=>thn (E j s4 l H4 y z' u w' _ I4 o r4 q4) λd' s5 ⟨z2,H5,I5,r5,k2,e2,q5⟩=>?_));subst e2;cases r5;exact C7 ⟨H5,I5,q5⟩
def tJ(K:AJ)(x:V)(H:Hp)(k:Bool):Prop:=
 match x with
 | .non=>k=false
 | .bl b=>k=b
 | .int i=>k=(i != 0)
 | .str y=>y.length<=sizeLine/\k=((y.length:Int) != 0)
 | .byt y=>y.size<=sizeLine/\k=((y.size:Int) != 0)
 | .ref p=>(∃g,SqL K H p g/\k = !g.isEmpty)∨(∃g,SqT K H p g/\k = !g.isEmpty)∨∃j,H p=some (.dK j)/\k = !j.isEmpty
 | _=>False
def ZP{g:Type}{kvs:List (g×V)}{j:List (g×AI)}(r:KV kvs j):(!j.isEmpty) = !kvs.isEmpty:=by
 cases r <;> rfl
def Sf(r:Bx xs g):(!g.toArray.isEmpty) = !xs.isEmpty:=by
 cases r <;> simp
def SZ:(sizeLine:Nat) < 2 ^ 63:=by rw[Pk];decide
def qR:TruR X (λx H Q=>∃k,tJ X.K x H k/\Q k H):=by
 intro N s O H x v Q I A h;obtain⟨k,e,q⟩:=h;have R:=SZ;have S:sizeLine=16777216:=Pk
 cases x with
 | non=>
  cases A;have g:k=false:=e;subst g;exact truthy_none ⟨H,I,q⟩
 | bl b=>
  cases A;have g:k=b:=e;subst g;exact C7 ⟨H,I,q⟩
 | int i=>
  obtain⟨t,rfl⟩:=A;have g:k=(i != 0):=e;subst g;exact PySem.P.truthy_int ⟨H,I,q⟩
 | str y=>
  obtain⟨t,rfl⟩:=A;obtain⟨G,g⟩:y.length<=sizeLine/\k=((y.length:Int) != 0):=e;subst g;exact PySem.P.truthy_str (by lia) ⟨H,I.tok _,q⟩
 | byt y=>
  obtain⟨t,rfl⟩:=A;obtain⟨G,g⟩:y.size<=sizeLine/\k=((y.size:Int) != 0):=e;subst g;exact PySem.W.truthy_bytes (by lia) ⟨H,I.tok _,q⟩
 | ref p=>
  cases A
  have g:(∃o,SqL X.K H p o/\k = !o.isEmpty)∨(∃o,SqT X.K H p o/\k = !o.isEmpty)∨∃j,H p=some (.dK j)/\k = !j.isEmpty:=e
  rcases g with⟨o,B,g⟩ | ⟨o,B,g⟩ | ⟨j,B,g⟩
  ·subst g
   obtain⟨J,r,C,E⟩:=I.list B;have l:=r.length;exact wpAny_truthy_list C.isList (by simp only[AT];lia) ⟨H,I.tok _,by rw[Sf r];exact q⟩
  ·subst g
   obtain⟨J,r,C,E⟩:=I.tuple B;have l:=r.length;exact truthy_tuple C (by simp only[AT];lia) ⟨H,I.tok _,by rw[Sf r];exact q⟩
  ·subst g
   obtain⟨E,L,vs,r,m⟩:j.length<=sizeLine/\(p==D7)=false/\∃vs,KV j vs/\s.heap.DictOf (ED X.prog X.w) p vs:=I.hok p _ B
   have l:j.length=vs.length:=Ef r;exact wpAny_truthy_dict L m (by lia) ⟨H,I.tok _,by rw[ZP r];exact q⟩
 | _=>exact(show False from e).elim
def g9(o:PE X a ta)(A:∀g,YX a X.env g=(do let v <-g;YG a.pos;Kq [v] (pR v))) :
  PT X a (λj H Q=>ta j H λx l=>∃k,tJ X.K x l k/\Q k l):=by
 intro m s j H Q I h;exact isTrue_plain (thn (o m s j H _ I h) λv B ⟨x,C,E,G,J⟩=>qR m B j C x v Q E G J) (A _)
def vals1(r:Bx [x] g):∃u,g=[u]/\RelV x u:=by
 cases r with
 | cons j l=>cases l;exact⟨_,rfl,j⟩
def vals2(r:Bx [x,y] g):∃u w',g=[u,w']/\RelV x u/\RelV y w':=by
 cases r with
 | cons j l=>
  cases l with
  | cons m o=>cases o;exact⟨_,_,rfl,j,m⟩
def dn(l:X.calm=true):HX X (.builtin "max") (λxs H Q=>∃i j,xs=[.int i,.int j]/\Q (.int (if j > i then j else i)) H):=by
 intro m s o H xs A Q I r h;obtain⟨i,j,rfl,q⟩:=h;obtain⟨u,w',rfl,⟨t,rfl⟩,⟨B,rfl⟩⟩:=vals2 r
 refine max_two_ints (I.ok.hd l) λC tk k=>⟨_,H,I.kept k,?_,q⟩
 by_cases g:j > i
 ·rw[qX g,qX g];exact⟨_,rfl⟩
 ·rw[qY g,qY g];exact⟨_,rfl⟩
def di(l:X.calm=true):HX X (.builtin "min") (λxs H Q=>∃i j,xs=[.int i,.int j]/\Q (.int (if j < i then j else i)) H):=by
 intro m s o H xs A Q I r h;obtain⟨i,j,rfl,q⟩:=h;obtain⟨u,w',rfl,⟨t,rfl⟩,⟨B,rfl⟩⟩:=vals2 r
 refine min_two_ints (I.ok.hd l) λC tk k=>⟨_,H,I.kept k,?_,q⟩
 by_cases g:j < i
 ·rw[qX g,qX g];exact⟨_,rfl⟩
 ·rw[qY g,qY g];exact⟨_,rfl⟩
def du:HX X (.type "int") (λxs H Q=>(∃i,xs=[.int i]/\Q (.int i) H)∨∃k,xs=[.bl k]/\Q (.int (if k then 1 else 0)) H):=by
 intro j s l H xs m Q I r h
 rcases h with⟨i,rfl,q⟩ | ⟨k,rfl,q⟩
 ·obtain⟨u,rfl,t,rfl⟩:=vals1 r
  exact call_int_int ⟨.int i,H,I,⟨_,rfl⟩,q⟩
 ·obtain⟨u,rfl,g⟩:=vals1 r
  cases g;exact call_int_bool ⟨.int (if k then 1 else 0),H,I.tok _,⟨_,rfl⟩,q⟩
end
structure dz(h:CZ)(x dx C:AW)(mA:Str->Option AI):Prop where
 obj:h.get? x=some (EQ C dx)
 ns:h.Ns1 dx mA
 ne:dx≠x
def cw{h:CZ}{g:AW}{j:Str->Option AI}(n:h.Ns1 g j):∃l,h.get? g=some l/\∀name,Rc name l=some (j name):=by
 obtain⟨o,m,H,s,hd,A,_,B⟩:=n;refine⟨o,s,λname=>?_⟩;have e:=B name;unfold nsFind findBy at e;rw[<-Array.find?_toList]at e;unfold Rc;rw[hd];dsimp only;split
 ·rename_i y q
  rw[q]at e;exact congrArg some e
 ·rename_i q
  rw[q]at e
  have a:m.toList.any (·.refKey)=false:=by
   rw[fD];intro y C;obtain⟨z,t,E⟩:=A y (Bh.mp C);simp[ef.refKey,E]
  have G:¬m.toList.any (·.refKey)=true:=by rw[a];exact AV
  rw[qY G];exact congrArg some e
def dz.look{h}{x j C}{l}(I:dz h x j C l):∃g,fA h x (EQ C j) C (some g)/\∀name,Rc name g=some (l name):=
 let ⟨g,m,o⟩:=cw I.ns
 ⟨g,⟨I.obj,rfl,rfl,m⟩,o⟩
section
variable{prog:Bq}{w:CQ}{A:B5}{E:AI->AM->Prop}{s:AM}{K:AJ}{x dx C f:AW}{mA:Str->Option AI}{name:Str}{v:AI}
def nZ(X:K.In s.heap)(I:dz s.heap x dx C mA)(g:Po K C name=true)(j:Op K C=true)
  (l:DC K (.ref C) name=some none) (m:mA name=some v) (o:bV v=true) (h:Q v { s with toks:=s.toks+1 }) :
  Ag (Ah prog w) A (getAttr (.ref x) name expr) Q E s:=by
 obtain⟨G,J,B⟩:=I.look;exact PySem.W.get_value X J (PySem.W.plainGet_of g).1 (PySem.W.findObj_own j l rfl (by rw[B,m])) o h
def lg(X:K.In s.heap)(I:dz s.heap x dx C mA)
  (B:DC K (.ref C) "__setattr__" = some (some (.builtin "object.__setattr__"))) (G:Zq K C=true) (H:Qv K C name=some none) (L:Op K C=true)
  (hw:Wt mA ns) (hsz:ns.length<=sizeLine)
  (h:∀h',dz h' x dx C (λy=>if y=name then some v else mA y)->C8 dx s.heap h'->Q () { s with heap:=h',toks:=s.toks+2 }) :
  Ag (Ah prog w) A (setAttr (.ref x) name v) Q E s:=by
 obtain⟨T,J,U⟩:=I.look;refine PySem.W.set_plain X J B (PySem.W.osa_open (s:={ s with toks:=s.toks+1 }) (r:=none) X J G H λb=>?_);obtain⟨Y,N,O⟩:=PySem.W.any_some L;have P:s.heap.get? x=some ⟨.ref C,some dx,.plain,#[]⟩:=I.obj;refine AA (AE (AA (AA (YR P (AA (uD (s:={ s with toks:=s.toks+1 }) (PySem.W.looks_clsIn X N) ?_))))));rw[O];refine AE (a:=some dx) (AA (AE (AA ?_)))
 refine wpAny_nsSet1 (s:={ s with toks:=s.toks+1 }) I.ns λh' m o=>?_
 obtain⟨Z,R,S,g,j,l⟩:=m.count (vt name v hw);refine AA (wpAny_lookBehind g (by rw[j];exact pastItsLine_dict (Ap l (by rw[A1];lia))) ?_);exact AE (h _ ⟨(o.2 _ (CK I.ne)).trans I.obj,m,I.ne⟩ o)
def ip(X:K.In s.heap)(m:eM K C=true)
  (hi:DC K (.ref C) "__init__" = some (some (.ref f))) (o:Mg K (.ref f)=some (.type "function"))
  (h:Ih (Ah prog w) (A.under (.builtin "type.__call__" ⟨.ref C :: j,l⟩)) (.call (.ref f) ⟨.ref (s.heap.objs.size+1) :: j,l⟩) (PySem.W.InitBack (s.heap.objs.size+1) R)
   { s with heap:=(s.heap.push DD).push (EQ C s.heap.objs.size) }) :
  Ih (Ah prog w) A (.call (.ref C) ⟨j,l⟩) R s:=by
 obtain⟨B,g,d,t,os⟩:=s;exact PySem.W.make_core (PySem.W.makes_of X m) (Mh X hi) (λself=>PySem.W.bind_fn X self o) (.inl rfl) h
end
def putF(f:Str)(v:V):List (Str×V)->List (Str×V)
 | []=>[(f,v)]
 | (g,x) :: r=>if g=f then(g,v) :: r else(g,x) :: putF f v r
def Qm(f g:Str)(v:V):∀fs:List (Str×V),(putF f v fs).lookup g=if g=f then some v else fs.lookup g
 | []=>by
  show Ip g [(f,v)]=_
  by_cases h:g=f
  ·have hb:(g==f)=true:=beq_iff_eq.mpr h
   simp only[Ip,hb,qX h]
  ·have hb:(g==f)=false:=beq_eq_false_iff_ne.mpr h
   simp only[Ip,hb,qY h]
 | (k,x) :: r=>by
  have l:=Qm f g v r;rw[show putF f v ((k,x) :: r)=(if k=f then(k,v) :: r else(k,x) :: putF f v r)from rfl]
  by_cases j:k=f
  ·rw[qX j]
   by_cases h:g=k
   ·have hb:(g==k)=true:=beq_iff_eq.mpr h
    simp only[Ip,hb,qX (h.trans j)]
   ·have hb:(g==k)=false:=beq_eq_false_iff_ne.mpr h
    simp only[Ip,hb,qY (λe:g=f=>h (e.trans j.symm))]
  ·rw[qY j]
   by_cases h:g=k
   ·have hb:(g==k)=true:=beq_iff_eq.mpr h
    simp only[Ip,hb,qY (λe:g=f=>j (h.symm.trans e))]
   ·have hb:(g==k)=false:=beq_eq_false_iff_ne.mpr h
    simp only[Ip,hb];exact l
def QD(f:Str)(v:V):∀fs:List (Str×V),f∈(putF f v fs).map (·.1)/\∀g,g∈fs.map (·.1)->g∈(putF f v fs).map (·.1)
 | []=>⟨by simp[putF],λg h=>by simp at h⟩
 | (k,x) :: r=>by
  obtain⟨l,m⟩:=QD f v r;rw[show putF f v ((k,x) :: r)=(if k=f then(k,v) :: r else(k,x) :: putF f v r)from rfl]
  by_cases j:k=f
  ·rw[qX j]
   subst j;exact⟨by simp,λg h=>by simpa using h⟩
  ·rw[qY j]
   refine⟨?_,λg h=>?_⟩
   ·rw[A4]
    exact AY _ l
   ·rw[A4]at h ⊢
    rcases A2.mp h with e | e
    ·exact A2.mpr (.inl e)
    ·exact AY _ (m g e)
def Qn(f:Str)(v:V):∀fs:List (Str×V),(putF f v fs).length<=fs.length+1
 | []=>by simp[putF]
 | (k,x) :: r=>by
  have j:=Qn f v r;rw[show putF f v ((k,x) :: r)=(if k=f then(k,v) :: r else(k,x) :: putF f v r)from rfl]
  by_cases g:k=f
  ·rw[qX g,A1,A1];lia
  ·rw[qY g,A1,A1];lia
def QS.some_of(r:QS (some v) o):∃u,o=some u/\RelV v u:=by
 cases o with
 | none=>exact(show False from r).elim
 | some u=>exact⟨u,rfl,r⟩
def dL(r:RelV v u):bV u=true:=by
 cases v with
 | non=>cases(show u=BW from r);rfl
 | bl b=>cases(show u=On b from r);rfl
 | int i=>obtain⟨t,e⟩:=(show ∃t,u=G1 i t from r);cases e;rfl
 | str x=>obtain⟨t,e⟩:=(show ∃t,u=Qt x t from r);cases e;rfl
 | byt b=>obtain⟨t,e⟩:=(show ∃t,u=tY b t from r);cases e;rfl
 | flt b=>obtain⟨t,e⟩:=(show ∃t,u=Yb b t from r);cases e;rfl
 | ref a=>cases(show u=A0 a from r);rfl
 | ty n=>cases(show u=DQ n from r);rfl
section
variable{P:Bq}{w:CQ}{H:Hp}{h:CZ}{a C dx:AW}{fs:List (Str×V)}
def WF(j:HOk P w H h)(e:H a=some (.ins C dx fs)):∃g,dz h a dx C g/\(∀f,QS (fs.lookup f) (g f))/\Wt g (fs.map (·.1))/\fs.length<=1000/\H dx=some (.own a):=by
 obtain⟨d,z,l,m,g,n,r,q⟩:=(show DG P w H h a (.ins C dx fs)from j a _ e);exact⟨g,⟨m,n,l⟩,r,q,z,d⟩
end
structure Cls(K:AJ)(C:AW):Prop where
 pg:Po K C Str.empty=true
 hd:Op K C=true
 po:Zq K C=true
 sa:DC K (.ref C) "__setattr__" = some (some (.builtin "object.__setattr__"))
def Cls.get{K}{C}(c:Cls K C)(f:Str):Po K C f=true:=c.pg
def Jm(K:AJ)(C:AW)(f:Str):Prop:=DC K (.ref C) f=some none
def Jm.taker{K}{C}{f}(n:Jm K C f):Qv K C f=some none:=by
 unfold Qv;rw[show DC K (.ref C) f=some none from n];rfl
section
variable{X:Cx}{ζ:List (AW×Obj)}{σ:St}{H:Hp}{s:AM}{a C dx:AW}{fs:List (Str×V)}{f:Str}{v:V}{A:B5}{E:AI->AM->Prop}
def ZV(I:Inv X ζ σ H s)(e:H a=some (.ins C dx fs))(c:Cls X.K C)(n:Jm X.K C f)(l:fs.lookup f=some v)
  (h:∀u s',Inv X ζ σ H s'->RelV v u->Q u s'):Ag (Ah X.prog X.w) A (getAttr (.ref a) f b) Q E s:=by
 obtain⟨j,O,r,_,_,_⟩:=WF I.hok e;obtain⟨u,m,g⟩:=QS.some_of (v:=v) (o:=j f) (by rw[<-l];exact r f);exact nZ I.kIn O (c.get f) c.hd n m (dL g) (h u _ (I.tok _) g)
def Y5(I:Inv X ζ σ H s)(e:H a=some (.ins C dx fs))(c:Cls X.K C)(n:Jm X.K C f)(S:fs.length < 1000)(G:RelV y u)
  (h:∀s',Inv X ζ σ (upd H a (.ins C dx (putF f y fs))) s'->Q () s'):Ag (Ah X.prog X.w) A (setAttr (.ref a) f u) Q E s:=by
 obtain⟨l,O,r,m,_,B⟩:=WF I.hok e
 have J:(fs.map (·.1)).length<=sizeLine:=by rw[AG,Pk];lia
 refine lg I.kIn O c.sa c.po n.taker c.hd m J λL j N=>h _ ?_
 have hd:∃o,L.get? dx=some o:=let ⟨o,_,_,P,_⟩:=j.ns;⟨o,P⟩
 refine I.write (x:=a) (e:=dx) (by rw[e];exact DT) (.inr B) (λb q hb z=>(N.2 b hb).trans z) hd ?_;refine⟨by rw[Bk O.ne];exact B,?_,O.ne,j.obj,_,j.ns,λg=>?_,λg R=>?_⟩
 ·have:=Qn f y fs;lia
 ·show QS ((putF f y fs).lookup g) (if g=f then some u else l g)
  rw[Qm]
  by_cases q:g=f
  ·rw[qX q,qX q];exact G
  ·rw[qY q,qY q];exact r g
 ·by_cases q:g=f
  ·rw[q];exact(QD f y fs).1
  ·refine(QD f y fs).2 g (m g λz=>R ?_)
   show(if g=f then some u else l g)=none;rw[qY q];exact z
def Inv.made(I:Inv X ζ σ H s):Inv X ζ σ (upd (upd H s.heap.objs.size (.own (s.heap.objs.size+1))) (s.heap.objs.size+1) (.ins C s.heap.objs.size []))
  { s with heap:=(s.heap.push DD).push (EQ C s.heap.objs.size) }:=by
 have g:(s.heap.push DD).get? s.heap.objs.size=some DD:=AR s.heap rfl
 have l:((s.heap.push DD).push (EQ C s.heap.objs.size)).get? (s.heap.objs.size+1)=some (EQ C s.heap.objs.size):=by
  have:=AR (s.heap.push DD) (o:=EQ C s.heap.objs.size) rfl;rwa [B0]at this
 have m:(s.heap.push DD).Ns s.heap.objs.size (λ_=>none):=⟨DD,#[],_,g,rfl,(λe B=>zX B (by simp)),λ_=>rfl⟩;have G:=I.laid (a:=s.heap.objs.size) (o:=.own (s.heap.objs.size+1)) (h':=s.heap.push DD) (t':=s.toks) (λb u q=>AF _ q) (AL _) ⟨_,g⟩;refine G.laid (a:=s.heap.objs.size+1) (o:=.ins C s.heap.objs.size []) (t':=s.toks) (λb u q=>AF _ q) (Yg (B0 _ _)) ?_;have j:s.heap.objs.size≠s.heap.objs.size+1:=Al (Cc _);refine⟨by rw[Bk j,Bi],Ce _,j,l,λ_=>none,(CZ.Ns1.of_empty m).at λo q=>AF _ q,λ_=>DT,λy J=>zX rfl J⟩
def oJ(hb:E3 e f env (B1 e env)=B1 e env)
  (h:Ag (Ah prog w) A (B1 e env) (λo g=>Ag (Ah prog w) A (getAttr o f true) Q E g) E s):Ag (Ah prog w) A (B1 (.Attribute e f pos) env) Q E s:=
 Attribute_any_ h (by rw[arm_eval_Attribute,hb])
end
def tFld(K:AJ)(j:TE)(f:Str):TE:=λl H Q=>j l H λx g=>∃a C m fs v,x=.ref a/\g a=some (.ins C m fs)/\Cls K C/\Jm K C f/\fs.lookup f=some v/\Q v g
def sFld(K:AJ)(m o:TE)(f:Str):TS:=λD g H=>o g H λy s=>m g s λx j=>∃a C l fs,x=.ref a/\j a=some (.ins C l fs)/\Cls K C/\Jm K C f/\fs.length < 1000 /\
 D.nx g (upd j a (.ins C l (putF f y fs)))
section
variable{X:Cx}{o e value:Expr}{f:Str}{pos pos':Pos}{ta tv:TE}
def rJ(g:PE X e ta)(hb:E3 e f X.env (B1 e X.env)=B1 e X.env):PE X (.Attribute e f pos) (tFld X.K ta f):=by
 intro j s m H Q I h;refine oJ hb (thn (g j s m H _ I h) λu N ⟨x,A,B,E,a,C,O,fs,v,ex,G,c,n,l,q⟩=>?_);subst ex;obtain rfl:u=A0 a:=E
 exact ZV B G c n l λP R J L=>⟨v,A,J,L,q⟩
def qw(m:PE X o ta)(A:PE X value tv)(B:Gx value (some (.Attribute o f pos')) pos.line X.env=pure false):PS X (.Assign [.Attribute o f pos'] value pos) (sFld X.K ta tv f):=by
 intro j s g H D I h;refine plainObj_wpAny_Assign_Attribute (thn (A j s g H _ I h) λu E ⟨y,G,J,L,q⟩=>thn (m j E g G _ J q) λN T ⟨x,U,O,P,a,C,Y,fs,ex,Q,c,n,l,R⟩=>?_) B;subst ex;obtain rfl:N=A0 a:=P
 exact Y5 O Q c n l L λZ S=>⟨g,_,S,R⟩
end
section
variable{X:Cx}{ζ:List (AW×Obj)}{σ:St}{H:Hp}{s:AM}{A:B5}{E:AI->AM->Prop}{Q:AI->AM->Prop}{c:AI}{b:Bool}
inductive Pa(K:AJ)(H:Hp):V->AI->Prop where
 | non:Pa K H .non (.type "NoneType")
 | bl (x:Bool):Pa K H (.bl x) (.type "bool")
 | int (i:Int):Pa K H (.int i) (.type "int")
 | str (x:Str):Pa K H (.str x) (.type "str")
 | flt (x:UInt64):Pa K H (.flt x) (.type "float")
 | lst {a:AW} {xs:List V} (e:H a=some (.lst xs)):Pa K H (.ref a) (.type "list")
 | frz {a:AW} {o:Obj} {xs:List V} (e:H a=some (.frz o (.lst xs))):Pa K H (.ref a) (.type "list")
 | tup {a:AW} {xs:List V} (e:H a=some (.tup xs)):Pa K H (.ref a) (.type "tuple")
 | dK {a:AW} {kvs:List (Key×V)} (e:H a=some (.dK kvs)):Pa K H (.ref a) (.type "dict")
 | dT {a:AW} {kvs:List (List Key×V)} (e:H a=some (.dT kvs)):Pa K H (.ref a) (.type "dict")
 | ins {a C dx:AW} {fs:List (Str×V)} (e:H a=some (.ins C dx fs)) (cl:Cls K C) (ha:DC K (.ref C) "__class__" = some (some (.builtin "object.__class__")))
   (hn:Zp K (.builtin "object.__class__") "__get__" = some (some (.builtin "getset_descriptor.__get__"))) (htk:eK K (.builtin "object.__class__")=some true)
   (hm:N4 K C (.type "object")=some true):Pa K H (.ref a) (.ref C)
def dE(I:Inv X ζ σ H s)(g:RelV x u)(ty:Pa X.K H x t)(e:CS X.K t c=some b)(h:∀tk,Q (.bool b) { s with toks:=tk }) :
  Ag (Ah X.prog X.w) A (call (.builtin "isinstance") [u,c]) Q E s:=by
 cases ty with
 | non=>cases(show u=BW from g);exact Co PySem.W.kitx_none I.kIn DT e (λz=>nomatch z) h
 | bl y=>cases(show u=On y from g);exact Co PySem.W.kitx_bool I.kIn DT e (λz=>nomatch z) h
 | int i=>obtain⟨t,q⟩:=(show ∃t,u=G1 i t from g);cases q;exact Co PySem.W.kitx_int I.kIn DT e (λz=>nomatch z) h
 | str y=>obtain⟨t,q⟩:=(show ∃t,u=Qt y t from g);cases q;exact Co PySem.W.kitx_str I.kIn DT e (λz=>nomatch z) h
 | flt y=>obtain⟨t,q⟩:=(show ∃t,u=Yb y t from g);cases q;exact Co PySem.W.kitx_float I.kIn DT e (λz=>nomatch z) h
 | @lst a B j=>
  cases(show u=A0 a from g);obtain⟨_,_,n,_,l⟩:=(show DG X.prog X.w H s.heap a (.lst B)from I.hok a _ j);exact Co Zr I.kIn ⟨_,l,rfl⟩ e (λz=>nomatch z) h
 | @frz a P B j=>
  cases(show u=A0 a from g);obtain⟨_,_,_,n,_,l⟩:=(show DG X.prog X.w H s.heap a (.frz P (.lst B))from I.hok a _ j);exact Co Zr I.kIn ⟨_,l,rfl⟩ e (λz=>nomatch z) h
 | @tup a B j=>
  cases(show u=A0 a from g);obtain⟨_,_,_,p⟩:=(show DG X.prog X.w H s.heap a (.tup B)from I.hok a _ j);obtain⟨o,l,G,_⟩:=p;exact Co PySem.W.kitx_tuple I.kIn ⟨o,l,G⟩ e (λz=>nomatch z) h
 | @dK a m j=>
  cases(show u=A0 a from g);obtain⟨_,_,Z,_,p⟩:=(show DG X.prog X.w H s.heap a (.dK m)from I.hok a _ j);obtain⟨o,R,S,l,G,_⟩:=p;exact Co Zs I.kIn ⟨o,l,G.1⟩ e (λz=>nomatch z) h
 | @dT a m j=>
  cases(show u=A0 a from g);obtain⟨_,_,B,_,o,R,S,l,G,_⟩:=(show DG X.prog X.w H s.heap a (.dT m)from I.hok a _ j);exact Co Zs I.kIn ⟨o,l,G.1⟩ e (λz=>nomatch z) h
 | @ins a C dx fs j N T U L Y=>
  cases(show u=A0 a from g);obtain⟨mA,O,_⟩:=WF I.hok j;obtain⟨od,J,_⟩:=O.look;exact Co (PySem.W.kitx_own (N.get _) N.hd T U L Y) I.kIn J e (λz=>nomatch z) h
end
structure Ib(k:Nat)(A:B5):Prop where
 hd:A.handled=none
 dp:A.depth+3 * k+5 < recursionLimit
 un:A.units+16 * k+200 < FS
def Ib.mono(r:Ib k A)(h:j<=k):Ib j A:=⟨r.hd,by have:=r.dp;lia,by have:=r.un;lia⟩
def Ib.deeper(r:Ib (k+1) A)(env:Env):Ib k (A.deeper env):=
 ⟨r.hd,by have:=r.dp;show A.depth+1+3 * k+5 < _;lia,by have:=r.un;show A.units+3+16 * k+200 < _;lia⟩
def ZM{A:B5}{C:AW}{g:List AI}{j:List (Str×AI)}:(A.under (.builtin "type.__call__" ⟨.ref C :: g,j⟩)).depth=A.depth+1:=by
 first | rfl | simp[Wn,Code.weight,Code.isCreation,Code.isGuard,Code.isCaller,uM,YO,guardIds]
def ZL{A:B5}{C:AW}{g:List AI}{j:List (Str×AI)}:(A.under (.builtin "type.__call__" ⟨.ref C :: g,j⟩)).units=A.units+1:=by
 first | rfl | simp[Wn,Code.cUnits,uM,YO]
def Ib.make{k}{A}(r:Ib (k+1) A)(C:AW)(g:List AI)(j:List (Str×AI)):Ib k (A.under (.builtin "type.__call__" ⟨.ref C :: g,j⟩)):=
 ⟨r.hd,by have:=r.dp;rw[ZM];lia,by have:=r.un;rw[ZL];lia⟩
def Ib.depth(r:Ib k A):A.depth < recursionLimit:=by have:=r.dp;lia
def Ib.units(r:Ib k A):A.units+64 < FS:=by have:=r.un;lia
def tNil:TA:=λ_ H Q=>Q [] H
def uc(j:TE)(l:TA):TA:=λg H Q=>j g H λx m=>l g m λo s=>Q (x :: o) s
section
variable{X:Cx}{e:Expr}{es:List Expr}{te:TE}{t:TA}{pos:Pos}
def GF:PA X [] tNil:=λ_ _ _ _ H Q I h=>Kn ⟨[],H,I,.nil,h⟩
def Du(l:PE X e te)(m:PA X es t)(o:AQ (e :: es) X.env=(false,B1 e X.env) :: AQ es X.env:=by rfl):PA X (e :: es) (uc te t):=by
 intro pos g s j H Q I h;rw[o];show Ag _ _ (ez ((false,B1 e X.env) :: DH pos (AQ es X.env))) _ _ s;refine Jr (thn (l g s j H _ I h) λu A ⟨x,B,C,E,G⟩=>?_)
 exact thn (m pos g A j B _ C G) λR S ⟨J,L,N,O,P⟩=>⟨x :: J,L,N,.cons E O,P⟩
def tTup(t:TA):TE:=λl H Q=>t l H λg j=>g.length<=sizeLine/\∀p,j p=none->Q (.ref p) (upd j p (.tup g))
def tLst(t:TA):TE:=λl H Q=>t l H λg j=>g.length<=sizeLine/\∀p,j p=none->Q (.ref p) (upd j p (.lst g))
def iL{m}(h:PA X es t):PE X (.Tuple es m pos) (tTup t):=by
 intro o s A H Q I B;refine wpAny_Tuple_spliced (thn (h pos o s A H _ I B) λC g ⟨E,j,l,r,z,q⟩=>⟨by rw[<-r.length];exact z,?_⟩);have G:j g.heap.objs.size=none:=l.hok.fresh (AL _);refine⟨.ref g.heap.objs.size,upd j g.heap.objs.size (.tup E),l.laid (t':=g.toks) (λb u e=>AF _ e) (AL _) ?_,rfl,q _ G⟩;exact⟨⟨z,⟨_,AR _ rfl,rfl⟩⟩,C,r,⟨_,AR _ rfl,rfl,_,rfl⟩⟩
def rG(h:PA X es t):PE X (.List es pos) (tLst t):=by
 intro m s o H Q I A;refine wpAny_List_spliced (thn (h pos m s o H _ I A) λB g ⟨C,j,l,r,z,q⟩=>⟨by rw[<-r.length];exact z,?_⟩);have E:j g.heap.objs.size=none:=l.hok.fresh (AL _);refine⟨.ref g.heap.objs.size,upd j g.heap.objs.size (.lst C),l.laid (t':=g.toks) (λb u e=>AF _ e) (AL _) ?_,rfl,q _ E⟩;exact⟨z,B,0,r,AR _ rfl⟩
end
abbrev Sp:=List V->Hp->VK->XK->Prop
abbrev CXT:=List Env->Hp->AM->XK->AI->AM->Prop
structure Zm(P:Bq)(w:CQ)(K:AJ)(mg:Str->Option AI)(base:CZ)(A:B5)(outer:List Env)(s:AM)(H:Hp):Prop where
 frames:A.frames=some outer
 mod:Mod K mg base
 bs:∀b o,base.get? b=some o->s.heap.get? b=some o/\H b=none
 bsz:base.objs.size<=s.heap.objs.size
 funs:s.heap.FunFrames base outer
 frf:∀b∈frs outer,H b=none
 hok:HOk P w H s.heap
 bare:Jo s.gens
def CE(g:List Env)(P:Bq)(w:CQ)(H:Hp)(s:AM)(Q:VK)(u:AI)(s':AM):Prop:=
 ∃v j,s'.os=s.os/\Jo s'.gens/\Un (frs g) [] H j s.heap s'.heap/\HOk P w j s'.heap/\RelV v u/\Q v j
def CR(CX:CXT)(g:List Env)(P:Bq)(w:CQ)(H:Hp)(s:AM)(Q:VK)(E:XK)(r:Result)(s':AM):Prop:=
 match r with
 | .ok (.ret u)=>CE g P w H s Q u s'
 | .ok _=>False
 | .error e=>CX g H s E e s'
structure EZ(P:Bq)(w:CQ)(K:AJ)(mg:Str->Option AI)(base:CZ)(CX:CXT)(k:Nat)(f:AW)(fd:LP)(ps:List Str)(sp:Sp):Prop where
 len:∀vs H Q E,sp vs H Q E->vs.length=ps.length
 run:∀(A:B5) (outer:List Env) (s:AM) (H:Hp) (args:Args) (us:List AI) (vs:List V) (Q:VK) (E:XK),Ib k A->Zm P w K mg base A outer s H->YQ s fd args (ps.zip us)->Bx vs us->sp vs H Q E ->
  Ih (Ah P w) A (.call (.ref f) args) (CR CX outer P w H s Q E) s
def EZ.imp{P}{w}{K}{m}{base}{CX}{k}{f}{fd}{ps}{sp sp'}(F:EZ P w K m base CX k f fd ps sp)
  (h:∀j H Q E,sp' j H Q E->sp j H Q E):EZ P w K m base CX k f fd ps sp':=
 ⟨λj H Q E q=>F.len j H Q E (h _ _ _ _ q),λA g s H l o j Q E B C hb G I=>F.run A g s H l o j Q E B C hb G (h _ _ _ _ I)⟩
def Zm.make{P}{w}{K}{j}{base}{A}{g}{s}{H}(e:Zm P w K j base A g s H)(C:AW)(l:List AI)(m:List (Str×AI)) :
  Zm P w K j base (A.under (.builtin "type.__call__" ⟨.ref C :: l,m⟩)) g s H:=⟨by first | exact e.frames | (simpa[Wn,Code.envs,YO,pushEnvs]using e.frames),e.mod,e.bs,e.bsz,e.funs,e.frf,e.hok,e.bare⟩
section
variable{X:Cx}{ζ:List (AW×Obj)}{σ:St}{H:Hp}{s s':AM}
def Inv.env0(I:Inv X ζ σ H s):Zm X.prog X.w X.K X.mg X.base X.A X.stack s H:=
 ⟨I.ok.frames,I.ok.mod,I.bs,Ap I.ok.bsz I.sz,I.stack,I.stkFree,I.hok,I.bare⟩
def Inv.after(I:Inv X ζ σ H s)(h:CE X.stack X.prog X.w H s Q u s'):EP X ζ σ Q u s':=by
 obtain⟨v,o,os,j,un,l,r,q⟩:=h;obtain⟨A,g,d,t,m⟩:=s';obtain rfl:m=s.os:=os;exact⟨v,o,I.call (h':=A) (g':=g) (d':=d) (t':=t) (ch:=[]) un l j (λb z=>zX z (by simp)),r,q⟩
end
def ud(sp:Sp)(j:List V)(E:St->XK)(t:TA):TE:=λg H Q=>t g H λl m=>sp (l++j) m Q (E g)
def uU(C:AW)(sp:Sp)(m:List V)(E:St->XK)(t:TA):TE:=λl H Q=>t l H λo j=>∀x g,j x=none->j g=none->g≠x ->
 sp (.ref x :: (o++m)) (upd (upd j g (.own x)) x (.ins C g [])) (λv s=>v=.non/\Q (.ref x) s) (E l)
def Binds(K:AJ)(fd:LP)(ps:List Str)(ds:List AI):Prop:=
 ∀(s:AM) (g:List AI),K.In s.heap->(g++ds).length=ps.length->YQ s fd ⟨g,[]⟩ (ps.zip (g++ds))
def Binds.all{K}{fd}{ps}(h:∀g:List AI,g.length=ps.length->kU fd ⟨g,[]⟩=pure (ps.zip g)):Binds K fd ps []:=λs g _ j=>by
 rw[BI]at j ⊢;exact .of_eq (h g j)
def Oe(CX:CXT)(X:Cx)(E:St->XK):Prop:=∀(l:List (AW×Obj)) (g:St) (H:Hp) (s:AM) (e:AI) (j:AM),Inv X l g H s->CX X.stack H s (E g) e j->X.xe e j
section
variable{X:Cx}{k:Nat}{f C:AW}{fd:LP}{ps:List Str}{sp:Sp}{E:St->XK}{x:Str}{p pos:Pos}{e:Expr}{es:List Expr}{t:TA}
def qj(F:EZ X.prog X.w X.K X.mg X.base CX k f fd ps sp)(J:Ib k X.A)(hb:Binds X.K fd ps ds)(hd:Bx m ds)(L:Oe CX X E)
  (I:Inv X B l H s) (r:Bx o g) (h:sp (o++m) H Q (E l)):Ag (Ah X.prog X.w) X.A (call (.ref f) g) (EP X B l Q) X.xe s:=by
 have G:Bx (o++m) (g++ds):=r.append hd
 have N:(g++ds).length=ps.length:=by rw[<-G.length];exact F.len _ _ _ _ h
 refine Ra (Ig (F.run X.A X.stack s H ⟨g,[]⟩ (g++ds) (o++m) Q (E l) J I.env0 (hb s g I.kIn N) G h) λr O j=>?_)
 cases r with
 | error e=>exact L B l H s e O I j
 | ok fl=>
  cases fl with
  | ret u=>exact I.after j
  | next=>exact Eh j
  | brk=>exact Eh j
  | cont=>exact Eh j
def mn(F:EZ X.prog X.w X.K X.mg X.base CX k f fd ps sp)(j:Ib k X.A)(l:Gl X x)(m:X.mg x=some (.ref f))(o:G4 X.K (.ref f)=true)(hb:Binds X.K fd ps ds)(hd:Bx B ds)(G:Oe CX X E)
  (J:PA X (e :: es) t) (L:(x==("__debug__" : Str))=false:=by decide) (N:AQ (e :: es) X.env=(false,B1 e X.env) :: AQ es X.env:=by rfl) (O:(DH pos (AQ es X.env)).any (·.1)=false:=by rfl) :
  PE X (.Call (.Name x p) (e :: es) [] pos) (ud sp B E t):=by
 intro P s R H Q I h;refine Eb (PD I l m ?_ L);refine Yd (h₀:=X.base) I.ok.mod.kin o (thn (J pos P s R H _ I h) λS T ⟨U,Y,g,r,q⟩=>⟨g.kIn,?_⟩) N O;exact qj F j hb hd G g r q
structure Mk(K:AJ)(C f:AW):Prop where
 makes:eM K C=true
 init:DC K (.ref C) "__init__" = some (some (.ref f))
 fn:PySem.W.isFn K (.ref f)=true
 kp:G4 K (.ref C)=true
def gr(M:Mk X.K C f)(F:EZ X.prog X.w X.K X.mg X.base CX k f fd ps sp)(O:Ib (k+1) X.A)(hb:Binds X.K fd ps ds)(hd:Bx B ds)
  (P:Oe CX X E) (I:Inv X G l H s) (r:Bx J g)
  (h:∀x m,H x=none->H m=none->m≠x->sp (.ref x :: (J++B)) (upd (upd H m (.own x)) x (.ins C m [])) (λv R=>v=.non/\Q (.ref x) R) (E l)) :
  Ag (Ah X.prog X.w) X.A (call (.ref C) g) (EP X G l Q) X.xe s:=by
 have L:=h (s.heap.objs.size+1) s.heap.objs.size (I.hok.fresh (F9 _)) (I.hok.fresh (AL _)) (Al (Cc _));have o:=Inv.made (C:=C) I;have N:Bx (V.ref (s.heap.objs.size+1) :: (J++B)) (A0 (s.heap.objs.size+1) :: (g++ds)):=.cons rfl (r.append hd)
 have S:(A0 (s.heap.objs.size+1) :: g++ds).length=ps.length:=by
  have e:=N.length;rw[F.len _ _ _ _ L]at e;exact e.symm
 refine Ra (ip (f:=f) I.kIn M.makes M.init (beq_iff_eq.mp M.fn) (Ig (F.run _ X.stack _ _ ⟨A0 (s.heap.objs.size+1) :: g,[]⟩ (A0 (s.heap.objs.size+1) :: (g++ds)) _ _ (E l) (O.make C g [])
  (o.env0.make C g []) (hb _ (A0 (s.heap.objs.size+1) :: g) o.kIn S) N L) λr T j=>?_))
 cases r with
 | error e=>exact P G l _ _ e T o j
 | ok fl=>
  cases fl with
  | ret u=>
   obtain⟨v,U,Y,Z,ev,q3⟩:=o.after j;subst ev;exact⟨Z,⟨V.ref (s.heap.objs.size+1),U,Y,rfl,q3⟩⟩
  | next=>exact Eh j
  | brk=>exact Eh j
  | cont=>exact Eh j
def mY(M:Mk X.K C f)(F:EZ X.prog X.w X.K X.mg X.base CX k f fd ps sp)(j:Ib (k+1) X.A)(l:Gl X x)(m:X.mg x=some (.ref C))(hb:Binds X.K fd ps ds)(hd:Bx o ds)(B:Oe CX X E)
  (G:PA X (e :: es) t) (J:(x==("__debug__" : Str))=false:=by decide) (L:AQ (e :: es) X.env=(false,B1 e X.env) :: AQ es X.env:=by rfl) (N:(DH pos (AQ es X.env)).any (·.1)=false:=by rfl) :
  PE X (.Call (.Name x p) (e :: es) [] pos) (uU C sp o E t):=by
 intro O s P H Q I h;refine Eb (PD I l m ?_ J);refine Yd (h₀:=X.base) I.ok.mod.kin M.kp (thn (G pos O s P H _ I h) λR S ⟨T,U,g,r,q⟩=>⟨g.kIn,?_⟩) L N;exact gr M F j hb hd B g r q
end
structure CI(N P:List Str)(sc:Tf):Prop where
 kind:sc.kind=.function
 co:sc.isCoroutine=false
 gen:sc.isGenerator=false
 nd:N.Nodup
 pre:N.take P.length=P
 par:∀x∈P,sc.names.lookup x=some .local∨sc.names.lookup x=some .cell
 nofree:∀y∈sc.names,y.2≠.free
def U1{kindOf}{x}:∀{binds:List (Str×AI)} {m:Str->Option AI},(∀v,(x,v)∉binds)->eG kindOf binds m x=m x
 | [],_,_=>rfl
 | (n,v) :: r,m,h=>by
  unfold eG;rw[U1 λw hw=>h w (AY _ hw)];split
  ·have:x≠n:=by rintro rfl;exact h v Ax
   simp[this]
  ·rfl
def U3{kindOf}{x}:∀{binds:List (Str×AI)} {m:Str->Option AI},(∀v,(x,v)∉binds)->eI kindOf binds m x=m x
 | [],_,_=>rfl
 | (n,v) :: r,m,h=>by
  unfold eI;rw[U3 λw hw=>h w (AY _ hw)];split
  ·rfl
  ·have:x≠n:=by rintro rfl;exact h v Ax
   simp[this]
def U2{kindOf}{x}{v}:∀{P:List Str} {g:List AI} {i:Nat} {m:Str->Option AI},P.Nodup->P[i]?=some x->g[i]?=some v->kindOf x=some .local ->
  eG kindOf (P.zip g) m x=some v
 | [],_,_,_,_,h,_,_=>by simp at h
 | _ :: _,[],_,_,_,_,h,_=>by simp at h
 | p :: P,w :: g,0,m,o,j,l,s=>by
  simp at j l;subst j;subst l;show eG kindOf ((p,w) :: P.zip g) m p=_;unfold eG;rw[U1 λv A=>(Cq.mp o).1 (TW A).1,qX s];simp
 | p :: P,w :: g,i+1,m,o,j,l,s=>by
  show eG kindOf ((p,w) :: P.zip g) m x=_;unfold eG;exact U2 (i:=i) (Cq.mp o).2 (by simpa using j) (by simpa using l) s
def U4{kindOf}{x}{v}:∀{P:List Str} {g:List AI} {i:Nat} {m:Str->Option AI},P.Nodup->P[i]?=some x->g[i]?=some v->kindOf x≠some .local ->
  eI kindOf (P.zip g) m x=some v
 | [],_,_,_,_,h,_,_=>by simp at h
 | _ :: _,[],_,_,_,_,h,_=>by simp at h
 | p :: P,w :: g,0,m,o,j,l,s=>by
  simp at j l;subst j;subst l;show eI kindOf ((p,w) :: P.zip g) m p=_;unfold eI;rw[U3 λv A=>(Cq.mp o).1 (TW A).1,qY s];simp
 | p :: P,w :: g,i+1,m,o,j,l,s=>by
  show eI kindOf ((p,w) :: P.zip g) m x=_;unfold eI;exact U4 (i:=i) (Cq.mp o).2 (by simpa using j) (by simpa using l) s
def start(N:List Str)(g:List V):St:=g.map some++Ak (N.length - g.length) none
def WP(CX:CXT)(P:Bq)(w:CQ)(K:AJ)(mg:Str->Option AI)(base:CZ)(N:List Str)(g:Str)(scope:Tf)(f:AW)(j:AI)(A:B5)(outer:List Env)(s:AM)(H:Hp)(E:XK):Cx where
 prog:=P
 w:=w
 K:=K
 mg:=mg
 base:=base
 A:=A.deeper (OK g scope s.heap.objs.size f j)
 N:=N
 s₀:=s
 H₀:=H
 env:=OK g scope s.heap.objs.size f j
 outer:=outer
 stack:=OK g scope s.heap.objs.size f j :: outer
 ex:=[]
 calm:=true
 fn:=λ_=>true
 pn:=[]
 xe:=λe m=>Ag (Ah P w) (A.deeper (OK g scope s.heap.objs.size f j)) (leaving (OK g scope s.heap.objs.size f j) e) (λ_ l=>CX outer H s E e l) (λo l=>CX outer H s E o l) m
def X6{g:Tf}{n:Nat}{x:Str}(h:g.names.lookup x=some .cell):∃c,(CV n g.names []).lookup x=some c:=by
 have q:=VM g.names n [] (.inl h);exact UI.mp q
def dG{CX:CXT}{P:Bq}{w:CQ}{K:AJ}{O:Str->Option AI}{base:CZ}{N ps:List Str}{j:Str}{scope:Tf}{f:AW}{I:AI}{A:B5}{g:List Env}{s s1:AM}{H:Hp}{E:XK}{Q:List AI}{o:List V}
  (S:CI N ps scope) (hd:A.handled=none) (m:Zm P w K O base A g s H) (Z:o.length=ps.length) (r:Bx o Q)
  (x:InCallC s s.heap.objs.size (eG (OK j scope s.heap.objs.size f I).kindOf (ps.zip Q) λ_=>none) (CV (s.heap.objs.size+1) scope.names []) (eI (OK j scope s.heap.objs.size f I).kindOf (ps.zip Q) λ_=>none) s1) :
  Inv (WP CX P w K O base N j scope f I A g s H E) [] (start N o) H s1:=by
 have wm:ps.length<=N.length:=by have:=congrArg F7 S.pre;rw[Be]at this;lia
 obtain⟨J,tk,rfl,T⟩:=x.done
 have R:∀b:AW,b∉(WP CX P w K O base N j scope f I A g s H E).ex:=λb z=>zX (show b∈([]:List AW)from z) (by simp)
 refine⟨⟨m.mod,S.kind,rfl,rfl,AL _,λy z c J l=>?_,λy B=>?_,λy c _ h=>?_,λ_=>hd,B5.frames_deeper m.frames,.inr ⟨rfl,rfl⟩,λb z=>zX z (R b),m.bs,m.bsz,λb _ _=>R b,λb z=>zX z (R b),m.funs,m.frf⟩,
  rfl,m.bare,Un.kept T,⟨_,x.toInCall.ns,λi y v J l h3=>?_⟩,λy c h=>⟨_,x.cell y c h⟩,m.hok.fresh (AL _),λy c h=>?_,λp C=>zX (show p∈([]:List (AW×Obj))from C) (by simp),m.hok.kept T,?_⟩
 ·exact name_of_addr x.apart (Dq J) (Dq l)
 ·have B:scope.names.lookup y=some .cell∨scope.names.lookup y=some .free:=B
  rcases B with B | B
  ·exact X6 B
  ·exact zX rfl (S.nofree _ (Dq B))
 ·exact Ml (x.above y c (Dq h))
 ·have L:i < o.length:=by
   unfold start at l
   by_cases L:i < o.length
   ·exact L
   ·rw[BG (by simpa using L)]at l
    rw[Dj]at l
    split at l <;> cases l
  have X:o[i]?=some v:=by
   unfold start at l;rw[Ab (by simpa using L),Ao]at l
   cases e:o[i]? with
   | none=>rw[e]at l;cases l
   | some a=>rw[e]at l;cases l;rfl
  obtain⟨u,U,Y⟩:=r.get X
  have C:ps[i]?=some y:=by
   rw[<-S.pre,El (by lia)];exact J
  have G:ps.Nodup:=by rw[<-S.pre];exact S.nd.sublist (Eg _ _)
  refine⟨u,Y,?_⟩
  rcases S.par y (Ac C)with k | k
  ·exact .inl ⟨k,U2 G C U k⟩
  ·obtain⟨c,e⟩:=X6 (n:=s.heap.objs.size+1) k
   refine .inr ⟨.inl k,c,e,?_⟩;have q:=x.cell y c e;rw[U4 G C U (by show scope.names.lookup y≠_;rw[k];decide)]at q;exact q
 ·exact m.hok.fresh (Ml (x.above y c (Dq h)))
 ·unfold start
  show _=N.length;rw[AK,AG,NZ]
  lia
def vW{CX}{P}{w}{K}{R}{base}{k}{f}{name j}{params}{body}{scope}{Y kV L Z C ct oc}{an od}
  {yJ} {N ps} {sp} (lk:K.lookup f=some ⟨oc,od,.func (Iu name j params body scope Y kV L Z an C ct),yJ⟩) (yg:Re K C j=true) (S:CI N ps scope)
  (len:∀l H Q E,sp l H Q E->l.length=ps.length)
  (xT:∀(A:B5) (g:List Env) (s:AM) (H:Hp) (l:List V) (Q:VK) (E:XK),Ib k (A.deeper (OK j scope s.heap.objs.size f C))->sp l H Q E ->
   ∃t,PSs (WP CX P w K R base N j scope f C A g s H E) body t/\t { nx:=λ_ B=>Q .non B,rt:=Q } (start N l) H) :
  EZ P w K R base CX (k+1) f (Iu name j params body scope Y kV L Z an C ct) ps sp:=by
 refine⟨len,λA g s H args us l Q E T O hb r Χ=>?_⟩;have hl:=len _ _ _ _ Χ
 have KX:K.In s.heap:=O.mod.kin.keeps λb o e=>(O.bs b o e).1
 have U:s.heap.NoLimit:=O.mod.nolimit.keeps λb o e=>(O.bs b o e).1
 have ϓ:∀y∈ps.zip us,scope.names.lookup y.1=some .local∨(scope.names.lookup y.1=some .cell/\((CV (s.heap.objs.size+1) scope.names []).lookup y.1).isSome=true):=by
  rintro ⟨n,v⟩ hy
  rcases S.par n (TW hy).1 with q | q
  ·exact .inl q
  ·exact .inr ⟨q,VM _ _ _ (.inl q)⟩
 refine codeAny_call_function T.depth (KX _ _ lk) rfl S.co S.gen rfl (PySem.W.codeRec_of KX yg) (hb _ _ _ _ ?_)
 refine wpAny_newFunctionEnv_cells S.kind ϓ λenv he s1 x=>?_
 subst he;refine⟨U.keeps x.toInCall.keep,codeAny_func ?_⟩;obtain⟨t,ht,hq⟩:=xT A g s H l Q E (T.deeper _) Χ;have I:Inv (WP CX P w K R base N j scope f C A g s H E) [] (start N l) H s1:=dG S T.hd O hl r x
 refine E2 (ht [] s1 (start N l) H _ I hq) (λfl s' G=>?_) λe s' G=>G
 have fin:∀{m:St} {B:Hp} {v:V} {u:AI},Inv (WP CX P w K R base N j scope f C A g s H E) [] m B s'->RelV v u->Q v B->CE g P w H s Q u s':=
  λ{m B v u} J X q=>⟨v,B,J.os,J.bare,J.base,J.hok,X,q⟩
 cases fl with
 | ret u=>
  obtain⟨v,m,B,J,X,q⟩:=G;exact fin J X q
 | next=>
  obtain⟨m,B,J,q⟩:=G;exact fin (v:=V.non) (u:=BW) J rfl q
 | brk=>
  obtain⟨_,_,_,q⟩:=G;exact Eh q
 | cont=>
  obtain⟨_,_,_,q⟩:=G;exact Eh q
section
variable{X:Cx}{x:Str}{p pos:Pos}{e:Expr}{es:List Expr}{t:TA}{id T:String}{r:List V->Hp->VK->Prop}
def tCB(r:List V->Hp->VK->Prop)(t:TA):TE:=λg H Q=>t g H λj l=>r j l Q
def Kz(l:HX X (.builtin id) r)(m:Gl X x)(o:X.mg x=none)(A:FX x=some (.builtin id))(B:PA X (e :: es) t)(C:x≠"__name__":=by decide) (E:(x==("__debug__" : Str))=false:=by decide)
  (G:AQ (e :: es) X.env=(false,B1 e X.env) :: AQ es X.env:=by rfl) (J:(DH pos (AQ es X.env)).any (·.1)=false:=by rfl):PE X (.Call (.Name x p) (e :: es) [] pos) (tCB r t):=by
 intro g s j H Q I h;refine Eb (Kc I m o A ?_ C E);exact N6 (thn (B pos g s j H _ I h) λL N ⟨O,P,R,S,U⟩=>l g N j P O L Q R S U) G J
def P9(l:HX X (.type T) r)(m:Gl X x)(o:X.mg x=none)(A:FX x=some (.type T))(B:PA X (e :: es) t)(C:x≠"__name__":=by decide) (E:(x==("__debug__" : Str))=false:=by decide)
  (G:AQ (e :: es) X.env=(false,B1 e X.env) :: AQ es X.env:=by rfl) (J:(DH pos (AQ es X.env)).any (·.1)=false:=by rfl):PE X (.Call (.Name x p) (e :: es) [] pos) (tCB r t):=by
 intro g s j H Q I h;refine Eb (Kc I m o A ?_ C E);exact CT (thn (B pos g s j H _ I h) λL N ⟨O,P,R,S,U⟩=>l g N j P O L Q R S U) G J
end
end L2
namespace HT
section
variable{prog:Bq}{w:CQ}{A:B5}{E:AI->AM->Prop}{s:AM}
def oG(L:kb s.heap t l.toArray)(hb:kb s.heap b g.toArray)(C:l≠[])
  (N:g=[]->Q (.ref t) s) (O:g≠[]->Q (.ref s.heap.objs.size) { s with heap:=s.heap.push { cls:=.type "tuple",data:=.seq (l++g).toArray } })
  (hsz:l.length+g.length<=sizeLine):Ag (Ah prog w) A (DZ .Add (.ref t) (.ref b)) Q E s:=by
 obtain⟨⟨cls,G,data,sl⟩,B,H,n,hd⟩:=id L;obtain⟨⟨I,m,data2,o⟩,j,hc2,J,hd2⟩:=id hb;simp only at H hd hc2 hd2;subst H hd hc2 hd2
 have e:l.toArray++g.toArray=(l++g).toArray:=by simp
 by_cases hw:g=[]
 ·exact e8 ⟨_,B,rfl⟩ ⟨_,j,rfl⟩ VD bQ LO Kr (KM _ _)
   (tuple_addW1 t b l.toArray g.toArray n J G m sl o (by simpa using C) (by simp[hw])) ⟨B,j,N hw⟩
 ·refine e8 ⟨_,B,rfl⟩ ⟨_,j,rfl⟩ VD bQ LO Kr (KM _ _)
   (tuple_addW2 t b l.toArray g.toArray n J G m sl o (by simpa using C) (by simpa using hw) (by rw[AT,AT];exact hsz)) ⟨B,j,?_⟩
  rw[e];exact O hw
noncomputable def sIx(n d:Nat):Option Int->Nat
 | none=>d
 | some v=>if v < 0 then(v+(n:Int)).toNat else min v.toNat n
def SA(n d:Nat):sIx n d none=d:=rfl
def RO(n d k:Nat):sIx n d (some (k:Int))=min k n:=by
 show(if (k:Int) < 0 then((k:Int)+(n:Int)).toNat else min (k:Int).toNat n)=min k n;rw[qY (by lia),Ay]
def qi(n d:Nat)(hd:d<=n)(o:Option Int):sIx n d o<=n:=by
 cases o with
 | none=>exact hd
 | some v=>
  show(if v < 0 then(v+(n:Int)).toNat else min v.toNat n)<=n
  by_cases g:v < 0
  ·rw[qX g];lia
  ·rw[qY g];exact kX _ _
def bH(v:Int)(n d:Nat):(if v < 0 then max (v+(n:Int)) 0 else min v (n:Int))=((sIx n d (some v):Nat):Int):=by
 show(if v < 0 then max (v+(n:Int)) 0 else min v (n:Int))=(((if v < 0 then(v+(n:Int)).toNat else min v.toNat n):Nat):Int)
 by_cases g:v < 0
 ·simp only[qX g];lia
 ·simp only[qY g];lia
def Zi(lo hi:Option Int)(n:Nat):Ik lo hi 1 (n:Int)=(((sIx n 0 lo:Nat):Int),((sIx n n hi:Nat):Int)):=by
 have g:¬((1:Int) < 0):=by lia
 unfold Ik;simp only[g,if_false];refine MK ?_ ?_
 ·cases lo with
  | none=>rfl
  | some v=>exact bH v n 0
 ·cases hi with
  | none=>rfl
  | some v=>exact bH v n n
def ZC(i j:Nat):FM (i:Int) (j:Int) 1=j - i:=by
 unfold FM
 have g:(1:Int) > 0:=by lia
 simp only[g,if_true,Int.ediv_one]
 split <;> lia
def R4(p:Ps v o)(h:Q o s):Ag (Ah prog w) A (uO v) Q E s:=by
 cases p with
 | none=>exact slicePart_none h
 | int i t=>exact slicePart_int h
def Kx{sl:AW}{g j:AI}{lo hi:Option Int}{n:Nat}{Q:Int×Int×Nat->AM->Prop}(o:s.heap.IsSliceOf sl g j .none)(B:Ps g lo)(C:Ps j hi)
  (h:Q (((sIx n 0 lo:Nat):Int),1,sIx n n hi - sIx n 0 lo) s):Ag (Ah prog w) A (Ot (.ref sl) (pure (n:Int))) Q E s:=by
 obtain⟨os,l,G,m⟩:=id o;unfold Ot uP;refine AA (AA (Dp l m (x:=g) rfl (AA (Dp l m (x:=j) rfl (AA (Dp l m (x:=.none) rfl (AE ?_)))))));refine AA (slicePart_none ?_);show Ag _ _ (if ((1:Int)==0)=true then _ else _) _ _ s;rw[qY (by decide)];refine AA (R4 B (AA (R4 C (AA (AE ?_)))));show Ag _ _ (match Ik lo hi 1 (n:Int)with | (lo,hi)=>pure (lo,(1:Int),FM lo hi 1)) _ _ s;rw[Zi lo hi n];show Ag _ _ (pure (((sIx n 0 lo:Nat):Int),(1:Int),FM ((sIx n 0 lo:Nat):Int) ((sIx n n hi:Nat):Int) 1)) _ _ s;rw[ZC];exact AE h
def iH(xs:Array AI)(i k:Nat):((Bs k).filterMap λ(m:Nat)=>xs[((i:Int)+(m:Int) * 1).toNat]?).toArray=((xs.toList.drop i).take k).toArray:=by
 have e:(λ(m:Nat)=>xs[((i:Int)+(m:Int) * 1).toNat]?)=λm=>xs[i+m]?:=by
  funext m
  have:((i:Int)+(m:Int) * 1).toNat=i+m:=by lia
  rw[this]
 rw[e];have:=pick_run xs i k;rw[eZ]at this
 have g:((λx=>xs[x]?)∘λx=>i+x)=λm=>xs[i+m]?:=rfl
 rw[g]at this;rw[this]
def PP{t sl}{g}{C G}{lo hi}{Q}(j:kb s.heap t g)(H:s.heap.IsSliceOf sl C G .none)(I:Ps C lo)(J:Ps G hi)
  (hw:¬(sIx g.size 0 lo=0/\sIx g.size g.size hi=g.size))
  (h:Q (.ref s.heap.objs.size) { s with heap:=s.heap.push { cls:=.type "tuple",data:=.seq ((g.toList.drop (sIx g.size 0 lo)).take (sIx g.size g.size hi - sIx g.size 0 lo)).toArray } })
  (hsz:g.size<=sizeLine):Ag (Ah prog w) A (Ma (.ref t) (.ref sl)) Q E s:=by
 have l:sizeOk (.seq ((g.toList.drop (sIx g.size 0 lo)).take (sIx g.size g.size hi - sIx g.size 0 lo)).toArray):=by
  show((g.toList.drop (sIx g.size 0 lo)).take (sIx g.size g.size hi - sIx g.size 0 lo)).toArray.size<=sizeLine;rw[AT,Be,Ca,BM];omega
 have O:sIx g.size g.size hi<=g.size:=qi _ _ (AL _) hi;obtain⟨os,L,N,P⟩:=id H;have o:s.TypeIs (.ref sl) "slice":=⟨os,L,N⟩;unfold Ma
 try with_reducible refine CP ?_
 first | refine AA (AE ?_) | skip
 refine AA (tP j.typeIs (by decide) ?_)
 refine AA (Bm (name:=D9 "__getitem__") j.typeIs Cb
  (Bl Cb j.typeIs oZ ?_ (pW _ _)))
 show Ag _ _ (Os (.ref t) >>= _) _ _ s;refine AA (tupleItemsOf_ j ?_);refine AA (Ko o ?_);rw[qX (by decide)];refine AA (Kx H I J ?_)
 have B:¬((((sIx g.size 0 lo:Nat):Int)==0&&(1:Int)==1&&(sIx g.size g.size hi - sIx g.size 0 lo)==g.size)=true):=by
  intro q;rw[DU,DU]at q;have R:((sIx g.size 0 lo:Nat):Int)=0:=eq_of_beq q.1.1;have S:sIx g.size g.size hi - sIx g.size 0 lo=g.size:=eq_of_beq q.2;exact hw ⟨by lia,by omega⟩
 show Ag _ _ (if (((sIx g.size 0 lo:Nat):Int)==0&&(1:Int)==1&&(sIx g.size g.size hi - sIx g.size 0 lo)==g.size)=true then _ else _) _ _ s;rw[qY B,iH]
 first
  | exact AA (m:=Fb _) (BQ (AE ⟨_,rfl,AE h⟩) l)
  | exact AA (m:=Fb _) (BQ (AA (AE (AE ⟨_,rfl,AE h⟩))) l)
  | exact AA (AA (m:=Fb _) (BQ (AE (AE ⟨_,rfl,AE h⟩)) l))
  | exact AA (AA (m:=Fb _) (BQ (AE ⟨_,rfl,AE h⟩) l))
end
end HT
namespace L2
section
abbrev TO:=St->Hp->(Option Int->Hp->Prop)->Prop
def PO(X:Cx)(e:Option Expr)(t:TO):Prop:=
 ∀(j:List (AW×Obj)) (s:AM) (g:St) (H:Hp) (Q:Option Int->Hp->Prop),Inv X j g H s->t g H Q ->
  Ag (Ah X.prog X.w) X.A (evalPart e X.env) (λu m=>∃o l,Inv X j g l m/\Ps u o/\Q o l) X.xe s
def lP:TO:=λ_ H Q=>Q none H
def uS(t:TE):TO:=λg H Q=>t g H λx j=>∃i,x=.int i/\Q (some i) j
def intsAre_of:∀{g:List AI},Bx (ns.map V.int) g->IntsAre g ns:=by
 induction ns with
 | nil=>intro g r;rw[Mc]at r;cases r;exact .nil
 | cons n ns j=>
  intro g r;rw[A4]at r
  cases r with
  | cons l m=>
   obtain⟨t,e⟩:=l;subst e;exact .cons n t (j m)
section
variable{κ:Type}[DecidableEq κ]
def LW(kvs:List (κ×V))(k:κ):Option V:=(kvs.find? λg=>decide (g.1=k)).map (·.2)
noncomputable def Il(kvs:List (κ×V))(k:κ)(v:V):List (κ×V):=
 if (kvs.any λg=>decide (g.1=k))=true then kvs.map (λg=>if g.1=k then(g.1,v)else g)else kvs++[(k,v)]
def Rx{p:κ×V}{r:List (κ×V)}{k:κ}(e:p.1=k):LW (p :: r) k=some p.2:=by simp[LW,Bv,e]
def Ry{p:κ×V}{r:List (κ×V)}{k:κ}(e:¬p.1=k):LW (p :: r) k=LW r k:=by simp[LW,Bv,e]
def W5(k:κ):∀kvs:List (κ×V),(kvs.any λg=>decide (g.1=k))=(LW kvs k).isSome
 | []=>rfl
 | p :: r=>by
  rw[Ij]
  by_cases e:p.1=k
  ·simp only[Rx e,wX e,Bool.true_or,Zt]
  ·rw[Ry e,wY e,pf];exact W5 k r
def NA(kvs:List (κ×V))(k:κ)(v:V):(Il kvs k v).length<=kvs.length+1:=by
 unfold Il;split
 ·rw[AG];lia
 ·rw[AK,A1,JL];lia
def QS.isSome_eq(r:QS o u):o.isSome=u.isSome:=by
 cases o with
 | none=>cases u with
  | none=>rfl
  | some _=>exact(show False from r).elim
 | some _=>cases u with
  | none=>exact(show False from r).elim
  | some _=>rfl
def KV.val{kvs:List (κ×V)}{l:List (κ×AI)}(r:KV kvs l)(k:κ):QS (LW kvs k) (TZ l k):=by
 unfold KV at r
 induction r with
 | nil=>exact DT
 | @cons p q A g h t o=>
  obtain⟨m,s⟩:=h
  by_cases e:p.1=k
  ·have j:q.1=k:=m.symm.trans e
   have b:TZ (q :: g) k=some q.2:=by simp[TZ,Bv,j]
   rw[Rx e,b];exact s
  ·have j:¬q.1=k:=λz=>e (m.trans z)
   have b:TZ (q :: g) k=TZ g k:=by simp[TZ,Bv,j]
   rw[Ry e,b];exact o
def KV.any(r:KV kvs j)(k:κ):(kvs.any λg=>decide (g.1=k))=j.any λg=>decide (g.1=k):=by
 unfold KV at r
 induction r with
 | nil=>rfl
 | cons h t l=>rw[Ij,Ij,l,h.1]
def KV.repl(r:KV kvs l)(k:κ)(m:RelV y u) :
  KV (kvs.map λg=>if g.1=k then(g.1,y)else g) (l.map λg=>if g.1=k then(g.1,u)else g):=by
 unfold KV at r ⊢
 induction r with
 | nil=>exact .nil
 | @cons p q A B h t o=>
  rw[A4,A4];refine .cons ?_ o;obtain⟨j,s⟩:=h
  by_cases e:p.1=k
  ·rw[qX e,qX (j.symm.trans e)];exact⟨j,m⟩
  ·rw[qY e,qY (λz=>e (j.trans z))];exact⟨j,s⟩
def KV.put(r:KV kvs g)(k:κ)(j:RelV y u):KV (Il kvs k y) (stored g k u):=by
 unfold Il stored;rw[r.any k]
 by_cases e:(g.any λl=>decide (l.1=k))=true
 ·rw[qX e,qX e];exact r.repl k j
 ·rw[qY e,qY e];exact YK r ⟨rfl,j⟩
def KV.length(r:KV kvs g):kvs.length=g.length:=Ef r
end
def Ur(r:RelV (kV k) u):(ED P w).is k u=true:=by
 cases k with
 | inl i=>obtain⟨t,e⟩:=(show ∃t,u=G1 i t from r);subst e;exact Xi P w i t
 | inr x=>obtain⟨t,e⟩:=(show ∃t,u=Qt x t from r);subst e;exact Xh P w x t
def Us:∀{g:List Key} {j:List AI},Bx (g.map kV) j->ItemsAre (ED P w) g j
 | [],_,r=>by rw[Mc]at r;cases r;exact .nil
 | k :: g,_,r=>by
  rw[A4]at r
  cases r with
  | cons h t=>exact .cons (Ur h) (Us t)
abbrev KT(H:Hp):List (List Key×V)->List (List Key×AW×AI)->Prop:=Hn λp q=>p.1=q.1/\H q.2.1=some (.tup (p.1.map kV))/\RelV p.2 q.2.2
def KT.val{H:Hp}{kvs:List (List Key×V)}{xs:List (List Key×AW×AI)}(r:KT H kvs xs)(k:List Key):QS (LW kvs k) ((Ya xs k).map (·.2)):=by
 induction r with
 | nil=>exact DT
 | @cons p q s g h t m=>
  obtain⟨l,_,o⟩:=h
  by_cases e:p.1=k
  ·have j:q.1=k:=l.symm.trans e
   have b:Ya (q :: g) k=some q.2:=by simp[Ya,Bv,j]
   rw[Rx e,b];exact o
  ·have j:¬q.1=k:=λz=>e (l.trans z)
   have b:Ya (q :: g) k=Ya g k:=by simp[Ya,Bv,j]
   rw[Ry e,b];exact m
def KT.repl(r:KT H kvs xs)(k:List Key)(m:RelV y u) :
  KT H (kvs.map λj=>if j.1=k then(j.1,y)else j) (xs.map (putAt k u)):=by
 induction r with
 | nil=>exact .nil
 | @cons p q A B h t o=>
  rw[A4,A4];refine .cons ?_ o;obtain⟨g,l,s⟩:=h;unfold putAt
  by_cases e:p.1=k
  ·rw[qX e,qX (g.symm.trans e)];exact⟨g,l,m⟩
  ·rw[qY e,qY (λz=>e (g.trans z))];exact⟨g,l,s⟩
def KT.put(r:KT H kvs xs)(k:List Key)(hb:H b=some (.tup (k.map kV)))(g:RelV y u) :
  KT H (Il kvs k y) (storedH xs k b u):=by
 have e:(kvs.any λj=>decide (j.1=k))=(Ya xs k).isSome:=by
  rw[W5,(r.val k).isSome_eq,Pe]
 unfold Il storedH;rw[e]
 by_cases q:(Ya xs k).isSome=true
 ·rw[qX q,qX q];exact r.repl k g
 ·rw[qY q,qY q];exact YK r ⟨rfl,hb,g⟩
def KT.keeps(r:KT H kvs xs)(g:∀b ys,H b=some (.tup ys)->j b=some (.tup ys)):KT j kvs xs:=
 Hn.mapP r λ_ _ z=>⟨z.1,g _ _ z.2.1,z.2.2⟩
variable{X:Cx}{e:Expr}{lo hi:Option Expr}{pos p2:Pos}
def mS:PO X none lP:=by
 intro g s j H Q I h;rw[evalPart_none];exact AE ⟨none,H,I,.none,h⟩
def mR(h:PE X e te):PO X (some e) (uS te):=by
 intro g s j H Q I hw;rw[evalPart_some]
 refine thn (h g s j H _ I hw) λu B ⟨x,l,m,o,A⟩=>?_
 obtain⟨i,rfl,q⟩:=A;obtain⟨t,rfl⟩:=o;exact⟨some i,l,m,.int i t,q⟩
def SlR(X:Cx)(r:V->Option Int->Option Int->Hp->VK->Prop):Prop:=
 ∀(g:List (AW×Obj)) (s:AM) (j:St) (H:Hp) (x:V) (v l m:AI) (lo hi:Option Int) (sl:AW) (Q:VK),Inv X g j H s->RelV x v->s.heap.IsSliceOf sl l m .none->Ps l lo->Ps m hi->r x lo hi H Q ->
  ∃T id,typeLookup (.type T) "__getitem__" = pure (some (.builtin id))/\s.TypeIs v T/\Ag (Ah X.prog X.w) X.A (Ma v (.ref sl)) (EP X g j Q) X.xe s
def SlR.or(h:SlR X r)(h':SlR X E):SlR X (λx lo hi H Q=>r x lo hi H Q∨E x lo hi H Q):=by
 intro g s j H x v l m lo hi sl Q I o A B C q
 rcases q with q | q
 ·exact h g s j H x v l m lo hi sl Q I o A B C q
 ·exact h' g s j H x v l m lo hi sl Q I o A B C q
def tSl(r:V->Option Int->Option Int->Hp->VK->Prop)(te:TE)(j m:TO):TE:=λg H Q=>te g H λx o=>j g o λl s=>m g s λu A=>r x l u A Q
def XY(E:SlR X r)(G:PE X e te)(J:PO X lo L)(N:PO X hi O):PE X (.Subscript e (.Slice lo hi none p2) pos) (tSl r te L O):=by
 intro j s m H Q I h;refine pX (thn (G j s m H _ I h) λv P ⟨x,R,S,U,Y⟩=>?_);refine wpAny_Slice (thn (J j P m R _ S Y) λo Z ⟨l,H2,I2,pl,q2⟩=>thn (N j Z m H2 _ I2 q2) λB g ⟨u,C,I3,pu,q3⟩=>?_);rw[evalPart_none];refine AE ?_
 have I4:Inv X j m C { g with heap:=g.heap.push { cls:=.type "slice",data:=.fields #[o,B,.none] } }:=I3.kept (t':=g.toks) λb ob q=>AF _ q
 obtain⟨T,id,hT,ht,hg⟩:=E j { g with heap:=g.heap.push { cls:=.type "slice",data:=.fields #[o,B,.none] } } m C x v o B l u g.heap.objs.size Q I4 U (tm ..) pl pu q3;show Ag (Ah X.prog X.w) X.A (bP e (.Slice lo hi none p2) v (.ref g.heap.objs.size)) (EP X j m Q) X.xe { g with heap:=g.heap.push { cls:=.type "slice",data:=.fields #[o,B,.none] } };exact tail_any (ops:=[.ref g.heap.objs.size,v]) ht hT hg (by with_unfolding_all rfl)
def Q9(xs:List V)(lo hi:Option Int):List V:=(xs.drop (HT.sIx xs.length 0 lo)).take (HT.sIx xs.length xs.length hi - HT.sIx xs.length 0 lo)
def Qr(xs:List V)(lo hi:Option Int):(Q9 xs lo hi).length<=xs.length:=by
 unfold Q9;rw[Be,Ca]
 lia
def rSlT(K:AJ):V->Option Int->Option Int->Hp->VK->Prop:=λx lo hi H Q=>∃a g,x=.ref a/\SqT K H a g /\
 ¬(HT.sIx g.length 0 lo=0/\HT.sIx g.length g.length hi=g.length)/\∀p,H p=none->Q (.ref p) (upd H p (.tup (Q9 g lo hi)))
def gd:SlR X (rSlT X.K):=by
 intro L s N H x v O P lo hi sl Q I A B C E h;obtain⟨a,j,rfl,G,hw,q⟩:=h;cases A;obtain⟨J,r,l,m⟩:=I.tuple G
 have g:J.toArray.size=j.length:=by rw[AT];exact r.length.symm
 refine⟨"tuple",_,Cb.lookup,l.typeIs,?_⟩;refine HT.PP l B C E (by rw[g];exact hw) ?_ (by rw[g];exact m);rw[g];refine⟨.ref s.heap.objs.size,_,I.laid (t':=s.toks) (o:=.tup (Q9 j lo hi)) (λb R q=>AF _ q) (AL _) ?_,rfl,q _ (I.hok.fresh (AL _))⟩;exact⟨⟨Ap (Qr j lo hi) m,⟨_,AR _ rfl,rfl⟩⟩,_,(r.drop (HT.sIx j.length 0 lo)).take (HT.sIx j.length j.length hi - HT.sIx j.length 0 lo),fE _ _⟩
def uq(K:AJ):R2:=λx y H Q=>∃a b j g,x=.ref a/\y=.ref b/\SqT K H a j/\SqT K H b g/\j≠[]/\j.length+g.length<=sizeLine /\
 (g=[]->Q (.ref a) H)/\(g≠[]->∀p,H p=none->Q (.ref p) (upd H p (.tup (j++g))))
def Bx.nil_iff(r:Bx xs g):g=[]↔xs=[]:=by
 cases r with
 | nil=>simp
 | cons _ _=>simp
def nC:OpR X (DZ .Add) (uq X.K):=by
 intro O s P H x y v u Q I m A h;obtain⟨a,b,B,C,rfl,rfl,E,hb,G,l,J,L⟩:=h;cases m;cases A;obtain⟨R,j,N,_⟩:=I.tuple E;obtain⟨S,g,p2,_⟩:=I.tuple hb;refine HT.oG N p2 (λz=>G (j.nil_iff.mp z)) (λz=>⟨.ref a,H,I,rfl,J (g.nil_iff.mp z)⟩) (λz=>?_) (by rw[<-j.length,<-g.length];exact l);refine⟨.ref s.heap.objs.size,_,I.laid (t':=s.toks) (o:=.tup (B++C)) (λb T q=>AF _ q) (AL _) ?_,rfl,L (λw=>z (g.nil_iff.mpr w)) _ (I.hok.fresh (AL _))⟩;exact⟨⟨by rw[AK];exact l,⟨_,AR _ rfl,rfl⟩⟩,_,j.append g,fE _ _⟩
end
section
def ixN(n:Nat)(i:Int):Option Nat:=if 0<=i then(if i < n then some i.toNat else none)else if -(n:Int)<=i then some (i+n).toNat else none
def atI{α:Type}(xs:List α)(i:Int):Option α:=(ixN xs.length i).bind λj=>xs[j]?
def ag(h:ixN n i=some j):seqIndex? i n=some j/\j < n/\-(n:Int)<=i/\i < n:=by
 unfold ixN at h
 by_cases l:0<=i
 ·rw[qX l]at h
  by_cases g:i < n
  ·rw[qX g]at h
   have e:i.toNat=j:=Cw h;exact⟨by rw[kO l g,e],by lia,by lia,g⟩
  ·rw[qY g]at h;cases h
 ·rw[qY l]at h
  by_cases g:-(n:Int)<=i
  ·rw[qX g]at h
   have e:(i+n).toNat=j:=Cw h;exact⟨by rw[seqIndex_neg (by lia) g,e],by lia,g,by lia⟩
  ·rw[qY g]at h;cases h
def bL{g:Type}{xs:List g}{i:Int}{v:g}(h:atI xs i=some v):∃j,seqIndex? i xs.length=some j/\xs[j]?=some v/\j < xs.length/\-(xs.length:Int)<=i/\i < xs.length:=by
 unfold atI at h
 cases e:ixN xs.length i with
 | none=>rw[e]at h;cases h
 | some j=>
  rw[e]at h;obtain⟨l,m,o,s⟩:=ag e;exact⟨j,l,h,m,o,s⟩
def Wf(b:Expr):Prop:=∀o i,Wh b false o i=operate [o,i] (Ma o i)
def IxR(X:Cx)(r:R2):Prop:=
 ∀(value g:Expr) (j:List (AW×Obj)) (s:AM) (l:St) (H:Hp) (x y:V) (v u:AI) (Q:VK),Inv X j l H s->RelV x v->RelV y u->r x y H Q ->
  Wh g false v u=operate [v,u] (Ma v u)->Ag (Ah X.prog X.w) X.A (bP value g v u) (EP X j l Q) X.xe s
def MtR(X:Cx)(id:String)(r:V->List V->Hp->VK->Prop):Prop:=
 ∀(g:List (AW×Obj)) (s:AM) (j:St) (H:Hp) (x:V) (l:List V) (v:AI) (m:List AI) (Q:VK),Inv X g j H s->RelV x v->Bx l m->r x l H Q ->
  Ag (Ah X.prog X.w) X.A (call (.builtin id) (v :: m)) (EP X g j Q) X.xe s
section
variable{P:Bq}{w:CQ}{H:Hp}{h:CZ}{a:AW}
def pA(ok:HOk P w H h)(e:Rd H a u):DG P w H h a u:=e.ok ok
def Sv(ok:HOk P w H h)(e:Rd H a (.dK kvs)):kvs.length<=sizeLine/\(a==D7)=false/\∃vs,KV kvs vs/\h.DictOf (ED P w) a vs:=
 show DG P w H h a (.dK kvs)from pA ok e
def bE(ok:HOk P w H h)(e:H a=some (.dK kvs)):kvs.length<=sizeLine/\(a==D7)=false/\∃vs,KV kvs vs/\h.DictOf (ED P w) a vs:=Sv ok (.inl e)
def Sd(ok:HOk P w H h)(e:H a=some (.tup (g.map kV))):(U9 (ED P w)).is h g a:=by
 obtain⟨_,j,r,o,l,m,n,s⟩:=(show DG P w H h a (.tup (g.map kV))from ok a _ e);exact⟨o,j.toArray,n,l,m,s,by simpa using Us r⟩
def Uy(ok:HOk P w H h)(e:Rd H a (.dT kvs)):kvs.length<=sizeLine/\(a==D7)=false /\
  ∃xs,KT H kvs xs/\h.DictOfH (U9 (ED P w)) a xs:=by
 obtain⟨z,y,xs,r,o,s,A,B,C,E,G,I⟩:=(show DG P w H h a (.dT kvs)from pA ok e);refine⟨z,y,xs,r,o,s,A,B,C,E,G,λx g=>?_,I⟩
 have all:∀{l:List (List Key×V)} {m:List (List Key×AW×AI)},KT H l m->∀x∈m,(U9 (ED P w)).is h x.1 x.2.1:=by
  intro l m q
  induction q with
  | nil=>intro x g;exact nomatch g
  | @cons p q L N j t J=>
   intro x g
   rcases A2.mp g with e | g
   ·subst e
    exact Sd ok (by rw[<-j.1];exact j.2.1)
   ·exact J x g
 exact all r x g
def vX(ok:HOk P w H h)(e:H a=some (.dT kvs)):kvs.length<=sizeLine/\(a==D7)=false /\
  ∃xs,KT H kvs xs/\h.DictOfH (U9 (ED P w)) a xs:=Uy ok (.inl e)
end
def Pc(H:Hp)(a:AW)(y:V)(r:Option V):Prop:=
 (∃g k,Rd H a (.dK g)/\y=kV k/\r=LW g k)∨∃g k b,Rd H a (.dT g)/\y=.ref b/\H b=some (.tup (k.map kV))/\r=LW g k
def YE(H:Hp)(a:AW)(y v:V)(j:Hp):Prop:=
 (∃g k,H a=some (.dK g)/\y=kV k/\g.length < sizeLine/\j=upd H a (.dK (Il g k v))) ∨
 ∃g k b,H a=some (.dT g)/\y=.ref b/\H b=some (.tup (k.map kV))/\g.length < sizeLine/\j=upd H a (.dT (Il g k v))
def Pc.k{H}{a}{kvs}{k}(e:H a=some (.dK kvs)):Pc H a (kV k) (LW kvs k):=.inl ⟨kvs,k,.inl e,rfl,rfl⟩
def Pc.t{H}{a b}{kvs}{k}(e:H a=some (.dT kvs))(g:H b=some (.tup (k.map kV))):Pc H a (.ref b) (LW kvs k):=.inr ⟨kvs,k,b,.inl e,rfl,g,rfl⟩
def YE.k{H}{a}{kvs}{k}{v}(e:H a=some (.dK kvs))(g:kvs.length < sizeLine):YE H a (kV k) v (upd H a (.dK (Il kvs k v))):=.inl ⟨kvs,k,e,rfl,g,rfl⟩
def YE.t{H}{a b}{kvs}{k}{v}(e:H a=some (.dT kvs))(g:H b=some (.tup (k.map kV)))(j:kvs.length < sizeLine) :
  YE H a (.ref b) v (upd H a (.dT (Il kvs k v))):=.inr ⟨kvs,k,b,e,rfl,g,j,rfl⟩
variable{X:Cx}{a b:Expr}{ta tb:TE}{pos:Pos}
def IxR.or(h:IxR X r)(h':IxR X B):IxR X (λx y H Q=>r x y H Q∨B x y H Q):=by
 intro value g j s l H x y v u Q I m o q A
 rcases q with q | q
 ·exact h value g j s l H x y v u Q I m o q A
 ·exact h' value g j s l H x y v u Q I m o q A
def uy(g:IxR X r)(j:PE X a ta)(hb:PE X b tb)(l:Wf b):PE X (.Subscript a b pos) (tOp r ta tb):=by
 intro m s o H Q I h;exact pX (tF j hb I h λv u A x y B C E G q=>g a b m A o B x y v u Q C E G q (l _ _))
def rIxL(K:AJ):R2:=λx y H Q=>∃p g i v,x=.ref p/\y=.int i/\SqL K H p g/\atI g i=some v/\Q v H
def rIxT(K:AJ):R2:=λx y H Q=>∃p g i v,x=.ref p/\y=.int i/\SqT K H p g/\atI g i=some v/\Q v H
def ix_list:IxR X (rIxL X.K):=by
 intro value l A s B H x y v u Q I J L h C;obtain⟨p,xs,i,z,rfl,rfl,N,O,q⟩:=h;cases J;obtain⟨t,rfl⟩:=L;obtain⟨P,r,m,hz⟩:=I.list N;obtain⟨j,g,R,h3,S,T⟩:=bL O;obtain⟨w,E,U⟩:=r.get R;have Y:=r.length;have hn:=SZ;have fin:EP X A B Q w s:=⟨z,H,I,U,q⟩
 by_cases G:0<=i
 ·have o:i.toNat=j:=by
   rw[kO G T]at g;exact Cw g
  exact item_listR m.isList G (by lia) (by rw[o];simpa using E) fin C
 ·have o:(i+(P.toArray.size:Int)).toNat=j:=by
   rw[seqIndex_neg (by lia) S]at g;rw[AT,<-Y];exact Cw g
  exact eh (x:=w) m.isList.typeIs tT.lookup
   (wpAny_getItem_list_neg (Q:=λr Z=>r=w/\EP X A B Q r Z) m.isList (by lia) (by rw[AT] <;> lia) (by lia) (by rw[o];simpa using E) ⟨rfl,fin⟩) C
def sH:IxR X (rIxT X.K):=by
 intro value g l s m H x y v u Q I A B h C;obtain⟨p,S,i,z,rfl,rfl,E,G,q⟩:=h;cases A;obtain⟨t,rfl⟩:=B;obtain⟨T,r,o,U⟩:=I.tuple E;obtain⟨j,J,L,Y,Z,h5⟩:=bL G;obtain⟨w,N,O⟩:=r.get L;have P:=r.length;have hn:=SZ;have fin:EP X l m Q w s:=⟨z,H,I,O,q⟩
 exact eh (x:=w) o.typeIs slot_tuple_getitem.lookup
  (getItem_tuple (j:=j) (Q:=λr R=>r=w/\EP X l m Q r R) o (by lia) (by lia) (by rw[AT,<-P];exact J) (by simpa using N) ⟨rfl,fin⟩) C
def ZK(g:List AI)(n j:Nat)(u:AI):EJ (·.setIfInBounds j u) { cls:=.type "list",data:=.seq g.toArray n }={ cls:=.type "list",data:=.seq (g.set j u).toArray n }:=by
 simp[EJ]
def Inv.lst(I:Inv X j l H s)(h:H p=some (.lst xs)) :
  ∃(g:List AI) (n:Nat),Bx xs g/\s.heap.get? p=some { cls:=.type "list",data:=.seq g.toArray n }/\xs.length<=sizeLine:=by
 obtain⟨z,g,n,r,e⟩:=I.hok p _ h;exact⟨g,n,r,e,z⟩
def Inv.lstUpd{j:List (AW×Obj)}{l:St}{H:Hp}{s:AM}{p:AW}{xs ys:List V}{m its':List AI}{n g:Nat}{f:Obj->Obj}(I:Inv X j l H s)(h:H p=some (.lst xs))
  (ho:s.heap.get? p=some { cls:=.type "list",data:=.seq m.toArray n }) (o:f { cls:=.type "list",data:=.seq m.toArray n }={ cls:=.type "list",data:=.seq its'.toArray g }) (r:Bx ys its') (hz:ys.length<=sizeLine) (t:Nat) :
  Inv X j l (upd H p (.lst ys)) { s with heap:=s.heap.update p f,toks:=t }:=by
 have e:(s.heap.update p f).get? p=some { cls:=.type "list",data:=.seq its'.toArray g }:=by
  rw[Cg f ho (by rw[o] <;> rfl),o]
 refine I.write (x:=p) (e:=p) (by rw[h];trivial) (.inl rfl) (λb u hb q=>(B3 _ _ (CK hb)).trans q) ⟨_,e⟩ ?_;exact⟨hz,its',g,r,e⟩
def um:V->V->V->Hp->(Hp->Prop)->Prop:=λo i v H Q=>∃p g k j,o=.ref p/\i=.int k/\H p=some (.lst g)/\ixN g.length k=some j/\Q (upd H p (.lst (g.set j v)))
def gi:vh X um:=by
 intro N s O H o i v Z iv u Q I P R S h;obtain⟨p,T,k,j,rfl,rfl,B,U,q⟩:=h;cases P;obtain⟨t,rfl⟩:=R;obtain⟨C,n,r,l,Y⟩:=I.lst B;obtain⟨g,h2,E,G⟩:=ag U;have m:=r.length;have hn:=SZ
 have J:Inv X N O (upd H p (.lst (T.set j v))) { s with heap:=s.heap.update p (EJ (·.setIfInBounds j u)) }:=
  I.lstUpd B l (ZK C n j u) (r.set S j) (by rw[Do];exact Y) s.toks
 by_cases L:0<=k
 ·have A:k.toNat=j:=by
   rw[kO L G]at g;exact Cw g
  exact PySem.W.ki_setAt l L (by lia) (by rw[AT,<-m];exact G) (by rw[A];exact⟨_,J,q⟩)
 ·have A:(k+(C.toArray.size:Int)).toNat=j:=by
   rw[seqIndex_neg (by lia) E]at g;rw[AT,<-m];exact Cw g
  exact PySem.W.ki_setBack l (by lia) (by rw[AT,<-m];exact E) (by lia) (by rw[A];exact⟨_,J,q⟩)
def Vp(lo hi:Option Int)(n:Nat):(Jp lo hi none n).1=((HT.sIx n 0 lo:Nat):Int)/\(Jp lo hi none n).2.1=((HT.sIx n n hi:Nat):Int)/\(Jp lo hi none n).2.2=1:=by
 refine⟨?_,?_,rfl⟩
 ·cases lo with
  | none=>simp[Jp,HT.sIx]
  | some i=>
   simp only[Jp,HT.sIx,eS,show(1:Int) > 0 by decide,if_true]
   by_cases h:i < 0
   ·simp only[h,if_true] <;> lia
   ·simp only[h,if_false] <;> lia
 ·cases hi with
  | none=>simp[Jp,HT.sIx]
  | some i=>
   simp only[Jp,HT.sIx,eS,show(1:Int) > 0 by decide,if_true]
   by_cases h:i < 0
   ·simp only[h,if_true] <;> lia
   ·simp only[h,if_false] <;> lia
def Tq(g:List AI)(lo hi:Option Int):slicePick g.toArray lo hi none=((g.drop (HT.sIx g.length 0 lo)).take (HT.sIx g.length g.length hi - HT.sIx g.length 0 lo)).toArray:=by
 obtain⟨j,l,m⟩:=Vp lo hi g.toArray.size;unfold slicePick;rw[j,l,m]
 simp only[sliceRange_one,pick_run,AT] <;> rfl
def uk(K:AJ):V->Option Int->Option Int->Hp->VK->Prop:=λx lo j H Q=>∃a g,x=.ref a/\SqL K H a g/\∀p,H p=none->Q (.ref p) (upd H p (.lst (Q9 g lo j)))
def lZ:SlR X (uk X.K):=by
 intro L s N H x v O P lo l sl Q I A B C E h;obtain⟨a,g,rfl,G,q⟩:=h;cases A;obtain⟨R,r,m,J⟩:=I.list G;have j:=r.length;refine⟨"list",_,tT.lookup,m.isList.typeIs,?_⟩;refine wpAny_getItem_list_slice m.isList B C E .none (by simp) ?_ (by rw[AT] <;> lia);rw[Tq,<-j];refine⟨.ref s.heap.objs.size,_,I.laid (t':=s.toks) (o:=.lst (Q9 g lo l)) (λb S q=>AF _ q) (AL _) ?_,rfl,q _ (I.hok.fresh (AL _))⟩;exact⟨Ap (Qr g lo l) J,_,0,(r.drop (HT.sIx g.length 0 lo)).take (HT.sIx g.length g.length l - HT.sIx g.length 0 lo),AR _ rfl⟩
def WX:HX X (.builtin "len") (λxs H Q=>∃p ys,xs=[.ref p]/\(SqL X.K H p ys∨SqT X.K H p ys)/\Q (.int ys.length) H):=by
 intro C s E H xs G Q I r h;obtain⟨p,ys,rfl,j,q⟩:=h;obtain⟨u,rfl,o⟩:=vals1 r;cases o;have J:=SZ
 rcases j with j | j
 ·obtain⟨A,l,m,B⟩:=I.list j
  have g:=l.length;exact Calls.call_len_list m.isList (by simp only[AT] <;> lia) ⟨.int ys.length,H,I.tok _,⟨s.toks+1,by rw[AT,g]⟩,q⟩
 ·obtain⟨A,l,m,B⟩:=I.tuple j
  have g:=l.length;exact len_tuple m (by simp only[AT] <;> lia) ⟨.int ys.length,H,I.tok _,⟨s.toks+1,by rw[AT,g]⟩,q⟩
def WW:HX X (.type "list") (λxs H Q=>∃p ys,xs=[.ref p]/\(SqL X.K H p ys∨SqT X.K H p ys)/\∀l,H l=none->Q (.ref l) (upd H l (.lst ys))):=by
 intro O s P H xs S Q I r h;obtain⟨p,ys,rfl,B,q⟩:=h;obtain⟨u,rfl,R⟩:=vals1 r;cases R
 have fin:∀(j:List AI),Bx ys j->ys.length<=sizeLine->∀(g:CZ) (m:Nat),(∀b N,s.heap.get? b=some N->g.get? b=some N) ->
   g.get? s.heap.objs.size=some { cls:=.type "list",dict:=none,data:=.seq j.toArray m,slots:=#[] }->EP X O P Q (.ref s.heap.objs.size) { s with heap:=g }:=λj A C g m kp e=>
  ⟨.ref s.heap.objs.size,_,I.laid (t':=s.toks) kp (AL _) (show DG X.prog X.w _ g _ (.lst ys)from⟨C,j,m,A,e⟩),rfl,q _ (I.hok.fresh (AL _))⟩
 rcases B with B | B
 ·obtain⟨j,A,G,C⟩:=I.list B
  have E:=A.length;obtain⟨o,J,L,n,hd⟩:=G.isList;exact call_list_seq p (.inl rfl) J L hd (λg m kp e=>fin j A C g m kp e) (by simp only[AT] <;> lia)
 ·obtain⟨j,A,G,C⟩:=I.tuple B
  have E:=A.length;obtain⟨o,J,L,n,hd⟩:=G;exact call_list_seq p (.inr rfl) J L hd (λg m kp e=>fin j A C g m kp e) (by simp only[AT] <;> lia)
def UA:HX X (.type "tuple") (λxs H Q=>∃p ys,xs=[.ref p]/\((SqL X.K H p ys/\∀l,H l=none->Q (.ref l) (upd H l (.tup ys)))∨(SqT X.K H p ys/\Q (.ref p) H))):=by
 intro C s E H xs P Q I r h;obtain⟨p,ys,rfl,h⟩:=h;obtain⟨u,rfl,N⟩:=vals1 r;cases N
 rcases h with⟨j,q⟩ | ⟨j,q⟩
 ·obtain⟨m,A,B,G⟩:=I.list j
  have J:=A.length;refine call_tuple_list B.isList (λg kp=>?_) (by simp only[AT] <;> lia);have L:Inv X C E H { s with heap:=g }:=I.kept (t':=s.toks) kp
  have O:Inv X C E (upd H g.objs.size (.tup ys)) { s with heap:=g.push { cls:=.type "tuple",data:=.seq m.toArray } }:=
   L.laid (t':=s.toks) (λb o e=>AF _ e) (AL _) (show DG X.prog X.w _ _ _ (.tup ys)from⟨⟨G,⟨_,AR _ rfl,rfl⟩⟩,m,A,fE _ _⟩)
  exact⟨.ref g.objs.size,_,O,rfl,q _ (L.hok.fresh (AL _))⟩
 ·obtain⟨m,A,B,G⟩:=I.tuple j
  exact call_tuple_same B ⟨.ref p,H,I,rfl,q⟩
def tyV(K:AJ)(T:String)(x:V)(H:Hp):Prop:=match x with
 | .str _=>T = "str"
 | .int _=>T = "int"
 | .ref p=>(T = "list"/\∃j,SqL K H p j)∨(T = "tuple"/\∃o,K.lookup p=some o/\o.cls=.type "tuple"/\o.dict=none) ∨
   (T = "dict"/\((∃g,H p=some (.dK g))∨∃g,H p=some (.dT g)))∨(T = "set"/\∃S n,H p=some (.set S n))
 | _=>False
def qN(I:Inv X E G H s)(r:RelV x v)(ty:tyV X.K T x H) :
  s.TypeIs v T/\∀a,v=.ref a->∃m,s.heap.get? a=some m/\m.dict=none:=by
 cases x with
 | str z=>
  obtain⟨t,rfl⟩:=r;cases(show T = "str" from ty);exact⟨typeIs_str s z t,λ_ e=>nomatch e⟩
 | int i=>
  obtain⟨t,rfl⟩:=r;cases(show T = "int" from ty);exact⟨pQ s i t,λ_ e=>nomatch e⟩
 | ref p=>
  cases r
  rcases ty with⟨rfl,J,B⟩ | ⟨rfl,o,g,C,hd⟩ | ⟨rfl,g⟩ | ⟨rfl,S,n,g⟩
  ·obtain⟨L,_,A,_⟩:=I.list B
   refine⟨A.isList.typeIs,λa e=>?_⟩;cases e;obtain⟨o,n,e,c,hd,_⟩:=A;exact⟨o,e,hd⟩
  ·refine⟨⟨o,I.kIn p o g,C⟩,λa e=>?_⟩
   cases e;exact⟨o,I.kIn _ o g,hd⟩
  ·have z:∃o,s.heap.get? p=some o/\o.ExactDict:=by
    rcases g with⟨j,g⟩ | ⟨j,g⟩
    ·obtain⟨_,_,_,_,o,_,_,e,ex,_⟩:=I.hok p _ g
     exact⟨o,e,ex⟩
    ·obtain⟨_,_,_,_,o,_,_,e,ex,_⟩:=I.hok p _ g
     exact⟨o,e,ex⟩
   obtain⟨o,e,ex⟩:=z;refine⟨⟨o,e,ex.1⟩,λa l=>?_⟩;cases l;exact⟨o,e,ex.2.1⟩
  ·obtain⟨o,_,_,_,e,ex,_⟩:=I.hok p _ g
   refine⟨⟨o,e,ex.1⟩,λa l=>?_⟩;cases l;exact⟨o,e,ex.2.1⟩
 | _=>exact Eh ty
def tBM(K:AJ)(T:String)(r:V->List V->Hp->VK->Prop)(to:TE)(t:TA):TE:=λg H Q=>to g H λx j=>tyV K T x j/\t g j λl m=>r x l m Q
variable{o e:Expr}{es:List Expr}{to:TE}{t:TA}{name:Str}{apos cpos:Pos}{T id:String}{r:V->List V->Hp->VK->Prop}
def aQ(C:PlainAttrs T)(slot:Slot T name id)(g:typeOf (.builtin id)=pure (.type "method_descriptor")) (E:MtR X id r) (ho:PE X o to) (G:PA X (e :: es) t)
  (J:E3 o name X.env (B1 o X.env)=B1 o X.env:=by rfl)
  (L:((DH cpos (AQ (e :: es) X.env)).all (λx=>!x.1)&&(Te cpos (MZ [] X.env)).all (λx=>x.1.isSome)
    &&decide ((e :: es).length+([]:List Jn).length+(if ([]:List Jn).isEmpty then 0 else 1) < 30))=true:=by rfl)
  (N:(apos.endLine==cpos.line)=true:=by rfl) (O:AQ (e :: es) X.env=(false,B1 e X.env) :: AQ es X.env:=by rfl) (P:(DH cpos (AQ es X.env)).any (·.1)=false:=by rfl) :
  PE X (.Call (.Attribute o name apos) (e :: es) [] cpos) (tBM X.K T r to t):=by
 intro j s l H Q I h;refine wpAny_Call_method_late J L N rfl (thn (ho j s l H _ I h) λv R ⟨x,S,m,A,ty,U⟩=>?_);obtain⟨Y,Z⟩:=qN m A ty;refine⟨T,id,C,slot,g,Y,Z,?_⟩;have B:=G cpos j R l S _ m U;rw[O]at B ⊢;refine Ww (by show(false||(DH cpos (AQ es X.env)).any (·.1))=false;rw[P] <;> rfl) (Nx ?_)
 exact thn B λus s2 ⟨vs,H2,I2,r2,q2⟩=>E j s2 l H2 x vs v us Q I2 A r2 q2
end
section
def MtM(X:Cx)(id:String)(r:V->List V->Hp->VK->Prop):Prop:=
 ∀(g:List (AW×Obj)) (s:AM) (j:St) (H:Hp) (x:V) (l:List V) (v:AI) (m:List AI) (Q:VK),Inv X g j H s->RelV x v->Bx l m->r x l H Q ->
  Ag (Ah X.prog X.w) X.A (call (.builtin id) (v :: m)) (EP X g j Q) X.xe s
def Bx.one:∀{x:V} {g:List AI},Bx [x] g->∃u,g=[u]/\RelV x u
 | _,_,.cons r .nil=>⟨_,rfl,r⟩
def Bx.rep(h:Bx xs g):∀k:Nat,Bx (Ak k xs).flatten (Ak k g).flatten
 | 0=>.nil
 | k+1=>by
  rw[Dy,Dy,Fa,Fa];exact Bx.append h (Bx.rep h k)
def foldl_rep(j:List AI):∀(k:Nat) (g:List AI),
  eY (λl m=>l++m) g.toArray (Ak k j.toArray)=(g++(Ak k j).flatten).toArray
 | 0,g=>by simp
 | k+1,g=>by
  have e:g.toArray++j.toArray=(g++j).toArray:=by simp
  have o:(g++j)++(Ak k j).flatten=g++(Ak (k+1) j).flatten:=by
   rw[Dy,Fa,A7]
  rw[<-o,<-foldl_rep j k (g++j),<-e,Dy,ka]
section
variable{X:Cx}{ζ:List (AW×Obj)}{σ:St}{H:Hp}{s:AM}{a:AW}{y v:V}{u r:AI}{o:Option V}{A:B5}{E:AI->AM->Prop}
def Inv.big(I:Inv X ζ σ H s):D7 < s.heap.objs.size:=by
 have h:BC < s.heap.objs.size:=(I.mod.glob.keeps I.bk).lt;exact Ye (by decide) h
def de(J:A.units+1 < FS)(I:Inv X ζ σ H s)(g:Pc H a y (some v))(G:RelV y u)(h:∀w' s',Inv X ζ σ H s'->RelV v w'->Q w' s') :
  Ag (Ah X.prog X.w) A (Ma (.ref a) u) Q E s:=by
 rcases g with⟨j,k,e,m,l⟩ | ⟨j,k,b,e,m,L,l⟩
 ·subst m
  obtain⟨z,hd,N,rel,B⟩:=Sv I.hok e;obtain⟨w',hw,C⟩:=QS.some_of (v:=v) (o:=TZ N k) (by rw[l];exact rel.val k);exact wpAny_getItem_of (Ur G) B.mapOf hw (h w' _ (I.tok _) C)
 ·subst m
  cases(show u=A0 b from G);obtain⟨z,hd,O,rel,B⟩:=Uy I.hok e;obtain⟨w',hw,C⟩:=QS.some_of (v:=v) (o:=(Ya O k).map (·.2)) (by rw[l];exact rel.val k);obtain⟨p,P,R⟩:=Option.map_eq_some_iff.mp hw;refine wpAny_getItem_heap (LL J) (Sd I.hok L) B P ?_;rw[R];exact h w' _ (I.tok _) C
def d_in(G:A.units+1 < FS)(I:Inv X ζ σ H s)(g:Pc H a y o)(C:RelV y u)(h:∀s',Inv X ζ σ H s'->Q (.bool o.isSome) s') :
  Ag (Ah X.prog X.w) A (CJ .In u (.ref a)) Q E s:=by
 rcases g with⟨j,k,e,m,l⟩ | ⟨j,k,b,e,m,J,l⟩
 ·subst m
  obtain⟨z,hd,L,rel,B⟩:=Sv I.hok e;refine wpAny_in_of (Ur C) hd B.mapOf ?_;rw[<-(rel.val k).isSome_eq,<-l];exact h _ (I.tok _)
 ·subst m
  cases(show u=A0 b from C);obtain⟨z,hd,N,rel,B⟩:=Uy I.hok e;refine wpAny_in_heap (LL G) (Sd I.hok J) hd B ?_;have q:=(rel.val k).isSome_eq;rw[Pe]at q;rw[<-q,<-l];exact h _ (I.tok _)
def n9(G:A.units+1 < FS)(I:Inv X ζ σ H s)(g:Pc H a y o)(C:RelV y u)(h:∀s',Inv X ζ σ H s'->Q (.bool (!o.isSome)) s') :
  Ag (Ah X.prog X.w) A (CJ .NotIn u (.ref a)) Q E s:=by
 rcases g with⟨j,k,e,m,l⟩ | ⟨j,k,b,e,m,J,l⟩
 ·subst m
  obtain⟨z,hd,L,rel,B⟩:=Sv I.hok e;refine wpAny_notIn_of (Ur C) hd B.mapOf ?_;rw[<-(rel.val k).isSome_eq,<-l];exact h _ (I.tok _)
 ·subst m
  cases(show u=A0 b from C);obtain⟨z,hd,N,rel,B⟩:=Uy I.hok e;refine wpAny_notIn_heap (LL G) (Sd I.hok J) hd B ?_;have q:=(rel.val k).isSome_eq;rw[Pe]at q;rw[<-q,<-l];exact h _ (I.tok _)
def RX(I:Inv X ζ σ H s)(j:Mut (H a))(l:C8 a s.heap h')(m:∃q,h'.get? a=some q)(new:DG X.prog X.w (upd H a g) h' a g) :
  Inv X ζ σ (upd H a g) { s with heap:=h',toks:=t' }:=
 I.write (x:=a) (e:=a) j (.inl rfl) (λb q hb z=>(l.2 b hb).trans z) m new
def Za(z:kvs.length<=sizeLine)(hd:(a==D7)=false)(rel:KV kvs g)(dd:h'.DictOf (ED P w) a g) :
  DG P w j h' a (.dK kvs):=⟨z,hd,g,rel,dd⟩
def dc(Y:A.units+1 < FS)(I:Inv X ζ σ H s)(g:YE H a y v Z)(P:RelV y u)(R:RelV v r)(h:∀s',Inv X ζ σ Z s'->Q () s') :
  Ag (Ah X.prog X.w) A (tU (.ref a) u r) Q E s:=by
 rcases g with⟨j,k,e,C,l,G⟩ | ⟨j,k,b,e,C,S,l,G⟩
 ·subst C G
  obtain⟨z,hd,vs,rel,J⟩:=bE I.hok e
  have L:vs.length<=sizeLine:=by rw[<-rel.length];exact z
  have N:(Il j k v).length<=sizeLine:=by have:=NA j k v;lia
  refine wpAny_setItem_pairs (hsz:=L) (Ur P) J λT m O=>h _ ?_
  have he:∃q,T.get? a=some q:=let ⟨q,_,_,B,_⟩:=m;⟨q,B⟩
  exact RX I (by rw[e];exact DT) O he (Za N hd (rel.put k R) m)
 ·subst C G
  cases(show u=A0 b from P);obtain⟨z,hd,xs,rel,J⟩:=vX I.hok e
  have L:xs.length<=sizeLine:=by rw[<-Ef rel];exact z
  have N:(Il j k v).length<=sizeLine:=by have:=NA j k v;lia
  refine wpAny_setItem_heap (hsz:=L) (LL Y) (Sd I.hok S) J λT m O=>h _ ?_
  obtain⟨q,es,ep,B,h2,h3,h4,_,h5⟩:=m;refine RX I (by rw[e];exact DT) O ⟨q,B⟩ ⟨N,hd,_,(rel.put k S R).keeps λc ys U=>?_,q,es,ep,B,h2,h3,h4,h5⟩;rw[Bk (vF U e (λz=>nomatch z))];exact U
variable{X:Cx}{ζ:List (AW×Obj)}{σ:St}{H:Hp}{s:AM}{l:AW}{xs ys:List V}
def Inv.lset{g its':List AI}{n:Nat}{f:Array AI->Array AI}{t':Nat}(I:Inv X ζ σ H s)(j:H l=some (.lst xs))
  (e:s.heap.get? l=some { cls:=.type "list",data:=.seq g.toArray n }) (m:f g.toArray=its'.toArray) (B:Bx ys its') (hz:ys.length<=sizeLine) :
  Inv X ζ σ (upd H l (.lst ys)) { s with heap:=s.heap.update l (EJ f),toks:=t' }:=by
 have q:=PySem.IsL.update e f;rw[m]at q;refine I.write (x:=l) (e:=l) (by rw[j];exact trivial) (.inl rfl) (λG u hb C=>(B3 s.heap (EJ f) (CK hb)).trans C) ⟨_,q⟩ ?_;exact⟨hz,its',_,B,q⟩
def Inv.lnew(I:Inv X ζ σ H s)(j:Bx ys g)(hz:ys.length<=sizeLine) :
  Inv X ζ σ (upd H s.heap.objs.size (.lst ys)) { s with heap:=s.heap.push { cls:=.type "list",data:=.seq g.toArray },toks:=t' }:=
 I.laid (λ_ _ q=>AF _ q) (AL _) ⟨hz,g,0,j,AR _ rfl⟩
def Inv.fresh(I:Inv X ζ σ H s):H s.heap.objs.size=none:=I.hok.fresh (AL _)
def Inv.lstM(I:Inv X ζ σ H s)(j:H l=some (.lst xs)):xs.length<=sizeLine/\∃(g:List AI) (n:Nat),Bx xs g/\xs.length=g.length/\s.heap.get? l=some { cls:=.type "list",data:=.seq g.toArray n }:=by
 obtain⟨z,g,n,r,e⟩:=I.hok l _ j;exact⟨z,g,n,r,r.length,e⟩
def SM(h:n<=sizeLine):DL n=false:=by
 unfold DL;exact wY (by lia)
end
section
variable{X:Cx}{ζ:List (AW×Obj)}{σ:St}{H:Hp}{s:AM}{a:AW}{A:B5}{E:AI->AM->Prop}
def vY(I:Inv X ζ σ H s)(e:Rd H a (.dK kvs))(h:∀t s',Inv X ζ σ H s'->Q (.int kvs.length t) s'):Ag (Ah X.prog X.w) A (call (.builtin "len") [.ref a]) Q E s:=by
 obtain⟨z,hd,j,rel,g⟩:=Sv I.hok e;refine call_len_dict hd g (by rw[<-rel.length];rw[Pk]at z;lia) ?_;rw[<-rel.length];exact h _ _ (I.tok _)
end
def tM(i:Expr):Prop:=∀g iv,Wh i false g iv=operate [g,iv] (Ma g iv)
def lS{prog}{w}{A}{E}{s}{env}{value g}{pos}{T id}{Q}
  (H:typeLookup (.type T) "__getitem__" = pure (some (.builtin id))) (I:tM g)
  (h:Ag (Ah prog w) A (B1 value env) (λo l=>Ag (Ah prog w) A (B1 g env) (λi s₂=>s₂.TypeIs o T/\Ag (Ah prog w) A (Ma o i) Q E s₂) E l) E s) :
  Ag (Ah prog w) A (B1 (.Subscript value g pos) env) Q E s:=by
 refine pX (E2 h (λo l B=>E2 B (λi s₂ j=>?_) λ_ _ x=>x) λ_ _ x=>x);obtain⟨G,j⟩:=j;unfold bP;refine AA ?_;rw[getitemInPython_of_ne G.not_modules];refine AA (vj G H ?_)
 have fin:Ag (Ah prog w) A (Wh g false o i) (λr m=>Ag (Ah prog w) A (letTemporaryGo value o r >>= λ_=>pure r) Q E m) E s₂:=by
  rw[I o i];exact wpAny_operating (E2 j (λr m C=>AA (wpAny_letTemporaryGo (AE C))) λ_ _ x=>x)
 first
  | exact AE (AA fin)
  | exact AA (AE (AA fin))
  | exact AA fin
def X3(I:Inv X m A H s)(g:Pc H a y o):s.TypeIs (.ref a) "dict":=by
 rcases g with⟨j,k,e,_,_⟩ | ⟨j,k,b,e,_,_,_⟩
 ·obtain⟨_,_,B,_,l⟩:=Sv I.hok e
  exact l.typeIs
 ·obtain⟨_,_,C,_,l⟩:=Uy I.hok e
  exact l.typeIs
def uZ(l ty:TE):TE:=λg H Q=>l g H λx m=>ty g m λy j=>∃a v,x=.ref a/\Pc j a y (some v)/\Q v j
def uY(ty l:TE):TE:=λg H Q=>ty g H λy m=>l g m λx j=>∃a o,x=.ref a/\Pc j a y o/\Q (.bl o.isSome) j
def aD(ty l:TE):TE:=λg H Q=>ty g H λy m=>l g m λx j=>∃a o,x=.ref a/\Pc j a y o/\Q (.bl (!o.isSome)) j
def uh(l ty m:TE):TS:=λD g H=>m g H λv o=>l g o λx s=>ty g s λy A=>∃a j,x=.ref a/\YE A a y v j/\D.nx g j
variable{X:Cx}
def mE:V->List V->Hp->VK->Prop:=λx j H Q=>∃l g y,x=.ref l/\j=[y]/\H l=some (.lst g)/\g.length < sizeLine/\Q .non (upd H l (.lst (g++[y])))
def Uk:MtM X "list.append" mE:=by
 intro B s C H x E v G Q I m o h;obtain⟨l,J,y,rfl,rfl,g,L,q⟩:=h;cases m;obtain⟨u,rfl,A⟩:=o.one;obtain⟨z,j,n,r,N,e⟩:=I.lstM g;refine OL F.slot_list_append ⟨_,e,rfl⟩ F.entry_list_append (F.args_list_append_2 _ _) (PySem.list_append l j.toArray n u (by rw[AT];lia)) ⟨e,?_⟩;refine⟨.non,_,I.lset (its':=j++[u]) g e (by simp) (r.append (.cons A .nil)) ?_,rfl,q⟩;rw[AK,Ai]
 lia
def lz:V->List V->Hp->VK->Prop:=λx m H Q=>∃l b g j,x=.ref l/\m=[.ref b]/\H l=some (.lst g)/\H b=some (.lst j)/\g.length+j.length<=sizeLine/\Q .non (upd H l (.lst (g++j)))
def cp:MtM X "list.extend" lz:=by
 intro O s P H x R v S Q I A B h;obtain⟨l,b,T,U,rfl,rfl,o,C,Y,q⟩:=h;cases A;obtain⟨u,rfl,E⟩:=B.one;cases E;obtain⟨z,g,n,r,Z,e⟩:=I.lstM o;obtain⟨z2,j,G,J,yW,L⟩:=I.lstM C
 have m:g.toArray.size+j.toArray.size<=sizeLine:=by rw[AT,AT];lia
 have N:¬(!g.toArray.isEmpty&&DL (g.toArray.size+j.toArray.size))=true:=by
  rw[SM m,UP];exact AV
 refine OL kc ⟨_,e,rfl⟩ kK (fG _ _)
  (AutoSeq1.list_extend_list_list_0 l g.toArray n b j.toArray G N (by rw[AT];lia) (by lia)) ⟨e,L,?_⟩
 refine⟨.non,_,I.lset (its':=g++j) o e (by simp) (r.append J) ?_,rfl,q⟩;rw[AK];omega
def rCat:R2:=λx y H Q=>∃l b g j,x=.ref l/\y=.ref b/\H l=some (.lst g)/\H b=some (.lst j)/\g.length+j.length<=sizeLine/\∀p,H p=none->Q (.ref p) (upd H p (.lst (g++j)))
def rY:OpR X (DZ .Add) rCat:=by
 intro J s L H x y v u Q I m o h;obtain⟨l,b,N,O,rfl,rfl,A,B,R,q⟩:=h;cases m;cases o;obtain⟨z,g,n,r,S,e⟩:=I.lstM A;obtain⟨T,j,U,C,Y,E⟩:=I.lstM B;refine PySem.P.add_list e E ?_ (by rw[AT,AT];lia)
 have G:g.toArray++j.toArray=(g++j).toArray:=by simp
 rw[G];exact⟨.ref _,_,I.lnew (t':=s.toks) (r.append C) (by rw[AK];omega),rfl,q _ I.fresh⟩
def rRep:R2:=λx y H Q=>∃l k g,x=.ref l/\y=.int k/\H l=some (.lst g)/\-(2 ^ 63)<=k/\k < 2 ^ 63/\g.length * k.toNat<=sizeLine /\
 ∀p,H p=none->Q (.ref p) (upd H p (.lst (Ak k.toNat g).flatten))
def nP{g:Type}(xs:List g)(k:Nat):(Ak k xs).flatten.length=k * xs.length:=by
 induction k with
 | zero=>simp
 | succ k j=>rw[Dy,Fa,AK,j,Nat.succ_mul,Nat.add_comm]
def rR:OpR X (DZ .Mult) rRep:=by
 intro ζ s σ H x y v u Q I G J h;obtain⟨l,k,xs,rfl,rfl,L,N,O,E,q⟩:=h;cases G;obtain⟨t,rfl⟩:=J;obtain⟨z,g,n,r,P,e⟩:=I.lstM L
 have j:g.toArray.size * k.toNat<=sizeLine:=by rw[AT,<-P];exact E
 have o:¬g.toArray.size * k.toNat > (2 ^ 63 - 1) / 8:=by
  have:(sizeLine:Nat)<=(2 ^ 63 - 1) / 8:=by decide
  lia
 have R:¬(!Builtin.List.listFitsIndex k)=true:=by
  rw[fitsIndex_both N O];exact AV
 have S:¬DL (g.toArray.size * k.toNat)=true:=by
  rw[SM j];exact AV
 have A:eY (λB C=>B++C) #[] (Ak (if g.toArray.isEmpty=true then 0 else k.toNat) g.toArray)=(Ak k.toNat g).flatten.toArray:=by
  have Y:∀m:Nat,eY (λB C=>B++C) #[] (Ak m g.toArray)=(Ak m g).flatten.toArray:=λm=>by
   have:=foldl_rep g m [];rw[kZ]at this;exact this
  rw[Y]
  cases g with
  | nil=>simp
  | cons a r'=>rw[qY (by simp)]
 refine wpAny_binaryOp_repeat_ref (T:="list") (U:="int") (by decide) ⟨_,e,rfl⟩ (λZ=>pQ Z k t) noFill_list_mul F.fills_int_mul tt repeat_list F.slot_int_index.lookup
  (OL tt (pQ s k t) F.entry_int_rmul (F.args_int_rmul_2 _ _) (int___rmul___int_list k t l g.toArray n)
   ⟨e,rfl,⟨_,e,rfl⟩,OL F.slot_list_mul ⟨_,e,rfl⟩ F.entry_list_mul (F.args_list_mul_2 _ _) (AutoListH.list___mul___list_int_3 l g.toArray n k t R o S) ⟨e,?_⟩⟩)
 rw[A];exact⟨.ref _,_,I.lnew (t':=s.toks) (r.rep k.toNat) (by rw[nP,Nat.mul_comm];exact E),rfl,q _ I.fresh⟩
section
variable{X:Cx}{o i value:Expr}{pos pos':Pos}{td ty tv:TE}
def me(B:X.A.units+1 < FS)(ho:PE X o td)(hi:PE X i ty)(C:tM i):PE X (.Subscript o i pos) (uZ td ty):=by
 intro j s l H Q I h;refine lS PySem.F.slot_dict_getitem.lookup C (thn (ho j s l H _ I h) λu E ⟨x,G,J,L,N⟩=>thn (hi j E l G _ J N) λiv U ⟨y,O,m,P,a,v,ex,g,R⟩=>?_);subst ex;obtain rfl:u=A0 a:=L;exact⟨X3 m g,de B m g P λw' Y S T=>⟨v,O,S,T,R⟩⟩
def iO(m:X.A.units+1 < FS)(hi:PE X i ty)(ho:PE X o td):PC X .In i o (uY ty td):=by
 intro j s l H Q I h
 refine thn (hi j s l H _ I h) λiv B ⟨y,C,E,G,J⟩=>thn (ho j B l C _ E J) λu T ⟨x,L,N,O,a,P,ex,g,R⟩=>?_
 subst ex;obtain rfl:u=A0 a:=O
 exact d_in m N g G λU S=>⟨.bl P.isSome,L,S,rfl,R⟩
def cW(m:X.A.units+1 < FS)(hi:PE X i ty)(ho:PE X o td):PC X .NotIn i o (aD ty td):=by
 intro j s l H Q I h
 refine thn (hi j s l H _ I h) λiv B ⟨y,C,E,G,J⟩=>thn (ho j B l C _ E J) λu T ⟨x,L,N,O,a,P,ex,g,R⟩=>?_
 subst ex;obtain rfl:u=A0 a:=O
 exact n9 m N g G λU S=>⟨.bl (!P.isSome),L,S,rfl,R⟩
def mL(m:X.A.units+1 < FS)(ho:PE X o td)(hi:PE X i ty)(B:PE X value tv)(C:Gx value (some (.Subscript o i pos')) pos.line X.env=pure false) :
  PS X (.Assign [.Subscript o i pos'] value pos) (uh td ty tv):=by
 intro l s j H D I h;refine wpAny_Assign_Subscript (thn (B l s j H _ I h) λr E ⟨v,G,J,L,N⟩=>thn (ho l E j G _ J N) λu O ⟨x,P,Q,R,S⟩=>thn (hi l O j P _ Q S) λiv s3 ⟨y,H3,T,U,a,Y,ex,g,Z⟩=>?_) C;subst ex;obtain rfl:u=A0 a:=R
 exact dc m T g U L λs4 I4=>⟨j,Y,I4,Z⟩
end
def X1(h:CZ)(hb:D7 < h.objs.size):DG P w H (h.push { cls:=.type "dict",data:=.dict #[] }) h.objs.size (.dK []):=
 ⟨Ce _,beq_eq_false_iff_ne.mpr (CK (Al hb)),[],.nil,CZ.DictOf.new h⟩
def jn(h:CZ)(hb:D7 < h.objs.size):DG P w H (h.push { cls:=.type "dict",data:=.dict #[] }) h.objs.size (.dT []):=
 ⟨Ce _,beq_eq_false_iff_ne.mpr (CK (Al hb)),[],.nil,_,#[],0,AR _ rfl,⟨rfl,rfl,rfl⟩,rfl,rfl,E0⟩
def qb:TE:=λ_ H Q=>∀p,H p=none->Q (.ref p) (upd H p (.dK []))
def qZ:TE:=λ_ H Q=>∀p,H p=none->Q (.ref p) (upd H p (.dT []))
variable{prog:Bq}{w:CQ}{A:B5}{s:AM}
section
variable{X:Cx}{pos:Pos}
def iN:PE X (.Dict [] [] pos) qb:=λg s j H Q I h=>
 t8 ⟨.ref s.heap.objs.size,_,I.laid (a:=s.heap.objs.size) (o:=.dK []) (t':=s.toks) (λ_ _ q=>AF _ q) (AL _) (X1 s.heap I.big),rfl,h _ (I.hok.fresh (AL _))⟩
def iM:PE X (.Dict [] [] pos) qZ:=λg s j H Q I h=>
 t8 ⟨.ref s.heap.objs.size,_,I.laid (a:=s.heap.objs.size) (o:=.dT []) (t':=s.toks) (λ_ _ q=>AF _ q) (AL _) (jn s.heap I.big),rfl,h _ (I.hok.fresh (AL _))⟩
end
def Yz:List (TE×TE)->St->Hp->(List (V×V)->Hp->Prop)->Prop
 | [],_,H,Q=>Q [] H
 | (tk,j) :: r,g,H,Q=>tk g H λx l=>j g l λy m=>Yz r g m λo B=>Q ((x,y) :: o) B
abbrev VV:List (V×V)->List (AI×AI)->Prop:=Hn λp q=>RelV p.1 q.1/\RelV p.2 q.2
def PPs(X:Cx)(pos:Pos)(j:List (Option Expr))(g:List Expr)(C:List (TE×TE)):Prop:=
 ∀(m:List (AW×Obj)) (s:AM) (l:St) (H:Hp) (Q:List (V×V)->Hp->Prop),Inv X m l H s->Yz C l H Q ->
  Ag (Ah X.prog X.w) X.A (evalPairs (pairTrees j g X.env pos)) (λE G=>∃o B,Inv X m l B G/\VV o E/\Q o B) X.xe s
def mO:PPs X pos [] [] []:=λg s j H Q I h=>pairTrees_nil_walk ⟨[],H,I,.nil,h⟩
def iE(l:PE X k tk)(m:PE X v o)(B:PPs X pos C E G) :
  PPs X pos (some k :: C) (v :: E) ((tk,o) :: G):=λg s j H Q I h=>
 pairTrees_cons_walk (thn (l g s j H _ I h) λu J ⟨x,L,N,O,P⟩=>thn (m g J j L _ N P) λw2 R ⟨y,S,T,U,Y⟩=>
  thn (B g R j S _ T Y) λws s3 ⟨Z,H3,I3,rel,q3⟩=>⟨(x,y) :: Z,H3,I3,.cons ⟨O,U⟩ rel,q3⟩)
def KY(kvs more:List (Key×V)):List (Key×V):=more.foldl (λg j=>Il g j.1 j.2) kvs
def KV.merge:∀{more:List (Key×V)} {j:List (Key×AI)} {kvs:List (Key×V)} {g:List (Key×AI)},KV more j->KV kvs g->KV (KY kvs more) (merged g j):=by
 intro more j kvs g r;unfold KV at r
 induction r generalizing kvs g with
 | nil=>intro q;exact q
 | @cons p q o B h t l=>
  intro m
  have e:KV (Il kvs p.1 p.2) (stored g q.1 q.2):=by
   have:=m.put p.1 h.2;rw[<-h.1];exact this
  exact l e
def Kb:∀(more kvs:List (Key×V)),(KY kvs more).length<=kvs.length+more.length
 | [],kvs=>by show kvs.length<=kvs.length+0;lia
 | p :: r,kvs=>by
  have g:=Kb r (Il kvs p.1 p.2);have j:=NA kvs p.1 p.2;show(KY (Il kvs p.1 p.2) r).length<=_;rw[A1];lia
def S9{P}{w}:∀{kvs:List (Key×V)} {j:List (AI×AI)},VV (kvs.map λl=>(kV l.1,l.2)) j->∃g,Carries (ED P w) j g/\KV kvs g
 | [],_,r=>by rw[Mc]at r;cases r;exact⟨[],DT,.nil⟩
 | p :: kvs,_,r=>by
  rw[A4]at r
  cases r with
  | @cons a b as bs h t=>
   obtain⟨g,c,q⟩:=S9 (P:=P) (w:=w) t;obtain⟨o,m⟩:=b;exact⟨(p.1,m) :: g,⟨Ur h.1,rfl,c⟩,.cons ⟨rfl,h.2⟩ q⟩
def uW(m:List (TE×TE)):TE:=λo H Q=>∀p,H p=none->Yz m o (upd H p (.dK [])) λB j=>j p=some (.dK [])/\∃g:List (Key×V),B=g.map (λl=>(kV l.1,l.2))/\g.length<=15/\Q (.ref p) (upd j p (.dK (KY [] g)))
def md(h:PPs X pos g j E)(G:g.all (·.isSome)=true)(J:g.length=j.length)(L:g≠[])
  (B:g.length<=15):PE X (.Dict g j pos) (uW E):=by
 intro N s O H Q I q;have R:=I.hok.fresh (AL s.heap.objs.size);have S:=I.laid (a:=s.heap.objs.size) (o:=.dK []) (h':=s.heap.push { cls:=.type "dict",data:=.dict #[] }) (t':=s.toks) (λ_ _ q=>AF _ q) (AL _) (X1 s.heap I.big);refine wpAny_Dict_walk (knd:=ED X.prog X.w) G J L B (thn (h N _ O _ _ S (q _ R)) λws s2 ⟨ps,H2,C,rel,e,l,T,lk,U⟩=>?_);subst T;obtain⟨Y,c,rk⟩:=S9 (P:=X.prog) (w:=X.w) rel;obtain⟨z,hd,Ω,Z,dd⟩:=bE C.hok e;cases Z;refine⟨Y,c,dd,λh' m hs=>⟨.ref s.heap.objs.size,_,?_,rfl,U⟩⟩
 have hz:(KY [] l).length<=sizeLine:=by
  have h1:=Kb l [];rw[JL]at h1;rw[Pk];lia
 have he:∃q,h'.get? s.heap.objs.size=some q:=let ⟨q,_,_,hq,_⟩:=m;⟨q,hq⟩
 exact RX C (by rw[e];exact DT) hs he (Za hz hd (rk.merge .nil) m)
structure M1(X:Cx)(o:Expr)(m:Str)(apos:Pos)(e:Expr)(cpos:Pos):Prop where
 base:E3 o m X.env (B1 o X.env)=B1 o X.env
 few:((DH cpos (AQ [e] X.env)).all (λx=>!x.1)&&(Te cpos (MZ [] X.env)).all (λx=>x.1.isSome)
   &&decide (([e]:List Expr).length+([]:List Jn).length+(if ([]:List Jn).isEmpty then 0 else 1) < 30))=true
 line:(apos.endLine==cpos.line)=true
 trees:DH cpos (AQ [e] X.env)=[(false,B1 e X.env)]
def IsD(H:Hp)(a:AW):Prop:=(∃g,Rd H a (.dK g))∨∃g,Rd H a (.dT g)
def sO(I:Inv X B C H s)(d:IsD H a) :
  s.TypeIs (.ref a) "dict"/\(∀b,A0 a=.ref b->∃g,s.heap.get? b=some g/\g.dict=none)/\(a==D7)=false:=by
 rcases d with⟨l,e⟩ | ⟨l,e⟩
 ·obtain⟨_,hd,E,_,j⟩:=Sv I.hok e
  refine⟨j.typeIs,λb q=>?_,hd⟩;cases q;obtain⟨g,_,_,m,o,_⟩:=j;exact⟨g,m,o.2.1⟩
 ·obtain⟨_,hd,G,_,j⟩:=Uy I.hok e
  refine⟨j.typeIs,λb q=>?_,hd⟩;cases q;obtain⟨g,_,_,m,o,_⟩:=j;exact⟨g,m,o.2.1⟩
end
end L2
namespace Att
open PySem.W PySem.Calls
def Q8:∀(ns:ZLi) (g:List AI),WellAll P h g (ns.map vq)->IntsAre g ns:=by
 intro ns
 induction ns with
 | nil=>
  intro g w;rw[Mc]at w;cases w;exact .nil
 | cons n ns j=>
  intro g w;rw[A4]at w
  cases w with
  | cons a b=>
   cases a;exact .cons _ _ (j _ b)
def cI{l:OpenLaw}{n:Nat}(G:l.most=some n){P:Params}{h:CZ}{args:List WData}{g:List AI}
  (B:l.row.toRowW.claim.pre args=true) (s:WellAll P h g args) :
  ∃a C ns,g=[A0 a]/\args=[WData.list (ns.map vq)]/\h.get? a=some { cls:=.type "list",data:=.seq C.toArray }/\IntsAre C ns/\ns.length<=n:=by
 have A:WShape.hasAll [] args [.list .int]=true:=(pre_splitW B).1;have E:l.pre.holds [] { args:=args }=true:=(pre_splitW B).2;obtain⟨d,r,rfl,H,I⟩:=hasAllW_cons A;obtain rfl:=hasAllW_nil I;obtain⟨S,rfl,J⟩:=hasW_list H;obtain⟨ns,rfl⟩:=items_int J
 have j:ns.length<=n:=by
  unfold OpenLaw.pre at E
  have m:(WTm.not (.lt (.lit (.int (n:Int))) (.len (.arg 0)))).holds [] { args:=[.list (ns.map .int)] }=true:=by
   have m:=(holds_andW E).1;rw[G]at m;exact m
  have o:=condW_of m (w_not (w_lt w_lit (w_len_list (w_arg rfl))));rw[AG]at o
  refine MR λq=>?_
  have L:(n:Int) < ((ns.length:Nat):Int):=by omega
  first
   | (rw[wX L]at o;exact zX o (by decide))
   | (simp at o;omega)
 cases s with
 | cons N O=>
  cases O
  cases N with
  | list Q R=>exact⟨_,_,ns,rfl,rfl,Q,Q8 ns _ R,j⟩
def cR(l:OpenLaw)(args:List WData):l.row.toRowW.claim.post args (.bool true) args=true:=
 postW_of (r:=l.row.toRowW) (X:=(true==true))
  (show tW [] (.bool true) .bool=true by first | rfl | decide | simp[tW,WShape.arms,WShape.armsAll])
  (show(WTm.eq .res (.lit (.bool true))).value [] { args:=args,res:=some (.bool true),after:=args }=some (.bool (true==true))from w_eq_bool (w_res rfl) w_lit) rfl
def YA{l:OpenLaw}{n:Nat}{q:Bq}{j:List Str}{N:(Str->Option AI)->CZ->Prop}{O:CQ->CZ->Prop}{d:DefRec}
  (T:l.most=some n) (U:d.params.defaults=[])
  (call:∀(w:CQ) (m g:AM) (H mb:Str->Option AI) (C:AW) (o:Obj) (J I s:AI) (a:AW) (B:List AI) (ns:ZLi),
   Ground q j [] N w m H mb g.heap->O w g.heap ->
   g.heap.get? C=some o->o.data=.func (docDef d.name d.params d.body d.scope J I s)->g.heap.CodeRec I d.name->H d.name=some (.ref C) ->
   g.heap.get? a=some { cls:=.type "list",data:=.seq B.toArray }->IntsAre B ns->ns.length<=n->g.gens = #[] ->
   Ih (Ah l.prog w) Td (.call (.ref C) ⟨[.ref a],[]⟩) (λr s'=>r=.ok (.ret (.bool true))/\OldK g.heap s'.heap/\s'.os=g.os/\Jo s'.gens) g) :
  WalkO q j N O l.row.toRowW d [] (λf B=>bU f B):=by
 intro w m g H mb G Y C o J I s X kV Z hd yg P zQ hg Q R as yz S hrd L zh;obtain rfl:X=.none:=Dflts.none P U;obtain rfl:kV=.none:=Dflts.noKw P;obtain⟨a,B,ns,rfl,rfl,zR,A,E⟩:=cI T yz L;refine enter_call (Ig (call w m g H mb C o J I s a B ns G Y Z (fd_plain hd) yg zQ zR A E hg) λr s' hq=>?_);obtain⟨rfl,h2,h3,h4⟩:=hq;exact⟨.inl ⟨.bool true,.bool true,[],rfl,λ_=>rfl,.bool true,cR l _,λ_=>⟨GV,λ_ hm=>(nomatch hm)⟩⟩,h2,h3,h4⟩
end Att
namespace L2
def UV:∀{g:List AI} {ns:ZLi},IntsAre g ns->Bx (ns.map V.int) g
 | _,_,.nil=>.nil
 | _,_,.cons n t h=>.cons ⟨t,rfl⟩ (UV h)
def oW(H:Hp):Prop:=∀b,H b=none∨∃o g,H b=some (.frz o (.lst g))
def jC{P}{w}{K}{A mb}{CX}{k}{Q a}{fd}{x}{sp}{s₁}{l}{ns}
  (X:K.In s₁.heap) (Y:s₁.heap.Ns BC A) (hb:s₁.heap.Ns YZ mb) (R:∀x:Str,x≠"__name__"->mb x=FX x) (B:s₁.heap.NoLimit) (hg:s₁.gens = #[])
  (O:s₁.heap.get? a=some { cls:=.type "list",data:=.seq l.toArray }) (hi:IntsAre l ns) (Z:ns.length<=sizeLine) (hr:Ib k Td)
  (F:∀base:CZ,K.In base->base.Ns BC A->EZ P w K A base CX k Q fd [x] sp) (Ϙ:∀(s:AM) (u:AI),YQ s fd ⟨[u],[]⟩ [(x,u)])
  (Χ:∀H:Hp,oW H->SqL K H a (ns.map V.int)->sp [.ref a] H (λv _=>v=.bl true) λ_ _ _=>False)
  (S:∀H e s',CX [] H s₁ (λ_ _ _=>False) e s'->False) :
  Ih (Ah P w) Td (.call (.ref Q) ⟨[.ref a],[]⟩) (λr s'=>r=.ok (.ret (.bool true))/\OldK s₁.heap s'.heap/\s'.os=s₁.os/\Jo s'.gens) s₁:=by
 have rv:=UV hi;have C:=hi.length
 have j:∀H:Hp,oW H->SqL K H a (ns.map V.int)->HOk P w H s₁.heap->(∀b,H b≠none->b=a)->(H a≠none->K.lookup a=none) ->
   Ih (Ah P w) Td (.call (.ref Q) ⟨[.ref a],[]⟩) (λr s'=>r=.ok (.ret (.bool true))/\OldK s₁.heap s'.heap/\s'.os=s₁.os/\Jo s'.gens) s₁:=by
  intro H hO hS E hA hK
  have yt:∀{b:AW} {o:Obj},s₁.heap.get? b=some o->H b=none->(WH s₁.heap H).get? b=some o:=λe n=>jN e n
  have ϒ:∀{b:AW} {o:Obj} {G:Array ef} {ep:Nat},s₁.heap.get? b=some o->o.data=.dict G ep->H b=none:=λ{b o G ep} e d=>by
   cases q:H b with
   | none=>rfl
   | some u=>
    have T:b=a:=hA b (by rw[q];simp);subst T;rw[O]at e;cases e;have d':Data.seq l.toArray _=Data.dict G ep:=d;cases d'
  have g:∀{b:AW} {m:Str->Option AI},s₁.heap.Ns b m->(WH s₁.heap H).Ns b m:=λ{b m} ⟨o,G,ep,e,d,r⟩=>⟨o,G,ep,yt e (ϒ e d),d,r⟩
  have I:K.In (WH s₁.heap H):=λb o e=>yt (X b o e) (by
   cases q:H b with
   | none=>rfl
   | some u=>
    have T:b=a:=hA b (by rw[q];simp);subst T
    rw[hK (by rw[q];simp)]at e;cases e)
  have hM:Mod K A (WH s₁.heap H):=⟨I,g Y,⟨mb,g hb,R⟩,let ⟨mc,h1,h2⟩:=B;⟨mc,g h1,h2⟩⟩;have e0:Zm P w K A (WH s₁.heap H) Td [] s₁ H:=⟨rfl,hM,λb o e=>nF e,Yg (dJ _ _),trivial,λb hb=>zX (show b∈([]:List AW)from hb) (by simp),E,.of_eq hg⟩
  refine Ig ((F _ I (g Y)).run Td [] s₁ H ⟨[.ref a],[]⟩ [.ref a] [.ref a] _ _ hr e0 (Ϙ s₁ (.ref a)) (.cons rfl .nil) (Χ H hO hS)) λr s' h=>?_
  cases r with
  | error e=>exact(S H e s' h).elim
  | ok fl=>
   cases fl with
   | next=>exact Eh h
   | brk=>exact Eh h
   | cont=>exact Eh h
   | ret u=>
    obtain⟨v,H',os,J,un,L,r',q⟩:=h;have q':v=.bl true:=q;subst q';obtain rfl:u=On true:=r';refine⟨rfl,OldK.of_keep λb o e=>?_,os,J⟩
    cases q:H b with
    | none=>exact un.keep b o e q (by intro z;exact zX (show b∈([]:List AW)from z) (by simp)) (by simp)
    | some u=>
     rcases hO b with z | ⟨ob,xs,z⟩
     ·rw[q]at z;cases z
     ·have z2:=un.frzs b ob _ z
      obtain⟨e1,_⟩:=E b _ z;obtain⟨e2,_⟩:=L b _ z2;rw[e]at e1;cases e1;exact e2
 cases U:K.lookup a with
 | some o=>
  have e:=X a o U;rw[O]at e;cases e
  refine j (λ_=>none) (λ_=>.inl rfl) (.inr ⟨_,l.toArray,_,U,rfl,rfl,rfl,by rw[AT,C];exact Z,by simpa using rv⟩) (λb u z=>by have N:(none:Option HO)=some u:=z;cases N) (λb z=>zX rfl z) λz=>zX rfl z
 | none=>
  refine j (λb=>if b=a then some (.frz { cls:=.type "list",data:=.seq l.toArray } (.lst (ns.map V.int)))else none) (λb=>?_) (.inl (.inr ⟨{ cls:=.type "list",data:=.seq l.toArray },qX rfl⟩)) (λb u z=>?_) (λb z=>?_) λ_=>U
  ·by_cases hb:b=a
   ·exact .inr ⟨_,_,qX hb⟩
   ·exact .inl (qY hb)
  ·by_cases hb:b=a
   ·have N:=(qX hb).symm.trans z
    cases N;subst hb;exact⟨O,by rw[AG];exact Z,l,_,rv,O⟩
   ·have N:=(qY hb).symm.trans z
    cases N
  ·by_cases hb:b=a
   ·exact hb
   ·exact zX (qY hb) z
def ko{l:PySem.W.OpenLaw}{n k:Nat}{q:Bq}{m:List Str}{P:(Str->Option AI)->CZ->Prop}{J:CQ->CZ->Prop}{d:DefRec}{K:Params->AJ}{CX:CQ->CXT}{sp:CQ->Sp}{x:Str}
  (Q:l.most=some n) (R:n<=sizeLine) (S:d.params.defaults=[]) (U:Ib k Td)
  (X:∀(w:CQ) (h:CZ),J w h->(K w.params).In h)
  (F:∀(w:CQ) (B:Str->Option AI) (E:AW) (h:CZ),(K w.params).In h->h.Ns BC B->B d.name=some (.ref E) ->
   ∃fd:LP,(∀(s:AM) (u:AI),YQ s fd ⟨[u],[]⟩ [(x,u)]) /\
    ∀base:CZ,(K w.params).In base->base.Ns BC B->EZ l.prog w (K w.params) B base (CX w) k E fd [x] (sp w))
  (Z:∀(w:CQ) (H:Hp) (a:AW) (ns:ZLi),ns.length<=n->oW H->SqL (K w.params) H a (ns.map V.int)->sp w [.ref a] H (λv _=>v=.bl true) λ_ _ _=>False)
  (I:∀(w:CQ) (H:Hp) (s:AM) (e:AI) (s':AM),CX w [] H s (λ_ _ _=>False) e s'->False) :
  PySem.W.WalkO q m P J l.row.toRowW d [] (λf L=>bU f L):=by
 refine Att.YA Q S λw N C B mb E o pm cd doc a L ns G Y ho hd yg zQ zR A j hg=>?_
 have O:=X w _ Y;obtain⟨fd,hb,hF⟩:=F w B E _ O G.T.g zQ
 exact jC O G.T.g G.T.b G.T.builtins G.T.nolimit hg zR A (Ap j R) U hF hb (λH hO hS=>Z w H a ns j hO hS) λH e s'=>I w H C e s'
def nV(s:EF)(j:Nat):EF:=match s with
 | .ClassDef _ _ _ body _ _ _ _ _ _ _=>body.getD j (.Pass ⟨0,0,0,0⟩)
 | _=>.Pass ⟨0,0,0,0⟩
def L8(s:EF):Arguments:=match s with
 | .FunctionDef _ a _ _ _ _ _ _ _ _=>a
 | _=>{ posonlyargs:=[],args:=[],vararg:=none,kwonlyargs:=[],kw_defaults:=[],kwarg:=none,defaults:=[] }
def JJ(s:EF):List EF:=match s with
 | .FunctionDef _ _ b _ _ _ _ _ _ _=>b
 | _=>[]
def BP(s:EF):Tf:=match s with
 | .FunctionDef _ _ _ _ _ _ g _ _ _=>g
 | _=>{ kind:=.function,names:=[],isGenerator:=false,isCoroutine:=false }
structure Fun(K:AJ)(x qual:Str)(st:EF)(f:AW)(fd:LP):Prop where
 ex:∃(oc:AI) (od:Option AW) (kV doc pm:AI) (an:Option AW) (wu ct:AI) (yJ:Array (Option AI)),
  fd=Iu x qual (L8 st) (JJ st) (BP st) .none kV doc pm an wu ct/\K.lookup f=some ⟨oc,od,.func fd,yJ⟩/\Re K wu qual=true
 kp:G4 K (.ref f)=true
section
variable{K:AJ}
def Fun.binds{x g}{st}{f}{fd}{ps}(F:Fun K x g st f fd)
  (h:∀(kV j l:AI) (m:Option AW) (o ct:AI) (s:List AI),s.length=ps.length->kU (Iu x g (L8 st) (JJ st) (BP st) .none kV j l m o ct) ⟨s,[]⟩=pure (ps.zip s)):Binds K fd ps []:=by
 obtain⟨A,B,kV,j,l,m,o,ct,C,rfl,E,G⟩:=F.ex;exact .all (h kV j l m o ct)
def jd{x g}{st}{f}{A}{B o}{C}{kV j s m ct}(l:K.lookup f=some ⟨A,B,.func (Iu x g (L8 st) (JJ st) (BP st) .none kV j s o m ct),C⟩)
  (c:Re K m g=true) (k:G4 K (.ref f)=true):Fun K x g st f (Iu x g (L8 st) (JJ st) (BP st) .none kV j s o m ct):=⟨⟨A,B,kV,j,s,o,m,ct,C,rfl,l,c⟩,k⟩
end
section
variable{X:Cx}
def pv(i:Nat)(g:X.N[i]?=some x:=by rfl)(j:Vis X.env.scope x:=by first | exact QW rfl | exact Oj (QW rfl) | exact Oj (Oj rfl))(hd:(x==("__debug__" : Str))=false:=by decide)
  (l:(x==("__classdict__" : Str))=false:=by decide):PE X (.Name x pos) (qU i):=rB g j hd l
def dr:HX X (.builtin "len") (λxs H Q=>∃a kvs,xs=[V.ref a]/\H a=some (.dK kvs)/\Q (.int kvs.length) H):=by
 intro m s o H xs A Q I r h;obtain⟨a,kvs,rfl,g,q⟩:=h;obtain⟨u,rfl,j⟩:=vals1 r;cases j
 exact vY I (.inl g) λt B l=>⟨.int kvs.length,H,l,⟨t,rfl⟩,q⟩
end
inductive D where
 | non | bl (b:Bool) | int (i:Int) | str (x:Str) | tup (ds:List D) | fro (ds:List D) | ref (n:Nat) | exc (C:AW)
def UD(K:AJ)(H:Hp)(a:AW)(j:List V):Prop:=
 (∃o,H a=some (.frz o (.lst j))) ∨
  ∃(o:Obj) (g:Array AI) (n:Nat),K.lookup a=some o/\o.cls=.type "list"/\o.dict=none/\o.data=.seq g n/\g.size<=sizeLine/\Bx j g.toList
def UD.sq{K}{H}{a}{vs}(h:UD K H a vs):SqL K H a vs:=by
 rcases h with h | h
 ·exact .inl (.inr h)
 ·exact .inr h
def UE(o:Obj)(C:AW):Prop:=o.cls=.ref C/\o.dict=none/\∃g,o.data=.fields g
mutual
inductive CB(K:AJ)(ρ:List AW)(H:Hp):D->V->Prop where
 | non:CB K ρ H .non .non
 | bl (b:Bool):CB K ρ H (.bl b) (.bl b)
 | int (i:Int):CB K ρ H (.int i) (.int i)
 | str (x:Str):CB K ρ H (.str x) (.str x)
 | tup {ds:List D} {a:AW} {vs:List V}:H a=some (.tup vs)->A3 K ρ H ds vs->CB K ρ H (.tup ds) (.ref a)
 | fro {ds:List D} {a:AW} {vs:List V}:UD K H a vs->A3 K ρ H ds vs->CB K ρ H (.fro ds) (.ref a)
 | ref {n:Nat} {a:AW}:ρ[n]?=some a->CB K ρ H (.ref n) (.ref a)
 | exc {C a:AW} {o:Obj} {u:HO}:H a=some (.frz o u)->UE o C->CB K ρ H (.exc C) (.ref a)
inductive A3(K:AJ)(ρ:List AW)(H:Hp):List D->List V->Prop where
 | nil:A3 K ρ H [] []
 | cons {d:D} {v:V} {ds:List D} {vs:List V}:CB K ρ H d v->A3 K ρ H ds vs->A3 K ρ H (d :: ds) (v :: vs)
end
structure Le(K:AJ)(ρ:List AW)(H:Hp)(ρ':List AW)(H':Hp):Prop where
 pre:∀(n:Nat) a,ρ[n]?=some a->ρ'[n]?=some a
 tup:∀a xs,H a=some (.tup xs)->H' a=some (.tup xs)
 frz:∀a o u,H a=some (.frz o u)->H' a=some (.frz o u)
 oth:∀a o,H a=some o->(∀n:Nat,ρ[n]?≠some a)->H' a=some o/\∀n:Nat,ρ'[n]?≠some a
def UD.mono{K}{H g}{a}{xs}(l:∀a o u,H a=some (.frz o u)->g a=some (.frz o u))(h:UD K H a xs):UD K g a xs:=by
 rcases h with⟨o,h⟩ | h
 ·exact .inl ⟨o,l _ _ _ h⟩
 ·exact .inr h
section
variable{K:AJ}{ρ ρ' ρ'':List AW}{H H' yK:Hp}
def Le.fro(l:Le K ρ H ρ' H'):∀a xs,UD K H a xs->UD K H' a xs:=λ_ _ h=>h.mono l.frz
def Le.refl:Le K ρ H ρ H:=⟨λ_ _ h=>h,λ_ _ h=>h,λ_ _ _ h=>h,λ_ _ h n=>⟨h,n⟩⟩
def Le.trans(a:Le K ρ H ρ' H')(b:Le K ρ' H' ρ'' yK):Le K ρ H ρ'' yK:=
 ⟨λn x h=>b.pre n x (a.pre n x h),λx g h=>b.tup x g (a.tup x g h),λx o u h=>b.frz x o u (a.frz x o u h),λx o h n=>b.oth x o (a.oth x o h n).1 (a.oth x o h n).2⟩
mutual
def CB.mono(l:Le K ρ H ρ' H'):∀{d:D} {v:V},CB K ρ H d v->CB K ρ' H' d v
 | _,_,.non=>.non
 | _,_,.bl b=>.bl b
 | _,_,.int i=>.int i
 | _,_,.str x=>.str x
 | _,_,.tup h r=>.tup (l.tup _ _ h) (A3.mono l r)
 | _,_,.fro h r=>.fro (l.fro _ _ h) (A3.mono l r)
 | _,_,.ref h=>.ref (l.pre _ _ h)
 | _,_,.exc h e=>.exc (l.frz _ _ _ h) e
def A3.mono(l:Le K ρ H ρ' H'):∀{ds:List D} {g:List V},A3 K ρ H ds g->A3 K ρ' H' ds g
 | _,_,.nil=>.nil
 | _,_,.cons r t=>.cons (CB.mono l r) (A3.mono l t)
end
mutual
def CB.more(l:∀(n:Nat) a,ρ[n]?=some a->ρ'[n]?=some a):∀{d:D} {v:V},CB K ρ H d v->CB K ρ' H d v
 | _,_,.non=>.non
 | _,_,.bl b=>.bl b
 | _,_,.int i=>.int i
 | _,_,.str x=>.str x
 | _,_,.tup h r=>.tup h (A3.more l r)
 | _,_,.fro h r=>.fro h (A3.more l r)
 | _,_,.ref h=>.ref (l _ _ h)
 | _,_,.exc h e=>.exc h e
def A3.more(l:∀(n:Nat) a,ρ[n]?=some a->ρ'[n]?=some a):∀{ds:List D} {g:List V},A3 K ρ H ds g->A3 K ρ' H ds g
 | _,_,.nil=>.nil
 | _,_,.cons r t=>.cons (CB.more l r) (A3.more l t)
end
mutual
def CB.keep(j:∀a xs,H a=some (.tup xs)->H' a=some (.tup xs))(g:∀a o u,H a=some (.frz o u)->H' a=some (.frz o u)):∀{d:D} {v:V},CB K ρ H d v->CB K ρ H' d v
 | _,_,.non=>.non
 | _,_,.bl b=>.bl b
 | _,_,.int i=>.int i
 | _,_,.str x=>.str x
 | _,_,.tup h r=>.tup (j _ _ h) (A3.keep j g r)
 | _,_,.fro h r=>.fro (h.mono g) (A3.keep j g r)
 | _,_,.ref h=>.ref h
 | _,_,.exc h e=>.exc (g _ _ _ h) e
def A3.keep(g:∀a xs,H a=some (.tup xs)->H' a=some (.tup xs))(j:∀a o u,H a=some (.frz o u)->H' a=some (.frz o u)):∀{ds:List D} {l:List V},A3 K ρ H ds l->A3 K ρ H' ds l
 | _,_,.nil=>.nil
 | _,_,.cons r t=>.cons (CB.keep g j r) (A3.keep g j t)
end
def A3.length:∀{ds:List D} {g:List V},A3 K ρ H ds g->ds.length=g.length
 | _,_,.nil=>rfl
 | _,_,.cons _ t=>by rw[A1,A1,A3.length t]
def A3.get:∀{ds:List D} {g:List V} {i:Nat} {d:D},A3 K ρ H ds g->ds[i]?=some d->∃v,g[i]?=some v/\CB K ρ H d v
 | _,_,_,_,.nil,e=>by simp at e
 | _,_,0,_,.cons r _,e=>by simp at e;subst e;exact⟨_,rfl,r⟩
 | _,_,i+1,d,.cons _ t,e=>by
  obtain⟨v,j,l⟩:=A3.get (i:=i) (d:=d) t (by simpa using e);exact⟨v,by simpa using j,l⟩
def A3.get':∀{ds:List D} {g:List V} {i:Nat} {v:V},A3 K ρ H ds g->g[i]?=some v->∃d,ds[i]?=some d/\CB K ρ H d v
 | _,_,_,_,.nil,e=>by simp at e
 | _,_,0,_,.cons r _,e=>by simp at e;subst e;exact⟨_,rfl,r⟩
 | _,_,i+1,d,.cons _ t,e=>by
  obtain⟨v,j,l⟩:=A3.get' (i:=i) (v:=d) t (by simpa using e);exact⟨v,by simpa using j,l⟩
def A3.append:∀{ds es:List D} {g j:List V},A3 K ρ H ds g->A3 K ρ H es j->A3 K ρ H (ds++es) (g++j)
 | _,_,_,_,.nil,s=>s
 | _,_,_,_,.cons r t,s=>.cons r (A3.append t s)
def A3.take:∀{ds:List D} {g:List V} (n:Nat),A3 K ρ H ds g->A3 K ρ H (ds.take n) (g.take n)
 | _,_,0,_=>.nil
 | _,_,_+1,.nil=>.nil
 | _,_,n+1,.cons r t=>.cons r (A3.take n t)
def A3.drop:∀{ds:List D} {g:List V} (n:Nat),A3 K ρ H ds g->A3 K ρ H (ds.drop n) (g.drop n)
 | _,_,0,r=>r
 | _,_,_+1,.nil=>.nil
 | _,_,n+1,.cons _ t=>A3.drop n t
def A3.set(r:CB K ρ H d v):∀{ds:List D} {g:List V} (i:Nat),A3 K ρ H ds g->A3 K ρ H (ds.set i d) (g.set i v)
 | _,_,_,.nil=>.nil
 | _,_,0,.cons _ t=>.cons r t
 | _,_,i+1,.cons q t=>.cons q (A3.set r i t)
def A3.of_ints:∀(ns:ZLi),A3 K ρ H (ns.map D.int) (ns.map V.int)
 | []=>.nil
 | n :: ns=>.cons (.int n) (A3.of_ints ns)
def A3.ints:∀{ns:ZLi} {g:List V},A3 K ρ H (ns.map D.int) g->g=ns.map V.int
 | [],_,.nil=>rfl
 | n :: ns,_,.cons r t=>by
  cases r;rw[A3.ints (ns:=ns) t];rfl
end
inductive Ob where
 | lst (ds:List D)
 | dK (kvs:List (Key×D))
 | dT (kvs:List (List Key×D))
 | ins (C:AW) (fs:List (Str×D))
 | fK (kvs:List (Key×D))
 | fT (kvs:List (List Key×D))
 | mem (L:Key->Int)
abbrev Sto:=List Ob
def memU:List Key:=(Bs 1000).map λ(i:Nat)=>C5 (i:Int)
abbrev KVR{g:Type}(K:AJ)(ρ:List AW)(H:Hp):List (g×D)->List (g×V)->Prop:=Hn λ(p:g×D) (q:g×V)=>p.1=q.1/\CB K ρ H p.2 q.2
def F8(K:AJ)(ρ:List AW)(H:Hp)(a:AW):Ob->Prop
 | .lst s=>∃m,H a=some (.lst m)/\A3 K ρ H s m
 | .dK j=>∃g,H a=some (.dK g)/\KVR K ρ H j g
 | .dT j=>∃g,H a=some (.dT g)/\KVR K ρ H j g
 | .ins C fs=>∃A o,H a=some (.ins C A o)/\KVR K ρ H fs o
 | .fK j=>∃l g,H a=some (.frz l (.dK g))/\KVR K ρ H j g
 | .fT j=>∃l g,H a=some (.frz l (.dT g))/\KVR K ρ H j g
 | .mem L=>∃g,H a=some (.dK g)/\(g.map (·.1)).Nodup/\∀x∈g,x.1∈memU/\x.2=V.int (L x.1)
structure Cj(K:AJ)(ρ:List AW)(S:Sto)(H:Hp):Prop where
 len:ρ.length=S.length
 nd:∀(i j:Nat) a,ρ[i]?=some a->ρ[j]?=some a->i=j
 ob:∀(n:Nat) o a,S[n]?=some o->ρ[n]?=some a->F8 K ρ H a o
section
variable{K:AJ}{ρ ρ':List AW}{H H':Hp}{S:Sto}{a p:AW}{o:Ob}{n:Nat}{ho:HO}
def KVR.mono{g:Type}(l:Le K ρ H ρ' H'){x:List (g×D)}{y:List (g×V)}(h:KVR K ρ H x y):KVR K ρ' H' x y:=Hn.mapP h λ_ _ z=>⟨z.1,z.2.mono l⟩
def F8.has(h:F8 K ρ H a o):H a≠none:=by
 cases o with
 | lst g=>obtain⟨_,e,_⟩:=h;rw[e];exact λz=>nomatch z
 | dK g=>obtain⟨_,e,_⟩:=h;rw[e];exact λz=>nomatch z
 | dT g=>obtain⟨_,e,_⟩:=h;rw[e];exact λz=>nomatch z
 | ins C fs=>obtain⟨_,_,e,_⟩:=h;rw[e];exact λz=>nomatch z
 | fK g=>obtain⟨_,_,e,_⟩:=h;rw[e];exact λz=>nomatch z
 | fT g=>obtain⟨_,_,e,_⟩:=h;rw[e];exact λz=>nomatch z
 | mem L=>obtain⟨_,e,_⟩:=h;rw[e];exact λz=>nomatch z
def F8.mono(l:Le K ρ H ρ' H')(e:H' a=H a)(h:F8 K ρ H a o):F8 K ρ' H' a o:=by
 cases o with
 | lst A=>obtain⟨g,j,m⟩:=h;exact⟨g,e.trans j,m.mono l⟩
 | dK A=>obtain⟨g,j,m⟩:=h;exact⟨g,e.trans j,m.mono l⟩
 | dT A=>obtain⟨g,j,m⟩:=h;exact⟨g,e.trans j,m.mono l⟩
 | ins C fs=>obtain⟨s,g,j,m⟩:=h;exact⟨s,g,e.trans j,m.mono l⟩
 | fK A=>obtain⟨s,g,j,m⟩:=h;exact⟨s,g,e.trans j,m.mono l⟩
 | fT A=>obtain⟨s,g,j,m⟩:=h;exact⟨s,g,e.trans j,m.mono l⟩
 | mem L=>obtain⟨g,j,m⟩:=h;exact⟨g,e.trans j,m⟩
def F8.keep(m:∀a xs,H a=some (.tup xs)->H' a=some (.tup xs))(s:∀a o u,H a=some (.frz o u)->H' a=some (.frz o u))(e:H' a=H a)(h:F8 K ρ H a o):F8 K ρ H' a o:=by
 cases o with
 | lst B=>obtain⟨g,j,l⟩:=h;exact⟨g,e.trans j,l.keep m s⟩
 | dK B=>obtain⟨g,j,l⟩:=h;exact⟨g,e.trans j,Hn.mapP l λ_ _ z=>⟨z.1,z.2.keep m s⟩⟩
 | dT B=>obtain⟨g,j,l⟩:=h;exact⟨g,e.trans j,Hn.mapP l λ_ _ z=>⟨z.1,z.2.keep m s⟩⟩
 | ins C fs=>obtain⟨A,g,j,l⟩:=h;exact⟨A,g,e.trans j,Hn.mapP l λ_ _ z=>⟨z.1,z.2.keep m s⟩⟩
 | fK B=>obtain⟨A,g,j,l⟩:=h;exact⟨A,g,e.trans j,Hn.mapP l λ_ _ z=>⟨z.1,z.2.keep m s⟩⟩
 | fT B=>obtain⟨A,g,j,l⟩:=h;exact⟨A,g,e.trans j,Hn.mapP l λ_ _ z=>⟨z.1,z.2.keep m s⟩⟩
 | mem L=>obtain⟨g,j,l⟩:=h;exact⟨g,e.trans j,l⟩
def F8.mono'(l:∀(n:Nat) a,ρ[n]?=some a->ρ'[n]?=some a)(h:F8 K ρ H a o):F8 K ρ' H a o:=by
 cases o with
 | lst A=>obtain⟨g,j,m⟩:=h;exact⟨g,j,m.more l⟩
 | dK A=>obtain⟨g,j,m⟩:=h;exact⟨g,j,Hn.mapP m λ_ _ z=>⟨z.1,z.2.more l⟩⟩
 | dT A=>obtain⟨g,j,m⟩:=h;exact⟨g,j,Hn.mapP m λ_ _ z=>⟨z.1,z.2.more l⟩⟩
 | ins C fs=>obtain⟨s,g,j,m⟩:=h;exact⟨s,g,j,Hn.mapP m λ_ _ z=>⟨z.1,z.2.more l⟩⟩
 | fK A=>obtain⟨s,g,j,m⟩:=h;exact⟨s,g,j,Hn.mapP m λ_ _ z=>⟨z.1,z.2.more l⟩⟩
 | fT A=>obtain⟨s,g,j,m⟩:=h;exact⟨s,g,j,Hn.mapP m λ_ _ z=>⟨z.1,z.2.more l⟩⟩
 | mem L=>exact h
def HK(j:H p=none∨Mut (H p)):(∀a xs,H a=some (.tup xs)->upd H p ho a=some (.tup xs))/\∀a o u,H a=some (.frz o u)->upd H p ho a=some (.frz o u):=by
 have g:∀a u,H a=some u->¬Mut (some u)->a≠p:=λa u e l z=>by
  subst z
  rcases j with h | h
  ·rw[e]at h;cases h
  ·rw[e]at h;exact l h
 refine⟨λa xs e=>?_,λa o u e=>?_⟩
 ·rw[Bk (g a _ e λz=>z)];exact e
 ·rw[Bk (g a _ e λz=>z)];exact e
def Le.fresh(g:H p=none):Le K ρ H ρ (upd H p ho):=
 ⟨λ_ _ h=>h,(HK (.inl g)).1,(HK (.inl g)).2,λa o e n=>⟨by rw[Bk (B6 e g)];exact e,n⟩⟩
def Le.write(j:ρ[n]?=some p)(g:Mut (H p)):Le K ρ H ρ (upd H p ho):=
 ⟨λ_ _ h=>h,(HK (.inr g)).1,(HK (.inr g)).2,λa o e h=>⟨by rw[Bk λz=>h n (by rw[z];exact j)];exact e,h⟩⟩
def Jf{g:Type}{l:List g}{x:g}{m:Nat}{a:g}(e:(l++[x])[m]?=some a):(l[m]?=some a/\m < l.length)∨(m=l.length/\a=x):=by
 by_cases j:m < l.length
 ·rw[Ab j]at e;exact .inl ⟨e,j⟩
 ·rw[BG (by lia)]at e
  have:m - l.length=0:=by
   have:=(AC.mp e).1;simp at this;omega
  rw[this]at e;exact .inr ⟨by lia,by simpa using e.symm⟩
def Le.alloc(g:H p=none):Le K ρ H (ρ++[p]) (upd H p ho):=by
 refine⟨λn a h=>by rw[Ab (AC.mp h).1];exact h,(HK (.inl g)).1,(HK (.inl g)).2,λa o e h=>⟨by rw[Bk (B6 e g)];exact e,λn q=>?_⟩⟩
 rcases Jf q with⟨q,_⟩ | ⟨_,q⟩
 ·exact h n q
 ·exact B6 e g q
def Cj.there(h:Cj K ρ S H){m:Nat}(e:ρ[m]?=some a):∃o,S[m]?=some o/\F8 K ρ H a o:=by
 have g:m < S.length:=by rw[<-h.len];exact(AC.mp e).1
 exact⟨S[m],by simp[g],h.ob m _ a (by simp[g]) e⟩
def Cj.notIn(h:Cj K ρ S H)(g:H p=none){m:Nat}(e:ρ[m]?=some p):False:=by
 obtain⟨o,_,r⟩:=h.there e;exact r.has g
def Cj.alloc(h:Cj K ρ S H)(A:H p=none)(E:F8 K (ρ++[p]) (upd H p ho) p o):Cj K (ρ++[p]) (S++[o]) (upd H p ho)/\Le K ρ H (ρ++[p]) (upd H p ho)/\(ρ++[p])[S.length]?=some p:=by
 have le:Le K ρ H (ρ++[p]) (upd H p ho):=Le.alloc A
 have at':∀(m:Nat) a,(ρ++[p])[m]?=some a->(ρ[m]?=some a/\m < ρ.length)∨(m=ρ.length/\a=p):=λm a e=>Jf e
 refine⟨⟨by simp[h.len],λi j a G I=>?_,λm J a s L=>?_⟩,le,by rw[<-h.len];simp⟩
 ·rcases at' i a G with⟨B,_⟩ | ⟨B,N⟩ <;> rcases at' j a I with⟨g,_⟩ | ⟨g,C⟩
  ·exact h.nd i j a B g
  ·rw[C]at B;exact(h.notIn A B).elim
  ·rw[N]at g;exact(h.notIn A g).elim
  ·lia
 ·rcases at' m a L with⟨l,O⟩ | ⟨rfl,rfl⟩
  ·rw[Ab (by rw[<-h.len];exact O)]at s
   refine(h.ob m J a s l).mono le (Bk λz=>?_);rw[z]at l;exact h.notIn A l
  ·rw[h.len]at s
   simp at s;subst s;exact E
def Cj.write(h:Cj K ρ S H)(j:ρ[n]?=some a)(l:F8 K ρ (upd H a ho) a o)(le:Le K ρ H ρ (upd H a ho)):Cj K ρ (S.set n o) (upd H a ho)/\Le K ρ H ρ (upd H a ho):=by
 refine⟨⟨by simp[h.len],h.nd,λm s b g hb=>?_⟩,le⟩
 by_cases e:m=n
 ·subst e
  rw[j]at hb;cases hb;rw[BL (by rw[<-h.len];exact(AC.mp j).1)]at g;cases g;exact l
 ·rw[Az (CK e)]at g
  refine(h.ob m s b g hb).mono le (Bk λz=>?_);subst z;exact e (h.nd m n b hb j)
def Le.back{m:Sto}(l:Le K ρ H ρ' H')(s:Cj K ρ S H)(s':Cj K ρ' m H')(j:H' p=none):H p=none:=by
 cases q:H p with
 | none=>rfl
 | some o=>
  by_cases g:∃n:Nat,ρ[n]?=some p
  ·obtain⟨n,g⟩:=g
   exact(s'.notIn j (l.pre n p g)).elim
  ·have:=(l.oth p o q λn h=>g ⟨n,h⟩).1
   rw[j]at this;cases this
def Cj.adopt(h:Cj K ρ S H)(C:∀m:Nat,ρ[m]?≠some p)(E:F8 K (ρ++[p]) H p o):Cj K (ρ++[p]) (S++[o]) H/\(ρ++[p])[S.length]?=some p:=by
 have le:∀a ob,F8 K ρ H a ob->F8 K (ρ++[p]) H a ob:=λa ob r=>by
  have G:∀(n:Nat) a,ρ[n]?=some a->(ρ++[p])[n]?=some a:=λn a h=>by rw[Ab (AC.mp h).1];exact h
  exact r.mono' G
 refine⟨⟨by simp[h.len],λi j a I J=>?_,λm ob a l A=>?_⟩,by rw[<-h.len];simp⟩
 ·rcases Jf I with⟨s,_⟩ | ⟨s,L⟩ <;> rcases Jf J with⟨g,_⟩ | ⟨g,B⟩
  ·exact h.nd i j a s g
  ·rw[B]at s;exact(C i s).elim
  ·rw[L]at g;exact(C j g).elim
  ·lia
 ·rcases Jf A with⟨A,N⟩ | ⟨rfl,rfl⟩
  ·rw[Ab (by rw[<-h.len];exact N)]at l
   exact le a ob (h.ob m ob a l A)
  ·rw[h.len]at l
   simp at l;subst l;exact E
end
inductive Res(α:Type) where
 | ok (a:α) (S:Sto) | err (c:AW) (S:Sto) | bad
noncomputable def Res.bind{g β:Type}(r:Res g)(f:g->Sto->Res β):Res β:=match r with
 | .ok a S=>f a S
 | .err c S=>.err c S
 | .bad=>.bad
abbrev Lo:=List (Option D)
abbrev ME:=Lo->Sto->Res D
abbrev MT:=Lo->Sto->Res Bool
abbrev ML:=Lo->Sto->Res (List D)
inductive Fl where
 | nx (e:Lo) | rt (d:D) | bk (e:Lo) | ct (e:Lo) | ex (c:AW) (e:Lo)
abbrev MS:=Lo->Sto->Res Fl
abbrev MG:=D->Lo->Sto->Res Lo
abbrev N1:=Sto->Option (List D)
abbrev MI:=Lo->Sto->Res N1
structure Fj(K:AJ)(ρ:List AW)(H:Hp)(e:Lo)(σ:St):Prop where
 len:e.length=σ.length
 at':∀(i:Nat) d,e[i]?=some (some d)->∃v,σ[i]?=some (some v)/\CB K ρ H d v
section
variable{K:AJ}{ρ ρ':List AW}{H H':Hp}{e:Lo}{σ:St}
def Fj.mono(l:Le K ρ H ρ' H')(h:Fj K ρ H e σ):Fj K ρ' H' e σ:=⟨h.len,λi d q=>by
 obtain⟨v,g,j⟩:=h.at' i d q
 exact⟨v,g,j.mono l⟩⟩
def Fj.set(h:Fj K ρ H e σ)(r:CB K ρ H d v)(i:Nat):Fj K ρ H (e.set i (some d)) (σ.set i (some v)):=by
 refine⟨by simp[h.len],λj m q=>?_⟩
 by_cases g:i=j
 ·subst g
  have l:i < e.length:=by
   have:=(AC.mp q).1;simpa using this
  rw[BL l]at q;cases q;exact⟨v,by rw[BL (by rw[<-h.len];exact l)],r⟩
 ·rw[Az g]at q ⊢
  exact h.at' j m q
end
abbrev EW:=AW->St->Hp->Prop
abbrev EH:=AW->Hp->Prop
abbrev noE:EW:=λ_ _ _=>False
abbrev noH:EH:=λ_ _=>False
def CY{l:Type}(K:AJ)(E:EH)(ρ:List AW)(H:Hp)(r:Res l)(k:l->Sto->Prop):Prop:=match r with
 | .ok a S=>k a S
 | .err c S=>∀g j,Le K ρ H g j->Cj K g S j->E c j
 | .bad=>False
section
variable{K:AJ}{E:EH}{ρ ρ1:List AW}{H H1:Hp}
def CY.seq(h:CY K E ρ H (r.bind F) k)(f:∀a S,CY K E ρ H (F a S) k->k' a S):CY K E ρ H r k':=by
 cases r with
 | ok a S=>exact f a S h
 | err c S=>exact h
 | bad=>exact h
def CY.later(h:CY K E ρ H r k)(l:Le K ρ H ρ1 H1):CY K E ρ1 H1 r k:=by
 cases r with
 | ok a S=>exact h
 | err c S=>exact λg j m=>h g j (l.trans m)
 | bad=>exact h
def CY.imp(h:CY K E ρ H r k)(f:∀a S,k a S->k' a S):CY K E ρ H r k':=by
 cases r with
 | ok a S=>exact f a S h
 | err c S=>exact h
 | bad=>exact h
def CY.go(h:CY K E ρ H r k)(l:Le K ρ H ρ1 H1)(f:∀a S,k a S->k' a S):CY K E ρ1 H1 r k':=(h.later l).imp f
end
def okR{g:Type}:Res g->Res g
 | .ok a S=>.ok a S
 | _=>.bad
def CY.okR{g:Type}{K:AJ}{E:EH}{ρ:List AW}{H:Hp}{r:Res g}{k:g->Sto->Prop}(h:CY K E ρ H (L2.okR r) k):∃a S,r=.ok a S/\k a S:=by
 cases r with
 | ok a S=>exact⟨a,S,rfl,h⟩
 | err c S=>exact h.elim
 | bad=>exact h.elim
section
variable(K:AJ)(E:EW)
def gE(m:ME):TE:=λo H Q=>∃j e S,Fj K j H e o/\Cj K j S H/\CY K (λc=>E c o) j H (m e S) λd s=>∀g l x,Le K j H g l->Cj K g s l->CB K g l d x->Q x l
def gT(m:MT):TT:=λo H Q=>∃j e S,Fj K j H e o/\Cj K j S H/\CY K (λc=>E c o) j H (m e S) λb s=>∀g l,Le K j H g l->Cj K g s l->Q b l
def gA(m:ML):TA:=λo H Q=>∃j e S,Fj K j H e o/\Cj K j S H/\CY K (λc=>E c o) j H (m e S) λA B=>∀g l s,Le K j H g l->Cj K g B l->A3 K g l A s->Q s l
def gL(m:ML):TE:=λo H Q=>∃l e S,Fj K l H e o/\Cj K l S H/\CY K (λc=>E c o) l H (m e S) λA B=>∀g j p s,Le K l H g j->Cj K g B j->A3 K g j A s->j p=some (.lst s)->(∀n:Nat,g[n]?≠some p)->H p=none->Q (.ref p) j
def gQ(m:ML):TE:=λs H Q=>∃l e S,Fj K l H e s/\Cj K l S H/\CY K (λc=>E c s) l H (m e S) λA B=>∀g j p o,Le K l H g j->Cj K g B j->A3 K g j A o->(SqL K j p o∨SqT K j p o)->Q (.ref p) j
def Sm(K:AJ)(E:EW)(ρ:List AW)(H:Hp)(o:Sto)(D:Zn):Fl->Prop
 | .ex c m=>∀g j l,Le K ρ H g j->Cj K g o j->Fj K g j m l->E c l j
 | .nx m=>∀g j l,Le K ρ H g j->Cj K g o j->Fj K g j m l->D.nx l j
 | .bk m=>∀g j l,Le K ρ H g j->Cj K g o j->Fj K g j m l->D.bk l j
 | .ct m=>∀g j l,Le K ρ H g j->Cj K g o j->Fj K g j m l->D.ct l j
 | .rt d=>∀g j x,Le K ρ H g j->Cj K g o j->CB K g j d x->D.rt x j
def gS(m:MS):TS:=λD j H=>∃g e S,Fj K g H e j/\Cj K g S H/\CY K noH g H (m e S) λfl l=>Sm K E g H l D fl
def gG(m:MG):TG:=λv s H Q=>∃j e S d,CB K j H d v/\Fj K j H e s/\Cj K j S H/\CY K noH j H (m d e S) λA B=>∀g o l,Le K j H g o->Cj K g B o->Fj K g o A l->Q l o
def QR(l:List AW)(s:Hp)(J:It)(v:N1):Prop:=∀m H S o (i:Nat),Le K l s m H->Cj K m S H->v S=some o ->
 (o[i]?=none->J.stop i H)/\∀d,o[i]?=some d->J.go i H/\∀x j,J.yld i H x j->∃g,Le K m H g j/\Cj K g S j/\CB K g j d x
def gI(m:MI):TI:=λo H R=>∃j e S,Fj K j H e o/\Cj K j S H/\CY K (λc=>E c o) j H (m e S) λv s=>∀g l J,Le K j H g l->Cj K g s l->QR K g l J v->R J l
end
abbrev GE(X:Cx)(E:EW)(e:Expr)(m:ME):Prop:=PE X e (gE X.K E m)
abbrev GT(X:Cx)(E:EW)(e:Expr)(m:MT):Prop:=PT X e (gT X.K E m)
abbrev GA(X:Cx)(E:EW)(es:List Expr)(m:ML):Prop:=PA X es (gA X.K E m)
abbrev GL(X:Cx)(E:EW)(e:Expr)(m:ML):Prop:=PE X e (gL X.K E m)
abbrev GQ(X:Cx)(E:EW)(e:Expr)(m:ML):Prop:=PE X e (gQ X.K E m)
abbrev GS(X:Cx)(E:EW)(s:EF)(m:MS):Prop:=PS X s (gS X.K E m)
abbrev GSs(X:Cx)(E:EW)(s:List EF)(m:MS):Prop:=PSs X s (gS X.K E m)
abbrev GG(X:Cx)(t:Expr)(m:MG):Prop:=PG X t (gG X.K m)
abbrev GI(X:Cx)(E:EW)(g t:Expr)(m:MI):Prop:=PI X g t (gI X.K E m)
def PE.imp(h:PE X e t)(i:∀g H Q,t' g H Q->t g H Q):PE X e t':=λj s g H Q I q=>h j s g H Q I (i g H Q q)
def PT.imp(h:PT X e t)(i:∀g H Q,t' g H Q->t g H Q):PT X e t':=λj s g H Q I q=>h j s g H Q I (i g H Q q)
def PW.imp(h:PW X e t)(i:∀g H Q,t' g H Q->t g H Q):PW X e t':=λj l s g H Q I q=>h j l s g H Q I (i g H Q q)
def PA.imp(h:PA X e t)(i:∀g H Q,t' g H Q->t g H Q):PA X e t':=λj l s g H Q I q=>h j l s g H Q I (i g H Q q)
def PS.imp(h:PS X e t)(i:∀D g H,t' D g H->t D g H):PS X e t':=λj s g H D I q=>h j s g H D I (i D g H q)
def PSs.imp(h:PSs X e t)(i:∀D g H,t' D g H->t D g H):PSs X e t':=λj s g H D I q=>h j s g H D I (i D g H q)
def PG.imp(h:PG X e t)(i:∀v g H Q,t' v g H Q->t v g H Q):PG X e t':=λj s g H v u Q I r q=>h j s g H v u Q I r (i v g H Q q)
def PI.imp(h:PI X j e t)(i:∀g H R,t' g H R->t g H R):PI X j e t':=λl s g H R I q=>h l s g H R I (i g H R q)
def OpR.imp(h:OpR X f r)(i:∀x y H Q,r' x y H Q->r x y H Q):OpR X f r':=λg s j H x y v u Q I l m q=>h g s j H x y v u Q I l m (i x y H Q q)
def IxR.imp(h:IxR X r)(i:∀x y H Q,r' x y H Q->r x y H Q):IxR X r':=λg sl j s l H x y v u Q I m o q=>h g sl j s l H x y v u Q I m o (i x y H Q q)
def AH(i:Nat):ME:=λe S=>match e[i]? with
 | some (some d)=>.ok d S
 | _=>.bad
def mC(d:D):ME:=λ_ S=>.ok d S
section
variable{X:Cx}{E:EW}{e a b:Expr}{pos:Pos}{ma mb:ME}
def AB(h:PE X e (qU i)):GE X E e (AH i):=h.imp<|by
 rintro B H Q ⟨j,l,S,m,o,g⟩
 unfold AH at g;split at g
 ·rename_i C hd
  obtain⟨v,s,A⟩:=m.at' i _ hd;exact⟨v,s,g j H v .refl o A⟩
 ·exact g.elim
def jZ(h:PE X e (tC v))(hd:∀ρ H,CB X.K ρ H d v):GE X E e (mC d):=h.imp<|by
 rintro m H Q ⟨ρ,l,S,o,g,j⟩
 exact j ρ H v .refl g (hd _ _)
def ge_int{i j pos}:GE X E (.Constant (.int i) j pos) (mC (.int i)):=jZ rH λ_ _=>.int i
def KH{b j pos}:GE X E (.Constant (.bool b) j pos) (mC (.bl b)):=jZ uz λ_ _=>.bl b
def QG{j pos}:GE X E (.Constant .none j pos) (mC .non):=jZ rF λ_ _=>.non
def jU{x j pos}:GE X E (.Constant (.str x) j pos) (mC (.str x)):=jZ rC λ_ _=>.str x
def jW(g:Gl X x)(j:X.mg x=some (.int i tk))(hd:(x==("__debug__" : Str))=false:=by decide):GE X E (.Name x pos) (mC (.int i)):=
 jZ (Nh (v:=.int i) g j ⟨tk,rfl⟩ hd) λ_ _=>.int i
def m2(f:D->D->Sto->Res D)(ma mb:ME):ME:=λe S=>(ma e S).bind λx g=>(mb e g).bind λy j=>okR (f x y j)
def rD(K:AJ)(f:D->D->Sto->Res D):R2:=λu v H Q=>∃j S x y d m,Cj K j S H/\CB K j H x u/\CB K j H y v/\f x y S=.ok d m /\
 ∀g l z,Le K j H g l->Cj K g m l->CB K g l d z->Q z l
def OP{K:AJ}{f:D->D->Sto->Res D}{A:St}{H:Hp}{Q:VK}(h:gE K E (m2 f ma mb) A H Q):tOp (rD K f) (gE K E ma) (gE K E mb) A H Q:=by
 obtain⟨G,l,S,B,I,g⟩:=h;refine⟨G,l,S,B,I,g.seq λx J g j H1 u m L N=>⟨j,l,J,B.mono m,L,(g.later m).seq λy O g o H2 v C P R=>?_⟩⟩;obtain⟨d,T,e,k⟩:=g.okR;exact⟨o,O,x,y,d,T,P,N.mono C,R,e,λs U z Y Z r'=>k s U z (m.trans (C.trans Y)) Z r'⟩
def BB(ho:OpR X (DZ g) (rD X.K f))(j:GE X E a ma)(hb:GE X E b mb):GE X E (.BinOp a g b pos) (m2 f ma mb):=(ux ho j hb).imp λ_ _ _ h=>OP h
def QI(ho:OpR X (CJ g) (rD X.K f))(j:GE X E a ma)(hb:GE X E b mb)(l:Cu g b=false):GE X E (.Compare a [g] [b] pos) (m2 f ma mb):=(mj ho j hb l).imp λ_ _ _ h=>OP h
def vT(ho:IxR X (rD X.K f))(g:GE X E a ma)(hb:GE X E b mb)(j:Wf b:=by intro _ _;rfl):GE X E (.Subscript a b pos) (m2 f ma mb):=(uy ho g hb j).imp λ_ _ _ h=>OP h
def mB(m:ME):MT:=λe S=>(m e S).bind λd g=>match d with
 | .bl b=>.ok b g
 | _=>.bad
noncomputable def Xk(d:D)(S:Sto):Option Bool:=match d with
 | .non=>some false
 | .bl b=>some b
 | .int i=>some (i != 0)
 | .tup g=>some (!g.isEmpty)
 | .fro g=>some (!g.isEmpty)
 | .ref n=>match S[n]? with
  | some (.lst g)=>some (!g.isEmpty)
  | some (.dK j)=>some (!j.isEmpty)
  | _=>none
 | _=>none
def O9(m:ME):MT:=λe S=>(m e S).bind λd g=>match Xk d g with
 | some b=>.ok b g
 | none=>.bad
def A3.empty{K}{ρ}{H}{ds}{g}(h:A3 K ρ H ds g):ds.isEmpty=g.isEmpty:=by cases h <;> rfl
def KVR.empty{g:Type}{K:AJ}{ρ:List AW}{H:Hp}{x:List (g×D)}{y:List (g×V)}(h:KVR K ρ H x y):x.isEmpty=y.isEmpty:=by cases h <;> rfl
def lO{K:AJ}{ρ:List AW}{H:Hp}{S:Sto}{d:D}{x:V}{b:Bool}(A:Cj K ρ S H)(r:CB K ρ H d x)(h:Xk d S=some b):tJ K x H b:=by
 cases r with
 | non=>cases h;rfl
 | bl c=>cases h;rfl
 | int i=>cases h;rfl
 | str x=>cases h
 | tup g j=>cases h;rw[j.empty];exact .inr (.inl ⟨_,.inl (.inl g),rfl⟩)
 | fro g j=>cases h;rw[j.empty];exact .inl ⟨_,g.sq,rfl⟩
 | exc _ _=>cases h
 | @ref n a B=>
  obtain⟨o,G,s⟩:=A.there B;unfold Xk at h;simp only[G]at h
  cases o with
  | lst J=>cases h;obtain⟨I,e,l⟩:=s;rw[l.empty];exact .inl ⟨_,.inl (.inl e),rfl⟩
  | dK m=>cases h;obtain⟨I,e,l⟩:=s;rw[KVR.empty l];exact .inr (.inr ⟨_,e,rfl⟩)
  | dT m=>cases h
  | ins C fs=>cases h
  | fK _=>cases h
  | fT _=>cases h
  | mem _=>cases h
def ZT(h:GE X E e ma)(o:∀g,YX e X.env g=(do let v <-g;YG e.pos;Kq [v] (pR v)):=by intro _;rfl):GT X E e (mB ma):=(qq h o).imp<|by
 rintro L H Q ⟨s,l,S,A,B,j⟩
 refine⟨s,l,S,A,B,j.seq λd N j m C x G I J=>?_⟩
 cases d <;> first | exact j.elim | skip
 cases J;exact⟨_,rfl,j m C G I⟩
def ND(h:GE X E e ma)(s:∀g,YX e X.env g=(do let v <-g;YG e.pos;Kq [v] (pR v)):=by intro _;rfl):GT X E e (O9 ma):=(g9 h s).imp<|by
 rintro N H Q ⟨A,l,S,B,C,j⟩
 refine⟨A,l,S,B,C,j.seq λd G j m I x J o L=>?_⟩
 cases hb:Xk d G with
 | none=>rw[hb]at j;exact j.elim
 | some c=>
  rw[hb]at j;exact⟨c,lO o L hb,j m I J o⟩
def Ct{j}{f}(ho:OpR X (CJ j) (rD X.K f))(o:GE X E a ma)(hb:GE X E b mb)(g:Cu j b=false):GT X E (.Compare a [j] [b] pos) (mB (m2 f ma mb)):=(mH ho o hb g).imp<|by
 rintro N H Q ⟨s,l,S,A,B,g⟩
 refine OP (Q:=λx C=>∃k,x=.bl k/\Q k C) ⟨s,l,S,A,B,g.seq λd O g m G x I J L=>?_⟩
 cases d <;> first | exact g.elim | skip
 cases L;exact⟨_,rfl,g m G I J⟩
def OX(m:MT):MT:=λe S=>(m e S).bind λb g=>.ok (!b) g
def Q7(ma mb:MT):MT:=λe S=>(ma e S).bind λb g=>if b=true then mb e g else .ok false g
def mOr(ma mb:MT):MT:=λe S=>(ma e S).bind λb g=>if b=true then .ok true g else mb e g
variable{ta tb:MT}{rest:List Expr}
def NE(h:GT X E a ta):GT X E (.UnaryOp .Not a pos) (OX ta):=(qr h).imp<|by
 rintro G H Q ⟨m,l,S,o,s,g⟩
 exact⟨m,l,S,o,s,g.seq λd I g j A B C=>g j A B C⟩
def lR{K}{s}{H}{Q}(h:gT K E (Q7 ta tb) s H Q):uf (gT K E ta) (gT K E tb) s H Q:=by
 obtain⟨C,l,S,A,G,g⟩:=h;refine⟨C,l,S,A,G,g.seq λc I g j J m B=>?_⟩
 cases c with
 | true=>rw[qX rfl]at g ⊢;exact⟨j,l,I,A.mono m,B,g.go m λ_ _ k o L N O=>k o L (m.trans N) O⟩
 | false=>rw[qY AV]at g ⊢;exact g j J m B
def qV{K}{s}{H}{Q}(h:gT K E (mOr ta tb) s H Q):tOr (gT K E ta) (gT K E tb) s H Q:=by
 obtain⟨C,l,S,A,G,g⟩:=h;refine⟨C,l,S,A,G,g.seq λc I g j J m B=>?_⟩
 cases c with
 | false=>rw[qY AV]at g ⊢;exact⟨j,l,I,A.mono m,B,g.go m λ_ _ k o L N O=>k o L (m.trans N) O⟩
 | true=>rw[qX rfl]at g ⊢;exact g j J m B
abbrev GW(X:Cx)(E:EW)(e:Expr)(m:MT):Prop:=PW X e (gT X.K E m)
def PL(g:GT X E a ta):GW X E (.BoolOp .And [a] pos) ta:=mF g
def QF(g:GT X E a ta):GW X E (.BoolOp .Or [a] pos) ta:=qm g
def Sj(g:GT X E a ta)(hb:GW X E (.BoolOp .And (b :: rest) pos) tb):GW X E (.BoolOp .And (a :: b :: rest) pos) (Q7 ta tb):=(qo g hb).imp λ_ _ _ h=>lR h
def Qp(g:GT X E a ta)(hb:GW X E (.BoolOp .Or (b :: rest) pos) tb):GW X E (.BoolOp .Or (a :: b :: rest) pos) (mOr ta tb):=(ut g hb).imp λ_ _ _ h=>qV h
def Sk(h:GW X E e t):GT X E e t:=PW.pt h
def Xm(ma mb:ME):ME:=λe S=>(ma e S).bind λd g=>match d with
 | .bl true=>mb e g
 | .bl false=>.ok (.bl false) g
 | _=>.bad
def ir(ma mb:ME):ME:=λe S=>(ma e S).bind λd g=>match d with
 | .bl true=>.ok (.bl true) g
 | .bl false=>mb e g
 | _=>.bad
def jV{g}(h:GE X E a ma):GE X E (.BoolOp g [a] pos) ma:=rE h
def sf(B:GE X E a ma)(hb:GE X E (.BoolOp .And (b :: rest) pos) mb):GE X E (.BoolOp .And (a :: b :: rest) pos) (Xm ma mb):=(rL B hb).imp<|by
 rintro T H Q ⟨C,l,S,s,G,g⟩
 refine⟨C,l,S,s,G,g.seq λc I g j J x m A L=>?_⟩
 cases c with
 | bl c=>
  cases L;refine⟨c,rfl,?_⟩
  cases c with
  | true=>rw[qX rfl];exact⟨j,l,I,s.mono m,A,g.go m λ_ _ k o N z O P R=>k o N z (m.trans O) P R⟩
  | false=>rw[qY AV];exact g j J _ m A (.bl false)
 | _=>exact g.elim
def vS(B:GE X E a ma)(hb:GE X E (.BoolOp .Or (b :: rest) pos) mb):GE X E (.BoolOp .Or (a :: b :: rest) pos) (ir ma mb):=(uw B hb).imp<|by
 rintro T H Q ⟨C,l,S,s,G,g⟩
 refine⟨C,l,S,s,G,g.seq λc I g j J x m A L=>?_⟩
 cases c with
 | bl c=>
  cases L;refine⟨c,rfl,?_⟩
  cases c with
  | false=>rw[qY AV];exact⟨j,l,I,s.mono m,A,g.go m λ_ _ k o N z O P R=>k o N z (m.trans O) P R⟩
  | true=>rw[qX rfl];exact g j J _ m A (.bl true)
 | _=>exact g.elim
def m3(f g:D->D->Sto->Res D)(ma mb l:ME):ME:=λe S=>(ma e S).bind λx m=>(mb e m).bind λy o=>(okR (f x y o)).bind λz j=>match z with
 | .bl true=>(l e j).bind λw s=>okR (g y w s)
 | .bl false=>.ok (.bl false) j
 | _=>.bad
def BR:ML:=λ_ S=>.ok [] S
def AX(m:ME)(r:ML):ML:=λe S=>(m e S).bind λd g=>(r e g).bind λj l=>.ok (d :: j) l
variable{es:List Expr}{ml:ML}
def A5:GA X E [] BR:=GF.imp<|by
 rintro o H Q ⟨g,l,S,s,j,m⟩
 exact m g H [] .refl j .nil
def AS(C:GE X E e ma)(G:GA X E es ml)(j:AQ (e :: es) X.env=(false,B1 e X.env) :: AQ es X.env:=by rfl):GA X E (e :: es) (AX ma ml):=(Du C G j).imp<|by
 rintro U H Q ⟨I,l,S,A,j,g⟩
 exact⟨I,l,S,A,j,g.seq λd J g m Y x o L N=>⟨m,l,J,A.mono o,L,(g.later o).seq λZ S2 g s O P B R T=>g s O (x :: P) (o.trans B) R (.cons (N.mono B) T)⟩⟩
def Hy(m:ML):ME:=λe S=>(m e S).bind λg j=>if g.length<=sizeLine then .ok (.tup g) j else .bad
def Fv{K}{ρ}{H}{S}{p}{ho}(g:Cj K ρ S H)(j:H p=none):Cj K ρ S (upd H p ho)/\Le K ρ H ρ (upd H p ho):=by
 have le:Le K ρ H ρ (upd H p ho):=Le.fresh j;refine⟨⟨g.len,g.nd,λn o a m l=>(g.ob n o a m l).mono le (Bk λz=>?_)⟩,le⟩;subst z;exact g.notIn j l
def FL{s}(h:GA X E es ml):GE X E (.Tuple es s pos) (Hy ml):=(iL h).imp<|by
 rintro P H Q ⟨A,l,S,B,C,g⟩
 refine⟨A,l,S,B,C,g.seq λR T g j U G I J m=>?_⟩;split at g
 ·rename_i L
  refine⟨by rw[<-m.length];exact L,λp N=>?_⟩;obtain⟨O,o⟩:=Fv (ho:=.tup G) J N;exact g j _ _ (I.trans o) O (.tup Bi (m.mono o))
 ·exact g.elim
def Dv(m:ML):ML:=λe S=>(m e S).bind λg j=>if g.length<=sizeLine then .ok g j else .bad
def HM(h:GA X E es ml):GL X E (.List es pos) (Dv ml):=(rG h).imp<|by
 rintro O H Q ⟨I,l,S,J,s,g⟩
 refine⟨I,l,S,J,s,g.seq λP R g j T A B m C=>?_⟩;split at g
 ·rename_i L
  refine⟨by rw[<-C.length];exact L,λp o=>?_⟩;obtain⟨N,G⟩:=Fv (ho:=.lst A) m o;exact g j _ p A (B.trans G) N (C.mono G) Bi (λn q=>m.notIn o q) (B.back s m o)
 ·exact g.elim
def D4(m:ML):ME:=λe S=>(m e S).bind λj g=>.ok (.ref g.length) (g++[.lst j])
def DY(h:GL X E e ml):GE X E e (D4 ml):=PE.imp h<|by
 rintro U H Q ⟨B,l,S,C,G,m⟩
 refine⟨B,l,S,C,G,m.seq λI Y m g Z p J j L N O P R=>?_⟩
 have A:∀(n:Nat) a,g[n]?=some a->(g++[p])[n]?=some a:=λn a h=>by rw[Ab (AC.mp h).1];exact h
 obtain⟨T,s⟩:=L.adopt (o:=.lst I) P ⟨J,O,N.more A⟩;refine m _ _ _ ⟨λn a h=>A n a (j.pre n a h),j.tup,j.frz,λa o e h=>⟨(j.oth a o e h).1,λn q=>?_⟩⟩ T (.ref s)
 rcases Jf q with⟨q,_⟩ | ⟨_,q⟩
 ·exact(j.oth a o e h).2 n q
 ·exact B6 e R q
noncomputable def Ht(d:D)(S:Sto):Option (List D):=match d with
 | .tup g=>some g
 | .fro g=>some g
 | .ref n=>match S[n]? with
  | some (.lst g)=>some g
  | _=>none
 | _=>none
def Ka(m:ME):ML:=λe S=>(m e S).bind λd g=>match Ht d g with
 | some j=>.ok j g
 | none=>.bad
def RN{K}{ρ}{H}{S}{d}{x}{ds}(l:Cj K ρ S H)(r:CB K ρ H d x)(h:Ht d S=some ds):∃p xs,x=.ref p/\A3 K ρ H ds xs/\(SqL K H p xs∨SqT K H p xs):=by
 cases r with
 | tup g j=>cases h;exact⟨_,_,rfl,j,.inr (.inl (.inl g))⟩
 | fro g j=>cases h;exact⟨_,_,rfl,j,.inl g.sq⟩
 | @ref n a m=>
  obtain⟨o,s,A⟩:=l.there m;unfold Ht at h;simp only[s]at h
  cases o with
  | lst es=>cases h;obtain⟨C,e,B⟩:=A;exact⟨_,_,rfl,B,.inl (.inl (.inl e))⟩
  | _=>cases h
 | _=>cases h
def Uu(h:GE X E e ma):GQ X E e (Ka ma):=PE.imp h<|by
 rintro O H Q ⟨s,l,S,A,B,g⟩
 refine⟨s,l,S,A,B,g.seq λx C g j G v I o J=>?_⟩
 cases m:Ht x C with
 | none=>rw[m]at g;exact g.elim
 | some P=>
  rw[m]at g;obtain⟨p,L,rfl,N,sq⟩:=RN o J m;exact g j G p L I o N sq
end
noncomputable def Res.lift{g:Type}(r:Res g)(e:Lo)(f:g->Sto->Res Fl):Res Fl:=match r with
 | .ok a S=>f a S
 | .err c S=>.ok (.ex c e) S
 | .bad=>.bad
def CY.lift{m:Type}{K:AJ}{E:EW}{ρ g:List AW}{H j:Hp}{o:St}{e:Lo}{D:Zn}{r:Res m}{F:m->Sto->Res Fl}{k':m->Sto->Prop}(h:CY K noH g j (r.lift e F) λfl s=>Sm K E ρ H s D fl)(C:Fj K g j e o)(l:Le K ρ H g j)
  (f:∀a S,(CY K noH g j (F a S) λfl s=>Sm K E ρ H s D fl)->k' a S):CY K (λc=>E c o) g j r k':=by
 cases r with
 | ok a S=>exact f a S h
 | err c S=>exact λA G B I=>h A G o (l.trans B) I (C.mono B)
 | bad=>exact h
def sNx:MS:=λe S=>.ok (.nx e) S
def Vy:MS:=λ_ _=>.bad
def BF(a b:MS):MS:=λe S=>(a e S).bind λf g=>match f with
 | .nx j=>b j g
 | f=>.ok f g
def C2(m:ME):MS:=λe S=>(m e S).lift e λ_ g=>.ok (.nx e) g
def Dt(m:ME):MS:=λe S=>(m e S).lift e λd g=>.ok (.rt d) g
def sIf(t:MT)(a b:MS):MS:=λe S=>(t e S).lift e λc g=>if c=true then a e g else b e g
def Lh(m:ME)(g:MG):MS:=λe S=>(m e S).lift e λd j=>(g d e j).bind λl o=>.ok (.nx l) o
def tgN(i:Nat):MG:=λd e S=>.ok (e.set i (some d)) S
def Bn(i:Nat)(m:ME):MS:=Lh m (tgN i)
section
variable{X:Cx}{E:EW}{st:EF}{rest:List EF}{e:Expr}{pos:Pos}{a b:MS}{t:MT}
def Sm.later{K}{ρ s}{H A}{S}{D}{f}(l:Le K ρ H s A)(h:Sm K E ρ H S D f):Sm K E s A S D f:=by
 cases f with
 | nx e=>exact λg m j o=>h g m j (l.trans o)
 | bk e=>exact λg m j o=>h g m j (l.trans o)
 | ct e=>exact λg m j o=>h g m j (l.trans o)
 | ex c e=>exact λg m j o=>h g m j (l.trans o)
 | rt d=>exact λg m x o=>h g m x (l.trans o)
def B9:GSs X E [] sNx:=mJ.imp<|by
 rintro D g H ⟨j,l,S,m,o,s⟩
 exact s j H g .refl o m
def AU(s:GS X E st a)(A:GSs X E rest b):GSs X E (st :: rest) (BF a b):=(hX s A).imp<|by
 rintro D P H ⟨B,l,S,C,G,j⟩
 refine⟨B,l,S,C,G,j.seq λg I j=>?_⟩
 cases g with
 | nx J=>exact λm Q L o N O=>⟨m,J,I,O,N,j.go o λ_ _ k=>k.later o⟩
 | rt d=>exact j
 | bk d=>exact j
 | ct d=>exact j
 | ex c d=>exact j
def Au(g:GS X E st a):GSs X E [st] a:=mI g
def NF:GS X E st Vy:=(iB (X:=X) (st:=st)).imp λD j H ⟨m,l,S,o,s,g⟩=>g.elim
def EE(B:GE X E e m)(g:Gx e none pos.line X.env=pure false:=by rfl):GS X E (.Expr e pos) (C2 m):=(mK B g).imp<|by
 rintro D C H ⟨G,l,S,j,g,o⟩
 exact⟨G,l,S,j,g,o.lift j .refl λd L o s I x A J N=>o s I C A J (j.mono A)⟩
def CL(s:GE X E e m):GS X E (.Return (some e) pos) (Dt m):=(qu s).imp<|by
 rintro D L H ⟨A,l,S,o,B,g⟩
 exact⟨A,l,S,o,B,g.lift o .refl λd N g j C x G I J=>g j C x G I J⟩
def Dc{c}{s A}(G:GT X E c t)(I:GSs X E s a)(hb:GSs X E A b):GS X E (.If c s A pos) (sIf t a b):=(uu G I hb).imp<|by
 rintro D N H ⟨J,l,S,o,L,g⟩
 refine⟨J,l,S,o,L,g.lift o .refl λc B g m O j C=>?_⟩
 cases c with
 | true=>rw[qX rfl]at g ⊢;exact⟨m,l,B,o.mono j,C,g.go j λ_ _ k=>k.later j⟩
 | false=>rw[qY AV]at g ⊢;exact⟨m,l,B,o.mono j,C,g.go j λ_ _ k=>k.later j⟩
def nX(h:PG X g (ay i)):GG X g (tgN i):=h.imp<|by
 rintro v A H Q ⟨j,l,S,d,hd,m,o,s⟩
 exact s j H _ .refl o (m.set hd i)
def WJ{j:Expr}{g:MG}(J:GE X E e m)(L:GG X j g)(s:swapsWithSole [j] e pos.line X.env=pure false:=by rfl)(hw:swappedStores [j] e X.env=pure none:=by rfl)
  (N:(FY [j] X.env).map (·.2)=[OM j X.env]:=by rfl):GS X E (.Assign [j] e pos) (Lh m g):=(qy J L s hw N).imp<|by
 rintro D σ H ⟨O,l,S,A,s,o⟩
 exact⟨O,l,S,A,s,o.lift A .refl λd P o B H1 x C Q R=>⟨B,l,P,d,R,A.mono C,Q,(o.later C).seq λe1 S2 o G T I U Y Z=>o G T I (C.trans U) Y Z⟩⟩
def sU{i}{x}{g}(C:X.N.Nodup)(hi:X.N[i]?=some x)(G:Loc X.env.scope x)(I:GE X E e m)(j:Gx e (some (.Name x g)) pos.line X.env=pure false:=by rfl)
  (J:X.fn x=true∨X.env.scope.names.lookup x=some .local:=by first | exact .inl rfl | exact .inr rfl | assumption):GS X E (.Assign [.Name x g] e pos) (Bn i m):=(qt C hi G I j J).imp<|by
 rintro D R H ⟨L,l,S,o,j,s⟩
 exact⟨L,l,S,o,j,s.lift o .refl λd T s A O x B P Q=>s A O _ B P ((o.mono B).set Q i)⟩
def HP(v:N1)(g:MG)(b:MS):Nat->Nat->Lo->Sto->Res Fl
 | k,i,e,S=>match v S with
  | none=>.bad
  | some m=>match m[i]? with
   | none=>.ok (.nx e) S
   | some d=>match k with
    | 0=>.bad
    | k+1=>(g d e S).bind λo s=>(b o s).bind λf l=>match f with
     | .nx j=>HP v g b k (i+1) j l
     | .ct j=>HP v g b k (i+1) j l
     | .bk j=>.ok (.nx j) l
     | .rt d=>.ok (.rt d) l
     | .ex c j=>.ok (.ex c j) l
def DR(v:N1)(S:Sto):Nat:=match v S with
 | none=>0
 | some g=>g.length
def Ex(m:MI)(g:MG)(b:MS):MS:=λe S=>(m e S).lift e λv j=>HP v g b (DR v j) 0 e j
def EM{tg iter}{body}{mi}{g}(hp:QV (Ah X.prog X.w) X.A X.env X.xe)(hc:X.calm=true)(hi:GI X E tg iter mi)(hg:GG X tg g)(hb:GSs X E body b)
  (hs:∀x,GP iter X.env x=pure x:=by intro _;rfl):GS X E (.For tg iter body [] pos) (Ex mi g b):=(qv hp hc hi hg hb hs).imp<|by
 rintro D σ H ⟨ρ,l,S,hl,hs,hm⟩
 refine⟨ρ,l,S,hl,hs,hm.lift hl .refl λv S1 hm L H1 J Y s1 vo=>?_⟩;refine⟨λi n N O=>∃j P C,Le X.K L H1 j O/\Fj X.K j O P N/\Cj X.K j C O/\CY X.K noH j O (HP v g b n i P C) λfl S'=>Sm X.K E ρ H S' D fl,⟨DR v S1,L,l,S1,.refl,hl.mono Y,s1,hm.later Y⟩,?_⟩;rintro i n N O ⟨j,P,C,Q,r2,s2,m⟩;unfold HP at m
 cases hv:v C with
 | none=>rw[hv]at m;exact m.elim
 | some ds=>
  rw[hv]at m;dsimp only at m;obtain⟨v1,v2⟩:=vo j O C ds i Q s2 hv
  cases hd:ds[i]? with
  | none=>
   rw[hd]at m;exact .inl ⟨v1 hd,m j O N (Y.trans Q) s2 r2⟩
  | some d=>
   rw[hd]at m;dsimp only at m;obtain⟨go,yl⟩:=v2 d hd
   cases n with
   | zero=>exact m.elim
   | succ n=>
    dsimp only at m;refine .inr ⟨go,λσ' R=>∃j P C,Le X.K L H1 j R/\Fj X.K j R P σ'/\Cj X.K j C R/\CY X.K noH j R (HP v g b n (i+1) P C) λfl S'=>Sm X.K E ρ H S' D fl,λσ' R q=>⟨n,Cc n,q⟩,λx R y=>?_⟩;obtain⟨ρ3,T,s3,rd⟩:=yl x R y;refine⟨ρ3,P,C,d,rd,r2.mono T,s3,(m.later T).seq λe3 S3 m ρ4 H4 σ4 Z s4 r4=>?_⟩;refine⟨ρ4,e3,S3,r4,s4,(m.later Z).seq λf4 S4 m=>?_⟩
    cases f4 with
    | nx e5=>exact λo U s B G I=>⟨o,e5,S4,Q.trans (T.trans (Z.trans B)),I,G,m.later B⟩
    | ct e5=>exact λo U s B G I=>⟨o,e5,S4,Q.trans (T.trans (Z.trans B)),I,G,m.later B⟩
    | bk e5=>exact λo U s B G I=>m o U s (Y.trans (Q.trans (T.trans (Z.trans B)))) G I
    | ex c e5=>exact λo U s B G I=>m o U s (Y.trans (Q.trans (T.trans (Z.trans B)))) G I
    | rt d5=>exact λo U x5 B G I=>m o U x5 (Y.trans (Q.trans (T.trans (Z.trans B)))) G I
def Gk(c:MT)(b:MS):Nat->MS
 | 0=>λ_ _=>.bad
 | n+1=>λe S=>(c e S).lift e λt l=>if t=true then(b e l).bind λf j=>match f with
   | .nx g=>Gk c b n g j
   | .ct g=>Gk c b n g j
   | .bk g=>.ok (.nx g) j
   | .rt d=>.ok (.rt d) j
   | .ex c g=>.ok (.ex c g) j
  else .ok (.nx e) l
def Xt{c}{body}(N:Nat)(hp:QV (Ah X.prog X.w) X.A X.env X.xe)(hc:GT X E c t)(hb:GSs X E body b):GS X E (.While c body [] pos) (Gk t b N):=(iA hp hc hb).imp<|by
 rintro D σ H ⟨Q,l,S,hl,hs,hm⟩
 refine⟨λn J R=>∃g I L,Le X.K Q H g R/\Fj X.K g R I J/\Cj X.K g L R/\CY X.K noH g R (Gk t b n I L) λfl S'=>Sm X.K E Q H S' D fl,⟨N,Q,l,S,.refl,hl,hs,hm⟩,?_⟩;rintro n J R ⟨g,I,L,O,r2,s2,m⟩
 cases n with
 | zero=>exact m.elim
 | succ n=>
  refine⟨g,I,L,r2,s2,m.lift r2 O λtc S3 m T H3 B s3=>?_⟩
  cases tc with
  | false=>rw[qY AV]at m ⊢;exact m T H3 J (O.trans B) s3 (r2.mono B)
  | true=>
   rw[qX rfl]at m ⊢;refine⟨λU Y=>∃g I L,Le X.K Q H g Y/\Fj X.K g Y I U/\Cj X.K g L Y/\CY X.K noH g Y (Gk t b n I L) λfl S'=>Sm X.K E Q H S' D fl,λU Y q=>⟨n,Cc n,q⟩,?_⟩;refine⟨T,I,S3,r2.mono B,s3,(m.later B).seq λf4 S4 m=>?_⟩
   cases f4 with
   | nx Z=>exact λj P o s C G=>⟨j,Z,S4,O.trans (B.trans s),G,C,m.later s⟩
   | ct Z=>exact λj P o s C G=>⟨j,Z,S4,O.trans (B.trans s),G,C,m.later s⟩
   | bk Z=>exact λj P o s C G=>m j P o (O.trans (B.trans s)) C G
   | ex c Z=>exact λj P o s C G=>m j P o (O.trans (B.trans s)) C G
   | rt d5=>exact λj P x5 s C G=>m j P x5 (O.trans (B.trans s)) C G
end
section
variable{X:Cx}{E:EW}{tg e:Expr}{m:ME}{K:AJ}
noncomputable def Qd(d:D):N1:=λS=>match d with
 | .ref n=>match S[n]? with
  | some (.lst g)=>some g
  | _=>none
 | .fro g=>some g
 | _=>none
def JV(ds:List D):N1:=λ_=>some ds
def vQ(m:ME):MI:=λe S=>(m e S).bind λd g=>match Qd d g with
 | some _=>.ok (Qd d) g
 | none=>.bad
def pG(m:ME):MI:=λe S=>(m e S).bind λd g=>match d with
 | .tup j=>.ok (JV j) g
 | _=>.bad
def W2(s:Cj K ρ S H)(r:CB K ρ H d (.ref a))(g:Qd d S=some ds):∃xs,SqL K H a xs/\A3 K ρ H ds xs:=by
 cases r with
 | tup j l=>cases g
 | exc _ _=>cases g
 | fro j l=>cases g;exact⟨_,j.sq,l⟩
 | @ref n _ A=>
  obtain⟨o,B,C⟩:=s.there A;unfold Qd at g;simp only[B]at g
  cases o with
  | lst J=>
   cases g;obtain⟨G,e,I⟩:=C;exact⟨G,.inl (.inl e),I⟩
  | _=>cases g
def Yo(r:CB K ρ H d (.ref a)):QR K ρ H (Itl K a) (Qd d):=by
 intro g J S L i l s B;obtain⟨j,sq,o⟩:=W2 s (r.mono l) B;refine⟨λC=>⟨j,sq,by rw[<-o.length];exact DN.mp C⟩,λd hd=>?_⟩;obtain⟨x,A,G⟩:=o.get hd;refine⟨⟨j,x,sq,A⟩,λy N ⟨e,I⟩=>?_⟩;subst e;have:=I j sq;rw[A]at this;cases this;exact⟨g,.refl,s,G⟩
def sW(h:GE X E e m):GI X E tg e (vQ m):=(mT h).imp<|by
 rintro O H R ⟨B,l,S,C,G,g⟩
 refine⟨B,l,S,C,G,g.seq λd I g o J x L A s=>?_⟩
 cases j:Qd d I with
 | none=>rw[j]at g;exact g.elim
 | some P=>
  rw[j]at g
  have:∃a,x=.ref a:=by
   cases s <;> first | exact⟨_,rfl⟩ | (cases j;done)
  obtain⟨a,rfl⟩:=this;obtain⟨N,sq,_⟩:=W2 A s j;exact⟨a,rfl,⟨N,sq⟩,g o J _ L A (Yo s)⟩
def Rr(A:H a=some (.tup xs))(B:A3 K ρ H ds xs):QR K ρ H (Itt K a) (JV ds):=by
 intro g C S N i l s G;cases G;have j:=B.mono l;have sq:SqT K C a xs:=.inl (.inl (l.tup _ _ A));refine⟨λI=>⟨xs,sq,by rw[<-j.length];exact DN.mp I⟩,λd hd=>?_⟩;obtain⟨x,o,J⟩:=j.get hd;refine⟨⟨xs,x,sq,o⟩,λy O ⟨e,L⟩=>?_⟩;subst e;have:=L xs sq;rw[o]at this;cases this;exact⟨g,.refl,s,J⟩
def sV(h:GE X E e m):GI X E tg e (pG m):=(qz h).imp<|by
 rintro N H R ⟨s,l,S,A,B,g⟩
 refine⟨s,l,S,A,B,g.seq λd O g j C x G I J=>?_⟩
 cases d <;> first | exact g.elim | skip
 cases J with
 | tup o L=>exact⟨_,rfl,⟨_,.inl (.inl o)⟩,g j C _ G I (Rr o L)⟩
noncomputable def Gb(lo:Int)(n:Nat):List D:=(Bs n).map λi:Nat=>D.int (lo+i)
def Ug(lo:Int)(n i:Nat):(Gb lo n)[i]?=if i < n then some (.int (lo+i))else none:=by
 unfold Gb;rw[Ao]
 by_cases h:i < n
 ·rw[CC h,qX h];rfl
 ·rw[qY h,DN.mpr (by simpa using h)];rfl
def Rt(lo:Int)(n:Nat):QR K ρ H (Itr lo n) (JV (Gb lo n)):=by
 intro g B S C i l s o;cases o;rw[Ug];refine⟨λj=>?_,λd hd=>?_⟩
 ·split at j
  ·cases j
  ·rename_i h;exact MR h
 ·split at hd
  ·rename_i h
   cases hd;refine⟨h,λy G ⟨e,A⟩=>?_⟩;subst e;subst A;exact⟨g,.refl,s,.int _⟩
  ·cases hd
def iR1(ml:ML):MI:=λe S=>(ml e S).bind λg l=>match g with
 | [.int j]=>if -(2 ^ 62)<=j/\j < 2 ^ 62 then .ok (JV (Gb 0 j.toNat)) l else .bad
 | _=>.bad
def iR2(ml:ML):MI:=λe S=>(ml e S).bind λg l=>match g with
 | [.int i,.int j]=>if -(2 ^ 62)<=i/\i < 2 ^ 62/\-(2 ^ 62)<=j/\j < 2 ^ 62 then .ok (JV (Gb i (j - i).toNat)) l else .bad
 | _=>.bad
def F4(B:Gl X "range") (g:X.mg "range" = none) (C:GA X E [a] ml) (o:AQ [a] X.env=[(false,B1 a X.env)]:=by rfl):GI X E tg (.Call (.Name "range" p) [a] [] pos) (iR1 ml):=(cU B g C o).imp<|by
 rintro P H R ⟨G,l,S,I,o,g⟩
 refine⟨G,l,S,I,o,g.seq λQ T g s J U L N O=>?_⟩;split at g
 ·rename_i j
  split at g
  ·rename_i A
   cases O with
   | cons r t=>
    cases t;cases r;exact⟨j,rfl,A.1,A.2,g s J _ L N (Rt 0 j.toNat)⟩
  ·exact g.elim
 ·exact g.elim
def dN(A:Gl X "range") (g:X.mg "range" = none) (B:GA X E [a,b] ml) (o:AQ [a,b] X.env=[(false,B1 a X.env),(false,B1 b X.env)]:=by rfl) (C:AQ [b] X.env=[(false,B1 b X.env)]:=by rfl) :
  GI X E tg (.Call (.Name "range" p) [a,b] [] pos) (iR2 ml):=(cT A g B o C).imp<|by
 rintro T H R ⟨G,l,S,I,o,g⟩
 refine⟨G,l,S,I,o,g.seq λU Y g s J Z L N O=>?_⟩;split at g
 ·rename_i i j
  split at g
  ·rename_i P
   cases O with
   | cons r t=>
    cases t with
    | cons Q t=>
     cases t;cases r;cases Q;exact⟨i,j,rfl,P,g s J _ L N (Rt i _)⟩
  ·exact g.elim
 ·exact g.elim
end
def FN:List D->Lo->Sto->Res Lo
 | [],e,S=>.ok e S
 | _,_,_=>.bad
def Bo(g:MG)(r:List D->Lo->Sto->Res Lo):List D->Lo->Sto->Res Lo
 | d :: j,e,S=>(g d e S).bind λl m=>r j l m
 | [],_,_=>.bad
def E9(n:Nat)(r:List D->Lo->Sto->Res Lo):MG:=λd e S=>match d with
 | .tup g=>if g.length=n then r g e S else .bad
 | _=>.bad
section
variable{X:Cx}
def gGs(K:AJ)(r:List D->Lo->Sto->Res Lo):TGs:=λs A H Q=>∃j e S o,A3 K j H o s/\Fj K j H e A/\Cj K j S H/\CY K noH j H (r o e S) λB C=>∀g m l,Le K j H g m->Cj K g C m->Fj K g m B l->Q l m
abbrev GGs(X:Cx)(ts:List Expr)(r:List D->Lo->Sto->Res Lo):Prop:=PGs X ts (gGs X.K r)
def PGs.imp(h:PGs X ts t)(i:∀g j H Q,t' g j H Q->t g j H Q):PGs X ts t':=λl s j H g m Q I r q=>h l s j H g m Q I r (i g j H Q q)
def HN:GGs X [] FN:=mU.imp<|by
 rintro B m H Q ⟨o,l,S,g,hd,s,A,j⟩
 cases g with
 | nil=>cases hd;exact⟨rfl,j o H m .refl A s⟩
 | cons d g=>exact j.elim
def Cm(E:GG X e g)(G:GGs X es r)
  (m:(FY (e :: es) X.env).map (·.2)=OM e X.env :: (FY es X.env).map (·.2):=by rfl):GGs X (e :: es) (Bo g r):=(iJ E G m).imp<|by
 rintro vs σ H Q ⟨I,l,S,o,hd,J,m,j⟩
 cases o with
 | nil=>exact j.elim
 | cons d o=>
  cases hd with
  | cons L N=>
   exact⟨_,_,rfl,I,l,S,d,L,J,m,j.seq λO P j s H1 R A T U=>⟨s,O,P,o,N.mono A,U,T,j.go A λ_ _ k B Y C Z s2 r2=>k B Y C (A.trans Z) s2 r2⟩⟩
def Je(o:X.calm=true)(h:GGs X es r)
  (s:(FY es X.env).length=n:=by rfl) (A:(FY es X.env).findIdx? (·.1)=none:=by rfl):GG X (.Tuple es k pos) (E9 n r):=(q9 o h s A).imp<|by
 rintro v J H Q ⟨B,l,S,d,hd,C,E,g⟩
 cases d <;> first | exact g.elim | skip
 rename_i G
 cases hd with
 | tup I m=>
  unfold E9 at g;dsimp only at g;split at g
  ·rename_i j
   exact⟨_,_,rfl,.inl (.inl I),by rw[<-m.length];exact j,B,l,S,G,m,C,E,g⟩
  ·exact g.elim
end
def spM(K:AJ)(n:Nat)(f:List D->Sto->Res D):Sp:=λo H Q E=>∃l m S,m.length=n/\A3 K l H m o/\Cj K l S H/\CY K (λc j=>E (.ref c) none j) l H (f m S) λd s=>
 ∀g j x,Le K l H g j->Cj K g s j->CB K g j d x->Q x j
def spM.len{K}{n}{f}{g}{H}{Q}{E}(h:spM K n f g H Q E):g.length=n:=by
 obtain⟨m,o,S,j,l,_⟩:=h;rw[<-l.length];exact j
def Cd(n:Nat)(f:List D->Sto->Res D)(m:ML):ME:=λe S=>(m e S).bind λg j=>if g.length=n then f g j else .bad
def SR(C:AW)(n:Nat)(f:List D->Sto->Res D)(m:ML):ME:=λe S=>(m e S).bind λj g=>if j.length+1=n then(f (.ref g.length :: j) (g++[.ins C []])).bind (λd l=>match d with
  | .non=>.ok (.ref g.length) l
  | _=>.bad)else .bad
def bh(E:EW)(g:St):XK:=λv o H=>o=none/\∃c,v=.ref c/\E c g H
section
variable{X:Cx}{E:EW}{k n:Nat}{x:Str}{e:Expr}{es:List Expr}
def CY.xk{o:Type}{K:AJ}{A:St}{ρ g:List AW}{H B:Hp}{r:Res o}{k k':o->Sto->Prop}(h:CY K (λc=>E c A) ρ H r k)(l:Le K ρ H g B)(f:∀a S,k a S->k' a S):CY K (λc j=>bh E A (.ref c) none j) g B r k':=by
 cases r with
 | ok a S=>exact f a S h
 | err c S=>exact λm j C s=>⟨rfl,c,rfl,h m j (l.trans C) s⟩
 | bad=>exact h
def CG(F:EZ X.prog X.w X.K X.mg X.base CX k f fd ps (spM X.K n g))(C:Oe CX X (bh E))(G:Ib k X.A)(I:Gl X x)(j:X.mg x=some (.ref f))(J:G4 X.K (.ref f)=true)(hb:Binds X.K fd ps [])
  (L:GA X E (e :: es) ml) (N:(x==("__debug__" : Str))=false:=by decide) (O:AQ (e :: es) X.env=(false,B1 e X.env) :: AQ es X.env:=by rfl) (P:(DH pos (AQ es X.env)).any (·.1)=false:=by rfl) :
  GE X E (.Call (.Name x p) (e :: es) [] pos) (Cd n g ml):=(mn (E:=bh E) F G I j J hb .nil C L N O P).imp<|by
 rintro σ H Q ⟨R,l,S,T,U,j⟩
 refine⟨R,l,S,T,U,j.seq λY Z j o H1 xs B s1 r1=>?_⟩;split at j
 ·rename_i m
  rw[BI];exact⟨o,Y,Z,m,r1,s1,j.xk B λ_ _ k s H' z l' s' r'=>k s H' z (B.trans l') s' r'⟩
 ·exact j.elim
def aq(M:Mk X.K C f)(F:EZ X.prog X.w X.K X.mg X.base CX k f fd ps (spM X.K n g))(Y:Oe CX X (bh E))(Z:Ib (k+1) X.A)(hg:Gl X x)(j:X.mg x=some (.ref C))(hb:Binds X.K fd ps [])
  (B:GA X E (e :: es) ml) (xg:(x==("__debug__" : Str))=false:=by decide) (he:AQ (e :: es) X.env=(false,B1 e X.env) :: AQ es X.env:=by rfl) (wm:(DH pos (AQ es X.env)).any (·.1)=false:=by rfl) :
  GE X E (.Call (.Name x p) (e :: es) [] pos) (SR C n g ml):=(mY (E:=bh E) M F Z hg j hb .nil Y B xg he wm).imp<|by
 rintro σ H Q ⟨ρ,l,S,hl,hs,j⟩
 refine⟨ρ,l,S,hl,hs,j.seq λds R j G H1 xs T s1 r1 a I B J wQ=>?_⟩;split at j
 ·rename_i m
  rw[BI];obtain⟨s2,L⟩:=Fv (ho:=.own a) s1 J
  have N:upd H1 I (.own a) a=none:=by rw[Bk (CK wQ)];exact B
  obtain⟨s3,O,s⟩:=s2.alloc (p:=a) (ho:=.ins C I []) (o:=.ins C []) N ⟨I,[],Bi,.nil⟩;refine⟨G++[a],.ref R.length :: ds,R++[.ins C []],by simpa using m,.cons (.ref s) (r1.mono (L.trans O)),s3,CY.xk (j.seq λz S2 j=>j) (T.trans (L.trans O)) λz S2 j P H' y U s' r'=>?_⟩
  cases z <;> first | exact j.elim | skip
  cases r';exact⟨rfl,j P H' _ (T.trans (L.trans (O.trans U))) s' (.ref (U.pre _ _ s))⟩
 ·exact j.elim
end
def KVR.lookup{K}{ρ}{H}(f:Str):∀{x:List (Str×D)} {y:List (Str×V)} {d:D},KVR K ρ H x y->x.lookup f=some d->∃v,y.lookup f=some v/\CB K ρ H d v
 | _,_,_,.nil,h=>by simp at h
 | (g,a) :: x,(o,b) :: y,d,.cons r t,h=>by
  obtain⟨j,l⟩:=r;dsimp only at j l;subst j;rw[Bd]at h ⊢
  cases m:(f==g)with
  | true=>rw[m]at h;cases h;exact⟨b,rfl,l⟩
  | false=>rw[m]at h;exact KVR.lookup f t h
def Q2(f:Str)(v:D):List (Str×D)->List (Str×D)
 | []=>[(f,v)]
 | (g,x) :: r=>if g=f then(g,v) :: r else(g,x) :: Q2 f v r
def KVR.putF{K}{ρ}{H}(f:Str){d}{v}(l:CB K ρ H d v):∀{x:List (Str×D)} {y:List (Str×V)},KVR K ρ H x y->KVR K ρ H (Q2 f d x) (putF f v y)
 | _,_,.nil=>.cons ⟨rfl,l⟩ .nil
 | (g,a) :: x,(s,b) :: y,.cons r t=>by
  obtain⟨m,o⟩:=r;dsimp only at m o;subst m;unfold Q2 L2.putF
  by_cases j:g=f
  ·rw[qX j,qX j];exact .cons ⟨rfl,l⟩ t
  ·rw[qY j,qY j];exact .cons ⟨rfl,o⟩ (KVR.putF f l t)
def KVR.length{g:Type}{K:AJ}{ρ:List AW}{H:Hp}{x:List (g×D)}{y:List (g×V)}(h:KVR K ρ H x y):x.length=y.length:=Ef h
def Lr(C:AW)(f:Str)(m:ME):ME:=λe S=>(m e S).bind λd g=>match d with
 | .ref n=>match g[n]? with
  | some (.ins j fs)=>if j=C then(match fs.lookup f with | some v=>.ok v g | none=>.bad)else .bad
  | _=>.bad
 | _=>.bad
def Uc(C:AW)(f:Str)(mo mv:ME):MS:=λe S=>(mv e S).lift e λv j=>(mo e j).lift e λd g=>match d with
 | .ref n=>match g[n]? with
  | some (.ins l fs)=>if l=C/\fs.length < 1000 then .ok (.nx e) (g.set n (.ins C (Q2 f v fs)))else .bad
  | _=>.bad
 | _=>.bad
section
variable{X:Cx}{E:EW}{o e value:Expr}{m mv:ME}
def QH(G:Cls X.K C)(I:Jm X.K C f)(J:GE X E e m)(hb:E3 e f X.env (B1 e X.env)=B1 e X.env:=by rfl):GE X E (.Attribute e f pos) (Lr C f m):=(rJ J hb).imp<|by
 rintro σ H Q ⟨L,l,S,N,O,g⟩
 refine⟨L,l,S,N,O,g.seq λx P g s R v T B U=>?_⟩
 cases x <;> first | exact g.elim | skip
 rename_i n;dsimp only at g
 cases j:P[n]? with
 | none=>rw[j]at g;exact g.elim
 | some Y=>
  rw[j]at g
  cases Y <;> first | exact g.elim | skip
  rename_i C' fs;dsimp only at g;split at g
  ·rename_i Z
   rw[Z]at j
   cases U with
   | ref yf=>
    obtain⟨dx,zB,e1,e2⟩:=B.ob n _ _ j yf
    cases A:fs.lookup f with
    | none=>rw[A]at g;exact g.elim
    | some w=>
     rw[A]at g;obtain⟨v,h3,h4⟩:=KVR.lookup f e2 A;exact⟨_,_,dx,zB,v,rfl,e1,G,I,h3,g s R v T B h4⟩
  ·exact g.elim
def ZU(hc:Cls X.K C)(hn:Jm X.K C f)(ha:GE X E o m)(hv:GE X E value mv)(J:Gx value (some (.Attribute o f A)) pos.line X.env=pure false:=by rfl):GS X E (.Assign [.Attribute o f A] value pos) (Uc C f m mv):=(qw ha hv J).imp<|by
 rintro D σ H ⟨ρ,l,S,B,J,g⟩
 refine⟨ρ,l,S,B,J,g.lift B .refl λv S1 g L H1 y s s1 r1=>⟨L,l,S1,B.mono s,s1,(g.later s).lift (B.mono s) s λx S2 g j R u N T r2=>?_⟩⟩
 cases x <;> first | exact g.elim | skip
 rename_i n;dsimp only at g
 cases ho:S2[n]? with
 | none=>rw[ho]at g;exact g.elim
 | some ob=>
  rw[ho]at g
  cases ob <;> first | exact g.elim | skip
  rename_i C' fs;dsimp only at g;split at g
  ·rename_i O
   obtain⟨O,G⟩:=O;rw[O]at ho
   cases r2 with
   | ref P=>
    obtain⟨I,Q,U,Y⟩:=T.ob n _ _ ho P;have le:Le X.K j R j (upd R _ (.ins C I (putF f y Q))):=Le.write P (by rw[U];trivial);obtain⟨s3,Z⟩:=T.write (ho:=.ins C I (putF f y Q)) (o:=.ins C (Q2 f v fs)) P ⟨I,_,Bi,(KVR.putF f (r1.mono N) Y).mono le⟩ le;refine⟨_,C,I,Q,rfl,U,hc,hn,by rw[<-KVR.length Y];exact G,?_⟩;exact g j _ σ (s.trans (N.trans Z)) s3 (B.mono (s.trans (N.trans Z)))
  ·exact g.elim
end
def DG.get(x:DG P w H h a o):∃u,h.get? a=some u:=by
 cases o with
 | lst j=>obtain⟨_,_,_,_,e⟩:=x;exact⟨_,e⟩
 | tup j=>obtain⟨_,_,_,o,e,_⟩:=x;exact⟨_,e⟩
 | dK g=>obtain⟨_,_,_,_,o,_,_,e,_⟩:=x;exact⟨_,e⟩
 | dT g=>obtain⟨_,_,_,_,o,_,_,e,_⟩:=x;exact⟨_,e⟩
 | set S n=>obtain⟨o,_,_,_,e,_⟩:=x;exact⟨_,e⟩
 | ins C l fs=>obtain⟨_,_,_,e,_⟩:=x;exact⟨_,e⟩
 | own y=>exact x
 | xd fs=>obtain⟨_,⟨_,_,_,e,_⟩,_⟩:=x;exact⟨_,e⟩
 | rng lo m=>obtain⟨_,_,_,e⟩:=x;exact⟨_,e⟩
 | frz s u=>obtain⟨e,_⟩:=x;exact⟨_,e⟩
 | tbl A=>exact⟨_,(show h.get? a=some _ from x)⟩
 | met f y=>exact⟨_,(show h.get? a=some _ from x)⟩
 | ext B=>obtain⟨_,e,_⟩:=x;exact e
def UF(Nw:AW->Prop)(F:Option AI->Prop)(g C:AW)(H:Hp)(h:CZ):Prop:=
 H g=none/\Nw g/\∃(j:Obj) (l:Array AI) (s:AI),h.get? g=some j/\j.cls=.ref C/\(j.dict=none/\j.data=.fields l)/\l[0]?=some s /\
  ((F none/\l[1]?=some .none)∨∃(T:AW) (m:Obj) (o:Array AI) (fl:AI),F (some fl)/\l[1]?=some (.ref T)/\T≠g/\H T=none/\Nw T/\h.get? T=some m/\m.data=.fields o/\o[3]?=some fl)
def UF.imp(x:UF Nw F g C H h)(f:∀o,F o->G o):UF Nw G g C H h:=by
 obtain⟨j,l,m,s,A,B,E,I,J,L⟩:=x;refine⟨j,l,m,s,A,B,E,I,J,?_⟩
 rcases L with⟨a,b⟩ | ⟨T,N,O,fl,a,b⟩
 ·exact .inl ⟨f _ a,b⟩
 ·exact .inr ⟨T,N,O,fl,f _ a,b⟩
structure LF(X:Cx):Prop where
 st:X.stack=X.env :: X.outer
 fr:X.env.frame=some X.env.locals
 ex:X.ex=[]
def Nw(X:Cx)(b:AW):Prop:=X.s₀.heap.get? b=none/\∀p∈X.pn,p.1≠b
section
variable{X:Cx}{σ:St}{H:Hp}{s:AM}{h':CZ}{ea C:AW}{F:Option AI->Prop}
def Inv.old(I:Inv X l σ H s)(O:LF X)(e:s.heap.get? b=none):H b=none/\Nw X b:=by
 refine⟨?_,?_,λp j z=>?_⟩
 ·cases q:H b with
  | none=>rfl
  | some u=>
   obtain⟨o,g⟩:=(I.hok b u q).get;rw[e]at g;cases g
 ·cases q:X.s₀.heap.get? b with
  | none=>rfl
  | some o=>
   obtain⟨m,g⟩:=I.base.there b o q (by rw[O.ex];simp);rw[e]at g;cases g
 ·have:=(I.pin p (As _ j)).1
  rw[z,e]at this;cases this
def Inv.recs(I:Inv X [] σ H s)(O:LF X)(j:∀b∈ch,H b=none/\Nw X b/\∃o B,s.heap.get? b=some o/\o.data=.fields B)
  (st:(MJ s.heap (frs X.stack++ch)).StaysIn h') (up:s.heap.UpToSlots h'):Inv X [] σ H { s with heap:=h' }:=by
 have E:∀b o,b∉frs X.stack->b∉ch->s.heap.get? b=some o->h'.get? b=some o:=λb o Q R e=>
  st b o (YJ _ e λz=>(Aq.mp z).elim Q R)
 have G:∀b∈ch,b≠X.env.locals:=λb hb z=>by
  obtain⟨_,_,o,B,e,d⟩:=j b hb;obtain⟨m,⟨J,Z,ep,g,A,_⟩,_⟩:=I.loc;rw[z,g]at e;cases e;rw[A]at d;cases d
 have L:∀b∈ch,∀x c,X.env.cells.lookup x=some c->c≠b:=λb hb x c q z=>by
  obtain⟨_,_,o,B,e,d⟩:=j b hb;obtain⟨v,J,g,A⟩:=I.cell x c q;rw[z,e]at g;cases g;rw[d]at A;cases A
 refine I.stepN (g':=s.gens) (t':=s.toks) (d':=s.drawn) (ch:=ch) (λb hb=>⟨.inr (j b hb).2.1.1,G b hb,L b hb,λp S=>(j b hb).2.1.2 p (by rwa [BI]at S)⟩)
  (λb o T l N e _=>E b o (λz=>(A2.mp (I.stkSub b z)).elim T l) N e) (λb o _ U _ e _=>?_) (λ_ _ _ _ n=>n) (λb o N e=>?_) (λ_ _ q=>q) (λ_ _ _ q=>q) (λb ps q=>⟨#[],by rw[q];simp⟩) (λm Y=>up.ns Y) (λa o e=>?_) I.bare
 ·obtain⟨J,g,l⟩:=(I.funs.mem U).2
  rw[e]at g;cases g;exact up b o e l
 ·by_cases hb:b∈frs X.stack
  ·obtain⟨J,g,l⟩:=(I.stack.mem hb).2
   rw[e]at g;cases g;obtain⟨sl,q⟩:=up b o e l;exact⟨_,q⟩
  ·exact⟨o,E b o hb N e⟩
 ·have P:∀b u,H b=some u->∀v,s.heap.get? b=some v->h'.get? b=some v:=λb u q v r=>
   E b v (λz=>by rw[I.stkFree b z]at q;cases q) (λz=>by rw[(j b z).1]at q;cases q) r
  refine(I.hok a o e).stay (λb u hb q=>?_) (λ_ q=>q) λ_ _ q=>q
  rcases hb with z | z
  ·subst z;exact P _ _ e u q
  ·exact P _ _ z u q
abbrev jO(X:Cx)(h:CZ)(ch:List AW):CZ:=MJ h (frs X.stack++ch)
def Ut(hb:b∈ch):(jO X h ch).get? b=none:=Mi _ (Av _ hb)
def NP(f:Array AI->Array AI)(o:Obj):(Da f o).dict=o.dict:=by
 obtain⟨c,d,g,sl⟩:=o
 cases g <;> rfl
def X0
  (Ϛ:A.frames=some (env :: g)) (O:s.heap.FunFrames base (env :: g)) (hf:env.frame=some L) (P:s.heap.get? e=some oe) (hd:oe.data=.fields R) (hsz:1 < R.size)
  (k:∀m T S ts,T≠e->s.heap.get? T=none->(∀b o,b≠e->b∉frs (env :: g)->s.heap.get? b=some o->m.get? b=some o)->(∀b o,b≠e->s.heap.get? b=some o->∃sl,m.get? b=some { o with slots:=sl }) ->
   m.get? e=some (Da (·.setIfInBounds 1 (.ref T)) oe)->m.get? T=some S->S.data=.fields ts->ts[3]?=some (Eo L)->Q () { s with heap:=m }) :
  Ag M A (do let a <-frameOf env;let l <-entryPlaceOf L hadNext;let b <-VU head a .none (Eo L) .none l;kN (.ref e) 1 b) Q E s:=by
 have B:e∉frs (env :: g):=λz=>by
  obtain⟨_,o,U,N⟩:=O.mem z;rw[P]at U;cases U;exact N R hd
 refine AA (wpAny_frameOf_fun Ϛ O hf λj J=>AA (wpAny_entryPlaceOf λl Y=>?_));unfold VU t9;refine AA (BQ ?_ (Y.sizeOk5 _ _ _ _ _));have Z:j.get? e=some oe:=(J.2.1 e B).trans P;have e2:=AF (h:=j) { cls:=.type "traceback",dict:=none,data:=.fields ([head,.ref L,.none,Eo L,.none]++(if l.isEmpty then Ak 6 BW else l)).toArray } Z;refine Ea e2 hd hsz ?_;have G:j.objs.size≠e:=FJ (AZ Z);have dd:=Cp hd (·.setIfInBounds 1 (A0 j.objs.size))
 have old:∀b o,b≠e->j.get? b=some o->((j.push { cls:=.type "traceback",dict:=none,data:=.fields ([head,.ref L,.none,Eo L,.none]++(if l.isEmpty then Ak 6 BW else l)).toArray }).update e (Da (·.setIfInBounds 1 (A0 j.objs.size)))).get? b=some o:=λb o I q=>by
  rw[B3 _ _ (CK I)];exact AF _ q
 refine k _ j.objs.size { cls:=.type "traceback",dict:=none,data:=.fields ([head,.ref L,.none,Eo L,.none]++(if l.isEmpty then Ak 6 BW else l)).toArray } _ G (Zy (Yg J.1.symm)) (λb o I N q=>old b o I ((J.2.1 b N).trans q)) (λb o I q=>?_) (Cg _ e2 (FZ dd)) ?_ rfl ?_
 ·obtain⟨sl,z⟩:=J.2.2 b o q
  exact⟨sl,old b _ I z⟩
 ·rw[B3 _ _ (CK G)]
  exact AR j rfl
 ·rcases Y with rfl | ⟨_,_,_,_,_,_,_,rfl⟩ <;> simp
def XD(keep:∀b o,b∉frs X.stack->b∉ch->h.get? b=some o->h'.get? b=some o):(jO X h ch).StaysIn h':=λb o q=>by
 have hb:b∉frs X.stack++ch:=λz=>by
  have:=Mi (h:=h) (frs X.stack++ch) z;rw[show(jO X h ch).get? b=(MJ h (frs X.stack++ch)).get? b from rfl,this]at q;cases q
 exact keep b o (λz=>hb (As _ z)) (λz=>hb (Av _ z)) (ON _ q)
def V9(I:Inv X [] σ H s)(O:LF X)(hA:A.frames=some X.stack)(x:UF (Nw X) F ea C H s.heap)
  (hF:∀o,F o->o=none∨o=some .none∨o=some (Eo X.env.locals))
  (k:∀h',Inv X [] σ H { s with heap:=h' }->UF (Nw X) (· = some (Eo X.env.locals)) ea C H h'->Q () { s with heap:=h' }):Ag M A (eD (.ref ea) X.env) Q E s:=by
 obtain⟨L,N,S,vs,a0,l,U,⟨g0,g⟩,Y,g5⟩:=x
 have P:A.frames=some (X.env :: X.outer):=by rw[hA,O.st]
 have yD:frs (X.env :: X.outer)=frs X.stack:=by rw[O.st]
 have fr:s.heap.FunFrames X.base (X.env :: X.outer):=by rw[<-O.st];exact I.stack
 rcases g5 with⟨_,B⟩ | ⟨T,G,J,fl,hf,B,ne,m1,m2,gT,dT,Z⟩
 ·have j:=(Ft.mp B).1
  unfold eD;simp only[O.fr];refine AA (Dp l g B ?_);rw[qY (by decide)]
  refine X0 P fr O.fr l g j λh2 T G J nT fT kp up q1 q2 q3 q4=>?_
  rw[yD]at kp;have R:=I.old O fT
  have hc:∀b∈[ea],H b=none/\Nw X b/\∃o vs,s.heap.get? b=some o/\o.data=.fields vs:=λb hb=>by
   cases AN.mp hb;exact⟨L,N,S,vs,l,g⟩
  refine k h2 (I.recs O hc (XD λb o z1 z2 q=>kp b o (λz=>z2 (AN.mpr z)) z1 q) λb o q m=>up b o (λz=>?_) q) ?_
  ·rw[z,l]at q
   cases q;exact m vs g
  ·exact⟨L,N,_,_,a0,q1,by rw[LH];exact U,⟨by rw[NP];exact g0,Cp g _⟩,by rw[Qc (by decide)];exact Y,.inr ⟨T,G,J,_,rfl,by simp[j],nT,R.1,R.2,q2,q3,q4⟩⟩
 ·rcases hF _ hf with e | e | e
  ·cases e
  ·cases e
   have j:=(Ft.mp B).1;unfold eD;simp only[O.fr];refine AA (Dp l g B ?_);rw[qX (show(A0 T != BW)=true from by simp)];refine AA (Dp gT dT Z ?_);rw[qY (show ¬((BW==Eo X.env.locals)=true)from by simp[Eo])];refine AA (Ea gT dT (Ft.mp Z).1 ?_)
   have oth:∀b,b≠T->(s.heap.update T (Da (·.setIfInBounds 3 BW))).get? b=s.heap.get? b:=λb hb=>B3 _ _ (CK hb)
   have zi:∀b o,s.heap.get? b=some o->(∀vs,o.data≠.fields vs)->b≠T:=λb o hb m q=>by
    rw[q,gT]at hb;cases hb;exact m J dT
   have fr2:(s.heap.update T (Da (·.setIfInBounds 3 BW))).FunFrames X.base (X.env :: X.outer):=fr.of_keeps λb o hb m=>⟨o,(oth b (zi b o hb m)).trans hb,rfl⟩
   have gU:(s.heap.update T (Da (·.setIfInBounds 3 BW))).get? T=some (Da (·.setIfInBounds 3 BW) G):=Cg _ gT (FZ (Cp dT _))
   have hc:∀b∈[ea,T],H b=none/\Nw X b/\∃o vs,s.heap.get? b=some o/\o.data=.fields vs:=λb hb=>by
    rcases A2.mp hb with rfl | hb
    ·exact⟨L,N,S,vs,l,g⟩
    ·cases AN.mp hb
     exact⟨m1,m2,G,J,gT,dT⟩
   refine X0 (s:={ s with heap:=s.heap.update T (Da (·.setIfInBounds 3 BW)) }) P fr2 O.fr ((oth ea (CK ne)).trans l) g j λh2 T2 oT2 ts2 nT fT kp up q1 q2 q3 q4=>?_
   rw[yD]at kp
   have fT':s.heap.get? T2=none:=by
    have z:T2≠T:=λz=>by rw[z]at fT;exact zX (fT.symm.trans gU) (by simp)
    rw[<-oth T2 z];exact fT
   have R:=I.old O fT';refine k h2 (I.recs O hc (XD λb o z1 z2 q=>kp b o (λz=>z2 (by rw[z];exact Ax)) z1 ((oth b λz=>z2 (by rw[z];exact AY _ (AN.mpr rfl))).trans q)) λb o q m=>up b o (λz=>?_) ((oth b (zi b o q m)).trans q)) ?_
   ·rw[z,l]at q
    cases q;exact m vs g
   ·exact⟨L,N,_,_,a0,q1,by rw[LH];exact U,⟨by rw[NP];exact g0,Cp g _⟩,by rw[Qc (by decide)];exact Y,.inr ⟨T2,oT2,ts2,_,rfl,by simp[j],nT,R.1,R.2,q2,q3,q4⟩⟩
  ·cases e
   have hTn:(jO X s.heap [ea,T]).get? T=none:=Ut (AY _ (AN.mpr rfl));refine wpAny_noteFrame_againW (base:=jO X s.heap [ea,T]) (cls:=.ref C) (a0:=a0) O.fr ⟨S,vs,T,G,J,l,⟨U,Y⟩,g,B,hTn,ne,gT,dT,Z⟩ ?_;exact k s.heap I ⟨L,N,S,vs,a0,l,U,⟨g0,g⟩,Y,.inr ⟨T,G,J,_,rfl,B,ne,m1,m2,gT,dT,Z⟩⟩
def Nq(f:Option AW)(I:Inv X [] σ H s)(O:LF X)(x:UF (Nw X) F ea C H s.heap)(S:¬F none)
  (k:∀h',Inv X [] σ H { s with heap:=h' }->UF (Nw X) (· = some (f.elim BW λa=>Eo a)) ea C H h'->Q () { s with heap:=h' }):Ag M A (setFlight (.ref ea) f) Q E s:=by
 obtain⟨G,J,L,vs,U,j,Y,⟨Z,l⟩,g4,g5⟩:=x
 rcases g5 with⟨z,_⟩ | ⟨T,oT,m,fl,hf,N,P,R,m2,gT,dT,h3⟩
 ·exact(S z).elim
 ·have hc:∀b∈[ea,T],H b=none/\Nw X b/\∃o vs,s.heap.get? b=some o/\o.data=.fields vs:=λb hb=>by
   rcases A2.mp hb with rfl | hb
   ·exact⟨G,J,L,vs,j,l⟩
   ·cases AN.mp hb
    exact⟨R,m2,oT,m,gT,dT⟩
  have g:3 < m.size:=(Ft.mp h3).1;unfold setFlight;refine AA (Dp j l N ?_);rw[qX (show(A0 T != BW)=true from by simp)];refine Ea gT dT g ?_
  have oth:∀b,b≠T->(s.heap.update T (Da (·.setIfInBounds 3 (f.elim BW λa=>Eo a)))).get? b=s.heap.get? b:=λb hb=>B3 _ _ (CK hb)
  have zi:∀b o,s.heap.get? b=some o->(∀vs,o.data≠.fields vs)->b≠T:=λb o hb B q=>by
   rw[q,gT]at hb;cases hb;exact B m dT
  refine k _ (I.recs O hc (λb o q=>?_) λb o q B=>⟨o.slots,(oth b (zi b o q B)).trans q⟩) ?_
  ·have hb:b≠T:=λz=>by rw[z,Ut (AY _ (AN.mpr rfl))]at q;cases q
   exact(oth b hb).trans (ON _ q)
  ·refine⟨G,J,L,vs,U,(oth ea (CK P)).trans j,Y,⟨Z,l⟩,g4,.inr ⟨T,_,_,_,rfl,N,P,R,m2,Cg _ gT (FZ (Cp dT _)),Cp dT _,?_⟩⟩
   simp[g]
end
def trF(X:Cx)(o:Option AI):Prop:=o=none∨o=some .none∨o=some (Eo X.env.locals)
def XE(X:Cx)(E:EW)(e:AI)(s':AM):Prop:=∃j C l g,e=.ref j/\Inv X [] l g s'/\UF (Nw X) (trF X) j C g s'.heap/\E C l g
def CXG(P:Bq)(w:CQ):CXT:=λg H s E e j=>∃m C l,e=.ref m/\j.os=s.os/\Jo j.gens/\Un (frs g) [] H l s.heap j.heap/\HOk P w l j.heap/\UF (λb=>s.heap.get? b=none) (· = some .none) m C l j.heap/\E (.ref C) none l
def XE.own(O:LF X):QV (Ah X.prog X.w) X.A X.env (XE X E):=by
 rintro e l ⟨G,C,J,H,rfl,I,x,w⟩
 refine V9 I O I.ok.frames x (λo z=>z) λm L B=>?_
 have g:=B;obtain⟨U,Y,Z,vs,a0,N,g2,P,g4,Q⟩:=g
 rcases Q with⟨z,_⟩ | ⟨T,oT,ts,fl,hf,j,_⟩
 ·cases z
 ·show Ag _ _ _ _ _ _
  refine AA (Dp (s:={ l with heap:=m }) N P.2 j ?_);rw[qY (by simp)];rw[O.fr]
  refine Nq (s:={ l with heap:=m }) (some X.env.locals) L O B (by simp) λh2 R S=>?_
  exact⟨G,C,J,H,rfl,R,S.imp λo z=>.inr (.inr z),w⟩
def XE.leave(O:LF X)(h:XE X E e s')
  (k:∀g C j l m,e=.ref g->Inv X [] j l m->UF (Nw X) (· = some .none) g C l m.heap->E C j l->Q () m):Ag (Ah X.prog X.w) X.A (leaving X.env e) Q P s':=by
 obtain⟨g,C,j,H,rfl,I,x,w⟩:=h;unfold leaving;refine AA (V9 I O I.ok.frames x (λo z=>z) λB G J=>?_)
 refine Nq (s:={ s' with heap:=B }) none G O J (by simp) λR L N=>?_
 exact k g C j H _ rfl L N w
noncomputable abbrev Cx.p(X:Cx)(pn:List (AW×Obj)):Cx:={ X with pn:=pn }
abbrev Cx.w'(X:Cx)(pn:List (AW×Obj))(E:EW):Cx:={ X with pn:=pn,xe:=XE (X.p pn) E }
def Inv.with(I:Inv X m o H s)(z:AI->AM->Prop):Inv { X with xe:=z } m o H s:=by
 obtain⟨ok,a,b,c,d,e,f,g,i,j,l⟩:=I;obtain⟨A,B,C,E,G,J,L,N,O,P,Q,R,S,T,U,Y,Z,G'⟩:=ok;exact⟨⟨A,B,C,E,G,J,L,N,O,P,Q,R,S,T,U,Y,Z,G'⟩,a,b,c,d,e,f,g,i,j,l⟩
def Inv.without(I:Inv { X with xe:=z } g j H s):Inv X g j H s:=by
 have:=I.with X.xe
 exact this
def Inv.pinIn(I:Inv X m o H s):Inv (X.p (X.pn++m)) [] o H s:=by
 obtain⟨ok,a,b,c,d,e,f,g,i,j,l⟩:=I;obtain⟨A,B,C,E,G,J,L,N,O,P,Q,R,S,T,U,Y,Z,G'⟩:=ok;exact⟨⟨A,B,C,E,G,J,L,N,O,P,Q,R,S,T,U,Y,Z,G'⟩,a,b,c,d,e,f,g,λq hq=>i q (by rwa [BI]at hq),j,l⟩
def Inv.pinOut(I:Inv (X.p (X.pn++m)) [] o H s):Inv X m o H s:=by
 obtain⟨ok,a,b,c,d,e,f,g,i,j,l⟩:=I;obtain⟨A,B,C,E,G,J,L,N,O,P,Q,R,S,T,U,Y,Z,G'⟩:=ok;exact⟨⟨A,B,C,E,G,J,L,N,O,P,Q,R,S,T,U,Y,Z,G'⟩,a,b,c,d,e,f,g,λq hq=>i q (by show q∈(X.pn++m)++[];rwa [BI]),j,l⟩
structure Good(X:Cx)(E:EW):Prop where
 pass:Oe (CXG X.prog X.w) X (bh E)
 own:QV (Ah X.prog X.w) X.A X.env X.xe
 made:∀(ζ:List (AW×Obj)) (σ:St) (H:Hp) (s:AM) (h':CZ) (ea C:AW) (args:List AI),Inv X ζ σ H s->E C σ H->CZ.MadeExcOf s.heap h' ea (.ref C) args->X.xe (.ref ea) { s with heap:=h' }
def LF.p(O:LF X)(pn:List (AW×Obj)):LF (X.p pn):=⟨O.st,O.fr,O.ex⟩
def Bb(O:LF X):Good (X.w' pn E) E:=by
 have A:=O.p pn;refine⟨λm g H s e s' I h=>?_,XE.own A,λm g H s S B C R I w G=>?_⟩
 ·obtain⟨B,C,J,rfl,os,o,un,L,x,_,c,U,w⟩:=h
  cases U;have l:Inv (X.p pn) m g H s:=Inv.without (X:=X.p pn) I;have N:Inv (X.p pn) m g J s':=l.call' os un L o (λb z=>zX z (by simp))
  have Y:Inv (X.p pn) [] g J s':=N.pins_of λp P=>zX P (by simp)
  obtain⟨Z,n2,oe,vs,a0,Q,g2,g3,g4,g5⟩:=x;refine⟨B,C,g,J,rfl,Y,⟨Z,(l.old A n2).2,oe,vs,a0,Q,g2,g3,g4,?_⟩,w⟩
  rcases g5 with⟨z,_⟩ | ⟨T,oT,ts,fl,hf,h1,ne,m1,m2,r⟩
  ·cases z
  ·exact .inr ⟨T,oT,ts,fl,.inr (.inl hf),h1,ne,m1,(l.old A m2).2,r⟩
 ·have l:Inv (X.p pn) m g H s:=Inv.without (X:=X.p pn) I
  have N:Inv (X.p pn) m g H { s with heap:=S,toks:=s.toks }:=l.kept G.keeps;obtain⟨t,Q,_,_⟩:=G.there;have j:=l.old A G.new;exact⟨B,C,g,H,rfl,N.pins_of λp P=>zX P (by simp),⟨j.1,j.2,_,_,_,Q,rfl,⟨rfl,rfl⟩,rfl,.inl ⟨.inl rfl,rfl⟩⟩,w⟩
def good_none(j:X.xe=λ_ _=>False):Good X noE:=by
 refine⟨λm o H s e A I h=>?_,by rw[j];exact QV.never,λ_ _ _ _ _ _ _ _ _ w _=>w.elim⟩;obtain⟨B,C,E,rfl,os,g,un,l,x,_,c,G,w⟩:=h;exact w.elim
abbrev bI:List AI:=[.type "ValueError",.type "Exception",.type "BaseException",.type "object"]
structure XCl(K:AJ)(C:AW):Prop where
 ex:kF K C bI "ValueError.__new__" = true
def XCl.obj{K}{C}(c:XCl K C):∃bm N nm q bs hdct sn sub ab col dd k0 k1 k2 k3 k5,K.lookup C=some (excClassObj nm q C N bs bm hdct sn sub ab col dd k0 k1 k2 k3 k5 "ValueError.__new__") /\
  Rb K N=true/\PySem.W.nsIn K N "__init__" = some none/\PySem.W.tailIn K bI bm=true:=by
 have q:=c.ex;unfold kF at q;split at q
 ·rename_i l m o s
  split at q
  ·rename_i Cx A I J L O nx P g j
   simp only[DU,beq_iff_eq,fH]at q;obtain⟨⟨⟨⟨⟨Q,R⟩,E⟩,S⟩,G⟩,H⟩:=q;subst Q;subst R;obtain⟨T,U,f3,X,Y,Z,f7,f8,f9,B,f11⟩:=m;dsimp only at g E G H;subst g;subst E;obtain⟨lx⟩:=o;dsimp only at j;subst j;exact⟨A,X,T,Y,U,Z,f7,f8,f9,B,l,I,J,L,O,P,s,G,H,S⟩
  ·cases q
 ·cases q
def nG{K}{N}{h g}{m}(e:Rb K N=true)(X:K.In h)(l:K.In g)(n:h.Ns N m):g.Ns N m:=by
 obtain⟨o,s,A,B,r⟩:=n;unfold Rb at e;split at e
 ·rename_i j
  have z:=X _ _ j;rw[B]at z;cases z;exact⟨_,s,A,l _ _ j,r⟩
 ·cases e
def P5(C:AW)(ml:ML):MS:=λe S=>(ml e S).lift e λg j=>if g.length<=sizeLine then .ok (.ex C e) j else .bad
section
variable{E:EW}{x:Str}{e:Expr}{C:AW}
def Xu(G:Good X E)(hc:X.calm=true)(c:XCl X.K C)(hg:Gl X x)(m:X.mg x=some (.ref C))(ha:GA X E (e :: es) ml)(xg:(x==("__debug__" : Str))=false:=by decide)
  (T:AQ (e :: es) X.env=(false,B1 e X.env) :: AQ es X.env:=by rfl) (wm:(DH g (AQ es X.env)).any (·.1)=false:=by rfl) :
  GS X E (.Raise (some (.Call (.Name x np) (e :: es) [] g)) none pos) (P5 C ml):=by
 intro U s J H D I ⟨ρ,l,S,O,hs,yM⟩;have hh:X.A.handled=none:=I.ok.hd hc;obtain⟨bm,N,nm,q,bs,hdct,sn,sub,ab,col,dd,k0,k1,k2,k3,k5,hC,j,ϛ,o⟩:=c.obj;have hN:s.heap.Ns N (s.heap.nsMap N):=.of_isNs (PySem.W.isNs_of_in I.kIn j)
 refine wpAny_Raise_call_subT (C:=C) (nm:=nm) (q:=q) (N:=N) (bs:=bs) (bm:=bm) (hdct:=hdct) (sn:=sn) (sub:=sub) (ab:=ab) (col:=col) (dd:=dd) (k0:=k0) (k1:=k1) (k2:=k2) (k3:=k3) (k5:=k5) (bmB:=bI) PySem.F.excBase_ValueError
  ((Yc I.kIn o).hasType (by decide +kernel)) hh (by rw[T];show(false||(DH g (AQ es X.env)).any (·.1))=false;rw[wm];rfl) (PySem.W.nsMap_none_of_in I.kIn j ϛ)
  (PD I hg m ⟨rfl,?_⟩ xg)
 have B:=ha g U s J H (λY P=>Y.length<=sizeLine/\E C J P) I ⟨ρ,l,S,O,hs,CY.lift yM O .refl λds S1 m Q P xs Z s1 r1=>by
  split at m
  ·rename_i R
   exact⟨by rw[<-r1.length];exact R,m Q P J Z s1 (O.mono Z)⟩
  ·exact m.elim⟩
 rw[T]at B ⊢;refine Nx (thn B λus s2 ⟨Y,H2,L,rv,R,w⟩=>?_);exact⟨rfl,by rw[<-rv.length];exact R,L.kIn _ _ hC,nG j I.kIn L.kIn hN,Yc L.kIn o,λh' ea hx=>G.made U J H2 s2 h' ea C us L w hx⟩
end
abbrev Cx.suite(X:Cx)(g:AW):Cx:={ X with A:=X.A.mark (some (.ref g)),calm:=false,xe:=λ_ _=>False }
def Inv.suite(I:Inv X m o H s)(A:AW):Inv (X.suite A) m o H s:=by
 obtain⟨ok,a,b,c,d,e,f,g,i,j,l⟩:=I;obtain⟨B,C,E,G,J,L,N,O,o9,P,Q,R,S,T,U,Y,Z,G'⟩:=ok;exact⟨⟨B,C,E,G,J,L,N,O,λz=>zX (show false=true from z) AV,P,Q,R,S,T,U,Y,Z,G'⟩,a,b,c,d,e,f,g,i,j,l⟩
def Inv.unsuite(ok:X.Ok)(I:Inv (X.suite A) m o H s):Inv X m o H s:=by
 obtain⟨_,a,b,c,d,e,f,g,i,j,l⟩:=I;exact⟨ok,a,b,c,d,e,f,g,i,j,l⟩
def Inv.track(I:Inv X [] J H s)(g:H ea=none)(C:Nw X ea)(j:s.heap.get? ea=some o)(E:o.data=.fields Y) :
  Inv X [] J (upd H ea (.frz o (.ext λh=>∃u,h.get? ea=some u))) s:=by
 have L:X.env.locals≠ea:=λz=>by
  obtain⟨m,⟨N,Z,ep,l,A,_⟩,_⟩:=I.loc;rw[z,j]at l;cases l;rw[E]at A;cases A
 have O:∀x c,X.env.cells.lookup x=some c->c≠ea:=λx c q z=>by
  obtain⟨v,N,l,A⟩:=I.cell x c q;rw[z,j]at l;cases l;rw[E]at A;cases A
 refine⟨I.ok,I.os,I.bare,⟨I.base.keep,I.base.slot,λb u q n P=>?_,I.base.there,λb B q=>?_,λb u B q=>?_,λb Q q=>?_⟩,I.loc,I.cell,?_,λx c q=>?_,λp G=>?_,λb u q=>?_,I.len⟩
 ·rw[Bk λz=>by rw[z,C.1]at q;cases q]
  exact I.base.free b u q n P
 ·have:=I.base.tups b B q
  rw[Bk (B6 this g)];exact this
 ·have:=I.base.frzs b u B q
  rw[Bk (B6 this g)];exact this
 ·obtain⟨more,this⟩:=I.base.tbls b Q q
  exact⟨more,by rw[Bk (B6 this g)];exact this⟩
 ·rw[Bk L];exact I.free
 ·rw[Bk (O x c q)];exact I.freeC x c q
 ·obtain⟨R,S,T⟩:=I.pin p G
  exact⟨R,by rw[Bk (C.2 p (by rwa [BI]at G))];exact S,T⟩
 ·by_cases hb:b=ea
  ·subst hb
   rw[Bi]at q;cases q;exact⟨j,⟨o,j⟩,⟨o,j⟩,λh1 h2 ⟨u,U⟩ k=>⟨u,k u U⟩⟩
  ·rw[Bk hb]at q
   exact(I.hok b u q).stay (λ_ _ _ z=>z) (λc z=>by rw[Bk (B6 z g)];exact z) λc B z=>by rw[Bk (B6 z g)];exact z
def Nk(I:Inv X [] P H s)(Y:X.N.Nodup)(hi:X.N[i]?=some n)(Z:X.env.scope.names.lookup n=some .local)
  (k:∀s',Inv X [] (P.set i none) H s'->Q () s'):Ag M A (do bindName X.env n .none;unbindBehindTheSuite X.env n pos) Q E s:=by
 obtain⟨m,R,hl⟩:=id I.loc
 have G:(X.env.scope.kind==.class||(X.env.scope.kind==.module&&X.env.locals != X.env.globals))=false:=by rw[I.ok.kind];rfl
 have J:∀b o,X.s₀.heap.get? b=some o->b≠X.env.locals:=λb o e=>Al (Af (AZ e) I.ok.above)
 obtain⟨oL,_,_,hoL,_⟩:=id R
 refine wpAny_nameGoes_keeps Z R G λh' v yf l=>k _ ?_
 have g:∀y c w',X.env.cells.lookup y=some c->s.heap.IsCell c w'->h'.IsCell c w':=λy c w' q z=>z.sameBut l (I.cne y c q)
 refine⟨I.ok,I.os,I.bare,⟨λb o e z hb B=>(l.2 b (J b o e)).trans (I.base.keep b o e z hb B),λb o e z hb B=>?_,I.base.free,λb o e B=>?_,I.base.tups,I.base.frzs,I.base.tbls⟩,⟨_,yf,λj y S T C e3=>?_⟩,λy c q=>?_,I.free,I.freeC,λp G=>?_,λb u q=>?_,by simpa using I.len⟩
 ·obtain⟨sl,q⟩:=I.base.slot b o e z hb B
  exact⟨sl,(l.2 b (J b o e)).trans q⟩
 ·obtain⟨o',q⟩:=I.base.there b o e B
  exact⟨o',(l.2 b (J b o e)).trans q⟩
 ·by_cases L:i=j
  ·subst L
   rw[Wv ]at C
   cases hq:P[i]? <;> rw[hq]at C <;> cases C
  ·rw[Az L]at C
   obtain⟨u',r',q⟩:=hl j y S T C e3;refine⟨u',r',?_⟩
   rcases q with⟨O,e⟩ | ⟨O,c,e,z⟩
   ·refine .inl ⟨O,?_⟩
    have:y≠n:=λz=>L (SN Y (z▸hi) T)
    show(if y=n then v else m y)=_;rw[qY this];exact e
   ·exact .inr ⟨O,c,e,g y c _ e z⟩
 ·obtain⟨w',z⟩:=I.cell y c q
  exact⟨w',g y c w' q z⟩
 ·obtain⟨z1,z2,U,z4⟩:=I.pin p G
  exact⟨(l.2 p.1 U).trans z1,z2,U,z4⟩
 ·refine(I.hok b u q).stay (λc S hc z=>(l.2 c ?_).trans z) (λ_ z=>z) λ_ _ z=>z
  intro e
  rcases hc with z | z
  ·rw[z]at e;rw[e,I.free]at q;cases q
  ·rw[e,I.free]at z;cases z
structure Zo(K:AJ)(C G:AW):Prop where
 ty:Mg K (.ref G)=some (.type "type")
 cl:(FC K G).isSome=true
 ba:N3 K (.ref G) (.type "BaseException")=some true
 su:N3 K (.ref C) (.ref G)=some true
def ZJ{K}{C G g}{j}{M}{A}{E}{Q}{s}(c:Zo K C G)(X:K.In s.heap)(l:s.heap.get? g=some j)(m:j.cls=.ref C)(q:Q true s) :
  Ag M A (excMatches (.ref g) (.ref G)) Q E s:=by
 have o:IE M s.heap (isInstance (.ref G) (.type "tuple")) false:=PySem.W.looks_instIn X (by unfold PySem.W.instIn;rw[c.ty];show N3 K (.type "type") (.type "tuple")=some false;kernel_rfl);have L2:IE M s.heap (eE (.ref G) (.type "BaseException")) true:=YH X c.ba;have B:IE M s.heap (eE (.ref C) (.ref G)) true:=YH X c.su
 have L4:IE M s.heap (isType (.ref G)) true:=by
  have z:=c.cl;unfold FC at z;split at z
  ·rename_i H
   intro J L N O k q;unfold isType loadHead;exact AA (YR (k _ _ (X _ _ H)) (AE q))
  ·cases z
 have I:IE M s.heap (typeOf (.ref g)) (.ref C):=m▸(uC l).andThen .now;unfold excMatches isExcClass;refine AA (o.at ?_);rw[qY AV];refine AA (AE ?_);dsimp only;refine AA ?_;rw[Mm];refine AA (AA (AA (L4.at ?_)));rw[qX rfl];refine L2.at ?_;simp only[Em,BA,if_false];refine AE ?_;dsimp only;rw[N9];refine AE (AA (I.at (AA ?_)));rw[Mm];refine AA (AA (B.at ?_));rw[qX rfl];exact AE (AE (AE q))
def cK(cs:List AW)(i:Nat)(b h:MS):MS:=λe S=>(b e S).bind λf l=>match f with
 | .ex c m=>if c∈cs then(h (m.set i (some (.exc c))) l).bind λo j=>match o with
   | .nx g=>.ok (.nx (g.set i none)) j
   | .bk g=>.ok (.bk (g.set i none)) j
   | .ct g=>.ok (.ct (g.set i none)) j
   | .rt d=>.ok (.rt d) j
   | .ex _ _=>.bad
  else .bad
 | f=>.ok f l
def Fj.forget{K}{ρ}{H}{e}{g}(i:Nat)(h:Fj K ρ H e g):Fj K ρ H (e.set i none) (g.set i none):=by
 refine⟨by simp[h.len],λj d q=>?_⟩
 by_cases l:i=j
 ·subst l
  rw[Wv]at q
  cases m:e[i]? <;> rw[m]at q <;> cases q
 ·rw[Az l]at q ⊢
  exact h.at' j d q
section
variable{E:EW}{g n:Str}{mb mh:MS}
def sT(O:LF X)(hN:X.N.Nodup)(hi:X.N[i]?=some n)(T:X.env.scope.names.lookup n=some .local)(hg:Gl X g)(A:X.mg g=some (.ref G))(Ψ:∀c∈cs,Zo X.K c G)
  (hb:∀Ϝ E',GSs (X.w' Ϝ E') E' body mb) (hh:∀Ϝ B,GSs ((X.p Ϝ).suite B) noE (b₀ :: suite) mh) (xg:(g==("__debug__" : Str))=false:=by decide) :
  GS (X.w' pn E) E (.Try body [.ExceptHandler (some (.Name g gp)) (some n) (b₀ :: suite) J'] [] [] pos) (cK cs i mb mh):=by
 intro L s σ H D I ⟨ρ,l,S,hl,hs,yM⟩;have I0:Inv (X.p pn) L σ H s:=Inv.without (X:=X.p pn) I;have I1:Inv (X.p (pn++L)) [] σ H s:=I0.pinIn;have O1:=O.p (pn++L)
 let DS:Zn:={ nx:=λm R=>D.nx (m.set i none) R,rt:=D.rt,bk:=λm R=>D.bk (m.set i none) R,ct:=λm R=>D.ct (m.set i none) R }
 let ET:EW:=λC j Q=>C∈cs/\∀B o u,Q B=none->UE o C->gS X.K noE mh DS (j.set i (some (.ref B))) (upd Q B (.frz o u))
 have run:=hb (pn++L) ET [] s σ H D (I1.with _) ⟨ρ,l,S,hl,hs,yM.seq λf S1 A=>by
  cases f with
  | nx e'=>exact A
  | rt d=>exact A
  | bk d=>exact A
  | ct d=>exact A
  | ex c e1=>
   intro U Q j l' s' r';dsimp only at A;split at A
   ·rename_i hc
    refine⟨hc,λB o u T ho=>?_⟩;have le:Le X.K U Q U (upd Q B (.frz o u)):=Le.fresh T;have s2:=(Fv (ho:=.frz o u) s' T).1;refine⟨U,e1.set i (some (.exc c)),S1,(r'.mono le).set (.exc Bi ho) i,s2,((CY.later A (l'.trans le)).seq λf2 S2 A=>?_)⟩
    cases f2 with
    | nx e2=>exact λP R m Y Z r2=>A P R _ (l'.trans (le.trans Y)) Z (r2.forget i)
    | bk e2=>exact λP R m Y Z r2=>A P R _ (l'.trans (le.trans Y)) Z (r2.forget i)
    | ct e2=>exact λP R m Y Z r2=>A P R _ (l'.trans (le.trans Y)) Z (r2.forget i)
    | rt d=>exact λP R x2 Y Z r2=>A P R x2 (l'.trans (le.trans Y)) Z r2
    | ex c' e2=>exact A.elim
   ·exact A.elim⟩
 refine wpAny_Try_except (E2 run (λf s1 q=>?_) λe s1 q=>?_)
 ·-- the body went through
  cases f with
  | next=>
   obtain⟨j,Q,J,z⟩:=q;exact KL ⟨j,Q,(Inv.pinOut (X:=X.p pn) J.without).with _,z⟩
  | brk=>
   obtain⟨j,Q,J,z⟩:=q;exact⟨j,Q,(Inv.pinOut (X:=X.p pn) J.without).with _,z⟩
  | cont=>
   obtain⟨j,Q,J,z⟩:=q;exact⟨j,Q,(Inv.pinOut (X:=X.p pn) J.without).with _,z⟩
  | ret u=>
   obtain⟨v,j,Q,J,r,z⟩:=q;exact⟨v,j,Q,(Inv.pinOut (X:=X.p pn) J.without).with _,r,z⟩
 ·-- an exception is caught
  obtain⟨B,C,j,Q,rfl,J,x,hC,w⟩:=q
  refine V9 (X:=X.p (pn++L)) J O1 J.ok.frames x (λo z=>z) λh1 J1 x1=>?_
  refine Nq (X:=X.p (pn++L)) (s:={ s1 with heap:=h1 }) none J1 O1 x1 (by simp) λh2 J2 x2=>?_
  refine wpAny_handleBy_cons (codeAny_handlers_test ?_) (by intro z;cases z);have J2s:=J2.suite B;refine PD (X:=(X.p (pn++L)).suite B) J2s hg A ?_ xg;have x2':=x2;obtain⟨n1,n2,oe,vs,a0,g1,g2,⟨g0,g3⟩,_⟩:=x2';refine ZJ (Ψ C hC) J2.kIn g1 g2 ?_;refine codeAny_handlers_suite_as ?_
  refine Nq (X:=X.p (pn++L)) (s:={ s1 with heap:=h2 }) none J2 O1 x2 (by simp) λh3 J3 x3=>?_
  obtain⟨n1,n2,oe,vs,a0,g1,g2,⟨g0,g3⟩,_⟩:=x3;have J4:=J3.track n1 n2 g1 g3;refine R3 (X:=(X.p (pn++L)).suite B) (v:=.ref B) (J4.suite B) hN hi (.inl T) rfl (λs5 J5=>?_) (.inr T)
  refine E2 (hh (pn++L) B [] s5 _ _ DS J5 (w B oe _ n1 ⟨g2,g0,vs,g3⟩)) (λf s6 q=>?_) λ_ _ z=>z.elim
  have ok:(X.p (pn++L)).Ok:=J.ok
  cases f with
  | next=>
   obtain⟨σ6,H6,J6,z⟩:=q
   exact Nk (X:=X.p (pn++L)) (J6.unsuite ok) hN hi T λs7 J7=>⟨_,H6,(Inv.pinOut (X:=X.p pn) J7).with _,z⟩
  | brk=>
   obtain⟨σ6,H6,J6,z⟩:=q
   exact Nk (X:=X.p (pn++L)) (J6.unsuite ok) hN hi T λs7 J7=>⟨_,H6,(Inv.pinOut (X:=X.p pn) J7).with _,z⟩
  | cont=>
   obtain⟨σ6,H6,J6,z⟩:=q
   exact Nk (X:=X.p (pn++L)) (J6.unsuite ok) hN hi T λs7 J7=>⟨_,H6,(Inv.pinOut (X:=X.p pn) J7).with _,z⟩
  | ret u=>
   obtain⟨v,σ6,H6,J6,r,z⟩:=q
   exact Nk (X:=X.p (pn++L)) (J6.unsuite ok) hN hi T λs7 J7=>⟨v,_,H6,(Inv.pinOut (X:=X.p pn) J7).with _,r,z⟩
end
def HB(n:Nat)(ds:List D):Lo:=ds.map some++Ak (n - ds.length) none
def Y2{K}{ρ}{H}{N}{ds}{j}(r:A3 K ρ H ds j):Fj K ρ H (HB N.length ds) (start N j):=by
 refine⟨by simp[HB,start,r.length],λi d q=>?_⟩;unfold HB at q;unfold start
 by_cases g:i < ds.length
 ·rw[Ab (by simpa using g),Ao]at q
  rw[Ab (by rw[AG,<-r.length];exact g),Ao]
  cases e:ds[i]? with
  | none=>rw[e]at q;cases q
  | some o=>
   rw[e]at q;cases q;obtain⟨v,l,m⟩:=r.get e;exact⟨v,by rw[l];rfl,m⟩
 ·rw[BG (by simpa using g),Dj]at q
  split at q <;> cases q
def FA(n:Nat)(mb:MS)(ds:List D)(S:Sto):Res D:=(okR (mb (HB n ds) S)).bind λf g=>match f with
 | .rt d=>.ok d g
 | .nx _=>.ok .non g
 | .ex c _=>.err c g
 | _=>.bad
section
variable{P:Bq}{w:CQ}{K:AJ}{mg:Str->Option AI}{base:CZ}
def si{x m}{st}{f}{fd}{N ps}{k n}(F:Fun K x m st f fd)(Sc:CI N ps (BP st))(hn:ps.length=n){mb}
  (xT:∀(R:AI) (A:B5) (j:List Env) (s:AM) (H:Hp) (E:XK),Ib k (A.deeper (OK m (BP st) s.heap.objs.size f R))->∀pn Z,GSs ((WP (CXG P w) P w K mg base N m (BP st) f R A j s H E).w' pn Z) Z (JJ st) mb) :
  EZ P w K mg base (CXG P w) (k+1) f fd ps (spM K n (FA N.length mb)):=by
 obtain⟨oc,od,kV,doc,pm,an,R,ct,yJ,rfl,lk,yg⟩:=F.ex
 refine vW lk yg Sc (λvs H Q E h=>by rw[hn];exact h.len) λA j s H vs Q E U h=>?_
 obtain⟨ρ,ds,S,h1,h2,h3,o⟩:=h;have O:LF (WP (CXG P w) P w K mg base N m (BP st) f R A j s H E):=⟨rfl,rfl,rfl⟩;have hb:=xT R A j s H E U [] (λc _ B=>E (.ref c) none B);refine⟨gS K (λc _ B=>E (.ref c) none B) mb,λζ X σ B D I q=>E2 (hb ζ X σ B D (I.with _) q) (λfl s1 z=>?_) λe s1 z=>?_,ρ,_,S,Y2 h2,h3,?_⟩
 ·cases fl with
  | next=>obtain⟨g,G,J,z⟩:=z;exact⟨g,G,J.without,z⟩
  | brk=>obtain⟨g,G,J,z⟩:=z;exact⟨g,G,J.without,z⟩
  | cont=>obtain⟨g,G,J,z⟩:=z;exact⟨g,G,J.without,z⟩
  | ret u=>obtain⟨v,g,G,J,r,z⟩:=z;exact⟨v,g,G,J.without,r,z⟩
 ·refine XE.leave O z λea C g G s2 e1 J x w=>⟨ea,C,G,e1,J.os,J.bare,J.base,J.hok,?_,w⟩
  obtain⟨n1,n2,oe,Lf,a0,g1,g2,g3,g4,g5⟩:=x;refine⟨n1,n2.1,oe,Lf,a0,g1,g2,g3,g4,?_⟩
  rcases g5 with z | ⟨T,oT,ts,fl,hf,h1,ne,m1,m2,r⟩
  ·exact .inl z
  ·exact .inr ⟨T,oT,ts,fl,hf,h1,ne,m1,m2.1,r⟩
 ·unfold FA at o
  cases U:mb (HB N.length ds) S with
  | bad=>rw[U]at o;exact o.elim
  | err c S'=>rw[U]at o;exact o.elim
  | ok fl S'=>
   rw[U]at o
   cases fl with
   | nx Y=>exact λL B g l X r=>o L B .non l X .non
   | rt d=>exact o
   | bk Y=>exact o.elim
   | ct Y=>exact o.elim
   | ex c Y=>exact λL B g l X r=>o L B l X
end
section
variable{X:Cx}
noncomputable def intOp(C:Int->Int->Prop)[∀i j,Decidable (C i j)](g:Int->Int->D):D->D->Sto->Res D
 | .int i,.int j,S=>if C i j then .ok (g i j) S else .bad
 | _,_,_=>.bad
def jI[∀i j,Decidable (C i j)](h:intOp C g a b S=.ok d l):∃i j,a=.int i/\b=.int j/\C i j/\d=g i j/\l=S:=by
 unfold intOp at h;split at h
 ·split at h
  ·rename_i i j _ m
   cases h;exact⟨_,_,rfl,rfl,m,rfl,rfl⟩
  ·cases h
 ·cases h
def SK[∀i j,Decidable (C i j)](l:∀ρ H i j,CB X.K ρ H (g i j) (v i j))(h:OpR X f (rI C v)):OpR X f (rD X.K (intOp C g)):=h.imp<|by
 rintro x y H Q ⟨ρ,S,a,b,d,E,m,o,s,A,k⟩
 obtain⟨i,j,rfl,rfl,B,rfl,rfl⟩:=jI A;cases o;cases s;exact⟨i,j,rfl,rfl,B,k ρ H _ .refl m (l _ _ _ _)⟩
def O6(l:∀ρ H i j,CB X.K ρ H (g i j) (v i j))(h:OpR X f (rI0 v)):OpR X f (rD X.K (intOp (λ_ _=>True) g)):=
 SK (C:=λ_ _=>True) l (h.imp λx y H Q ⟨i,j,m,o,_,q⟩=>⟨i,j,m,o,q⟩)
instance(i j:Int):Decidable (kC i j):=inferInstanceAs (Decidable (_/\_))
instance(i j:Int):Decidable (oY i j):=inferInstanceAs (Decidable (_/\_/\_))
instance(i j:Int):Decidable (YF i j):=inferInstanceAs (Decidable (_∨_))
abbrev cA:=intOp (λ_ _=>True) λi j=>.int (i - j)
abbrev Q6:=intOp YF λi j=>.int (i * j)
abbrev Jg:=intOp kC λi j=>.int (i / j)
abbrev Im:=intOp (λ_ j=>0 < j) λi j=>.int (i % j)
abbrev mP:=intOp oY λi j=>.int (i ^ j.toNat)
abbrev ltD:=intOp (λ_ _=>True) λi j=>.bl (decide (i < j))
abbrev leD:=intOp (λ_ _=>True) λi j=>.bl (decide (i<=j))
abbrev gtD:=intOp (λ_ _=>True) λi j=>.bl (decide (j < i))
abbrev geD:=intOp (λ_ _=>True) λi j=>.bl (decide (j<=i))
def V7:OpR X (DZ .Sub) (rD X.K cA):=O6 (λ_ _ _ _=>.int _) rQ
def OV:OpR X (DZ .Mult) (rD X.K Q6):=SK (λ_ _ _ _=>.int _) rT
def HJ:OpR X (DZ .FloorDiv) (rD X.K Jg):=SK (λ_ _ _ _=>.int _) nB
def Ec:OpR X (DZ .Mod) (rD X.K Im):=SK (λ_ _ _ _=>.int _) rW
def iU:OpR X (DZ .Pow) (rD X.K mP):=SK (λ_ _ _ _=>.int _) rS
def Xb:OpR X (CJ .Lt) (rD X.K ltD):=O6 (λ_ _ _ _=>.bl _) u5
def iW:OpR X (CJ .LtE) (rD X.K leD):=O6 (λ_ _ _ _=>.bl _) u6
def iX:OpR X (CJ .Gt) (rD X.K gtD):=O6 (λ_ _ _ _=>.bl _) u7
def iY:OpR X (CJ .GtE) (rD X.K geD):=O6 (λ_ _ _ _=>.bl _) u8
noncomputable def E5:D->D->Sto->Res D
 | .int i,.int j,S=>.ok (.int (i+j)) S
 | .tup g,.tup m,S=>if g.length+m.length<=sizeLine then .ok (.tup (g++m)) S else .bad
 | .ref l,.ref b,S=>match S[l]?,S[b]? with
  | some (.lst g),some (.lst m)=>if g.length+m.length<=sizeLine then .ok (.ref S.length) (S++[.lst (g++m)])else .bad
  | _,_=>.bad
 | _,_,_=>.bad
def ur(K:AJ):R2:=λx y H Q=>∃a b g j,x=.ref a/\y=.ref b/\H a=some (.tup g)/\H b=some (.tup j)/\g.length+j.length<=sizeLine /\
 (g=[]->Q (.ref b) H)/\(j=[]->Q (.ref a) H)/\(∀p,H p=none->Q (.ref p) (upd H p (.tup (g++j))))
def nD:OpR X (DZ .Add) (ur X.K):=by
 intro J s L H x y v u Q I N O h;obtain⟨a,b,xs,o,rfl,rfl,A,hb,P,R,S,T⟩:=h;cases N;cases O;obtain⟨B,U,Y,_⟩:=I.tuple (a:=a) (xs:=xs) (.inl (.inl A));obtain⟨Z,r2,p2,_⟩:=I.tuple (a:=b) (xs:=o) (.inl (.inl hb))
 by_cases j:xs=[]
 ·obtain⟨⟨cls,dd,data,sl⟩,C,E,n,hd⟩:=id Y
  obtain⟨⟨G,l,data2,m⟩,g,hc2,n2,hd2⟩:=id p2;simp only at E hd hc2 hd2;subst E hd hc2 hd2;have hi:B=[]:=U.nil_iff.mpr j
  exact e8 ⟨_,C,rfl⟩ ⟨_,g,rfl⟩ VD bQ LO Kr (KM _ _)
   (tuple_addW0 a b B.toArray Z.toArray n n2 dd l sl m (by simp[hi])) ⟨C,g,⟨.ref b,H,I,rfl,R j⟩⟩
 ·exact nC J s L H (.ref a) (.ref b) _ _ Q I rfl rfl ⟨a,b,xs,o,rfl,rfl,.inl (.inl A),.inl (.inl hb),j,P,S,λ_ p hp=>T p hp⟩
def A3.nil_of{K}{ρ}{H}{xs}{g}(r:A3 K ρ H xs g)(e:g=[]):xs=[]:=by
 subst e;cases r;rfl
def DK:OpR X (DZ .Add) (rD X.K E5):=(rZ.or (nD.or rY)).imp<|by
 rintro x y H Q ⟨l,S,a,b,d,S',j,Z,I,g,k⟩
 cases Z with
 | int i=>
  cases I <;> first | (cases g;done) | skip
  cases g;exact .inl ⟨_,_,rfl,rfl,k l H _ .refl j (.int _)⟩
 | @tup O a1 A B s=>
  cases I with
  | @tup P b1 ws R C=>
   unfold E5 at g;dsimp only at g;split at g
   ·rename_i J
    cases g;refine .inr (.inl ⟨_,_,_,_,rfl,rfl,B,R,by rw[<-s.length,<-C.length];exact J,λe=>?_,λe=>?_,λp E=>?_⟩)
    ·rw[s.nil_of e,kZ]at k
     exact k l H _ .refl j (.tup R C)
    ·rw[C.nil_of e,BI]at k
     exact k l H _ .refl j (.tup B s)
    ·obtain⟨L,G⟩:=Fv (ho:=.tup (A++ws)) j E
     exact k l _ _ G L (.tup Bi ((s.append C).mono G))
   ·cases g
  | _=>cases g
 | @ref n a1 hn=>
  cases I with
  | @ref m b1 yf=>
   unfold E5 at g;dsimp only at g;split at g
   ·rename_i O P B s
    split at g
    ·rename_i J
     cases g;obtain⟨A,e1,T⟩:=j.ob _ _ _ B hn;obtain⟨U,e2,Y⟩:=j.ob _ _ _ s yf;refine .inr (.inr ⟨_,_,_,_,rfl,rfl,e1,e2,by rw[<-T.length,<-Y.length];exact J,λp E=>?_⟩);have le:Le X.K l H (l++[p]) (upd H p (.lst (A++U))):=Le.alloc E;obtain⟨L,G,N⟩:=j.alloc (ho:=.lst (A++U)) (o:=.lst (O++P)) E ⟨_,Bi,(T.append Y).mono le⟩;exact k _ _ _ G L (.ref N)
    ·cases g
   ·cases g
  | _=>cases g
 | _=>cases g
def ixD:D->D->Sto->Res D:=λa b S=>match Ht a S,b with
 | some g,.int i=>match atI g i with
  | some d=>.ok d S
  | none=>.bad
 | _,_=>.bad
def oK{K}{ρ}{H}{ds}{g}{i}{d}(r:A3 K ρ H ds g)(h:atI ds i=some d):∃v,atI g i=some v/\CB K ρ H d v:=by
 unfold atI at h ⊢;rw[<-r.length]
 cases l:ixN ds.length i with
 | none=>rw[l]at h;cases h
 | some j=>
  rw[l]at h;exact r.get h
def vA:IxR X (rD X.K ixD):=(ix_list.or sH).imp<|by
 rintro x y H Q ⟨l,S,a,b,d,G,j,A,B,g,k⟩
 unfold ixD at g;split at g
 ·rename_i I i C
  split at g
  ·rename_i J hd
   cases g;cases B;obtain⟨p,m,rfl,E,sq⟩:=RN j A C;obtain⟨v,o,s⟩:=oK E hd
   rcases sq with sq | sq
   ·exact .inl ⟨p,m,_,v,rfl,rfl,sq,o,k l H v .refl j s⟩
   ·exact .inr ⟨p,m,_,v,rfl,rfl,sq,o,k l H v .refl j s⟩
  ·cases g
 ·cases g
def dF(neg:Bool)(x y:D)(S:Sto):Res D:=match y with
 | .non=>match x with
  | .non=>.ok (.bl (!neg)) S
  | _=>.ok (.bl neg) S
 | _=>.bad
def ZG:OpR X (CJ .Is) (rD X.K (dF false)):=rX.imp<|by
 rintro x y H Q ⟨j,S,a,b,d,s,l,m,o,g,k⟩
 cases o <;> first | (cases g;done) | skip
 refine⟨rfl,?_⟩
 cases m <;> (cases g;exact k j H _ .refl l (.bl _))
end
def mQ(f:List D->Sto->Res D)(m:ML):ME:=λe S=>(m e S).bind λg j=>okR (f g j)
section
variable{X:Cx}{E:EW}{e:Expr}{es:List Expr}{x:Str}{p pos:Pos}{ml:ML}{id T:String}{r:List V->Hp->VK->Prop}{f:List D->Sto->Res D}
def oV(K:AJ)(r:List V->Hp->VK->Prop)(f:List D->Sto->Res D):Prop:=∀l H S o q m d s (Q:VK),Cj K l S H->A3 K l H o m->(SqL K H q m∨SqT K H q m)->f o S=.ok d s ->
 (∀g j z,Le K l H g j->Cj K g s j->CB K g j d z->Q z j)->r [.ref q] H Q
def tN(K:AJ)(r:List V->Hp->VK->Prop)(f:List D->Sto->Res D):Prop:=∀l H S m o d s (Q:VK),Cj K l S H->A3 K l H m o->f m S=.ok d s ->
 (∀g j z,Le K l H g j->Cj K g s j->CB K g j d z->Q z j)->r o H Q
def vg(K:AJ)(r:List V->Hp->VK->Prop)(f:List D->Option (List D)):Prop:=∀l H S o q m es (Q:VK),Cj K l S H->A3 K l H o m->(SqL K H q m∨SqT K H q m)->f o=some es ->
 (∀g j p s,Le K l H g j->Cj K g S j->A3 K g j es s->j p=some (.lst s)->(∀n:Nat,g[n]?≠some p)->H p=none->Q (.ref p) j)->r [.ref q] H Q
def PR(s:HX X (.builtin id) r)(A:oV X.K r f)(B:Gl X x)(g:X.mg x=none)(C:FX x=some (.builtin id))(h:GQ X E e ml)(G:x≠"__name__":=by decide) (I:(x==("__debug__" : Str))=false:=by decide)
  (o:AQ [e] X.env=(false,B1 e X.env) :: AQ [] X.env:=by rfl):GE X E (.Call (.Name x p) [e] [] pos) (mQ f ml):=(Kz s B g C (Du h GF o) G I o rfl).imp<|by
 rintro σ H Q ⟨J,l,S,L,N,g⟩
 refine⟨J,l,S,L,N,g.seq λO P g j R q U Y Z r1 sq=>?_⟩;obtain⟨d,S',e,k⟩:=g.okR
 exact A j R P O q U d S' Q Z r1 sq e λm H' z l' s' r'=>k m H' z (Y.trans l') s' r'
def aw(o:HX X (.builtin id) r)(s:tN X.K r f)(A:Gl X x)(g:X.mg x=none)(B:FX x=some (.builtin id))(h:GA X E (e :: es) ml)(C:x≠"__name__":=by decide) (G:(x==("__debug__" : Str))=false:=by decide)
  (I:AQ (e :: es) X.env=(false,B1 e X.env) :: AQ es X.env:=by rfl) (J:(DH pos (AQ es X.env)).any (·.1)=false:=by rfl):GE X E (.Call (.Name x p) (e :: es) [] pos) (mQ f ml):=(Kz o A g B h C G I J).imp<|by
 rintro σ H Q ⟨L,l,S,N,O,g⟩
 refine⟨L,l,S,N,O,g.seq λP R g j U Y Z s1 r1=>?_⟩;obtain⟨d,S',e,k⟩:=g.okR
 exact s j U R P Y d S' Q s1 r1 e λm H' z l' s' r'=>k m H' z (Z.trans l') s' r'
def mN(f:List D->Option (List D))(m:ML):ML:=λe S=>(m e S).bind λg j=>match f g with
 | some es=>.ok es j
 | none=>.bad
def nW{f}(J:HX X (.type T) r)(L:vg X.K r f)(N:Gl X x)(g:X.mg x=none)(O:FX x=some (.type T))(h:GQ X E e ml)(j:x≠"__name__":=by decide) (P:(x==("__debug__" : Str))=false:=by decide)
  (A:AQ [e] X.env=(false,B1 e X.env) :: AQ [] X.env:=by rfl):GL X E (.Call (.Name x p) [e] [] pos) (mN f ml):=(P9 J N g O (Du h GF A) j P A rfl).imp<|by
 rintro σ H Q ⟨R,l,S,U,B,g⟩
 refine⟨R,l,S,U,B,g.seq λC Y g m Z q xs G I r1 sq=>?_⟩
 cases o:f C with
 | none=>rw[o]at g;exact g.elim
 | some es=>
  rw[o]at g
  exact L m Z Y C q xs es Q I r1 sq o λs H' p ys l' s' r' hp j zS=>g s H' p ys (G.trans l') s' r' hp j (G.back B I zS)
def vI(ds:List D)(S:Sto):Res D:=.ok (.int ds.length) S
def qg:oV X.K (λxs H Q=>∃p ys,xs=[.ref p]/\(SqL X.K H p ys∨SqT X.K H p ys)/\Q (.int ys.length) H) vI:=λg H S o q xs d s Q j l sq m k=>by
 cases m;exact⟨q,xs,rfl,sq,k g H _ .refl j (by rw[l.length];exact .int _)⟩
def OF:List D->Sto->Res D
 | [.int i,.int j],S=>.ok (.int (if j < i then j else i)) S
 | _,_=>.bad
def Ql:List D->Sto->Res D
 | [.int i,.int j],S=>.ok (.int (if j > i then j else i)) S
 | _,_=>.bad
def oR:tN X.K (λxs H Q=>∃i j,xs=[.int i,.int j]/\Q (.int (if j < i then j else i)) H) OF:=λl H S s xs d A Q m o g k=>by
 unfold OF at g;split at g
 ·cases g
  cases o with
  | cons a t=>
   cases t with
   | cons b t=>
    cases t;cases a;cases b;exact⟨_,_,rfl,k l H _ .refl m (.int _)⟩
 ·cases g
def oS:tN X.K (λxs H Q=>∃i j,xs=[.int i,.int j]/\Q (.int (if j > i then j else i)) H) Ql:=λl H S s xs d A Q m o g k=>by
 unfold Ql at g;split at g
 ·cases g
  cases o with
  | cons a t=>
   cases t with
   | cons b t=>
    cases t;cases a;cases b;exact⟨_,_,rfl,k l H _ .refl m (.int _)⟩
 ·cases g
def SY(ds:List D):Option (List D):=some ds
def lY:vg X.K (λxs H Q=>∃p ys,xs=[.ref p]/\(SqL X.K H p ys∨SqT X.K H p ys)/\∀l,H l=none->Q (.ref l) (upd H l (.lst ys))) SY:=λo H S C q xs es Q j s sq A k=>by
 cases A;refine⟨q,xs,rfl,sq,λl g=>?_⟩;obtain⟨B,m⟩:=Fv (ho:=.lst xs) j g;exact k o _ l xs m B (s.mono m) Bi (λn e=>j.notIn g e) g
end
noncomputable def Ee(X:Cx)(scope:Tf)(N':List Str)(l:List (Str×AW))(C:AW)(g:AM)(j:Hp)(ex:List AW)(pn:List (AW×Obj)):Cx where
 prog:=X.prog
 w:=X.w
 K:=X.K
 mg:=X.mg
 base:=X.base
 A:=X.A
 N:=N'
 s₀:=g
 H₀:=j
 env:=compEnvC scope l C X.env
 outer:=X.stack
 stack:=X.stack
 ex:=ex
 fn:=λx=>scope.names.lookup x==some .cell
 calm:=X.calm
 pn:=pn
 xe:=λ_ _=>False
def WR:∀(names:List (Str×Pr)) (g:List (Str×AW)),(∀y∈names,y.2=.free->∃c,env.cells.lookup y.1=some c)->(∀n c,g.lookup n=some c->env.cells.lookup n=some c) ->
  ∃l,(forIn names g (λ(x:Str×Pr) (cs:List (Str×AW))=>match x with | (name,kind)=>if (kind==GR)=true then do let a <-cellOf env name;pure (IT ((name,a) :: cs))else pure (IT cs)):Sem (List (Str×AW)))=pure l /\
   (∀n c,l.lookup n=some c->env.cells.lookup n=some c)/\(∀n c,g.lookup n=some c->∃J,l.lookup n=some J)/\∀y∈names,y.2=.free->∃c,l.lookup y.1=some c
 | [],g,_,s=>⟨g,rfl,s,λn c h=>⟨c,h⟩,λ_ h=>nomatch h⟩
 | (n,k) :: r,g,h,s=>by
  rw[Mm]
  by_cases E:k=.free
  ·subst E
   obtain⟨c,I⟩:=h (n,.free) Ax rfl
   obtain⟨l,e,G,A,H⟩:=WR r ((n,c) :: g) (λy j=>h y (AY _ j)) (λm d o=>by
    rw[Bd]at o
    cases B:(m==n)with
    | true=>rw[B]at o;cases o;rw[eq_of_beq B];exact I
    | false=>rw[B]at o;exact s m d o)
   have L:cellOf env n=pure c:=by unfold cellOf;rw[I]
   refine⟨l,?_,G,λm d o=>A m (if m==n then c else d) ?_,λy j C=>?_⟩
   ·simp only[beq_self_eq_true,if_true,L,pure_bind]
    exact e
   ·rw[Bd]
    cases B:(m==n)with
    | true=>rfl
    | false=>exact o
   ·rcases A2.mp j with rfl | j
    ·exact A n c (by rw[Bd,beq_self_eq_true])
    ·exact H y j C
  ·have hb:(k==GR)=false:=by simpa using E
   obtain⟨l,e,G,A,H⟩:=WR r g (λy j=>h y (AY _ j)) s;refine⟨l,?_,G,A,λy j C=>?_⟩
   ·simp only[hb,BA,if_false,pure_bind]
    exact e
   ·rcases A2.mp j with rfl | j
    ·exact(E C).elim
    ·exact H y j C
def bG(h:∀y∈scope.names,y.2=.free->∃c,env.cells.lookup y.1=some c):∃g,closureFor scope env=pure g /\
  (∀n c,g.lookup n=some c->env.cells.lookup n=some c)/\∀y∈scope.names,y.2=.free->∃c,g.lookup y.1=some c:=by
 obtain⟨g,e,j,_,l⟩:=WR scope.names [] h (λn c z=>by simp at z);refine⟨g,?_,j,l⟩;unfold closureFor;exact(congrArg (λz=>z >>= λm=>pure m) e).trans (by rw[pure_bind])
def Zl(X:Cx)(g:List Expr)(t:TT):Prop:=
 ∀(l:List (AW×Obj)) (s:AM) (j:St) (H:Hp) (Q:Bool->Hp->Prop),Inv X l j H s->t j H Q ->
  Ag (Ah X.prog X.w) X.A (forIn g true λc r=>if r=true then do let ok <-YX c X.env (B1 c X.env);pure (IT ok)else pure (IT r)) (TP X l j Q) X.xe s
def iG:Zl X [] (λ_ H Q=>Q true H):=λg s j H Q I h=>wpAny_tests_nil ⟨H,I,h⟩
def iF(h:PT X c t):Zl X [c] t:=λg s j H Q I q=>wpAny_tests_one (h g s j H Q I q)
structure Og(X:Cx)(scope:Tf)(own N':List Str):Prop where
 kind:scope.kind=.function
 names:∀y∈scope.names,y.2=.local->scope.names.lookup y.1=some .local
 free:∀y∈scope.names,y.2=.free->X.env.kindOf y.1=some .cell∨X.env.kindOf y.1=some .free
 len:N'.length=own.length+X.N.length
 up:∀i x,N'[own.length+i]?=some x->Vis (Kp scope X.env) x->(X.N[i]?=some x/\Vis X.env.scope x/\((Kp scope X.env).names.lookup x=some .cell∨(Kp scope X.env).names.lookup x=some .free)/\X.env.kindOf x≠some .local)/\(x,DB)∉scope.names/\(x,GR)∈scope.names
 vis:∀x,((Kp scope X.env).names.lookup x=some .cell∨(Kp scope X.env).names.lookup x=some .free)->(x,GR)∈scope.names∨(x,DB)∈scope.names
def F3:∀(names:List (Str×Pr)) (n:Nat) (j:List (Str×AW)) (x:Str) (c:AW),(CV n names j).lookup x=some c ->
  ((x,DB)∈names/\n<=c)∨j.lookup x=some c
 | [],_,_,_,_,h=>.inr h
 | (y,k) :: r,n,j,x,c,h=>by
  unfold CV at h;split at h
  ·rename_i l
   have l:k=.cell:=by simpa using l
   subst l
   rcases F3 r (n+1) _ x c h with⟨g,m⟩ | g
   ·exact .inl ⟨AY _ g,Qw m⟩
   ·rw[Bd]at g
    cases hb:x==y with
    | true=>rw[hb]at g;cases g;rw[beq_iff_eq.mp hb];exact .inl ⟨Ax,AL _⟩
    | false=>rw[hb]at g;exact .inr g
  ·rcases F3 r n j x c h with⟨g,m⟩ | g
   ·exact .inl ⟨AY _ g,m⟩
   ·exact .inr g
def DX:∀(names:List (Str×Pr)) (n:Nat) (g:List (Str×AW)) (x:Str),(∃c,g.lookup x=some c)->∃c,(CV n names g).lookup x=some c
 | [],_,_,_,h=>h
 | (y,k) :: r,n,g,x,h=>by
  unfold CV;split
  ·refine DX r (n+1) _ x ?_
   rw[Bd]
   cases hb:x==y with
   | true=>exact⟨_,rfl⟩
   | false=>exact h
  ·exact DX r n g x h
def EX:∀(names:List (Str×Pr)) (n:Nat) (g:List (Str×AW)) (x:Str),(x,DB)∈names->∃c,(CV n names g).lookup x=some c/\n<=c
 | (y,k) :: r,n,g,x,h=>by
  unfold CV
  by_cases l:(x,DB)∈r
  ·split
   ·obtain⟨c,j,o⟩:=EX r (n+1) ((y,n) :: g) x l
    exact⟨c,j,Qw o⟩
   ·exact EX r n g x l
  ·rcases A2.mp h with e | e
   ·cases e
    rw[qX (show(DB==DB)=true from rfl)];obtain⟨c,m⟩:=DX r (n+1) ((y,n) :: g) y ⟨n,by rw[Bd,beq_self_eq_true]⟩
    rcases F3 r (n+1) _ y c m with⟨j,_⟩ | j
    ·exact(l j).elim
    ·rw[Bd,beq_self_eq_true]at j
     cases j;exact⟨n,m,AL _⟩
   ·exact(l e).elim
def N0(m:(x,DB)∉names)(h:g.lookup x=some c):(CV n names g).lookup x=some c:=by
 obtain⟨o,l⟩:=DX names n g x ⟨c,h⟩
 rcases F3 names n g x o l with⟨j,_⟩ | j
 ·exact(m j).elim
 ·rw[h]at j;cases j;exact l
def Kh:∀(names:List (Str×Pr)) (n:Nat) (g:List (Str×AW)),(∀x c,g.lookup x=some c->c < n)->(∀x y c,g.lookup x=some c->g.lookup y=some c->x=y) ->
  ∀x y c,(CV n names g).lookup x=some c->(CV n names g).lookup y=some c->x=y
 | [],_,_,_,h=>h
 | (z,k) :: r,n,g,l,h=>by
  unfold CV;split
  ·have j:∀x c,((z,n) :: g).lookup x=some c->(x=z/\c=n)∨g.lookup x=some c:=λx c q=>by
    rw[Bd]at q
    cases hb:x==z with
    | true=>rw[hb]at q;cases q;exact .inl ⟨beq_iff_eq.mp hb,rfl⟩
    | false=>rw[hb]at q;exact .inr q
   refine Kh r (n+1) _ (λx c q=>?_) λx y c s A=>?_
   ·rcases j x c q with⟨_,rfl⟩ | e
    ·exact Cc _
    ·exact Dm (l x c e)
   ·rcases j x c s with⟨e,B⟩ | e <;> rcases j y c A with⟨m,o⟩ | m
    ·rw[e,m]
    ·subst B;exact zX (l _ _ m) (Db _)
    ·subst o;exact zX (l _ _ e) (Db _)
    ·exact h x y c e m
  ·exact Kh r n g l h
def Kg:∀(names:List (Str×Pr)) (h:CZ) (g:List (Str×AW)) (x:Str) (c:AW),(CV h.objs.size names g).lookup x=some c->g.lookup x=some c∨((FH h names).IsCell c none/\h.objs.size<=c)
 | [],_,_,_,_,q=>.inl q
 | (y,k) :: r,h,g,x,c,q=>by
  unfold CV at q;unfold FH;split at q
  ·rename_i j
   rw[qX j];have:=Kg r (h.push { cls:=.type "cell",data:=.cell none }) ((y,h.objs.size) :: g) x c (by rw[B0];exact q)
   rcases this with e | ⟨e,l⟩
   ·rw[Bd]at e
    cases hb:x==y with
    | true=>
     rw[hb]at e;cases e;exact .inr ⟨⟨_,Wr _ _ _ _ (AR _ rfl),rfl⟩,AL _⟩
    | false=>rw[hb]at e;exact .inl e
   ·exact .inr ⟨e,by rw[B0]at l;exact Qw l⟩
  ·rename_i j
   rw[qY j];exact Kg r h g x c q
def Ym
  (h:Q (newEnv scope s.heap.objs.size globals (CV (s.heap.push { cls:=.type "dict",data:=.dict #[] }).objs.size scope.names B) j none .none (some g) YZ) { s with heap:=FH (s.heap.push { cls:=.type "dict",data:=.dict #[] }) scope.names }) :
  Ag M A (YW scope globals B [] j none .none (some g)) Q E s:=by
 simp only[YW,Zt,if_true];refine AA (wpAny_alloc ?_);refine AA (wpAny_layCells _ (λo l cells=>by cases m:l==DB <;> simp[m]) _ _ _ _ ?_);rw[N9];exact AA (AE (AE h))
section
def Zb(O:Og X scope own N')(I:Inv X ζ R P B)(G:∀b∈fp,Of X ζ P b)(yN:∀b∈fp,b < B.heap.objs.size)
  (g:∀n c,A.lookup n=some c->X.env.cells.lookup n=some c) (c2:∀y∈scope.names,y.2=.free->∃c,A.lookup y.1=some c)
  (S:B.heap.objs.size<=n) (E:∀x c,(CV n scope.names A).lookup x=some c->A.lookup x=some c∨(s.heap.IsCell c none/\n<=c)) (T:∀c,n<=c->H c=none)
  (U:B.heap.objs.size<=C) (hn:s.heap.Ns C m) (zg:s.os=B.os) (hg:Jo s.gens)
  (u:Un (frs X.stack) fp P H B.heap s.heap) (Y:HOk X.prog X.w H s.heap) (zC:H C=none) :
  Inv (Ee X scope N' (CV n scope.names A) C B P fp (X.pn++ζ)) [] (Ak own.length none++R) H s:=by
 have l:∀x c v,A.lookup x=some c->B.heap.IsCell c v->s.heap.IsCell c v:=by
  rintro x c v e ⟨o,Z,hd⟩
  obtain⟨sl,q⟩:=u.any Z (I.freeC x c (g x c e)) λz=>(G c z).2.2.2.2.1 x c (g x c e) rfl
  exact⟨_,q,hd⟩
 have clt:∀x c,A.lookup x=some c->c < n:=λx c e=>by
  obtain⟨v,z⟩:=I.cell x c (g x c e);exact Af z.lt S
 have ok':(Ee X scope N' (CV n scope.names A) C B P fp (X.pn++ζ)).Ok:=by
  refine⟨I.ok.mod,O.kind,I.ok.glob,I.ok.blt,U,Kh _ _ _ clt λx y c h1 h2=>I.ok.inj x y c (g x c h1) (g y c h2),λx hx=>?_,λx c z q=>?_,I.ok.hd,I.ok.frames,.inl rfl,λb hb=>?_,I.bs,Ap I.ok.bsz I.sz,λb o e hb=>?_,λb hb xn=>?_,I.stack,I.stkFree⟩
  ·rcases O.vis x hx with h | h
   ·exact DX _ _ _ _ (c2 _ h rfl)
   ·obtain⟨c,hc,_⟩:=EX scope.names n A x h
    exact⟨c,hc⟩
  ·have z:(scope.names.lookup x==some .cell)=true:=z
   obtain⟨c',J,hl⟩:=EX scope.names n A x (Dq (beq_iff_eq.mp z));have q:(CV n scope.names A).lookup x=some c:=q;rw[J]at q;cases q;exact Ap S hl
  ·refine⟨Al (Af (yN b hb) U),λx c e=>?_⟩
   rcases E x c e with e | ⟨_,e⟩
   ·exact(G b hb).2.2.2.2.1 x c (g x c e)
   ·exact FJ (Af (yN b hb) (Ap S e))
  ·obtain⟨_,_,_,z,_⟩:=G b hb
   rcases z with z | z
   ·exact I.ok.noex b o e z
   ·exact zX (Af (AZ (I.ok.bs b o e).1) z) (Db _)
  ·obtain⟨_,z1,z2,_⟩:=G b hb
   rcases A2.mp (I.stkSub b xn)with e | e
   ·exact z1 e
   ·exact z2 e
 refine⟨ok',zg,hg,u,⟨m,hn,λi x v e1 Q e3=>?_⟩,λx c e=>?_,zC,λx c e=>?_,λp hp=>?_,Y,?_⟩
 ·have hi:own.length<=i:=by
   apply MR
   intro wb;rw[Ab (by simpa using wb),Dj,qX wb]at Q;cases Q
  obtain⟨j,rfl⟩:∃j,i=own.length+j:=⟨i - own.length,by lia⟩
  rw[BG (by simp)]at Q
  have e2':R[j]?=some (some v):=by simpa using Q
  obtain⟨⟨n1,n2,n3,n4⟩,n5,n6⟩:=O.up j x e1 e3;obtain⟨m0,hn0,hl⟩:=I.loc;obtain⟨w',r,lk⟩:=hl j x v n1 e2' n2;refine⟨w',r,.inr ⟨n3,?_⟩⟩
  rcases lk with⟨k,_⟩ | ⟨_,c,hc,xm⟩
  ·exact(n4 k).elim
  ·obtain⟨c',J⟩:=c2 _ n6 rfl
   have e:=g x c' J;rw[hc]at e;cases e;exact⟨c,N0 n5 J,l x c _ J xm⟩
 ·rcases E x c e with e | ⟨e,_⟩
  ·obtain⟨v,z⟩:=I.cell x c (g x c e)
   exact⟨v,l x c v e z⟩
  ·exact⟨none,e⟩
 ·rcases E x c e with e | ⟨_,e⟩
  ·obtain⟨v,o,Z,hd⟩:=I.cell x c (g x c e)
   exact u.free c o Z (I.freeC x c (g x c e)) λz=>(G c z).2.2.2.2.1 x c (g x c e) rfl
  ·exact T c e
 ·have xD:p∈X.pn++ζ:=by
   have hp:p∈(X.pn++ζ)++[]:=hp;rwa [BI]at hp
  obtain⟨e,n,ne,nf,d⟩:=I.pin p xD
  have L:p.1∉frs X.stack:=λz=>(A2.mp (I.stkSub _ z)).elim ne nf
  have N:p.1∉fp:=λz=>(G _ z).2.2.2.2.2 p xD rfl
  exact⟨u.keep p.1 p.2 e n L N,u.free p.1 p.2 e n N,Al (Af (AZ e) U),L,d⟩
 ·show(Ak own.length none++R).length=N'.length
  rw[AK,NZ,I.len,O.len]
def gD(k:Nat)(L:TI)(g:TG)(tc:TT)(te:TE):TE:=λB H Q=>L B H λJ C=>∀p,C p=none->∃W:Nat->Nat->St->Hp->List V->Prop,(∃m,W 0 m (Ak k none++B) (upd C p (.lst [])) []) /\
 ∀i m s o l,W i m s o l->o p=some (.lst l)/\((J.stop i o/\Q (.ref p) o)∨(J.go i o/\l.length < sizeLine/\∀x E,J.yld i o x E->g x s E λj N=>tc j N λb G=>
  if b=true then te j G λy I=>I p=some (.lst l)/\∃A,A < m/\W (i+1) A j (upd I p (.lst (l++[y]))) (l++[y])else ∃A,A < m/\W (i+1) A j G l))
def df{X':Cx}{I ϖ iter:Expr}{L:List Expr}{pos:Pos}{J:It}{it p:AW}{tn:Nat->CZ->Prop}{g:TG}{tc:TT}{te:TE}{R:Result->AM->Prop}{Q:Hp->Prop}
  (hc:X'.calm=true) (hx:X'.xe=λ_ _=>False) (T:Zj X'.prog X'.w X'.K ϖ J fp it tn) (hg:PG X' ϖ g) (yO:Zl X' L tc) (he:PE X' I te)
  (W:Nat->Nat->St->Hp->List V->Prop) (Z:∀i m j l xs,W i m j l xs->l p=some (.lst xs)/\((J.stop i l/\Q l)∨(J.go i l/\xs.length < sizeLine/\∀x yK,J.yld i l x yK->g x j yK λG H2=>tc G H2 λb H3=>
   if b=true then te G H3 λy H4=>H4 p=some (.lst xs)/\∃C,C < m/\W (i+1) C G (upd H4 p (.lst (xs++[y]))) (xs++[y])else ∃C,C < m/\W (i+1) C G H3 xs)))
  (fin:∀j l s',Inv X' [] j l s'->Q l->R (.ok .next) s')
  {m0:Nat} {N:St} {H0:Hp} {s0:AM} (I0:Inv X' [] N H0 s0) (st0:tn 0 s0.heap) (f0:∀b∈fp,Of X' [] H0 b) (w0:W 0 m0 N H0 []) :
  Ih (Ah X'.prog X'.w) X'.A (.compLoop (.ListComp I [⟨ϖ,iter,L,0⟩] scope pos) 0 (.ref it) (.ref p) X'.env) R s0:=by
 have yh:∀{l:Hp},(∀b∈fp,l b=none)->∀b∈fp,Of X' [] l b:=λhn b hb=>⟨hn b hb,(f0 b hb).2⟩
 refine codeAny_loop rfl (λn s'=>∃i j l xs,Inv X' [] j l s'/\tn i s'.heap/\(∀b∈fp,l b=none)/\W i n j l xs) (λn s1 hI=>?_) m0 ⟨0,N,H0,[],I0,st0,λb hb=>(f0 b hb).1,w0⟩;obtain⟨i,B,H1,xs,I1,wo,fr1,w1⟩:=hI;show Ag _ X'.A ((compTurn (.ListComp I [⟨ϖ,iter,L,0⟩] scope pos) 0 (.ref it) (.ref p) X'.env).onRaise (λx=>do eD x X'.env;theTreesLotGoes x)) _ _ s1;refine wpAny_noted ?_;rw[compTurn_list]
 have up:∀{α:Type} {t:Sem α} {P:α->AM->Prop} {E:AI->AM->Prop} {s:AM},Ag (Ah X'.prog X'.w) X'.A t P X'.xe s->Ag (Ah X'.prog X'.w) X'.A t P E s:=λh=>E2 h (λ_ _ z=>z) λ_ _ z=>by rw[hx]at z;exact z.elim
 obtain⟨hp,ϝ⟩:=Z i n B H1 xs w1;refine AA (bM (AA ?_))
 rcases ϝ with⟨stop,q⟩ | ⟨go,hz,step⟩
 ·refine up (thn (T.done X' rfl rfl rfl hc i [] s1 B H1 X'.xe I1 (yh fr1) wo stop) λr s4 ⟨hr,I4⟩=>?_)
  subst hr;exact AE (fin B H1 s4 I4 q)
 ·refine up (thn (T.item X' rfl rfl rfl hc i [] s1 B H1 X'.xe I1 (yh fr1) wo go) λr s4 ⟨u,hr,h4⟩=>?_)
  subst hr;refine AA (up (thn h4 λ_ s5 ⟨x,H5,I5,r5,y5,yV,fr5⟩=>?_));have I5':=I5.pinned (yh fr5) (T.obj _ _ yV);refine AA (up (thn (hg _ s5 B H5 x u _ I5' r5 (step x H5 y5)) λ_ s6 ⟨O,H6,I6,q6⟩=>?_))
  have again:∀{S:AM} {H:St} {U:Hp} {ys:List V},Inv X' ([]++SE fp s5.heap) H U S->(∃C,C < n/\W (i+1) C H U ys)->∃m,m < n/\∃i j l xs,Inv X' [] j l S/\tn i S.heap/\(∀b∈fp,l b=none)/\W i m j l xs:=λ{S H U ys} Y ⟨C,hm,w7⟩=>by
   refine⟨C,hm,i+1,H,U,ys,Y.unpinned,T.keep _ _ _ yV λb hb o e=>(Y.pin (b,o) (Av _ (Av _ (Lp hb e)))).1,λb hb=>?_,w7⟩;obtain⟨o,e,d⟩:=T.obj _ _ yV b hb;exact(Y.pin (b,o) (Av _ (Av _ (Lp hb e)))).2.1
  refine AA (up (thn (yO _ s6 O H6 _ I6 q6) λok S ⟨U,Y,q7⟩=>?_))
  cases ok with
  | false=>
   rw[qY AV]at q7;exact AE ⟨rfl,again Y q7⟩
  | true=>
   rw[qX rfl]at q7;refine AA (AA (up (thn (he _ S O U _ Y q7) λyv s8 ⟨y,H8,I8,r8,hp8,q8⟩=>?_)));refine AA (up (thn (Uk (X:=X') _ s8 O H8 (.ref p) [y] (.ref p) [yv] (λv H9=>v=.non/\H9=upd H8 p (.lst (xs++[y]))) I8 rfl (.cons r8 .nil) ⟨p,xs,y,rfl,rfl,hp8,hz,rfl,rfl⟩) λv9 s9 ⟨v,H9,I9,r9,e9,e10⟩=>?_));subst e10;exact AE (AE ⟨rfl,again I9 q8⟩)
end
section
def U0(I:Inv X B L s j)(J:Inv (Ee X scope N' Y C j s fp (X.pn++B)) [] N l s')(O:j.heap.objs.size<=C)(P:∀b∈fp,Of X B s b)
  (A:C8 C s'.heap h'):Inv X B L l { s' with heap:=h' }:=by
 have E:∀b o,j.heap.get? b=some o->b≠C:=λb o e=>Al (Af (AZ e) O)
 have g:Un (frs X.stack) fp s l j.heap s'.heap:=J.base
 have u:Un (frs X.stack) fp s l j.heap h':=by
  refine⟨λb o e n hb m=>(A.2 b (E b o e)).trans (g.keep b o e n hb m),λb o e n hb m=>?_,g.free,λb o e m=>?_,g.tups,g.frzs,g.tbls⟩
  ·obtain⟨sl,q⟩:=g.slot b o e n hb m
   exact⟨sl,(A.2 b (E b o e)).trans q⟩
  ·obtain⟨Q,q⟩:=g.there b o e m
   exact⟨Q,(A.2 b (E b o e)).trans q⟩
 have H:l C=none:=J.free
 have G:HOk X.prog X.w l h':=λa o e=>(J.hok a o e).stay (λb u hb q=>(A.2 b λz=>by
  subst z
  rcases hb with z | z
  ·subst z;rw[H]at e;cases e
  ·rw[H]at z;cases z).trans q) (λ_ q=>q) λ_ _ q=>q
 exact I.call' (s':={ s' with heap:=h' }) (ch:=fp) J.os u G J.bare λb hb=>by
  obtain⟨_,R,Z,S,T,U⟩:=P b hb;exact⟨S,R,T,U⟩
def Sz{σ:St}{E:AI->AM->Prop}{Qf:AW->Hp->Prop}{RR:AI->AW->Result->AM->Prop}{it:AW}{J:It}{tn:Nat->CZ->Prop}(hc:X.calm=true)(Sc:Og X scope own N')
  (hg:∀H C l B ex pn,PG (Ee X scope N' H C l B ex pn) ϖ g) (yO:∀H C l B ex pn,Zl (Ee X scope N' H C l B ex pn) Z tc) (he:∀H C l B ex pn,PE (Ee X scope N' H C l B ex pn) elt te)
  (c1:∀n c,H.lookup n=some c->X.env.cells.lookup n=some c) (c2:∀y∈scope.names,y.2=.free->∃c,H.lookup y.1=some c)
  (Y:Inv X ζ σ I s2) (T:Zj X.prog X.w X.K ϖ J fp it tn) (w8:tn 0 s2.heap) (f2:∀b∈fp,Of X ζ I b)
  (q2:∀p,I p=none->∃W:Nat->Nat->St->Hp->List V->Prop,(∃m,W 0 m (Ak own.length none++σ) (upd I p (.lst [])) []) /\
   ∀i m L N xs,W i m L N xs->N p=some (.lst xs)/\((J.stop i N/\Qf p N)∨(J.go i N/\xs.length < sizeLine/\∀x yK,J.yld i N x yK->g x L yK λO I=>tc O I λb G=>
    if b=true then te O G λy j=>j p=some (.lst xs)/\∃m',m' < m/\W (i+1) m' O (upd j p (.lst (xs++[y]))) (xs++[y])else ∃m',m' < m/\W (i+1) m' O G xs)))
  (hRR:∀D C H L N s',s2.heap.objs.size<=C->Inv (Ee X scope N' H C s2 I fp (X.pn++ζ)) [] L N s'->Qf D N->RR (.ref D) C (.ok .next) s') :
  Ag (Ah X.prog X.w) X.A (newList []) (λacc s₃=>Ag (Ah X.prog X.w) X.A (YW scope X.env.globals H [] X.env.qual none .none (some X.env)) (λϞ s₄=>
   Ih (Ah X.prog X.w) X.A (.compStart (.ListComp elt [⟨ϖ,iter,Z,0⟩] scope pos) 0 (.ref it) acc { Ϟ with scope:=Kp scope X.env }) (RR acc Ϟ.locals) s₄) E s₃) E s2:=by
 have yN:∀b∈fp,b < s2.heap.objs.size:=λb hb=>by
  obtain⟨o,e,_⟩:=T.obj _ _ w8 b hb;exact AZ e
 refine BQ (Ym ?_);dsimp only;generalize S:s2.heap.push { cls:=.type "list",dict:=none,data:=.seq ([]:List AI).toArray }=G;generalize U:G.push { cls:=.type "dict",data:=.dict #[] }=j
 have hC:G.objs.size=s2.heap.objs.size+1:=by rw[<-S,B0]
 have hC4:j.objs.size=G.objs.size+1:=by rw[<-U,B0]
 have hDC:s2.heap.objs.size≠G.objs.size:=by rw[hC];exact Al (Cc _)
 have zj:s2.heap.objs.size<=G.objs.size:=by rw[hC];exact F9 _
 have ϟ:s2.heap.objs.size<=j.objs.size:=by rw[hC4];exact Nat.le_succ_of_le zj
 have Ϡ:∀b o,G.get? b=some o->(FH j scope.names).get? b=some o:=λb o e=>Wr _ _ _ _ (U▸AF _ e)
 have old:∀b o,s2.heap.get? b=some o->(FH j scope.names).get? b=some o:=λb o e=>Ϡ b o (S▸AF _ e)
 have wR:(FH j scope.names).get? s2.heap.objs.size=some { cls:=.type "list",dict:=none,data:=.seq ([]:List AI).toArray }:=Ϡ _ _ (S▸AR _ rfl)
 have P:(FH j scope.names).Ns G.objs.size λ_=>none:=by
  have:=(CZ.Ns.new G (.type "dict")).keeps (Wr scope.names (G.push { cls:=.type "dict",data:=.dict #[] }));rw[U]at this;exact this
 have hD:I s2.heap.objs.size=none:=Y.hok.fresh (AL _);have u:Un (frs X.stack) fp I (upd I s2.heap.objs.size (.lst [])) s2.heap (FH j scope.names):=Un.laid old (AL _) hD;have hok:HOk X.prog X.w (upd I s2.heap.objs.size (.lst [])) (FH j scope.names):=Y.hok.laid old (AL _) ⟨Ce _,[],0,.nil,wR⟩
 have hHn:∀c,s2.heap.objs.size < c->upd I s2.heap.objs.size (.lst []) c=none:=λc h=>by rw[Bk (FJ h)];exact Y.hok.fresh (Ml h)
 have zC:upd I s2.heap.objs.size (.lst []) G.objs.size=none:=hHn _ (by rw[hC];exact Cc _)
 have yb:∀x c,(CV j.objs.size scope.names H).lookup x=some c->H.lookup x=some c∨((FH j scope.names).IsCell c none/\j.objs.size<=c):=λx c e=>Kg scope.names j H x c e
 obtain⟨W,⟨m0,w0⟩,turn⟩:=q2 s2.heap.objs.size hD
 have R:∀s₃:AM,s₃={ s2 with heap:=FH j scope.names } ->
   Ih (Ah X.prog X.w) X.A (.compLoop (.ListComp elt [⟨ϖ,iter,Z,0⟩] scope pos) 0 (.ref it) (.ref s2.heap.objs.size) (compEnvC scope (CV j.objs.size scope.names H) G.objs.size X.env))
    (RR (.ref s2.heap.objs.size) G.objs.size) s₃:=by
  rintro s₃ rfl
  have J0:Inv (Ee X scope N' (CV j.objs.size scope.names H) G.objs.size s2 I fp (X.pn++ζ)) [] (Ak own.length none++σ) (upd I s2.heap.objs.size (.lst [])) { s2 with heap:=FH j scope.names }:=
   Zb (s:={ s2 with heap:=FH j scope.names }) Sc Y f2 yN c1 c2 ϟ yb (λc h=>hHn c (by lia)) zj P rfl Y.bare u hok zC
  refine df (X':=Ee X scope N' (CV j.objs.size scope.names H) G.objs.size s2 I fp (X.pn++ζ)) (fp:=fp) (Q:=Qf s2.heap.objs.size) hc rfl T (hg _ _ _ _ _ _) (yO _ _ _ _ _ _) (he _ _ _ _ _ _) W turn (λL N s' J q=>hRR _ _ _ L N s' zj J q) J0 (T.keep _ _ _ w8 λb _ o e=>old b o e) (λb hb=>?_) w0;obtain⟨z0,z1,z2,z3,z4,z5⟩:=f2 b hb;refine⟨by rw[Bk (Al (yN b hb))];exact z0,Al (Af (yN b hb) zj),λz=>?_,.inl hb,λx c e=>?_,λp hp=>?_⟩
  ·exact(A2.mp (Y.stkSub _ z)).elim z1 z2
  ·rcases yb x c e with e | ⟨_,e⟩
   ·exact z4 x c (c1 x c e)
   ·exact FJ (Af (yN b hb) (Ap ϟ e))
  ·have hp:p∈(X.pn++ζ)++[]:=hp
   rw[BI]at hp;exact z5 p hp
 exact codeAny_compStart_list (R _ rfl) (T.self X.A 0 _ _ _ (T.keep _ _ _ w8 λb _ o e=>old b o e) (R _ rfl))
def mf(Y:X.calm=true)(B:Og X scope own N')(hi:PI X O iter Z)
  (hg:∀o C j l ex pn,PG (Ee X scope N' o C j l ex pn) O g) (yO:∀o C j l ex pn,Zl (Ee X scope N' o C j l ex pn) E tc) (he:∀o C j l ex pn,PE (Ee X scope N' o C j l ex pn) G te)
  (hs:∀x,GP iter X.env x=pure x:=by intro _;rfl):PE X (.ListComp G [⟨O,iter,E,0⟩] scope pos) (gD own.length Z g tc te):=by
 intro P s R H Q I h;rw[eval_ListComp];obtain⟨o,yP,c1,c2⟩:=bG (scope:=scope) (env:=X.env) (λy hy hf=>I.ok.has y.1 (B.free y hy hf));refine bO (use:=none) rfl hs yP B.kind B.names (thn (hi P s R H _ I h) λv s1 h1=>thn h1 λitv s2 h2=>?_);obtain⟨it,fp,tn,J,H2,rfl,S,T,w8,U,q2⟩:=h2
 refine Sz (Qf:=λp L=>Q (.ref p) L) (RR:=λN C=>compPost (Ah X.prog X.w) X.A X.xe none (EP X P R Q) N C) Y B hg yO he c1 c2 S T w8 U q2 λD C cl' σ' L s' hC J q=>?_
 obtain⟨m,hn,_⟩:=J.loc;exact⟨m,hn,λh' sb=>⟨.ref D,L,U0 S J hC U sb,rfl,q⟩⟩
def mM{i:Nat}{y:Str}{G zk:Pos}(hc:X.calm=true)(Z:Gx (.ListComp B [⟨S,iter,E,0⟩] scope pos) (some (.Name y G)) zk.line X.env=pure true)
  (hN:X.N.Nodup) (hy:X.N[i]?=some y) (My:Loc X.env.scope y) (U:Og X scope own N') (hi:PI X S iter wi)
  (hg:∀L C j l ex pn,PG (Ee X scope N' L C j l ex pn) S g) (yO:∀L C j l ex pn,Zl (Ee X scope N' L C j l ex pn) E tc) (he:∀L C j l ex pn,PE (Ee X scope N' L C j l ex pn) B te)
  (hs:∀x,GP iter X.env x=pure x:=by intro _;rfl) (hf:X.fn y=true∨X.env.scope.names.lookup y=some .local:=by first | exact .inl rfl | exact .inr rfl | assumption) :
  PS X (.Assign [.Name y G] (.ListComp B [⟨S,iter,E,0⟩] scope pos) zk) (qc (gD own.length wi g tc te) (ay i)):=by
 intro Y s σ H D I h;rw[exec_Assign_Name_used _ _ _ _ Z];refine AA (bM (AA ?_));show Ag _ X.A (do let _ <-comprehension (.ListComp B [⟨S,iter,E,0⟩] scope pos) scope X.env _ (newList []) false (B1 iter X.env) (some (OM (.Name y G) X.env))) _ _ s;obtain⟨L,yP,c1,c2⟩:=bG (scope:=scope) (env:=X.env) (λy hy hf=>I.ok.has y.1 (U.free y hy hf))
 refine AA (E2 (bO (use:=some (OM (.Name y G) X.env)) (Q:=λ_ s'=>SP X Y D .next s') rfl hs yP U.kind U.names
  (thn (hi Y s σ H _ I h) λv s1 h1=>thn h1 λitv s2 h2=>?_)) (λ_ s' hq=>AE (AE hq)) λ_ _ e=>e)
 obtain⟨it,fp,tn,J,H2,rfl,O,T,w8,f2,q2⟩:=h2
 refine Sz (Qf:=λp P=>D.nx (σ.set i (some (.ref p))) P) (RR:=λacc C=>compPost (Ah X.prog X.w) X.A X.xe (some (OM (.Name y G) X.env)) (λ_ s'=>SP X Y D .next s') acc C) hc U hg yO he c1 c2 O T w8 f2 q2 λA C cl' σ' P s' R J q=>?_
 obtain⟨m,hn,_⟩:=J.loc;have I3:Inv X Y σ P s':=U0 O J R f2 (VQ ..);have zC:P C=none:=J.free
 have xm:∀x c,X.env.cells.lookup x=some c->c≠C:=λx c e z=>by
  obtain⟨v,q⟩:=O.cell x c e;exact zX (Af q.lt (by rw[z];exact R)) (Db _)
 have zD:C≠X.env.locals:=FJ (Af O.lt R);show Ag _ X.A (OM (.Name y G) X.env (.ref A)) _ _ s';refine tR (UX (v:=.ref A) I3 hN hy My rfl (λs4 I4 ⟨a,sb,ha⟩=>?_) hf)
 have haC:C≠a:=by
  rcases ha with e | e
  ·rw[e];exact zD
  ·exact CK (xm _ _ e)
 refine⟨m,hn.sameBut sb haC,λh' sb'=>⟨_,P,?_,q⟩⟩
 refine I4.turned (t':=s4.toks) (it:=C) (λb o hb e=>(sb'.2 b hb).trans e) zC zD (.inr (Ap O.sz R)) xm λp hp z=>?_
 exact zX (Af (AZ (O.pin p hp).1) (by rw[z];exact R)) (Db _)
end
def Gu(v:N1)(g:MG)(c:MT)(m:ME):Nat->Nat->Lo->Sto->List D->Res (List D)
 | k,i,e,S,j=>match v S with
  | none=>.bad
  | some s=>match s[i]? with
   | none=>.ok j S
   | some d=>match k with
    | 0=>.bad
    | k+1=>if j.length < sizeLine then(okR (g d e S)).bind λl A=>(okR (c l A)).bind λb o=>if b=true then(okR (m l o)).bind λy B=>Gu v g c m k (i+1) l B (j++[y])else Gu v g c m k (i+1) l o j else .bad
def Fe(n:Nat)(mi:MI)(g:MG)(c:MT)(m:ME):ML:=λe S=>(mi e S).bind λv j=>Gu v g c m (DR v j) 0 (Ak n none++e) j []
def Hk:MT:=λ_ S=>.ok true S
section
abbrev oX(X:Cx)(E:EW)(g:List Expr)(c:MT):Prop:=Zl X g (gT X.K E c)
def Ge:oX X E [] Hk:=by
 rintro g s j H Q I ⟨m,l,S,B,o,A⟩
 exact iG g s j H Q I (A m H .refl o)
def PN(h:GT X E e c):oX X E [e] c:=iF h
def Fj.grow{K}{ρ}{H}{e}{j}(n:Nat)(h:Fj K ρ H e j):Fj K ρ H (Ak n none++e) (Ak n none++j):=by
 refine⟨by simp[h.len],λi d q=>?_⟩
 by_cases g:i < n
 ·rw[Ab (by simpa using g),Dj,qX g]at q
  cases q
 ·rw[BG (by simpa using g)]at q ⊢
  simp only[NZ]at q ⊢;exact h.at' _ d q
def CY.ok_of{g:Type}{K:AJ}{E:EH}{ρ:List AW}{H:Hp}{r:Res g}{k:g->Sto->Prop}{a:g}{S:Sto}(e:r=.ok a S)(h:k a S):CY K E ρ H r k:=by
 subst e;exact h
def SJ{g j:Type}{r:Res g}{F:g->Sto->Res j}{b:j}{S:Sto}(h:(okR r).bind F=.ok b S):∃a S1,r=.ok a S1/\F a S1=.ok b S:=by
 cases r with
 | ok a S1=>exact⟨a,S1,rfl,h⟩
 | err c S1=>cases h
 | bad=>cases h
def X5:∀(k i:Nat) (e:Lo) (S:Sto) (j:List D),Gu v g c m k i e S j≠.err G S':=by
 intro k
 induction k with
 | zero=>
  intro i e S j h;unfold Gu at h;split at h
  ·cases h
  ·split at h <;> cases h
 | succ k A=>
  intro i e S j h;unfold Gu at h;split at h
  ·cases h
  ·split at h
   ·cases h
   ·dsimp only at h
    split at h
    ·cases l:g _ e S with
     | ok B C=>
      rw[l]at h;dsimp only[okR,Res.bind]at h
      cases o:c B C with
      | ok b E=>
       rw[o]at h;dsimp only[okR,Res.bind]at h
       cases b with
       | true=>
        rw[qX rfl]at h
        cases s:m B E with
        | ok y H=>rw[s]at h;exact A _ _ _ _ h
        | err _ _=>rw[s]at h;cases h
        | bad=>rw[s]at h;cases h
       | false=>
        rw[qY AV]at h;exact A _ _ _ _ h
      | err _ _=>rw[o]at h;cases h
      | bad=>rw[o]at h;cases h
     | err _ _=>rw[l]at h;cases h
     | bad=>rw[l]at h;cases h
    ·cases h
def XB{K:AJ}{n:Nat}{σ:St}{H:Hp}{Q:VK}(h:gL K E (Fe n mi g c m) σ H Q):gD n (gI K E mi) (gG K g) (gT K noE c) (gE K noE m) σ H Q:=by
 obtain⟨ρ,l,S,hl,hs,R⟩:=h;refine⟨ρ,l,S,hl,hs,R.seq λv Y R ρ1 H1 J l1 s1 vo p hp=>?_⟩
 obtain⟨Z,X,R,k⟩:∃Z X,Gu v g c m (DR v Y) 0 (Ak n none++l) Y []=.ok Z X/\∀N H' p I,Le K ρ H N H'->Cj K N X H'->A3 K N H' Z I->H' p=some (.lst I)->(∀n:Nat,N[n]?≠some p)->H p=none->Q (.ref p) H':=by
  cases hc:Gu v g c m (DR v Y) 0 (Ak n none++l) Y []with
  | ok Z X=>rw[hc]at R;exact⟨Z,X,rfl,R⟩
  | err c X=>exact(X5 _ _ _ _ _ hc).elim
  | bad=>rw[hc]at R;exact R.elim
 obtain⟨s1',ϡ⟩:=Fv (ho:=.lst []) s1 hp;have zS:H p=none:=l1.back hs s1 hp
 refine⟨λi j σ2 T I=>∃B e2 S2 G,Le K ρ1 H1 B T/\Fj K B T e2 σ2/\Cj K B S2 T/\A3 K B T G I/\T p=some (.lst I)/\(∀q:Nat,B[q]?≠some p)/\Gu v g c m j i e2 S2 G=.ok Z X,
  ⟨DR v Y,ρ1,_,Y,[],ϡ,(hl.mono (l1.trans ϡ)).grow n,s1',.nil,Bi,λq e=>s1.notIn hp e,R⟩,?_⟩
 rintro i j σ2 T I ⟨B,e2,S2,G,l2,r2,s2,ra,ϕ,wK,A⟩;refine⟨ϕ,?_⟩;unfold Gu at A
 cases hv:v S2 with
 | none=>rw[hv]at A;cases A
 | some vs=>
  rw[hv]at A;dsimp only at A;obtain⟨v1,v2⟩:=vo B T S2 vs i l2 s2 hv
  cases hd:vs[i]? with
  | none=>
   rw[hd]at A;cases A;exact .inl ⟨v1 hd,k B T p I (l1.trans l2) s2 ra ϕ wK zS⟩
  | some d=>
   rw[hd]at A;dsimp only at A;obtain⟨go,yl⟩:=v2 d hd
   cases j with
   | zero=>cases A
   | succ j=>
    dsimp only at A;split at A
    ·rename_i hz
     obtain⟨e3,S3,h3,A⟩:=SJ A;obtain⟨b,S4,h4,A⟩:=SJ A;refine .inr ⟨go,by rw[<-ra.length];exact hz,λx H' y=>?_⟩;obtain⟨ρ3,l3,s3,rd⟩:=yl x H' y;obtain⟨hp3,hn3⟩:=l3.oth p _ ϕ wK;refine⟨ρ3,e2,S2,d,rd,r2.mono l3,s3,CY.ok_of h3 λρ4 H4 σ4 l4 s4 r4=>?_⟩;obtain⟨hp4,hn4⟩:=l4.oth p _ hp3 hn3;refine⟨ρ4,e3,S3,r4,s4,CY.ok_of h4 λρ5 H5 U s5=>?_⟩;obtain⟨hp5,hn5⟩:=U.oth p _ hp4 hn4
     cases b with
     | false=>
      rw[qY AV]at A ⊢;exact⟨j,Cc j,ρ5,e3,S4,G,l2.trans (l3.trans (l4.trans U)),r4.mono U,s5,ra.mono (l3.trans (l4.trans U)),hp5,hn5,A⟩
     | true=>
      rw[qX rfl]at A ⊢;obtain⟨yv,S5,h5,A⟩:=SJ A;refine⟨ρ5,e3,S4,r4.mono U,s5,CY.ok_of h5 λs C y6 l6 s6 r6=>?_⟩;obtain⟨O,hn6⟩:=l6.oth p _ hp5 hn5
      have l7:∀P,Le K s C s (upd C p (.lst P))->True:=λ_ _=>trivial
      have up7:∀P:List V,Cj K s S5 (upd C p (.lst P))/\(∀a o,F8 K s C a o->a≠p->F8 K s (upd C p (.lst P)) a o)/\∀e' w',CB K s C e' w'->CB K s (upd C p (.lst P)) e' w':=λP=>by
       have L:=HK (H:=C) (p:=p) (ho:=.lst P) (.inr (by rw[O];trivial))
       have mono:∀e' w',CB K s C e' w'->CB K s (upd C p (.lst P)) e' w':=λe' w' r=>r.keep L.1 L.2
       have mob:∀a o,F8 K s C a o->a≠p->F8 K s (upd C p (.lst P)) a o:=λa o r ne=>r.keep L.1 L.2 (Bk ne)
       exact⟨⟨s6.len,s6.nd,λn o a q1 q2=>mob a o (s6.ob n o a q1 q2) λz=>hn6 n (by rw[<-z];exact q2)⟩,mob,mono⟩
      obtain⟨u1,u2,u3⟩:=up7 (I++[y6]);refine⟨O,j,Cc j,s,e3,S5,G++[yv],?_,?_,u1,?_,Bi,hn6,A⟩
      ·have lx:=l2.trans (l3.trans (l4.trans (U.trans l6)))
       have L:=HK (H:=C) (p:=p) (ho:=.lst (I++[y6])) (.inr (by rw[O];trivial))
       exact⟨lx.pre,λa zs q=>L.1 a zs (lx.tup a zs q),λa o u q=>L.2 a o u (lx.frz a o u q),λa o q z=>by
        have nap:a≠p:=B6 q hp;obtain⟨z1,z2⟩:=lx.oth a o q z
        exact⟨by rw[Bk nap];exact z1,z2⟩⟩
      ·have rr:=r4.mono (U.trans l6)
       exact⟨rr.len,λq d' hq=>by
        obtain⟨w',z1,z2⟩:=rr.at' q d' hq
        exact⟨w',z1,u3 _ _ z2⟩⟩
      ·have ra6:=ra.mono (l3.trans (l4.trans (U.trans l6)))
       have L:=HK (H:=C) (p:=p) (ho:=.lst (I++[y6])) (.inr (by rw[O];trivial));exact(ra6.keep L.1 L.2).append (.cons (u3 _ _ r6) .nil)
    ·cases A
def JG(G:X.calm=true)(H:Og X scope own N')(hi:GI X E B iter mi)
  (I:∀o C j l ex pn,GG (Ee X scope N' o C j l ex pn) B g) (J:∀o C j l ex pn,oX (Ee X scope N' o C j l ex pn) noE s c) (L:∀o C j l ex pn,GE (Ee X scope N' o C j l ex pn) noE A m)
  (N:∀x,GP iter X.env x=pure x:=by intro _;rfl):GL X E (.ListComp A [⟨B,iter,s,0⟩] scope pos) (Fe own.length mi g c m):=
 (mf (g:=gG X.K g) (tc:=gT X.K noE c) (te:=gE X.K noE m) G H hi I J L N).imp λ_ _ _ h=>XB h
def PM(hc:X.calm=true)(P:Gx (.ListComp B [⟨R,iter,G,0⟩] scope pos) (some (.Name y py)) zk.line X.env=pure true)
  (hN:X.N.Nodup) (hy:X.N[i]?=some y) (My:Loc X.env.scope y) (Sc:Og X scope own N') (hi:GI X E R iter mi)
  (hg:∀I C j s ex pn,GG (Ee X scope N' I C j s ex pn) R g) (yO:∀I C j s ex pn,oX (Ee X scope N' I C j s ex pn) noE G c) (he:∀I C j s ex pn,GE (Ee X scope N' I C j s ex pn) noE B m)
  (T:∀x,GP iter X.env x=pure x:=by intro _;rfl) (hf:X.fn y=true∨X.env.scope.names.lookup y=some .local:=by first | exact .inl rfl | exact .inr rfl | assumption) :
  GS X E (.Assign [.Name y py] (.ListComp B [⟨R,iter,G,0⟩] scope pos) zk) (Bn i (D4 (Fe own.length mi g c m))):=by
 refine(mM (g:=gG X.K g) (tc:=gT X.K noE c) (te:=gE X.K noE m) hc P hN hy My Sc hi hg yO he T hf).imp λD σ H ⟨L,l,S,U,T,Y⟩=>?_
 refine XB (E:=E) (Q:=λx H'=>D.nx (σ.set i (some x)) H') ⟨L,l,S,U,T,CY.seq (F:=λZ S1=>Res.ok (L2.D.ref S1.length) (S1++[Ob.lst Z])) (k:=λd O=>CY X.K noH L H ((tgN i d l O).bind λe1 O=>.ok (.nx e1) O) λfl S'=>Sm X.K E L H S' D fl) (CY.lift Y U .refl λd O h=>h) λZ S1 Y A H1 p xs J s1 r1 hp hn zS=>?_⟩
 have l0:∀(n:Nat) a,A[n]?=some a->(A++[p])[n]?=some a:=λn a h=>by rw[Ab (AC.mp h).1];exact h
 obtain⟨s2,at2⟩:=s1.adopt (o:=.lst Z) hn ⟨xs,hp,r1.more l0⟩
 have l2:Le X.K L H (A++[p]) H1:=⟨λn a h=>l0 n a (J.pre n a h),J.tup,J.frz,λa o e h=>⟨(J.oth a o e h).1,λn q=>by
  rcases Jf q with⟨q,_⟩ | ⟨_,q⟩
  ·exact(J.oth a o e h).2 n q
  ·exact B6 e zS q⟩⟩
 exact Y _ _ _ l2 s2 ((U.mono l2).set (.ref at2) i)
end
end L2
namespace L2
open PySem.SeqAt
noncomputable def NO:D->D->Option Bool
 | .non,.non=>some true
 | .bl a,.bl b=>some (a==b)
 | .int a,.int b=>some (a==b)
 | .str a,.str b=>some (a==b)
 | .non,.int _=>some false
 | .non,.str _=>some false
 | .non,.bl _=>some false
 | .non,.tup _=>some false
 | .int _,.non=>some false
 | .str _,.non=>some false
 | .bl _,.non=>some false
 | .tup _,.non=>some false
 | .int _,.tup _=>some false
 | .tup _,.int _=>some false
 | _,_=>none
def eqL(f:D->D->Option Bool):List D->List D->Option Bool
 | [],[]=>some true
 | [],_ :: _=>some false
 | _ :: _,[]=>some false
 | x :: g,y :: j=>match f x y,eqL f g j with
  | some a,some b=>some (a&&b)
  | _,_=>none
def eqP:Nat->D->D->Option Bool
 | 0,x,y=>NO x y
 | n+1,x,y=>match x,y with
  | .tup g,.tup j=>eqL (eqP n) g j
  | x,y=>NO x y
def NM(h:eqL f (x :: xs) (y :: ys)=some b):∃a c,f x y=some a/\eqL f xs ys=some c/\b=(a&&c):=by
 unfold eqL at h;split at h
 ·rename_i a c g j
  cases h;exact⟨a,c,g,j,rfl⟩
 ·cases h
def bD:∀{xs ys:List D} {b:Bool},eqL f xs ys=some b->(∀(j:Nat) x y,xs[j]?=some x->ys[j]?=some y->∃c,f x y=some c) /\
  b=((Bs (min xs.length ys.length)).all (λj=>match xs[j]?,ys[j]? with | some x,some y=>(f x y).getD false | _,_=>false)&&xs.length==ys.length)
 | [],[],b,h=>by cases h;exact⟨λj x y h=>by simp at h,by simp⟩
 | [],y :: ys,b,h=>by cases h;exact⟨λj x y h=>by simp at h,by simp⟩
 | x :: xs,[],b,h=>by cases h;exact⟨λj x y _ h=>by simp at h,by simp⟩
 | x :: xs,y :: ys,b,h=>by
  obtain⟨a,c,m,o,rfl⟩:=NM h;obtain⟨s,A⟩:=bD o;refine⟨λj B C g l=>?_,?_⟩
  ·cases j with
   | zero=>simp at g l;subst g;subst l;exact⟨a,m⟩
   | succ j=>exact s j B C (by simpa using g) (by simpa using l)
  ·rw[A,A1,A1,show min (xs.length+1) (ys.length+1)=min xs.length ys.length+1 by lia,YL,Wl,YN]
   simp only[List.getElem?_cons_zero,m,eR,Function.comp_def,List.getElem?_cons_succ];rw[Bool.and_assoc]
   congr 1
   congr 1
   rw[Mo];simp
section
variable{K:AJ}{ρ:List AW}{H:Hp}
def a9(n k:Nat)(y:D):eqP n (.ref k) y=none:=by cases n <;> cases y <;> rfl
def bA(n:Nat)(ds:List D)(y:D):eqP n (.fro ds) y=none:=by cases n <;> cases y <;> rfl
def bB(n:Nat)(c:AW)(y:D):eqP n (.exc c) y=none:=by cases n <;> cases y <;> rfl
def O4(s:CB K ρ H x v)(g:CB K ρ H j v):x=j∨(∃ds l m,x=.tup ds/\j=.tup l/\A3 K ρ H ds m/\A3 K ρ H l m)∨(∀n y,eqP n x y=none)∨∀n y,eqP n j y=none:=by
 cases s with
 | non=>cases g;exact .inl rfl
 | bl b=>cases g;exact .inl rfl
 | int b=>cases g;exact .inl rfl
 | str b=>cases g;exact .inl rfl
 | fro _ _=>exact .inr (.inr (.inl λn y=>bA n _ y))
 | ref _=>exact .inr (.inr (.inl λn y=>a9 n _ y))
 | exc _ _=>exact .inr (.inr (.inl λn y=>bB n _ y))
 | tup A B=>
  cases g with
  | fro _ _=>exact .inr (.inr (.inr λn y=>bA n _ y))
  | ref _=>exact .inr (.inr (.inr λn y=>a9 n _ y))
  | exc _ _=>exact .inr (.inr (.inr λn y=>bB n _ y))
  | tup o C=>
   rw[A]at o;cases o;exact .inr (.inl ⟨_,_,_,rfl,rfl,B,C⟩)
def nw:∀(n:Nat) {x B y:D} {v:V} {b b':Bool},CB K ρ H x v->CB K ρ H B v->eqP n x y=some b->eqP n B y=some b'->b=b':=by
 intro n
 induction n with
 | zero=>
  intro x B y v b b' I J h j
  rcases O4 I J with rfl | ⟨C,L,m,rfl,rfl,_,_⟩ | q | q
  ·rw[h]at j;cases j;rfl
  ·have:eqP 0 (.tup C) y=eqP 0 (.tup L) y:=by cases y <;> rfl
   rw[<-this,h]at j;cases j;rfl
  ·rw[q]at h;cases h
  ·rw[q]at j;cases j
 | succ n Q=>
  intro x B y v b b' I J h j
  have lists:∀{E:List D} {m:List V} {G l:List D} {b b':Bool},A3 K ρ H E m->A3 K ρ H G m->eqL (eqP n) E l=some b->eqL (eqP n) G l=some b'->b=b':=by
   intro E
   induction E with
   | nil=>
    intro m G l b b' o s g A;cases o;cases s;rw[g]at A;cases A;rfl
   | cons d C N=>
    intro m G l b b' o s g A
    cases o with
    | cons R S=>
     cases s with
     | cons T U=>
      cases l with
      | nil=>cases g;cases A;rfl
      | cons y l=>
       obtain⟨p,q,X,Y,rfl⟩:=NM g;obtain⟨Z,q',O,P,rfl⟩:=NM A;rw[Q R T X O,N S U Y P]
  rcases O4 I J with rfl | ⟨C,L,m,rfl,rfl,o,s⟩ | q | q
  ·rw[h]at j;cases j;rfl
  ·by_cases c:∃l,y=.tup l
   ·obtain⟨l,rfl⟩:=c
    exact lists o s h j
   ·have:eqP (n+1) (.tup C) y=eqP (n+1) (.tup L) y:=by
     cases y <;> first | rfl | exact(c ⟨_,rfl⟩).elim
    rw[<-this,h]at j;cases j;rfl
  ·rw[q]at h;cases h
  ·rw[q]at j;cases j
def E1(h:NO x x=some b):b=true:=by
 cases x <;> first | (cases h;done) | (cases h;simp)
def Sq:∀(n:Nat) {x:D} {b:Bool},eqP n x x=some b->b=true
 | 0,_,_,h=>E1 h
 | n+1,x,b,h=>by
  have lists:∀{j:List D} {b:Bool},eqL (eqP n) j j=some b->b=true:=by
   intro j
   induction j with
   | nil=>intro b g;cases g;rfl
   | cons d s l=>
    intro b g;obtain⟨p,q,m,o,rfl⟩:=NM g;rw[Sq n m,l o];rfl
  cases x with
  | tup j=>exact lists h
  | non=>exact E1 (x:=.non) h
  | bl c=>exact E1 (x:=.bl c) h
  | int c=>exact E1 (x:=.int c) h
  | str c=>exact E1 (x:=.str c) h
  | ref c=>exact E1 (x:=.ref c) h
  | fro c=>exact E1 (x:=.fro c) h
  | exc c=>exact E1 (x:=.exc c) h
def Nr(g:(∃f,y=.fro f)∨(∃r,y=.ref r)∨∃c,y=.exc c)(n:Nat):eqP n x y=none:=by
 rcases g with⟨f,rfl⟩ | ⟨r,rfl⟩ | ⟨c,rfl⟩ <;> (cases n <;> cases x <;> rfl)
def jj(n:Nat)(C:CB K ρ H x v)(o:CB K ρ H y v)(h:eqP n x y=some b):b=true:=by
 induction n generalizing x y v b with
 | zero=>
  rcases O4 C o with rfl | ⟨E,G,j,rfl,rfl,_,_⟩ | q | q
  ·exact Sq 0 h
  ·cases h
  ·rw[q]at h;cases h
  ·cases o with
   | fro _ _=>rw[Nr (.inl ⟨_,rfl⟩)]at h;cases h
   | ref _=>rw[Nr (.inr (.inl ⟨_,rfl⟩))]at h;cases h
   | exc _ _=>rw[Nr (.inr (.inr ⟨_,rfl⟩))]at h;cases h
   | non=>cases(q 0 .non)
   | bl b=>cases(q 0 (.bl b))
   | int b=>cases(q 0 (.int b))
   | str b=>cases(q 0 (.str b))
   | tup _ _=>cases(q 0 .non)
 | succ n I=>
  have lists:∀{s A:List D} {j:List V} {b:Bool},A3 K ρ H s j->A3 K ρ H A j->eqL (eqP n) s A=some b->b=true:=by
   intro s
   induction s with
   | nil=>intro A j b l m g;cases l;cases m;cases g;rfl
   | cons d E B=>
    intro A j b l m g
    cases l with
    | cons J L=>
     cases m with
     | cons N O=>
      obtain⟨p,q,P,Q,rfl⟩:=NM g;rw[I J N P,B L O Q];rfl
  rcases O4 C o with rfl | ⟨E,G,j,rfl,rfl,l,m⟩ | q | q
  ·exact Sq (n+1) h
  ·exact lists l m h
  ·rw[q]at h;cases h
  ·cases o with
   | fro _ _=>rw[Nr (.inl ⟨_,rfl⟩)]at h;cases h
   | ref _=>rw[Nr (.inr (.inl ⟨_,rfl⟩))]at h;cases h
   | exc _ _=>rw[Nr (.inr (.inr ⟨_,rfl⟩))]at h;cases h
   | non=>cases(q 0 .non)
   | bl b=>cases(q 0 (.bl b))
   | int b=>cases(q 0 (.int b))
   | str b=>cases(q 0 (.str b))
   | tup _ _=>cases(q 0 .non)
end
section
variable{X:Cx}{ζ:List (AW×Obj)}{σ:St}{H:Hp}{s:AM}{ρ:List AW}
def Hz(A:B5):A.in1.units=A.units+1:=rfl
def Bx.at_(r:Bx g l)(h:j < l.toArray.size):∃v,g[j]?=some v/\RelV v l.toArray[j]:=by
 have o:j < l.length:=by simpa using h
 have m:j < g.length:=by rw[r.length];exact o
 obtain⟨u,A,B⟩:=r.get (i:=j) (x:=g[j]) (by simp[m]);refine⟨g[j],by simp[m],?_⟩
 have:l.toArray[j]=u:=by
  have:=AC.mp A;obtain⟨_,e⟩:=this;simpa using e
 rw[this];exact B
def Vt(P:∀(x y:D) (b:Bool) (m o:V) (u v:AI),eqP n x y=some b->CB X.K ρ H x m->CB X.K ρ H y o->RelV m u->RelV o v->EqAt A s u v b)
  (h:eqL (eqP n) xs ys=some b) (B:A3 X.K ρ H xs Q) (C:A3 X.K ρ H ys R) (E:Bx Q g) (G:Bx R l) :
  ∃e:Nat->Bool,(∀j (I:j < g.toArray.size) (J:j < l.toArray.size),EqAt A s g.toArray[j] l.toArray[j] (e j))/\b=((Bs (min g.toArray.size l.toArray.size)).all e&&g.toArray.size==l.toArray.size):=by
 obtain⟨S,T⟩:=bD h;refine⟨λj=>match xs[j]?,ys[j]? with | some x,some y=>(eqP n x y).getD false | _,_=>false,λj I J=>?_,?_⟩
 ·obtain⟨v,U,Y⟩:=Bx.at_ E I
  obtain⟨w,Z,xB⟩:=Bx.at_ G J;obtain⟨x,L,rx⟩:=B.get' U;obtain⟨y,N,ry⟩:=C.get' Z;obtain⟨c,O⟩:=S j x y L N;have:=P x y c v w _ _ O rx ry Y xB;simp only[L,N,O,eR];exact this
 ·rw[T,B.length,C.length,E.length,G.length]
  simp
def QK(I:Inv X ζ σ H s)(j:A.units < FS)(h:NO x y=some b)(G:CB X.K ρ H x J)(l:CB X.K ρ H y L)(m:RelV J u)(g:RelV L v) :
  EqAt A s u v b/\RcAt A s u v b/\RcNeAt A s u v (!b):=by
 cases G with
 | non=>
  cases m
  cases l with
  | non=>cases g;cases h;exact⟨EqAt.same _,RcAt.none_none,RcNeAt.none_none⟩
  | bl c=>cases g;cases h;exact⟨EqAt.none_bool _,RcAt.none_bool _,RcNeAt.none_bool _⟩
  | int i=>obtain⟨t,rfl⟩:=g;cases h;exact⟨EqAt.none_int _ _,RcAt.none_int _ _,RcNeAt.none_int _ _⟩
  | str z=>obtain⟨t,rfl⟩:=g;cases h;exact⟨EqAt.none_str _ _,RcAt.none_str _ _,RcNeAt.none_str _ _⟩
  | tup o B=>
   cases g;cases h;obtain⟨C,_,p,_⟩:=I.tuple (.inl (.inl o));exact⟨EqAt.none_tuple p j,RcAt.none_tuple p j,RcNeAt.none_tuple p j⟩
  | _=>cases h
 | bl a=>
  cases m
  cases l with
  | non=>cases g;cases h;exact⟨EqAt.bool_none _,RcAt.bool_none _,RcNeAt.bool_none _⟩
  | bl c=>cases g;cases h;exact⟨EqAt.bool_bool _ _,RcAt.bool_bool _ _,RcNeAt.bool_bool _ _⟩
  | _=>cases h
 | int a=>
  obtain⟨t,rfl⟩:=m
  cases l with
  | non=>cases g;cases h;exact⟨EqAt.int_none _ _,RcAt.int_none _ _,RcNeAt.int_none _ _⟩
  | int i=>obtain⟨E,rfl⟩:=g;cases h;exact⟨EqAt.int_int _ _ _ _,RcAt.int_int _ _ _ _,RcNeAt.int_int _ _ _ _⟩
  | tup o B=>
   cases g;cases h;obtain⟨C,_,p,_⟩:=I.tuple (.inl (.inl o));exact⟨EqAt.int_tuple _ _ p j,RcAt.int_tuple _ _ p j,RcNeAt.int_tuple _ _ p j⟩
  | _=>cases h
 | str a=>
  obtain⟨t,rfl⟩:=m
  cases l with
  | non=>cases g;cases h;exact⟨EqAt.str_none _ _,RcAt.str_none _ _,RcNeAt.str_none _ _⟩
  | str i=>obtain⟨E,rfl⟩:=g;cases h;exact⟨EqAt.str_str _ _ _ _,RcAt.str_str _ _ _ _,RcNeAt.str_str _ _ _ _⟩
  | _=>cases h
 | tup o B=>
  cases m;obtain⟨C,_,p,_⟩:=I.tuple (.inl (.inl o))
  cases l with
  | non=>cases g;cases h;exact⟨EqAt.tuple_none p j,RcAt.tuple_none p j,RcNeAt.tuple_none p j⟩
  | int i=>obtain⟨E,rfl⟩:=g;cases h;exact⟨EqAt.tuple_int _ _ p j,RcAt.tuple_int _ _ p j,RcNeAt.tuple_int _ _ p j⟩
  | _=>cases h
 | _=>cases h
def ZZ(I:Inv X ζ σ H s):∀(n:Nat) (A:B5) (x y:D) (b:Bool) (g j:V) (u v:AI),A.units+n < FS->eqP n x y=some b->CB X.K ρ H x g->CB X.K ρ H y j->RelV g u->RelV j v->EqAt A s u v b:=by
 intro n
 induction n with
 | zero=>exact λA x y b g j u v Q h m o B C=>(QK I (by omega) h m o B C).1
 | succ n R=>
  intro A x y b g j u v Q h m o B C
  by_cases E:∃G J,x=.tup G/\y=.tup J
  ·obtain⟨G,J,rfl,rfl⟩:=E
   cases m with
   | @tup _ a vs L N=>
    cases o with
    | @tup _ c ws O P=>
     cases B;cases C
     by_cases l:a=c
     ·subst l
      rw[jj (n+1) (.tup L N) (.tup O P) h];exact EqAt.same _
     ·obtain⟨tx,S,p,_⟩:=I.tuple (.inl (.inl L))
      obtain⟨wd,T,U,_⟩:=I.tuple (.inl (.inl O));obtain⟨e,Y,rfl⟩:=Vt (A:=A.in1) (λx y b g j u v Z g2 g3 g4 g5=>R A.in1 x y b g j u v (by rw[Hz];lia) Z g2 g3 g4 g5) h N P S T;exact EqAt.of_refs l (uB p U (by lia) Y)
  ·have hf:NO x y=some b:=by
    cases x <;> cases y <;> first | exact h | exact(E ⟨_,_,rfl,rfl⟩).elim
   exact(QK I (by lia) hf m o B C).1
def WC(d:D)(S:Sto):Option (List D):=match d with
 | .fro g=>some g
 | .ref n=>match S[n]? with
  | some (.lst g)=>some g
  | _=>none
 | _=>none
def eqB(x y:D)(S:Sto):Option Bool:=match WC x S,WC y S with
 | some g,some j=>if g.length=j.length then eqL (eqP 8) g j else some false
 | none,none=>eqP 8 x y
 | some _,none=>match y with
  | .tup _=>some false
  | .non=>some false
  | _=>none
 | none,some _=>match x with
  | .tup _=>some false
  | .non=>some false
  | _=>none
def eqD(neg:Bool)(x y:D)(S:Sto):Res D:=match eqB x y S with
 | some b=>.ok (.bl (if neg then !b else b)) S
 | none=>.bad
def PB{K}{S}{d}{x}{ds}(g:Cj K ρ S H)(r:CB K ρ H d x)(h:WC d S=some ds):∃p xs,x=.ref p/\A3 K ρ H ds xs/\SqL K H p xs:=by
 cases r with
 | fro j l=>cases h;exact⟨_,_,rfl,l,j.sq⟩
 | @ref n a m=>
  obtain⟨o,A,B⟩:=g.there m;unfold WC at h;simp only[A]at h
  cases o with
  | lst E=>cases h;obtain⟨G,e,C⟩:=B;exact⟨_,_,rfl,C,.inl (.inl e)⟩
  | _=>cases h
 | _=>cases h
def jl{S}{x y}{b}{L N}{u v}(I:Inv X ζ σ H s)(hu:X.A.units+64 < FS)(hs:Cj X.K ρ S H)(O:CB X.K ρ H x L)(P:CB X.K ρ H y N)(Q:RelV L u)(R:RelV N v)(h:eqB x y S=some b) :
  RcAt X.A s u v b/\RcNeAt X.A s u v (!b):=by
 unfold eqB at h;split at h
 ·rename_i T ys h1 h2
  obtain⟨p,vs,rfl,U,sq⟩:=PB hs O h1;obtain⟨p',Lf,rfl,C,sq'⟩:=PB hs P h2;cases Q;cases R;obtain⟨o,E,g,_⟩:=I.list sq;obtain⟨G,J,m,_⟩:=I.list sq';split at h
  ·rename_i l
   obtain⟨e,Y,rfl⟩:=Vt (A:=X.A.in1) (λx y b L N u v g1 g2 g3 g4 g5=>ZZ I 8 X.A.in1 x y b L N u v (by rw[Hz];lia) g1 g2 g3 g4 g5) h U C E J
   have j:o.toArray.size=G.toArray.size:=by
    simp only[AT];rw[<-E.length,<-J.length,<-U.length,<-C.length];exact l
   have e1:((Bs (min o.toArray.size G.toArray.size)).all e&&o.toArray.size==G.toArray.size)=(Bs o.toArray.size).all e:=by
    rw[<-j,Nat.min_self,beq_self_eq_true,Bool.and_true]
   rw[e1];exact⟨RcAt.lists g.isList m.isList j (by lia) Y,RcNeAt.lists g.isList m.isList j (by lia) Y⟩
  ·rename_i l
   cases h
   have j:(o.toArray.size != G.toArray.size)=true:=by
    simp only[AT];rw[<-E.length,<-J.length,<-U.length,<-C.length];simpa using l
   exact⟨RcAt.lists_lengths g.isList m.isList j (by lia),RcNeAt.lists_lengths g.isList m.isList j (by lia)⟩
 ·by_cases ht:∃T ys,x=.tup T/\y=.tup ys
  ·obtain⟨T,ys,rfl,rfl⟩:=ht
   cases O with
   | tup a1 a2=>
    cases P with
    | tup Z b2=>
     cases Q;cases R;obtain⟨o,E,p,_⟩:=I.tuple (.inl (.inl a1));obtain⟨G,xB,B,_⟩:=I.tuple (.inl (.inl Z));obtain⟨e,Y,rfl⟩:=Vt (n:=7) (A:=X.A.in1) (λx y b L N u v g1 g2 g3 g4 g5=>ZZ I 7 X.A.in1 x y b L N u v (by rw[Hz];lia) g1 g2 g3 g4 g5) h a2 b2 E xB;exact⟨uB p B (by lia) Y,RcNeAt.tuples p B (by lia) Y⟩
  ·have hf:NO x y=some b:=by
    cases x <;> cases y <;> first | exact h | exact(ht ⟨_,_,rfl,rfl⟩).elim
   exact(QK I (by lia) hf O P Q R).2
 ·rename_i T h1 h2
  obtain⟨p,vs,rfl,U,sq⟩:=PB hs O h1;cases Q;obtain⟨o,E,g,_⟩:=I.list sq;split at h
  ·cases h
   cases P with
   | tup Z b2=>
    cases R;obtain⟨G,xB,B,_⟩:=I.tuple (.inl (.inl Z));exact⟨RcAt.list_tuple g.isList B (by lia),RcNeAt.list_tuple g.isList B (by lia)⟩
  ·cases h
   cases P;cases R;exact⟨RcAt.list_none g.isList (by lia),RcNeAt.list_none g.isList (by lia)⟩
  ·cases h
 ·rename_i T h1 h2
  obtain⟨p,vs,rfl,U,sq⟩:=PB hs P h2;cases R;obtain⟨o,E,g,_⟩:=I.list sq;split at h
  ·cases h
   cases O with
   | tup Z b2=>
    cases Q;obtain⟨G,xB,B,_⟩:=I.tuple (.inl (.inl Z));exact⟨RcAt.tuple_list B g.isList (by lia),RcNeAt.tuple_list B g.isList (by lia)⟩
  ·cases h
   cases O;cases Q;exact⟨RcAt.none_list g.isList (by lia),RcNeAt.none_list g.isList (by lia)⟩
  ·cases h
def IX(l:X.A.units+64 < FS):OpR X (CJ .Eq) (rD X.K (eqD false)):=by
 intro ζ s σ H x y v u Q I m o h;obtain⟨ρ,S,a,b,d,G,j,B,C,g,k⟩:=h;unfold eqD at g;split at g
 ·rename_i c E
  cases g;exact(jl I l j B C m o E).1 _ _ _ _ ⟨.bl c,H,I,rfl,k ρ H _ .refl j (.bl _)⟩
 ·cases g
def Uj(l:X.A.units+64 < FS):OpR X (CJ .NotEq) (rD X.K (eqD true)):=by
 intro ζ s σ H x y v u Q I m o h;obtain⟨ρ,S,a,b,d,G,j,B,C,g,k⟩:=h;unfold eqD at g;split at g
 ·rename_i c E
  cases g;exact(jl I l j B C m o E).2 _ _ _ _ ⟨.bl (!c),H,I,rfl,k ρ H _ .refl j (.bl _)⟩
 ·cases g
def OI(x:D):List D->Option Bool
 | []=>some false
 | d :: g=>match eqP 8 d x,OI x g with
  | some a,some b=>some (a||b)
  | _,_=>none
def inD(neg:Bool)(x y:D)(S:Sto):Res D:=match Ht y S with
 | some g=>match OI x g with
  | some b=>.ok (.bl (if neg then !b else b)) S
  | none=>.bad
 | none=>.bad
def Zh(h:OI x (d :: ds)=some b):∃a c,eqP 8 d x=some a/\OI x ds=some c/\b=(a||c):=by
 unfold OI at h;split at h
 ·rename_i a c g j
  cases h;exact⟨a,c,g,j,rfl⟩
 ·cases h
open Classical in
def PZ(I:Inv X ζ σ H s)(P:A.units+8 < FS)(Q:CB X.K ρ H x R)(S:RelV R v):∀{ds:List D} {C:List V} {l:List AI} {b:Bool},A3 X.K ρ H ds C->Bx C l->OI x ds=some b ->
  ∃e:AI->Bool,(∀y∈l,EqAt A s y v (e y))/\b=l.any e:=by
 intro ds C l b r q h
 let e:AI->Bool:=λy=>decide (∃d w,d∈ds/\CB X.K ρ H d w/\RelV w y/\eqP 8 d x=some true)
 have all:∀{g:List D} {m:List V} {Ϣ:List AI} {o:Bool},(∀d∈g,d∈ds)->A3 X.K ρ H g m->Bx m Ϣ->OI x g=some o->(∀y∈Ϣ,EqAt A s y v (e y))/\o=Ϣ.any e:=by
  intro g
  induction g with
  | nil=>intro m Ϣ o _ r q h;cases r;cases q;cases h;exact⟨(λ_ z=>nomatch z),rfl⟩
  | cons d g T=>
   intro m Ϣ o L r q h
   cases r with
   | cons E U=>
    cases q with
    | @cons w y _ _ G Y=>
     obtain⟨a,c,J,Z,rfl⟩:=Zh h;obtain⟨i1,i2⟩:=T (λz j=>L z (AY _ j)) U Y Z
     have N:e y=a:=by
      by_cases B:∃d w,d∈ds/\CB X.K ρ H d w/\RelV w y/\eqP 8 d x=some true
      ·obtain⟨d',w',_,O,g2,g3⟩:=id B
       rw[RelV.inj g2 G]at O;have:=nw 8 O E g3 J;rw[<-this];exact wX B
      ·have:a=false:=by
        cases a with
        | false=>rfl
        | true=>exact(B ⟨d,_,L d Ax,E,G,J⟩).elim
       rw[this];exact wY B
     refine⟨λz j=>?_,by rw[Ij,N,<-i2]⟩
     rcases A2.mp j with rfl | j
     ·rw[N]
      exact ZZ I 8 A d x a _ _ _ _ P J E Q G S
     ·exact i1 z j
 obtain⟨e1,e2⟩:=all (λ_ h=>h) r q h;exact⟨e,e1,e2⟩
def pB(R:X.A.units+64 < FS):OpR X (CJ .In) (rD X.K (inD false)):=by
 intro ζ s σ H x y v u Q I E N h;obtain⟨ρ,S,a,b,d,T,j,G,O,g,k⟩:=h;unfold inD at g;split at g
 ·rename_i U P
  split at g
  ·rename_i c J
   cases g;obtain⟨p,Y,rfl,L,sq⟩:=RN j O P;cases N
   rcases sq with sq | sq
   ·obtain⟨l,m,o,_⟩:=I.list sq
    obtain⟨e,B,rfl⟩:=PZ I (A:=X.A.in1) (by rw[Hz];lia) G E L m J;exact in_listAt e o.isList (λz C=>B z (by simpa using C)) ⟨.bl (l.toArray.any e),H,I,rfl,by rw[MM];exact k ρ H _ .refl j (.bl _)⟩
   ·obtain⟨l,m,o,_⟩:=I.tuple sq
    obtain⟨e,B,rfl⟩:=PZ I (A:=X.A.in1) (by rw[Hz];lia) G E L m J;exact in_tupleAt e o (λz C=>B z (by simpa using C)) ⟨.bl (l.toArray.any e),H,I,rfl,by rw[MM];exact k ρ H _ .refl j (.bl _)⟩
  ·cases g
 ·cases g
def iV(R:X.A.units+64 < FS):OpR X (CJ .NotIn) (rD X.K (inD true)):=by
 intro ζ s σ H x y v u Q I E N h;obtain⟨ρ,S,a,b,d,T,j,G,O,g,k⟩:=h;unfold inD at g;split at g
 ·rename_i U P
  split at g
  ·rename_i c J
   cases g;obtain⟨p,Y,rfl,L,sq⟩:=RN j O P;cases N
   rcases sq with sq | sq
   ·obtain⟨l,m,o,_⟩:=I.list sq
    obtain⟨e,B,rfl⟩:=PZ I (A:=X.A.in1) (by rw[Hz];lia) G E L m J;exact notIn_listAt e o.isList (λz C=>B z (by simpa using C)) ⟨.bl (!l.toArray.any e),H,I,rfl,by rw[MM];exact k ρ H _ .refl j (.bl _)⟩
   ·obtain⟨l,m,o,_⟩:=I.tuple sq
    obtain⟨e,B,rfl⟩:=PZ I (A:=X.A.in1) (by rw[Hz];lia) G E L m J;exact notIn_tupleAt e o (λz C=>B z (by simpa using C)) ⟨.bl (!l.toArray.any e),H,I,rfl,by rw[MM];exact k ρ H _ .refl j (.bl _)⟩
  ·cases g
 ·cases g
end
def K9(mo ma:ME):ME:=λe S=>(mo e S).bind λd g=>match d with
 | .ref n=>match g[n]? with
  | some (.lst _)=>(ma e g).bind λy j=>match j[n]? with
   | some (.lst l)=>if l.length < sizeLine then .ok .non (j.set n (.lst (l++[y])))else .bad
   | _=>.bad
  | _=>.bad
 | _=>.bad
section
variable{X:Cx}{E:EW}{o e:Expr}{mo ma:ME}
def aM{K}{ρ}{S}{H}{n}{x}{xs}(s:Cj K ρ S H)(r:CB K ρ H (.ref n) x)(h:S[n]?=some (.lst xs)):∃a vs,x=.ref a/\ρ[n]?=some a/\H a=some (.lst vs)/\A3 K ρ H xs vs:=by
 cases r with
 | ref g=>
  obtain⟨vs,e,j⟩:=s.ob n _ _ h g;exact⟨_,vs,rfl,g,e,j⟩
def FF(ho:GE X E o mo)(U:GE X E e ma)(Y:E3 o "append" X.env (B1 o X.env)=B1 o X.env:=by rfl)
  (Z:((DH g (AQ [e] X.env)).all (λx=>!x.1)&&(Te g (MZ [] X.env)).all (λx=>x.1.isSome)
    &&decide ([e].length+([]:List Jn).length+(if ([]:List Jn).isEmpty then 0 else 1) < 30))=true:=by rfl)
  (wW:(s.endLine==g.line)=true:=by rfl) (A:AQ [e] X.env=(false,B1 e X.env) :: AQ [] X.env:=by rfl) (wx:(DH g (AQ [] X.env)).any (·.1)=false:=by rfl) :
  GE X E (.Call (.Attribute o "append" s) [e] [] g) (K9 mo ma):=(aQ Gn PySem.F.slot_list_append PySem.F.type_list_append Uk ho (Du U GF A) Y Z wW A wx).imp<|by
 rintro σ H Q ⟨ρ,l,S,J,A,j⟩
 refine⟨ρ,l,S,J,A,j.seq λx S1 j B H1 v C L r1=>?_⟩
 cases x <;> first | exact j.elim | skip
 rename_i n;dsimp only at j;split at j
 ·rename_i xs0 h0
  obtain⟨a,vs,rfl,hn,e0,_⟩:=aM L r1 h0;refine⟨.inl ⟨rfl,vs,.inl (.inl e0)⟩,B,l,S1,J.mono C,L,(j.later C).seq λy S2 j m N u O P r2=>?_⟩;split at j
  ·rename_i xs h3
   split at j
   ·rename_i hz
    have G:=O.pre n a hn;obtain⟨I,R,T⟩:=P.ob n _ _ h3 G;have le:Le X.K m N m (upd N a (.lst (I++[u]))):=Le.write G (by rw[R];trivial);obtain⟨s3,l3⟩:=P.write (ho:=.lst (I++[u])) (o:=.lst (xs++[y])) G ⟨_,Bi,(T.append (.cons r2 .nil)).mono le⟩ le;exact⟨a,I,u,rfl,rfl,R,by rw[<-T.length];exact hz,j m _ _ (C.trans (O.trans l3)) s3 .non⟩
   ·exact j.elim
  ·exact j.elim
 ·exact j.elim
end
def Ei{g β:Type}[DecidableEq g](kvs:List (g×β))(k:g):Option β:=(kvs.find? λj=>decide (j.1=k)).map (·.2)
noncomputable def Gz{j l:Type}[DecidableEq j](kvs:List (j×l))(k:j)(v:l):List (j×l):=
 if (kvs.any λg=>decide (g.1=k))=true then kvs.map (λg=>if g.1=k then(g.1,v)else g)else kvs++[(k,v)]
section
variable{κ:Type}[DecidableEq κ]{K:AJ}{ρ:List AW}{H:Hp}
def KVR.val(k:κ):∀{x:List (κ×D)} {y:List (κ×V)},KVR K ρ H x y->(Ei x k=none->LW y k=none)/\∀d,Ei x k=some d->∃v,LW y k=some v/\CB K ρ H d v
 | _,_,.nil=>⟨λ_=>rfl,λd h=>by cases h⟩
 | (g,a) :: x,(m,b) :: y,.cons r t=>by
  obtain⟨j,l⟩:=r;dsimp only at j l;subst j;unfold Ei LW;rw[Bv,Bv]
  by_cases e:g=k
  ·simp only[e,decide_true]
   exact⟨(λh=>nomatch h),(λd h=>by cases h;exact⟨b,rfl,l⟩)⟩
  ·simp only[e,decide_false]
   exact KVR.val k t
def KVR.any(k:κ):∀{x:List (κ×D)} {y:List (κ×V)},KVR K ρ H x y->(x.any λj=>decide (j.1=k))=y.any λj=>decide (j.1=k)
 | _,_,.nil=>rfl
 | (g,a) :: x,(l,b) :: y,.cons r t=>by
  rw[Ij,Ij,KVR.any k t,show g=l from r.1]
def KVR.repl(k:κ)(l:CB K ρ H d v):∀{x:List (κ×D)} {y:List (κ×V)},KVR K ρ H x y->KVR K ρ H (x.map λj=>if j.1=k then(j.1,d)else j) (y.map λj=>if j.1=k then(j.1,v)else j)
 | _,_,.nil=>.nil
 | (g,a) :: x,(s,b) :: y,.cons r t=>by
  obtain⟨m,o⟩:=r;dsimp only at m o;subst m;rw[A4,A4];refine .cons ?_ (KVR.repl k l t)
  by_cases e:g=k
  ·rw[qX e,qX e];exact⟨rfl,l⟩
  ·rw[qY e,qY e];exact⟨rfl,o⟩
def KVR.put(k:κ)(g:CB K ρ H d v)(h:KVR K ρ H x y):KVR K ρ H (Gz x k d) (Il y k v):=by
 unfold Gz Il;rw[KVR.any k h];split
 ·exact KVR.repl k g h
 ·exact YK h ⟨rfl,g⟩
end
noncomputable def dB:D->Option Key
 | .int i=>some (.inl i)
 | .str x=>some (.inr x)
 | _=>none
def Uo:List D->Option (List Key)
 | []=>some []
 | d :: g=>match dB d,Uo g with
  | some k,some j=>some (k :: j)
  | _,_=>none
def PJ{K}{ρ}{H}{d}{v}{k}(r:CB K ρ H d v)(h:dB d=some k):v=kV k:=by
 cases r <;> first | (cases h;done) | (cases h;rfl)
def PF{K}{ρ}{H}:∀{ds:List D} {j:List V} {g:List Key},A3 K ρ H ds j->Uo ds=some g->j=g.map kV
 | _,_,_,.nil,h=>by cases h;rfl
 | _,_,_,.cons r t,h=>by
  unfold Uo at h;split at h
  ·rename_i k g l m
   cases h;rw[PJ r l,PF t m];rfl
  ·cases h
def PV(x y:D)(S:Sto):Option (Option D):=match x with
 | .ref n=>match S[n]? with
  | some (.dK g)=>match dB y with
   | some k=>some (Ei g k)
   | none=>none
  | some (.dT g)=>match y with
   | .tup j=>match Uo j with
    | some l=>some (Ei g l)
    | none=>none
   | _=>none
  | some (.fK g)=>match dB y with
   | some k=>some (Ei g k)
   | none=>none
  | some (.fT g)=>match y with
   | .tup j=>match Uo j with
    | some l=>some (Ei g l)
    | none=>none
   | _=>none
  | _=>none
 | _=>none
def WO{K}{ρ}{S}{H}{x y}{N O}{o}(s:Cj K ρ S H)(P:CB K ρ H x N)(G:CB K ρ H y O)(h:PV x y S=some o) :
  ∃a o',N=.ref a/\Pc H a O o'/\(o=none->o'=none)/\∀d,o=some d->∃v,o'=some v/\CB K ρ H d v:=by
 unfold PV at h;split at h
 ·rename_i n
  cases P with
  | @ref _ a I=>
   split at h
   ·rename_i j l
    split at h
    ·rename_i k m
     cases h;obtain⟨g,e,r⟩:=s.ob n _ _ l I;rw[PJ G m];obtain⟨A,B⟩:=KVR.val k r;exact⟨a,LW g k,rfl,Pc.k e,A,B⟩
    ·cases h
   ·rename_i j l
    split at h
    ·rename_i Q
     split at h
     ·rename_i C m
      cases h;obtain⟨g,e,r⟩:=s.ob n _ _ l I
      cases G with
      | tup E J=>
       obtain⟨A,B⟩:=KVR.val C r;rw[PF J m]at E;exact⟨a,LW g C,rfl,Pc.t e E,A,B⟩
     ·cases h
    ·cases h
   ·rename_i j l
    split at h
    ·rename_i k m
     cases h;obtain⟨L,g,e,r⟩:=s.ob n _ _ l I;rw[PJ G m];obtain⟨A,B⟩:=KVR.val k r;exact⟨a,LW g k,rfl,(.inl ⟨_,_,.inr ⟨L,e⟩,rfl,rfl⟩),A,B⟩
    ·cases h
   ·rename_i j l
    split at h
    ·rename_i Q
     split at h
     ·rename_i C m
      cases h;obtain⟨L,g,e,r⟩:=s.ob n _ _ l I
      cases G with
      | tup E J=>
       obtain⟨A,B⟩:=KVR.val C r;rw[PF J m]at E;exact⟨a,LW g C,rfl,(.inr ⟨_,_,_,.inr ⟨L,e⟩,rfl,E,rfl⟩),A,B⟩
     ·cases h
    ·cases h
   ·cases h
 ·cases h
def OH(x y:D)(S:Sto):Res D:=match PV x y S with
 | some (some d)=>.ok d S
 | _=>.bad
def L6(neg:Bool)(y x:D)(S:Sto):Res D:=match PV x y S with
 | some o=>.ok (.bl (if neg then !o.isSome else o.isSome)) S
 | none=>.bad
section
variable{X:Cx}{E:EW}{mo mi mv:ME}
def nq(N:X.A.units+1 < FS)(ho:GE X E o mo)(hi:GE X E i mi)(m:tM i:=by intro _ _;rfl):GE X E (.Subscript o i pos) (m2 OH mo mi):=(me N ho hi m).imp λO H Q h=>by
 refine(OP h:tOp (rD X.K OH) (gE X.K E mo) (gE X.K E mi) O H Q) |> λt=>?_
 obtain⟨P,l,S,R,m,k⟩:=t;refine⟨P,l,S,R,m,k.imp λx S1 k s T u U Y Z=>?_⟩;obtain⟨B,l2,S2,yW,xl,C⟩:=k s T u U Y Z;refine⟨B,l2,S2,yW,xl,C.imp λy S3 C G J v l3 s3 r3=>?_⟩;obtain⟨I,S4,x4,y4,d,S5,L,r4,r5,j,k4⟩:=C G J v l3 s3 r3;unfold OH at j;split at j
 ·rename_i d' hd
  cases j;obtain⟨a,o',rfl,g,_,g2⟩:=WO L r4 r5 hd;obtain⟨w',rfl,xB⟩:=g2 _ rfl;exact⟨a,w',rfl,g,k4 I J w' .refl L xB⟩
 ·cases j
def aE{m}{H}{Q}(h:gE X.K E (m2 (L6 false) mi mo) m H Q):uY (gE X.K E mi) (gE X.K E mo) m H Q:=by
 obtain⟨N,l,S,O,P,k⟩:=(OP h:tOp (rD X.K (L6 false)) (gE X.K E mi) (gE X.K E mo) m H Q);refine⟨N,l,S,O,P,k.imp λx S1 k o R u T U Y=>?_⟩;obtain⟨s,Z,S2,yW,xl,A⟩:=k o R u T U Y;refine⟨s,Z,S2,yW,xl,A.imp λy S3 A B G v l3 s3 r3=>?_⟩;obtain⟨C,S4,x4,y4,d,S5,I,r4,r5,j,k4⟩:=A B G v l3 s3 r3;unfold L6 at j;split at j
 ·rename_i J hd
  cases j;obtain⟨a,L,rfl,g,g1,g2⟩:=WO I r5 r4 hd;refine⟨a,L,rfl,g,?_⟩
  have:L.isSome=J.isSome:=by
   cases J with
   | none=>rw[g1 rfl];rfl
   | some d=>obtain⟨w',rfl,_⟩:=g2 d rfl;rfl
  rw[this];exact k4 C G _ .refl I (.bl _)
 ·cases j
def Y0{m}{H}{Q}(h:gE X.K E (m2 (L6 true) mi mo) m H Q):aD (gE X.K E mi) (gE X.K E mo) m H Q:=by
 obtain⟨N,l,S,O,P,k⟩:=(OP h:tOp (rD X.K (L6 true)) (gE X.K E mi) (gE X.K E mo) m H Q);refine⟨N,l,S,O,P,k.imp λx S1 k o R u T U Y=>?_⟩;obtain⟨s,Z,S2,yW,xl,A⟩:=k o R u T U Y;refine⟨s,Z,S2,yW,xl,A.imp λy S3 A B G v l3 s3 r3=>?_⟩;obtain⟨C,S4,x4,y4,d,S5,I,r4,r5,j,k4⟩:=A B G v l3 s3 r3;unfold L6 at j;split at j
 ·rename_i J hd
  cases j;obtain⟨a,L,rfl,g,g1,g2⟩:=WO I r5 r4 hd;refine⟨a,L,rfl,g,?_⟩
  have:L.isSome=J.isSome:=by
   cases J with
   | none=>rw[g1 rfl];rfl
   | some d=>obtain⟨w',rfl,_⟩:=g2 d rfl;rfl
  rw[this];exact k4 C G _ .refl I (.bl _)
 ·cases j
def sd(g:X.A.units+1 < FS)(hi:GE X E i mi)(ho:GE X E o mo)(j:Cu .In o=false:=by rfl):GE X E (.Compare i [.In] [o] pos) (m2 (L6 false) mi mo):=(rK (iO g hi ho) j).imp λ_ _ _ h=>aE h
def i5{K}{m}{o}{H}{Q}(h:gT K E (mB m) o H Q):gE K E m o H λx H1=>∃c,x=.bl c/\Q c H1:=by
 obtain⟨s,l,S,A,B,g⟩:=h;refine⟨s,l,S,A,B,g.seq λd J g j H1 x C G I=>?_⟩
 cases d <;> first | exact g.elim | skip
 cases I;exact⟨_,rfl,g j H1 C G⟩
def sS(g:X.A.units+1 < FS)(hi:GE X E i mi)(ho:GE X E o mo)(j:Cu .In o=false:=by rfl):GT X E (.Compare i [.In] [o] pos) (mB (m2 (L6 false) mi mo)):=(hU (iO g hi ho) j).imp λ_ _ _ h=>aE (i5 h)
def dM(g:X.A.units+1 < FS)(hi:GE X E i mi)(ho:GE X E o mo)(j:Cu .NotIn o=false:=by rfl):GT X E (.Compare i [.NotIn] [o] pos) (mB (m2 (L6 true) mi mo)):=(hU (cW g hi ho) j).imp λ_ _ _ h=>Y0 (i5 h)
def SV:ME:=λ_ S=>.ok (.ref S.length) (S++[.dK []])
def i4:ME:=λ_ S=>.ok (.ref S.length) (S++[.dT []])
def Xw:GE X E (.Dict [] [] pos) SV:=(iN (X:=X) (pos:=pos)).imp<|by
 rintro B H Q ⟨C,l,S,G,j,k⟩ p m
 obtain⟨s,A,g⟩:=j.alloc (ho:=.dK []) (o:=.dK []) m ⟨[],Bi,.nil⟩;exact k _ _ _ A s (.ref g)
def jX:GE X E (.Dict [] [] pos) i4:=(iM (X:=X) (pos:=pos)).imp<|by
 rintro B H Q ⟨C,l,S,G,j,k⟩ p m
 obtain⟨s,A,g⟩:=j.alloc (ho:=.dT []) (o:=.dT []) m ⟨[],Bi,.nil⟩;exact k _ _ _ A s (.ref g)
def X4(x y v:D)(S:Sto):Option Sto:=match x with
 | .ref n=>match S[n]? with
  | some (.dK g)=>match dB y with
   | some k=>if g.length < sizeLine then some (S.set n (.dK (Gz g k v)))else none
   | none=>none
  | some (.dT g)=>match y with
   | .tup j=>match Uo j with
    | some l=>if g.length < sizeLine then some (S.set n (.dT (Gz g l v)))else none
    | none=>none
   | _=>none
  | _=>none
 | _=>none
def Gm(mo mi mv:ME):MS:=λe S=>(mv e S).lift e λv g=>(mo e g).lift e λx j=>(mi e j).lift e λy l=>match X4 x y v l with
 | some m=>.ok (.nx e) m
 | none=>.bad
def WI(hu:X.A.units+1 < FS)(ho:GE X E o mo)(hi:GE X E i mi)(hv:GE X E value mv)(hs:Gx value (some (.Subscript o i L)) pos.line X.env=pure false:=by rfl):GS X E (.Assign [.Subscript o i L] value pos) (Gm mo mi mv):=(mL hu ho hi hv hs).imp<|by
 rintro D σ H ⟨ρ,l,S,G,hs,s⟩
 refine⟨ρ,l,S,G,hs,s.lift G .refl λv S1 s ρ1 H1 R B s1 r1=>⟨ρ1,l,S1,G.mono B,s1,(s.later B).lift (G.mono B) B λx S2 s ρ2 H2 xv C s2 r2=>⟨ρ2,l,S2,G.mono (B.trans C),s2,(s.later C).lift (G.mono (B.trans C)) (B.trans C) λy S3 s m T yv N U r3=>?_⟩⟩⟩;have O:=r1.mono (C.trans N);have r2':=r2.mono N;have P:=G.mono (B.trans (C.trans N));split at s
 ·rename_i S4 g
  unfold X4 at g;split at g
  ·rename_i n
   cases r2' with
   | @ref _ a J=>
    split at g
    ·rename_i I h4
     split at g
     ·rename_i Y hk
      split at g
      ·rename_i hz
       cases g;obtain⟨j,e,r⟩:=U.ob n _ _ h4 J;rw[PJ r3 hk];have le:Le X.K m T m (upd T a (.dK (Il j Y R))):=Le.write J (by rw[e];trivial);obtain⟨s5,Q⟩:=U.write (ho:=.dK (Il j Y R)) (o:=.dK (Gz I Y v)) J ⟨_,Bi,(KVR.put Y O r).mono le⟩ le;exact⟨a,_,rfl,YE.k e (by rw[<-KVR.length r];exact hz),s m _ σ (B.trans (C.trans (N.trans Q))) s5 (P.mono Q)⟩
      ·cases g
     ·cases g
    ·rename_i I h4
     split at g
     ·rename_i ds
      split at g
      ·rename_i Z hk
       split at g
       ·rename_i hz
        cases g;obtain⟨j,e,r⟩:=U.ob n _ _ h4 J
        cases r3 with
        | tup b1 b2=>
         rw[PF b2 hk]at b1;have le:Le X.K m T m (upd T a (.dT (Il j Z R))):=Le.write J (by rw[e];trivial);obtain⟨s5,Q⟩:=U.write (ho:=.dT (Il j Z R)) (o:=.dT (Gz I Z v)) J ⟨_,Bi,(KVR.put Z O r).mono le⟩ le;exact⟨a,_,rfl,YE.t e b1 (by rw[<-KVR.length r];exact hz),s m _ σ (B.trans (C.trans (N.trans Q))) s5 (P.mono Q)⟩
       ·cases g
      ·cases g
     ·cases g
    ·cases g
  ·cases g
 ·exact s.elim
end
section
variable{X:Cx}{E:EW}{a b c:Expr}{pos:Pos}
def b9{K}{f g}{N}{H}{Q}(h:gE K E (m3 f g ma mb Y) N H Q):gF (rD K f) (rD K g) (gE K E ma) (gE K E mb) (gE K E Y) N H Q:=by
 obtain⟨Z,l,S,C,hs,j⟩:=h;refine⟨Z,l,S,C,hs,j.seq λx S1 j G H1 u m s1 r1=>⟨G,l,S1,C.mono m,s1,(j.later m).seq λy O j I H2 v o s2 P=>?_⟩⟩
 cases B:f x y O with
 | bad=>rw[B]at j;exact j.elim
 | err _ _=>rw[B]at j;exact j.elim
 | ok z R=>
  rw[B]at j;dsimp only[okR,Res.bind]at j;refine⟨I,O,x,y,z,R,s2,r1.mono o,P,B,λs H3 w A T r3=>?_⟩
  cases z with
  | bl k=>
   cases r3;refine⟨k,rfl,?_⟩
   cases k with
   | true=>
    rw[qX rfl];refine⟨s,l,R,C.mono (m.trans (o.trans A)),T,CY.seq (j.later (o.trans A)) λw S4 j J H4 wv U s4 r4=>?_⟩;obtain⟨d,S',e,k⟩:=j.okR;exact⟨J,S4,y,w,d,S',s4,P.mono (A.trans U),r4,e,λL H' z l' s' r'=>k L H' z (m.trans (o.trans (A.trans (U.trans l')))) s' r'⟩
   | false=>rw[qY AV];exact j s H3 _ (m.trans (o.trans A)) T (.bl false)
  | _=>exact j.elim
def Xs(ho:OpR X (CJ l) (rD X.K f))(m:OpR X (CJ j) (rD X.K g))(o:GE X E a ma)(hb:GE X E b mb)(s:GE X E c A)
  (B:lastMarks [l,j] [b,c]=false:=by with_unfolding_all rfl):GT X E (.Compare a [l,j] [b,c] pos) (mB (m3 f g ma mb A)):=(hV ho m o hb s B).imp λ_ _ _ h=>b9 (i5 h)
def cq(m:ME):ME:=λe S=>(m e S).bind λd g=>match d with
 | .int i=>.ok (.int (-i)) g
 | _=>.bad
def ZW(h:GE X E a ma):GE X E (.UnaryOp .USub a pos) (cq ma):=(uv qM h).imp<|by
 rintro I H Q ⟨m,l,S,o,s,g⟩
 refine⟨m,l,S,o,s,g.seq λd J g j A x B C G=>?_⟩
 cases d <;> first | exact g.elim | skip
 cases G;exact⟨_,rfl,g j A _ B C (.int _)⟩
end
abbrev MO:=Lo->Sto->Res (Option Int)
def gO(K:AJ)(E:EW)(m:MO):TO:=λs H Q=>∃j e S,Fj K j H e s/\Cj K j S H/\CY K (λc=>E c s) j H (m e S) λo A=>∀g l,Le K j H g l->Cj K g A l->Q o l
abbrev GO(X:Cx)(E:EW)(e:Option Expr)(m:MO):Prop:=PO X e (gO X.K E m)
def OE:MO:=λ_ S=>.ok none S
def K5(m:ME):MO:=λe S=>(m e S).bind λd g=>match d with
 | .int i=>.ok (some i) g
 | _=>.bad
def EN{α:Type}(xs:List α)(lo hi:Option Int):List α:=(xs.drop (HT.sIx xs.length 0 lo)).take (HT.sIx xs.length xs.length hi - HT.sIx xs.length 0 lo)
def fP(n:Nat)(lo hi:Option Int):Bool:=decide (HT.sIx n 0 lo=0/\HT.sIx n n hi=n)
def Vq(d:D)(lo hi:Option Int)(S:Sto):Res D:=match d with
 | .tup g=>if fP g.length lo hi=true then .bad else .ok (.tup (EN g lo hi)) S
 | _=>match WC d S with
  | some g=>.ok (.ref S.length) (S++[.lst (EN g lo hi)])
  | none=>.bad
def KZ(m:ME)(ml g:MO):ME:=λe S=>(m e S).bind λd j=>(ml e j).bind λlo l=>(g e l).bind λo s=>okR (Vq d lo o s)
section
variable{X:Cx}{E:EW}{e:Expr}{lo hi:Option Expr}{pos p2:Pos}{m:ME}{ml mh:MO}
def PO.imp(h:PO X o t)(i:∀g H Q,t' g H Q->t g H Q):PO X o t':=λj s g H Q I q=>h j s g H Q I (i g H Q q)
def KG:GO X E none OE:=PO.imp mS λs H Q ⟨g,l,S,A,j,o⟩=>o g H .refl j
def IN(h:GE X E e m):GO X E (some e) (K5 m):=PO.imp (mR h)<|by
 rintro J H Q ⟨o,l,S,s,A,g⟩
 refine⟨o,l,S,s,A,g.seq λd L g j B x C G I=>?_⟩
 cases d <;> first | exact g.elim | skip
 cases I;exact⟨_,rfl,g j B C G⟩
def Sx{K}{ρ}{H}{ds}{g}(r:A3 K ρ H ds g)(lo hi:Option Int):A3 K ρ H (EN ds lo hi) (Q9 g lo hi):=by
 unfold EN Q9;rw[r.length];exact(r.drop _).take _
def NG(he:GE X E e m)(A:GO X E lo ml)(hu:GO X E hi mh):GE X E (.Subscript e (.Slice lo hi none p2) pos) (KZ m ml mh):=(XY (lZ.or gd) he A hu).imp<|by
 rintro σ H Q ⟨ρ,l,S,A,hs,s⟩
 refine⟨ρ,l,S,A,hs,s.seq λd S1 s J H1 x B s1 r1=>⟨J,l,S1,A.mono B,s1,(s.later B).seq λlo S2 s L H2 C s2=>⟨L,l,S2,A.mono (B.trans C),s2,(s.later C).seq λhi N s G O P R=>?_⟩⟩⟩;obtain⟨d',S',e,k⟩:=s.okR;have Y:=r1.mono (C.trans P)
 have lst:∀g,WC d N=some g->Res.ok (.ref N.length) (N++[.lst (EN g lo hi)])=Res.ok d' S'->uk X.K x lo hi O Q:=λg j e=>by
  cases e;obtain⟨p,T,rfl,rr,sq⟩:=PB R Y j;refine⟨p,T,rfl,sq,λq j=>?_⟩;have le:Le X.K G O (G++[q]) (upd O q (.lst (Q9 T lo hi))):=Le.alloc j;obtain⟨U,I,ϣ⟩:=R.alloc (ho:=.lst (Q9 T lo hi)) (o:=.lst (EN g lo hi)) j ⟨_,Bi,(Sx rr lo hi).mono le⟩;exact k _ _ _ (B.trans (C.trans (P.trans I))) U (.ref ϣ)
 cases d with
 | tup g=>
  unfold Vq at e;dsimp only at e;split at e
  ·cases e
  ·rename_i hw
   cases e
   cases Y with
   | @tup _ a Z h1 h2=>
    refine .inr ⟨a,Z,rfl,.inl (.inl h1),λz=>hw ?_,λq j=>?_⟩
    ·unfold fP
     rw[h2.length];exact wX z
    ·obtain⟨U,I⟩:=Fv (ho:=.tup (Q9 Z lo hi)) R j
     exact k _ _ _ (B.trans (C.trans (P.trans I))) U (.tup Bi ((Sx h2 lo hi).mono I))
 | non=>cases e
 | bl _=>cases e
 | int _=>cases e
 | str _=>cases e
 | exc _=>cases e
 | fro g=>exact .inl (lst g rfl e)
 | ref n=>
  unfold Vq at e;dsimp only at e;split at e
  ·rename_i g j
   exact .inl (lst g j e)
  ·cases e
end
section
variable{X:Cx}{E:EW}{e:Expr}{p pos:Pos}{m:ME}
def GJ(m:ME):ME:=λe S=>(m e S).bind λd g=>match Ht d g with
 | some j=>.ok (.tup j) g
 | none=>.bad
def IZ(R:Gl X "tuple") (s:X.mg "tuple" = none) (h:GE X E e m) (N:AQ [e] X.env=(false,B1 e X.env) :: AQ [] X.env:=by rfl):GE X E (.Call (.Name "tuple" p) [e] [] pos) (GJ m):=
 (P9 UA R s vz (Du h GF N) (by decide) (by decide) N rfl).imp<|by
 rintro σ H Q ⟨T,l,S,U,Y,s⟩
 refine⟨T,l,S,U,Y,s.seq λd Z s B A x O G r1=>?_⟩
 cases g:Ht d Z with
 | none=>rw[g]at s;exact s.elim
 | some ds=>
  rw[g]at s
  have Ϥ:∀a j,x=.ref a->SqL X.K A a j->A3 X.K B A ds j->∃p I,[x]=[.ref p]/\((SqL X.K A p I/\∀l,A l=none->Q (.ref l) (upd A l (.tup I)))∨(SqT X.K A p I/\Q (.ref p) A)):=λa j e sq J=>by
   subst e;refine⟨a,j,rfl,.inl ⟨sq,λq g=>?_⟩⟩;obtain⟨s2,P⟩:=Fv (ho:=.tup j) G g;exact s _ _ _ (O.trans P) s2 (.tup Bi (J.mono P))
  cases r1 with
  | @tup _ a j C L=>cases g;exact⟨a,j,rfl,.inr ⟨.inl (.inl C),s B A _ O G (.tup C L)⟩⟩
  | @fro _ a j C L=>cases g;exact Ϥ a j rfl C.sq L
  | @ref n a hn=>
   obtain⟨o,ho,ro⟩:=G.there hn;unfold Ht at g;simp only[ho]at g
   cases o with
   | lst es=>cases g;obtain⟨j,e,J⟩:=ro;exact Ϥ a j rfl (.inl (.inl e)) J
   | _=>cases g
  | _=>cases g
variable{o:Expr}
def atL(d:D)(S:Sto):Option (Nat×List D):=match d with
 | .ref n=>match S[n]? with
  | some (.lst g)=>some (n,g)
  | _=>none
 | _=>none
def NX{K}{ρ}{S}{H}{d}{x}{n}{xs}(s:Cj K ρ S H)(r:CB K ρ H d x)(h:atL d S=some (n,xs)):d=.ref n/\S[n]?=some (.lst xs)/\∃a vs,x=.ref a/\ρ[n]?=some a/\H a=some (.lst vs)/\A3 K ρ H xs vs:=by
 unfold atL at h;split at h
 ·split at h
  ·rename_i g hd
   cases h;exact⟨rfl,hd,aM s r hd⟩
  ·cases h
 ·cases h
def RP{K}{ρ}{S}{H}{n}{a}{l g}{ys}(s:Cj K ρ S H)(j:ρ[n]?=some a)(e:H a=some (.lst l))(r:A3 K ρ H ys g) :
  Cj K ρ (S.set n (.lst ys)) (upd H a (.lst g))/\Le K ρ H ρ (upd H a (.lst g)):=by
 have le:Le K ρ H ρ (upd H a (.lst g)):=Le.write j (by rw[e];trivial);exact s.write (ho:=.lst g) (o:=.lst ys) j ⟨_,Bi,r.mono le⟩ le
def OO(mo mi:ME):MG:=λv e S=>(mo e S).bind λd s=>(mi e s).bind λk g=>match atL d g,k with
 | some (n,l),.int i=>match ixN l.length i with
  | some j=>.ok e (g.set n (.lst (l.set j v)))
  | none=>.bad
 | _,_=>.bad
def jT{i}{mi}(ho:GE X noE o mo)(hi:GE X noE i mi)(R:∀v,OM (.Subscript o i pos) X.env v=(do
   let B <-Kq [v] (B1 o X.env)
   let iv <-Kq [v,B] (B1 i X.env)
   YG pos
   Kq [v,B,iv] (tU B iv v)
   release [v,B,iv] []):=by intro _;rfl):GG X (.Subscript o i pos) (OO mo mi):=(rA ho hi gi R).imp<|by
 rintro v T H Q ⟨U,l,S,d,hd,G,Y,g⟩
 refine⟨U,l,S,G,Y,g.seq λx Z s I H1 u A s1 r1=>⟨I,l,Z,G.mono A,s1,(s.later A).seq λk S2 L J H2 w C N r2=>?_⟩⟩;have g:=L
 clear L s
 have yW:=G.mono (A.trans C);split at g
 ·rename_i n xs i hq
  split at g
  ·rename_i j hj
   obtain⟨rfl,h0,a,vs,rfl,hn,e,O⟩:=NX N (r1.mono C) hq;cases r2;obtain⟨s3,P⟩:=RP N hn e (O.set (hd.mono (A.trans C)) j);exact⟨a,vs,i,j,rfl,rfl,e,by rw[<-O.length];exact hj,g J _ T (A.trans (C.trans P)) s3 (yW.mono P)⟩
  ·exact g.elim
 ·exact g.elim
end
section
variable{X:Cx}
def range_getD{g:Type}(d:g)(bs:List g):(Bs bs.length).map (λi=>bs.getD i d)=bs:=by
 apply Hg
 intro i;rw[Ao]
 by_cases h:i < bs.length
 ·rw[CC h]
  simp[List.getD,h]
 ·rw[DN.mpr (by simpa using h),DN.mpr (by simpa using h)]
  rfl
def lK{bs:List Bool}{g:List AI}(r:Bx (bs.map V.bl) g){i:Nat}{v:AI}(h:g.toArray[i]?=some v):v=.bool (bs.getD i false):=by
 have j:g[i]?=some v:=by simpa using h
 obtain⟨o,e⟩:=AC.mp j
 have hb:i < bs.length:=by have:=r.length;simp at this;lia
 obtain⟨u,l,m⟩:=r.get (show(bs.map V.bl)[i]?=some (V.bl bs[i]) by simp[hb]);rw[j]at l;cases l;rw[show v=On bs[i]from m];simp[List.getD,hb]
def ZB(K:AJ)(f:List Bool->Bool):List V->Hp->VK->Prop:=λg H Q=>∃p bs,g=[.ref p]/\(SqL K H p (bs.map V.bl)∨SqT K H p (bs.map V.bl))/\Q (.bl (f bs)) H
def TB{J:List (AW×Obj)}{s:AM}{L:St}{H:Hp}{p:AW}{bs:List Bool}{R:AI->AM->Prop}{E:AI->AM->Prop}(T:X.calm=true)(I:Inv X J L H s)(l:SqL X.K H p (bs.map V.bl)∨SqT X.K H p (bs.map V.bl))
  (h:∀m G,(∃I fp wr n P St N,m=A0 I/\Walks X.prog X.w X.A.in1 I fp wr n P St/\St 0 G.heap/\TruthOf X.prog X.w X.A.in1 P N/\(Bs n).map N=bs /\
   ∀(h':CZ) (tk:Nat),(∀b o,¬b∈wr->G.heap.get? b=some o->h'.get? b=some o)->Inv X J L H { G with heap:=h',toks:=tk })->R m G) :
  Ag (Ah X.prog X.w) X.A.in1 (VC (.ref p)) R E s:=by
 have O:X.A.in1.handled=none:=I.ok.hd T
 have fin:∀(g:List AI),Bx (bs.map V.bl) g->(Bs g.toArray.size).map (λi=>bs.getD i false)=bs:=λg r=>by
  have:g.toArray.size=bs.length:=by have:=r.length;simp at this;simpa using this.symm
  rw[this,range_getD]
 have B:∀(g:List AI),Bx (bs.map V.bl) g->TruthOf X.prog X.w X.A.in1 (λi v=>g.toArray[i]?=some v) (λi=>bs.getD i false):=λg r i v s Q E U q=>by
  rw[lK r U];exact C7 q
 have kp:∀(S:Obj) (h':CZ) (tk:Nat),(∀b o,¬b∈[s.heap.objs.size]->(s.heap.push S).get? b=some o->h'.get? b=some o)->Inv X J L H { s with heap:=h',toks:=tk }:=λS h' tk k=>
  I.kept λb o e=>k b o (by simpa using Al (AZ e)) (AF _ e)
 rcases l with l | l
 ·obtain⟨g,C,j,Y⟩:=I.list l
  refine MW j.isList (h _ _ ⟨s.heap.objs.size,_,_,_,_,_,_,rfl,bT O _ p (Al (AZ j.isList.choose_spec.1)) g.toArray,⟨⟨_,AR _ rfl,rfl,rfl⟩,?_⟩,B g C,fin g C,kp _⟩)
  exact j.isList.at λo e=>AF _ e
 ·obtain⟨g,C,j,Y⟩:=I.tuple l
  have pt:s.heap.IsTuple p g.toArray:=j;refine Df pt (h _ _ ⟨s.heap.objs.size,_,_,_,_,_,_,rfl,RC O _ p (Al j.lt) g.toArray,⟨⟨_,AR _ rfl,rfl,rfl⟩,?_⟩,B g C,fin g C,kp _⟩);obtain⟨o,e,c⟩:=pt;exact⟨o,AF _ e,c⟩
def dw(j:X.calm=true):HX X (.builtin "all") (ZB X.K λbs=>bs.all id):=by
 intro G s L H N O Q I r h;obtain⟨p,bs,rfl,l,q⟩:=h;obtain⟨u,rfl,m⟩:=vals1 r;cases m;refine call_all_walk (TB j I l λo R ⟨J,A,wr,n,P,St,B,e,W,st,g,C,kp⟩=>⟨J,A,wr,n,P,St,B,e,W,st,g,λE tk k=>⟨.bl _,H,kp E tk k,rfl,?_⟩⟩);rw[<-C]at q;dsimp only at q;rw[YN]at q;exact q
def dv(j:X.calm=true):HX X (.builtin "any") (ZB X.K λbs=>bs.any id):=by
 intro G s L H N O Q I r h;obtain⟨p,bs,rfl,l,q⟩:=h;obtain⟨u,rfl,m⟩:=vals1 r;cases m;refine call_any_walk (TB j I l λo R ⟨J,A,wr,n,P,St,B,e,W,st,g,C,kp⟩=>⟨J,A,wr,n,P,St,B,e,W,st,g,λE tk k=>⟨.bl _,H,kp E tk k,rfl,?_⟩⟩);rw[<-C]at q;dsimp only at q;rw[tf]at q;exact q
noncomputable def Zd:List D->Option (List Bool)
 | []=>some []
 | .bl b :: g=>(Zd g).map (b :: ·)
 | _ :: _=>none
def bJ{K}{ρ}{H}:∀{ds:List D} {j:List V} {bs:List Bool},A3 K ρ H ds j->Zd ds=some bs->j=bs.map V.bl
 | _,_,_,.nil,h=>by cases h;rfl
 | .bl b :: ds,_,bs,.cons r t,h=>by
  unfold Zd at h
  cases g:Zd ds with
  | none=>rw[g]at h;cases h
  | some l=>rw[g]at h;cases h;cases r;rw[bJ t g];rfl
 | .non :: _,_,_,.cons r t,h=>by cases h
 | .int _ :: _,_,_,.cons r t,h=>by cases h
 | .str _ :: _,_,_,.cons r t,h=>by cases h
 | .tup _ :: _,_,_,.cons r t,h=>by cases h
 | .fro _ :: _,_,_,.cons r t,h=>by cases h
 | .ref _ :: _,_,_,.cons r t,h=>by cases h
 | .exc _ :: _,_,_,.cons r t,h=>by cases h
def dy(f:List Bool->Bool)(ds:List D)(S:Sto):Res D:=match Zd ds with
 | some bs=>.ok (.bl (f bs)) S
 | none=>.bad
def XI:oV X.K (ZB X.K f) (dy f):=λj H S o q s d A Q l m sq g k=>by
 unfold dy at g;split at g
 ·rename_i bs hb
  cases g;rw[bJ m hb]at sq;exact⟨q,bs,rfl,sq,k j H _ .refl l (.bl _)⟩
 ·cases g
abbrev j9:=dy λbs=>bs.all id
abbrev oO:=dy λbs=>bs.any id
noncomputable def Hj:List D->Option ZLi
 | []=>some []
 | .int b :: g=>(Hj g).map (b :: ·)
 | _ :: _=>none
def NC:∀{ds:List D} {ns:ZLi},Hj ds=some ns->ds=ns.map D.int
 | [],_,h=>by cases h;rfl
 | .int b :: ds,ns,h=>by
  unfold Hj at h
  cases g:Hj ds with
  | none=>rw[g]at h;cases h
  | some j=>rw[g]at h;cases h;rw[NC g];rfl
 | .non :: _,_,h=>by cases h
 | .bl _ :: _,_,h=>by cases h
 | .str _ :: _,_,h=>by cases h
 | .tup _ :: _,_,h=>by cases h
 | .fro _ :: _,_,h=>by cases h
 | .ref _ :: _,_,h=>by cases h
 | .exc _ :: _,_,h=>by cases h
noncomputable def tyD(d:D)(S:Sto):Option String:=match d with
 | .non=>some "NoneType"
 | .bl _=>some "bool"
 | .int _=>some "int"
 | .str _=>some "str"
 | .tup _=>some "tuple"
 | .ref n=>match S[n]? with
  | some (.lst _)=>some "list"
  | some (.dK _)=>some "dict"
  | some (.dT _)=>some "dict"
  | _=>none
 | .fro _=>none
 | .exc _=>none
def qO{K}{ρ}{S}{H}{d}{x}{T}(s:Cj K ρ S H)(r:CB K ρ H d x)(h:tyD d S=some T):Pa K H x (.type T):=by
 cases r with
 | non=>cases h;exact .non
 | bl b=>cases h;exact .bl b
 | int i=>cases h;exact .int i
 | str i=>cases h;exact .str i
 | tup A _=>cases h;exact .tup A
 | fro _ _=>cases h
 | exc _ _=>cases h
 | @ref n a B=>
  obtain⟨o,C,g⟩:=s.there B;unfold tyD at h;simp only[C]at h
  cases o with
  | lst j=>cases h;obtain⟨l,e,m⟩:=g;exact .lst e
  | dK j=>cases h;obtain⟨l,e,m⟩:=g;exact .dK e
  | dT j=>cases h;obtain⟨l,e,m⟩:=g;exact .dT e
  | ins _ _=>cases h
  | fK _=>cases h
  | fT _=>cases h
  | mem _=>cases h
end
def HI{α:Type}(r g:Res α):Res α:=match r with
 | .bad=>g
 | r=>r
def cZ{g:Type}(r r':Res g):HI r r'=r∨HI r r'=r':=by cases r <;> simp[HI]
def op2(f g:D->D->Sto->Res D):D->D->Sto->Res D:=λx y S=>HI (f x y S) (g x y S)
def aX(f g:D->D->Sto->Res D)(ma mb:ME)(l:Lo)(S:Sto):m2 (op2 f g) ma mb l S=m2 f ma mb l S∨m2 (op2 f g) ma mb l S=m2 g ma mb l S:=by
 unfold m2
 cases ma l S with
 | ok x m=>
  dsimp only[Res.bind]
  cases mb l m with
  | ok y j=>
   dsimp only[Res.bind];unfold op2
   rcases cZ (f x y j) (g x y j)with e | e <;> rw[e] <;> simp
  | err c j=>exact .inl rfl
  | bad=>exact .inl rfl
 | err c m=>exact .inl rfl
 | bad=>exact .inl rfl
section
def ja{m g m2}(G:GE X E e g)(J:GE X E e m2)(h:∀l S,m l S=g l S∨m l S=m2 l S):GE X E e m:=by
 rintro j s o H Q I ⟨A,l,S,B,C,a⟩
 rcases h l S with q | q
 ·rw[q]at a;exact G j s o H Q I ⟨A,l,S,B,C,a⟩
 ·rw[q]at a;exact J j s o H Q I ⟨A,l,S,B,C,a⟩
def jQ(B:GT X E e C)(G:GT X E e J)(h:∀l S,t l S=C l S∨t l S=J l S):GT X E e t:=by
 rintro g s j H Q I ⟨m,l,S,o,A,a⟩
 rcases h l S with q | q
 ·rw[q]at a;exact B g s j H Q I ⟨m,l,S,o,A,a⟩
 ·rw[q]at a;exact G g s j H Q I ⟨m,l,S,o,A,a⟩
def sX(C:GI X E g e G)(J:GI X E g e L)(h:∀l S,t l S=G l S∨t l S=L l S):GI X E g e t:=by
 rintro j s m H R I ⟨o,l,S,A,B,a⟩
 rcases h l S with q | q
 ·rw[q]at a;exact C j s m H R I ⟨o,l,S,A,B,a⟩
 ·rw[q]at a;exact J j s m H R I ⟨o,l,S,A,B,a⟩
def pC{m g m2}(h:∀l S,m l S=g l S∨m l S=m2 l S)(l:Lo)(S:Sto):mB m l S=mB g l S∨mB m l S=mB m2 l S:=by
 unfold mB
 rcases h l S with q | q <;> rw[q] <;> simp
abbrev inA(neg:Bool):=op2 (inD neg) (L6 neg)
def au(j:X.A.units+64 < FS)(hi:GE X E i mi)(ho:GE X E o mo)(g:Cu .In o=false:=by with_unfolding_all rfl):GE X E (.Compare i [.In] [o] pos) (m2 (inA false) mi mo):=
 ja (QI (pB j) hi ho g) (sd (by lia) hi ho g) λ_ _=>aX _ _ _ _ _ _
def Xr(j:X.A.units+64 < FS)(hi:GE X E i mi)(ho:GE X E o mo)(g:Cu .In o=false:=by with_unfolding_all rfl):GT X E (.Compare i [.In] [o] pos) (mB (m2 (inA false) mi mo)):=
 jQ (Ct (pB j) hi ho g) (sS (by lia) hi ho g) (pC λ_ _=>aX _ _ _ _ _ _)
def Jd(j:X.A.units+64 < FS)(hi:GE X E i mi)(ho:GE X E o mo)(g:Cu .NotIn o=false:=by with_unfolding_all rfl):GT X E (.Compare i [.NotIn] [o] pos) (mB (m2 (inA true) mi mo)):=
 jQ (Ct (iV j) hi ho g) (dM (by lia) hi ho g) (pC λ_ _=>aX _ _ _ _ _ _)
abbrev ixA:=op2 ixD OH
def Dd(j:X.A.units+64 < FS)(ho:GE X E o mo)(hi:GE X E i mi)(g:Wf i:=by intro _ _;rfl):GE X E (.Subscript o i pos) (m2 ixA mo mi):=
 ja (vT vA ho hi g) (nq (by lia) ho hi g) λ_ _=>aX _ _ _ _ _ _
def IU(d:D):N1:=match d with
 | .tup g=>JV g
 | d=>Qd d
def Ek(m:ME):MI:=λe S=>(m e S).bind λd g=>match IU d g with
 | some _=>.ok (IU d) g
 | none=>.bad
def Dx(h:GE X E e m):GI X E j e (Ek m):=sX (sW h) (sV h) λl S=>by
 unfold Ek vQ pG
 cases m l S with
 | ok d g=>
  dsimp only[Res.bind]
  cases d <;> first | exact .inl rfl | exact .inr rfl
 | err c g=>exact .inl rfl
 | bad=>exact .inl rfl
def G0(m:ME):ME:=λe S=>(m e S).bind λd g=>match Ht d g with
 | some j=>.ok (.int j.length) g
 | none=>.bad
def Ed(j:Gl X "len") (o:X.mg "len" = none) (h:GE X E e m) (s:AQ [e] X.env=(false,B1 e X.env) :: AQ [] X.env:=by rfl):GE X E (.Call (.Name "len" p) [e] [] pos) (G0 m):=
 (PR WX qg j o kW (Uu h) (by decide) (by decide) s).imp λG H Q ⟨A,l,S,B,C,a⟩=>⟨A,l,S,B,C,by
  have q:mQ vI (Ka m) l S=G0 m l S:=by
   unfold mQ Ka G0
   cases m l S with
   | ok d g=>
    dsimp only[Res.bind]
    cases Ht d g <;> rfl
   | err c g=>rfl
   | bad=>rfl
  rw[q];exact a⟩
def RU(g:X.calm=true)(j:Gl X "min") (l:X.mg "min" = none) (h:GA X E [a,b] ml) (m:AQ [a,b] X.env=(false,B1 a X.env) :: AQ [b] X.env:=by rfl) (o:(DH pos (AQ [b] X.env)).any (·.1)=false:=by rfl):GE X E (.Call (.Name "min" p) [a,b] [] pos) (mQ OF ml):=
 aw (di g) oR j l Rg h (by decide) (by decide) m o
def ao(g:X.calm=true)(j:Gl X "max") (l:X.mg "max" = none) (h:GA X E [a,b] ml) (m:AQ [a,b] X.env=(false,B1 a X.env) :: AQ [b] X.env:=by rfl) (o:(DH pos (AQ [b] X.env)).any (·.1)=false:=by rfl):GE X E (.Call (.Name "max" p) [a,b] [] pos) (mQ Ql ml):=
 aw (dn g) oS j l Rh h (by decide) (by decide) m o
def RV(g:Gl X "list") (j:X.mg "list" = none) (h:GE X E e m) (l:AQ [e] X.env=(false,B1 e X.env) :: AQ [] X.env:=by rfl):GE X E (.Call (.Name "list" p) [e] [] pos) (D4 (mN SY (Ka m))):=
 DY (nW WW lY g j RD (Uu h) (by decide) (by decide) l)
def jc(g:X.calm=true)(j:Gl X "all") (l:X.mg "all" = none) (h:GE X E e m) (o:AQ [e] X.env=(false,B1 e X.env) :: AQ [] X.env:=by rfl):GE X E (.Call (.Name "all" p) [e] [] pos) (mQ j9 (Ka m)):=
 PR (dw g) XI j l wE (Uu h) (by decide) (by decide) o
def se(g:X.calm=true)(j:Gl X "any") (l:X.mg "any" = none) (h:GE X E e m) (o:AQ [e] X.env=(false,B1 e X.env) :: AQ [] X.env:=by rfl):GE X E (.Call (.Name "any" p) [e] [] pos) (mQ oO (Ka m)):=
 PR (dv g) XI j l wD (Uu h) (by decide) (by decide) o
end
def Nn(mo ma:ME):ME:=λe S=>(mo e S).bind λd j=>match atL d j with
 | some (n,_)=>(ma e j).bind λy g=>match atL d g,atL y g with
  | some (_,l),some (k,m)=>if k≠n/\l.length+m.length<=sizeLine then .ok .non (g.set n (.lst (l++m)))else .bad
  | _,_=>.bad
 | none=>.bad
section
def Uw(ho:GE X E o mo)(Y:GE X E e ma)(Z:E3 o "extend" X.env (B1 o X.env)=B1 o X.env:=by rfl)
  (xO:((DH g (AQ [e] X.env)).all (λx=>!x.1)&&(Te g (MZ [] X.env)).all (λx=>x.1.isSome)
    &&decide ([e].length+([]:List Jn).length+(if ([]:List Jn).isEmpty then 0 else 1) < 30))=true:=by rfl)
  (wW:(m.endLine==g.line)=true:=by rfl) (s:AQ [e] X.env=(false,B1 e X.env) :: AQ [] X.env:=by rfl) (wx:(DH g (AQ [] X.env)).any (·.1)=false:=by rfl) :
  GE X E (.Call (.Attribute o "extend" m) [e] [] g) (Nn mo ma):=(aQ Gn Th Tg cp ho (Du Y GF s) Z xO wW s wx).imp<|by
 rintro σ H Q ⟨ρ,l,S,J,s,j⟩
 refine⟨ρ,l,S,J,s,j.seq λd L j A H1 v B N O=>?_⟩
 cases C:atL d L with
 | none=>rw[C]at j;exact j.elim
 | some z=>
  obtain⟨n,xs0⟩:=z;rw[C]at j;dsimp only at j;obtain⟨rfl,h0,a,Ω,rfl,hn,e0,_⟩:=NX N O C;refine⟨.inl ⟨rfl,Ω,.inl (.inl e0)⟩,A,l,L,J.mono B,N,(j.later B).seq λy S2 j G H2 u P I r2=>?_⟩;split at j
  ·rename_i n' xs k ys h2 h3
   split at j
   ·rename_i hz
    obtain⟨e',h4,a',vs,ea,wK,R,T⟩:=NX I (O.mono P) h2;cases e';cases ea;obtain⟨ey,h5,p,ws,rfl,hk,e3,U⟩:=NX I r2 h3;obtain⟨s3,l3⟩:=RP I wK R (T.append U);exact⟨a,p,vs,ws,rfl,rfl,R,e3,by rw[<-T.length,<-U.length];exact hz.2,j G _ _ (B.trans (P.trans l3)) s3 .non⟩
   ·exact j.elim
  ·exact j.elim
end
def isN(A:String):Option Bool:=if ["NoneType", "bool", "int", "str", "tuple", "list", "dict"].contains A then some false else none
def mIs(g:String->Option Bool)(l:AW->Option Bool)(m:ME):ME:=λe S=>(m e S).bind λd j=>match d with
 | .exc C=>match l C with
  | some b=>.ok (.bl b) j
  | none=>.bad
 | d=>match tyD d j with
  | some T=>match g T with
   | some b=>.ok (.bl b) j
   | none=>.bad
  | none=>.bad
noncomputable def kz(g:Tf)(x:Str):Bool:=decide (g.names.lookup x=some .local)||decide (g.names.lookup x=some .cell)||decide (g.names.lookup x=some .free)
def ju(X:Cx)(scope:Tf)(own N':List Str):Bool:=
 decide (scope.kind=.function)&&scope.names.all (λy=>!decide (y.2=.local)||decide (scope.names.lookup y.1=some .local)) &&
 scope.names.all (λy=>!decide (y.2=.free)||decide (X.env.kindOf y.1=some .cell)||decide (X.env.kindOf y.1=some .free))&&decide (N'.length=own.length+X.N.length) &&
 ((N'.drop own.length).zip X.N).all (λp=>!kz (Kp scope X.env) p.1||(decide (p.1=p.2)&&kz X.env.scope p.1&&(decide ((Kp scope X.env).names.lookup p.1=some .cell)||decide ((Kp scope X.env).names.lookup p.1=some .free))&&!decide (X.env.kindOf p.1=some .local)&&!scope.names.any (λz=>decide (z=(p.1,DB)))&&scope.names.any (λz=>decide (z=(p.1,GR))))) &&
 (Kp scope X.env).names.all (λy=>(!decide (y.2=.cell)&&!decide (y.2=.free))||scope.names.any (λz=>decide (z=(y.1,GR)))||scope.names.any (λz=>decide (z=(y.1,DB))))
def W0:kz g x=true↔Vis g x:=by
 unfold kz Vis;simp[or_assoc]
def FP(h:ju X scope own N'=true):Og X scope own N':=by
 unfold ju at h;simp only[DU]at h;obtain⟨⟨⟨⟨⟨H,m⟩,o⟩,s⟩,A⟩,B⟩:=h;rw[DA]at m o A B;refine⟨of_decide_eq_true H,λy l e=>?_,λy l e=>?_,of_decide_eq_true s,λi x e v=>?_,λx j=>?_⟩
 ·have:=m y l
  simpa[e]using this
 ·have:=o y l
  simpa[e]using this
 ·have C:=of_decide_eq_true s
  have S:own.length+i < N'.length:=(AC.mp e).1
  have j:i < X.N.length:=by lia
  have I:(x,X.N[i])∈(N'.drop own.length).zip X.N:=by
   rw[List.mem_iff_getElem?];refine⟨i,?_⟩;rw[List.getElem?_zip_eq_some];exact⟨by rw[EG];exact e,by simp[j]⟩
  have:=A _ I;rw[W0.mpr v]at this;simp only[Em,pf,DU,Bool.or_eq_true,decide_eq_true_eq,fH,decide_eq_false_iff_not]at this;obtain⟨⟨⟨⟨⟨J,L⟩,O⟩,P⟩,E⟩,Q⟩:=this;refine⟨⟨by rw[J];simp[j],W0.mp L,O,P⟩,λq=>?_,?_⟩
  ·rw[fD]at E
   exact E _ q (wX rfl)
  ·obtain⟨z,G,e⟩:=EB.mp Q
   rw[of_decide_eq_true e]at G;exact G
 ·have g:∀k,(Kp scope X.env).names.lookup x=some k->(k=.cell∨k=.free)->(x,GR)∈scope.names∨(x,DB)∈scope.names:=λk e R=>by
   have:=B _ (Dq e)
   rcases R with rfl | rfl
   ·simpa using this
   ·simpa using this
  rcases j with e | e
  ·exact g _ e (.inl rfl)
  ·exact g _ e (.inr rfl)
structure Dfn(K:AJ)(mg:Str->Option AI)(x qual:Str)(st:EF)(ps:List Str) where
 f:AW
 fd:LP
 F:Fun K x qual st f fd
 b:Binds K fd ps []
 m:mg x=some (.ref f)
def Dfn.kp{K}{j}{x g}{st}{ps}(d:Dfn K j x g st ps):G4 K (.ref d.f)=true:=d.F.kp
structure Mtd(K:AJ)(x qual:Str)(st:EF)(ps:List Str) where
 f:AW
 fd:LP
 F:Fun K x qual st f fd
 b:Binds K fd ps []
structure Own(K:AJ)(mg:Str->Option AI)(x:Str)(C f:AW):Prop where
 cl:Cls K C
 mk':Mk K C f
 m:mg x=some (.ref C)
structure Xcl(K:AJ)(mg:Str->Option AI)(x:Str)(C:AW):Prop where
 xc:XCl K C
 m:mg x=some (.ref C)
abbrev wN:Nat:=1000000
structure XIs(K:AJ)(C:AW):Prop where
 cl:(FC K C).isSome=true
 ga:DC K (.ref C) "__getattribute__" = some (some (.builtin "BaseException.__getattribute__"))
 gn:DC K (.ref C) "__getattr__" = some none
 ca:DC K (.ref C) "__class__" = some (some (.builtin "object.__class__"))
 sp:Zp K (.builtin "object.__class__") "__get__" = some (some (.builtin "getset_descriptor.__get__"))
 tk:eK K (.builtin "object.__class__")=some true
 ob:N4 K C (.type "object")=some true
 be:N4 K C (.type "BaseException")=some true
def UE.inst(g:h.get? a=some o)(x:UE o C):fA h a o C none:=by
 obtain⟨j,l,s,m⟩:=x;refine⟨g,j,?_,?_⟩
 ·unfold PySem.W.notCls;rw[m]
 ·rw[l];trivial
section
variable{prog:Bq}{w:CQ}{A:B5}{E:AI->AM->Prop}{s:AM}{K:AJ}{a C:AW}{o:Obj}
def dW(c:XIs K C)(X:K.In s.heap)(g:s.heap.get? a=some o)(x:UE o C)(h:Q () s):Ag M A (VJ "BaseException.__getattribute__" ⟨[.ref a,nameV],[]⟩) Q E s:=by
 have I:=x.inst g;obtain⟨j,H,d,t,os⟩:=s;have l:=I.type (M:=M);have m:IE M j (isInstance (.ref a) (.type "BaseException")) true:=l.andThen (PySem.W.looks_mroIn X c.be)
 have B:builtinKind "BaseException.__getattribute__" = some .slot:=by decide +kernel
 have G:splitId "BaseException.__getattribute__" = some ("BaseException", "__getattribute__"):=by decide +kernel
 have J:=PySem.F.args_bexc_ga (.ref a) nameV;simp only[VJ,B,G];refine AA (m.at ?_)
 repeat(any_goals (first | assumption | wp_step))
def dS(c:XIs K C)(X:K.In s.heap)(g:s.heap.get? a=some o)(x:UE o C)(h:Q (.done (.ret (.ref C))) s) :
  Ag (Ah prog w) A (Builtin.«object.__getattribute__» ⟨[.ref a,.str "__class__" tk],[]⟩) Q E s:=by
 have I:=x.inst g;obtain⟨G,H,d,t,os⟩:=s;have j:=I.type (M:=Ah prog w)
 have l:eN K C none "__class__" = some (.bind (.builtin "getset_descriptor.__get__") (.builtin "object.__class__")):=by
  obtain⟨J,m⟩:=UI.mp c.cl;unfold eN;rw[m,c.ca];simp only[AD];rw[c.sp];simp only[AD];rw[c.tk];rfl
 have B:=PySem.W.looks_find (M:=Ah prog w) X I l;unfold Builtin.«object.__getattribute__»;refine AA (AE ?_);dsimp only;refine AA (AE (AA (j.at (AA (B.at ?_)))));dsimp only;unfold kL;dsimp only;refine AA (CP (Ra (PySem.W.class_get X I c.ob ?_)));exact AE h
def dU(c:XIs K C)(X:K.In s.heap)(g:s.heap.get? a=some o)(x:UE o C)(h:Q (some (.ref C)) { s with toks:=s.toks+1 }):Ag (Ah prog w) A (getAttr? (.ref a) "__class__") Q E s:=by
 have I:=x.inst g;obtain⟨B,G,d,t,os⟩:=s;have j:=I.type (M:=Ah prog w);have l:=Mh (M:=Ah prog w) X c.ga;have L2:=Mh (M:=Ah prog w) X c.gn;unfold getAttr? getAttrBy? getAttrBy;refine AA (wpAny_mkText (AA (EO (CP (AA (j.at (AA (l.at ?_))))))))
 have m:(onTheHeap (A0 C)&&oh "BaseException.__getattribute__"==oh "object.__getattribute__")=false:=by show(true&&_)=false;decide +kernel
 dsimp only;rw[qY (by rw[m];exact AV)];unfold getAttrByItsOwn hookBefore;refine AA ?_;rw[qX (show onTheHeap (A0 C)=true from rfl)];refine L2.at (AA (EO (CP ?_)));unfold callGetattribute;rw[qY (by simp)];unfold boundAndCalled;refine AA (MX (Rf.ga.bind (.ref a)) ?_);refine Ra (kT Rf.ga.plain PySem.F.entry_bexc_ga (dW c X g x (dS c X g x ?_)));exact AE (AE h)
def Xo(c:XIs K C):PySem.W.KitX K (.ref a) (.ref C) (λh=>∃o,h.get? a=some o/\UE o C) where
 ty:=λM h X ⟨o,g,x⟩=>(x.inst g).type
 it:=λM h X _=>by
  have z:=c.cl;unfold FC at z;split at z
  ·rename_i j
   intro m B G H k q;unfold isType loadHead;exact AA (YR (k _ _ (X _ _ j)) (AE q))
  ·cases z
 ne:=λh tp I J n sl X l=>by
  refine Bool.eq_false_iff.mpr λq=>?_
  have e:C=tp:=A0.inj (beq_iff_eq.mp q);subst e;have z:=c.cl;unfold FC at z;split at z
  ·rename_i j
   have y:=(X _ _ j).symm.trans l;cases y
  ·cases z
 ca:=λX ⟨o,g,x⟩ k=>dU c X g x k
end
def rIs(K:AJ)(c:V)(cv:AI):List V->Hp->VK->Prop:=λg H Q=>(∃x t b,g=[x,c]/\Pa K H x t/\CS K t cv=some b/\Q (.bl b) H) ∨
 ∃a o u C b,g=[.ref a,c]/\H a=some (.frz o u)/\UE o C/\XIs K C/\CS K (.ref C) cv=some b/\Q (.bl b) H
section
variable{X:Cx}{E:EW}{e ce:Expr}{c:V}
def oH(m:∀u,RelV c u->u=cv):HX X (.builtin "isinstance") (rIs X.K c cv):=by
 intro J s L H N O Q I r h
 rcases h with⟨x,t,b,rfl,ty,e,q⟩ | ⟨a,o,u,C,b,rfl,A,B,G,e,q⟩
 ·obtain⟨v,w,rfl,j,l⟩:=vals2 r
  rw[m w l]
  exact dE I j ty e λtk=>⟨.bl b,H,I.tok tk,rfl,q⟩
 ·obtain⟨v,w,rfl,j,l⟩:=vals2 r
  rw[m w l];cases(show v=A0 a from j);obtain⟨g,_⟩:=(show DG X.prog X.w H s.heap a (.frz o u)from I.hok a _ A)
  exact Co (Xo G) I.kIn ⟨o,g,B⟩ e (λz=>nomatch z) λtk=>⟨.bl b,H,I.tok tk,rfl,q⟩
def pH(hv:∀u,RelV c u->u=cv)(ht:∀T b,o T=some b->CS X.K (.type T) cv=some b)(P:∀C b,R C=some b->XIs X.K C/\CS X.K (.ref C) cv=some b)
  (hg:Gl X "isinstance") (j:X.mg "isinstance" = none) (h:GE X E e m) (G:PE X ce (tC c))
  (U:AQ [e,ce] X.env=(false,B1 e X.env) :: AQ [ce] X.env:=by rfl) (xX:AQ [ce] X.env=(false,B1 ce X.env) :: AQ [] X.env:=by rfl) (wm:(DH pos (AQ [ce] X.env)).any (·.1)=false:=by rfl) :
  GE X E (.Call (.Name "isinstance" p) [e,ce] [] pos) (mIs o R m):=
 (Kz (oH hv) hg j Oi (Du h (Du G GF xX) U) (by decide) (by decide) U wm).imp<|by
 rintro σ H Q ⟨I,l,S,hl,hs,j⟩
 refine⟨I,l,S,hl,hs,j.seq λd J j A L x Y N Z=>?_⟩
 have M':∀(z:CY X.K (λc=>E c σ) I H (match tyD d J with | some T=>(match o T with | some b=>Res.ok (D.bl b) J | none=>.bad) | none=>.bad) λd S'=>∀s B x,Le X.K I H s B->Cj X.K s S' B->CB X.K s B d x->Q x B),rIs X.K c cv [x,c] L Q:=λj=>by
  cases O:tyD d J with
  | none=>rw[O]at j;exact j.elim
  | some T=>
   rw[O]at j;dsimp only at j
   cases hb:o T with
   | none=>rw[hb]at j;exact j.elim
   | some b=>
    rw[hb]at j;exact .inl ⟨x,_,b,rfl,qO N Z O,ht T b hb,j A L _ Y N (.bl _)⟩
 cases d with
 | exc C=>
  dsimp only at j
  cases hb:R C with
  | none=>rw[hb]at j;exact j.elim
  | some b=>
   rw[hb]at j
   cases Z with
   | exc g x=>exact .inr ⟨_,_,_,C,b,rfl,g,x,(P C b hb).1,(P C b hb).2,j A L _ Y N (.bl _)⟩
 | _=>exact M' j
end
end L2
namespace Srt
structure Ord(U:BO->Prop)(lt:BO->BO->Bool):Prop where
 asym:∀x y,U x->U y->lt x y=true->lt y x=false
 ntr:∀x y z,U x->U y->U z->lt y x=false->lt z y=false->lt z x=false
def Ord.irr(o:Ord U lt)(h:U x):lt x x=false:=by
 cases e:lt x x with
 | false=>rfl
 | true=>exact(o.asym x x h h e).symm.trans e |>.symm▸rfl
def ix(xs:Array BO)(i:Nat):BO:=xs.getD i (.none,.none)
def LA(h:xs[i]?=ys[j]?):ix xs i=ix ys j:=by
 unfold ix;rw[FW,FW,h]
def Dw(h:i < xs.size):xs[i]?=some (ix xs i):=by
 unfold ix;rw[FW,getElem?_pos xs i h];rfl
def dC(l:g < xs.size)(hd:d<=g)(k:Nat) :
  ix (pU xs g d) k=if k=g - d then ix xs g else if g - d < k/\k<=g then ix xs (k - 1)else ix xs k:=by
 have e:=getElem?_bubble l d hd k;split
 ·rename_i h;rw[qX h]at e;exact LA e
 ·rename_i h
  rw[qY h]at e;split
  ·rename_i j;rw[qX j]at e;exact LA e
  ·rename_i j;rw[qY j]at e;exact LA e
def Eu(g:j<=xs.size)(k:Nat) :
  ix (LM xs i j ((j - i) / 2)) k=if i<=k/\k < j then ix xs (i+j - 1 - k)else ix xs k:=by
 have e:=getElem?_mirror_all (i:=i) g k;split
 ·rename_i h;rw[qX h]at e;exact LA e
 ·rename_i h;rw[qY h]at e;exact LA e
section
def MQ(prog:Bq)(w:CQ)(A:B5)(s:AM)(a₀:Array BO)(g:Pn)(lt:BO->BO->Bool):Prop:=
 ∀x y,x∈a₀->y∈a₀->∀(Q:Bool->AM->Prop) (E:AI->AM->Prop),Q (lt x y) s->Ag (Ah prog w) A (keyLt' g x.1 y.1) Q E s
structure Good(a₀:Array BO)(κ:Pn)(st:BH):Prop where
 perm:(Aa st).Perm a₀
 kind:kindOf st=κ
 failed:Jq st=none
def Good.size{st:BH}(g:Good a₀ j st):(Aa st).size=a₀.size:=g.perm.size_eq
def Good.mem{st:BH}(g:Good a₀ l st){i:Nat}(h:i < a₀.size):ix (Aa st) i∈a₀:=by
 have j:i < (Aa st).size:=by rw[g.size];exact h
 have e:=Dw j;have:=DO e;exact Bh.mp ((Fs.mp g.perm).mem_iff.mp (Bh.mpr this))
def Good.setArr{st:BH}(g:Good a₀ j st){xs:Array BO}(l:xs.Perm (Aa st)):Good a₀ j (setArr st xs):=⟨l.trans g.perm,g.kind,g.failed⟩
def Ro{st:BH}{x y:BO}{Q:Option Bool->BH->Prop}(C:MQ prog w A s a₀ j lt)(g:Good a₀ j st)(l:x∈a₀)(m:y∈a₀)(h:Q (some (lt x y)) st):wpS (Ah prog w) A E s (lt' x y) Q st:=by
 rw[lt'_eq];refine Am (Ie ?_);rw[g.kind];refine Am (wpS_lift (EO ?_));refine C x y l m _ _ ⟨rfl,?_⟩;exact An h
def Pv{st:BH}{i j:Nat}{Q:Option Bool->BH->Prop}(C:MQ prog w A s a₀ m lt)(g:Good a₀ m st)(hi:i < a₀.size)(l:j < a₀.size)(h:Q (some (lt (ix (Aa st) i) (ix (Aa st) j))) st) :
  wpS (Ah prog w) A E s (tV i j) Q st:=by
 rw[ltAt'_eq];refine Am (Ie ?_);show wpS _ _ _ _ (do let x <-elem' (Aa st) i;let y <-elem' (Aa st) j;lt' x y) Q st;rw[kS,kS,Dw (by rw[g.size];exact hi),Dw (by rw[g.size];exact l)];exact Am (An (Am (An (Ro C g (g.mem hi) (g.mem l) h))))
def Up(lt:BO->BO->Bool)(xs:Array BO)(lo hi:Nat):Prop:=∀i j,lo<=i->i<=j->j < hi->lt (ix xs j) (ix xs i)=false
def Dn(lt:BO->BO->Bool)(xs:Array BO)(lo hi:Nat):Prop:=∀i j,lo<=i->i<=j->j < hi->lt (ix xs i) (ix xs j)=false
def Out(xs ys:Array BO)(lo hi:Nat):Prop:=∀i,(i < lo∨hi<=i)->ix ys i=ix xs i
def Out.refl{xs:Array BO}{lo hi:Nat}:Out xs xs lo hi:=λ_ _=>rfl
def Out.trans{xs ys g:Array BO}{lo hi:Nat}(a:Out xs ys lo hi)(b:Out ys g lo hi):Out xs g lo hi:=λi h=>(b i h).trans (a i h)
def Up.out{xs ys:Array BO}{lo hi l h:Nat}(u:Up lt xs l h)(o:Out xs ys lo hi)(d:h<=lo∨hi<=l):Up lt ys l h:=λi j g m s=>by
 rw[o i (by lia),o j (by lia)];exact u i j g m s
def Up.grow{st:BH}(O:Ord (·∈a₀) lt)(g:Good a₀ B st){lo hi:Nat}(l:hi < a₀.size)(u:Up lt (Aa st) lo hi)(C:lo < hi)(h:lt (ix (Aa st) hi) (ix (Aa st) (hi - 1))=false):Up lt (Aa st) lo (hi+1):=λi j m o E=>by
 by_cases s:j < hi
 ·exact u i j m o s
 ·have:j=hi:=by lia
  subst this
  by_cases A:i=j
  ·subst A;exact O.irr (g.mem l)
  ·exact O.ntr _ _ _ (g.mem (by lia)) (g.mem (show j - 1 < _ by omega)) (g.mem l) (u i (j - 1) m (by lia) (by lia)) h
def wpS_binarySort{st:BH}{lo n ok:Nat}{Q:Bool->BH->Prop}(C:MQ prog w A s a₀ S lt)(O:Ord (·∈a₀) lt)(hn:lo+n<=a₀.size)(hok:ok<=n)(g:Good a₀ S st)(u:Up lt (Aa st) lo (lo+ok))
  (h:∀m,Good a₀ S m->Up lt (Aa m) lo (lo+n)->Out (Aa st) (Aa m) lo (lo+n)->Ae m=Ae st->Q true m):wpS (Ah prog w) A E s (binarySort' lo n ok) Q st:=by
 rw[binarySort'_eq]
 refine Am (HZ (Di (I:=λk c m=>c=(none,())/\Good a₀ S m/\Up lt (Aa m) lo (lo+min k n)/\Out (Aa st) (Aa m) lo (lo+n)/\Ae m=Ae st)
  (Q:=λc m=>c=(none,())/\Good a₀ S m/\Up lt (Aa m) lo (lo+n)/\Out (Aa st) (Aa m) lo (lo+n)/\Ae m=Ae st) ?step ?fin ?init) ?post)
 case post=>
  rintro c m ⟨rfl,X,Y,Z,p'⟩;exact An (h m X Y Z p')
 case init=>
  refine⟨rfl,g,λi j R T h3=>?_,.refl,rfl⟩
  by_cases h0:ok=0
  ·have:i=j:=by lia
   subst this;exact O.irr (g.mem (by omega))
  ·exact u i j R T (by lia)
 case fin=>
  rintro c m ⟨hc,X,Y,Z,p'⟩;refine⟨hc,X,?_,Z,p'⟩;rwa [show min (max (max ok 1) n) n=n by lia]at Y
 case step=>
  rintro k c H hak hkn ⟨rfl,B,U,o1,p1⟩;rw[show min k n=k by lia]at U
  have L:lo+k < a₀.size:=by lia
  refine Am (HZ (Di (I:=λx c o=>o=H/\∃l r,c=(none,l,r)/\l<=r/\r<=k/\r - l<=k - x /\
    (∀i,i < l->lt (ix (Aa H) (lo+k)) (ix (Aa H) (lo+i))=false)/\(∀i,r<=i->i < k->lt (ix (Aa H) (lo+k)) (ix (Aa H) (lo+i))=true))
   (Q:=λc o=>o=H/\∃l r,c=(none,l,r)/\l<=k /\
    (∀i,i < l->lt (ix (Aa H) (lo+k)) (ix (Aa H) (lo+i))=false)/\(∀i,l<=i->i < k->lt (ix (Aa H) (lo+k)) (ix (Aa H) (lo+i))=true)) ?istep ?ifin ?iinit) ?ipost)
  case iinit=>exact⟨rfl,0,k,rfl,by lia,by lia,by lia,λi hi=>by lia,λi R T=>by lia⟩
  case ifin=>
   rintro c o ⟨rfl,l,r,rfl,hlr,J,hm,N,P⟩
   have:l=r:=by lia
   subst this;exact⟨rfl,l,l,rfl,J,N,P⟩
  case istep=>
   rintro x c o _ hxk ⟨rfl,l,r,rfl,hlr,J,hm,N,P⟩;dsimp only
   by_cases xp:l ≥ r
   ·rw[qX xp]
    have:l=r:=by lia
    subst this;exact An ⟨rfl,l,l,rfl,J,N,P⟩
   ·rw[qY xp]
    refine Am (Pv C B L (by lia) ?_)
    cases G:lt (ix (Aa o) (lo+k)) (ix (Aa o) (lo+(l+r) / 2))with
    | true=>
     refine An ⟨rfl,l,(l+r) / 2,rfl,by lia,by lia,by omega,N,λi R T=>?_⟩
     cases e:lt (ix (Aa o) (lo+k)) (ix (Aa o) (lo+i))with
     | true=>rfl
     | false=>
      have:=O.ntr _ _ _ (B.mem (show lo+(l+r) / 2 < _ by lia)) (B.mem (show lo+i < _ by lia)) (B.mem L) (U (lo+(l+r) / 2) (lo+i) (by lia) (by lia) (by lia)) e;rw[G]at this;cases this
    | false=>
     refine An ⟨rfl,(l+r) / 2+1,r,rfl,by lia,by omega,by omega,λi R=>?_,P⟩;exact O.ntr _ _ _ (B.mem (show lo+i < _ by lia)) (B.mem (show lo+(l+r) / 2 < _ by lia)) (B.mem L) (U (lo+i) (lo+(l+r) / 2) (by lia) (by lia) (by lia)) G
  case ipost=>
   rintro c o ⟨rfl,l,r,rfl,hlk,N,P⟩;show wpS _ _ _ _ (do moveDown' (lo+k) (lo+l);pure (IT (none,()))) _ _;rw[moveDown'_eq]
   have hks:lo+k < (Aa o).size:=by rw[B.size];exact L
   have e:∀i,ix (pU (Aa o) (lo+k) (lo+k - (lo+l))) i=if i=lo+l then ix (Aa o) (lo+k)else if lo+l < i/\i<=lo+k then ix (Aa o) (i - 1)else ix (Aa o) i:=λi=>by
    rw[dC hks (by lia),show lo+k - (lo+k - (lo+l))=lo+l by lia]
   refine Am (D6 (An ⟨rfl,B.setArr (bubble_perm _ _ _),?_,o1.trans λi hi=>?_,p1⟩))
   ·rw[show min (k+1) n=k+1 by lia]
    intro i j R T h3;show lt (ix (pU (Aa o) (lo+k) (lo+k - (lo+l))) j) (ix (pU (Aa o) (lo+k) (lo+k - (lo+l))) i)=false;rw[e,e]
    repeat' split
    all_goals first
     | (exfalso;lia)
     | exact O.irr (B.mem L)
     | (have q:=N (i - lo) (by lia);rw[show lo+(i - lo)=i by lia]at q;exact q)
     | (have q:=P (j - 1 - lo) (by omega) (by omega);rw[show lo+(j - 1 - lo)=j - 1 by lia]at q;exact O.asym _ _ (B.mem L) (B.mem (by lia)) q)
     | exact U _ _ (by omega) (by omega) (by lia)
   ·show ix (pU (Aa o) (lo+k) (lo+k - (lo+l))) i=ix (Aa o) i
    rw[e,qY (by lia),qY (by lia)]
end
section
def Ku{g:Type}{M:Yi}{r:String}{Q:PUnit->g->Prop}{st:g}(h:Q ⟨⟩ st):wpS M A E s (liftM (rule r):StateT g Sem PUnit) Q st:=wpS_lift (Hl ⟨rfl,h⟩)
def Dn.flip{xs:Array BO}{lo hi:Nat}(g:hi<=xs.size)(d:Dn lt xs lo hi):Up lt (LM xs lo hi ((hi - lo) / 2)) lo hi:=λi j l m o=>by
 rw[Eu g,Eu g,qX (by lia),qX (by lia)];exact d _ _ (by omega) (by omega) (by omega)
def Dn.part{xs:Array BO}{lo hi m:Nat}(g:hi<=xs.size)(o:lo<=m)(l:m<=hi)(d:Dn lt xs lo hi)(e:Up lt xs m hi):Dn lt (LM xs m hi ((hi - m) / 2)) lo hi:=λi j s A B=>by
 rw[Eu g,Eu g]
 by_cases C:m<=i
 ·rw[qX (by lia),qX (by lia)]
  exact e _ _ (by omega) (by omega) (by omega)
 ·rw[qY (by lia)]
  split
  ·exact d _ _ (by omega) (by lia) (by omega)
  ·exact d _ _ (by omega) (by omega) (by omega)
def Lm{xs:Array BO}{i j lo hi:Nat}(g:j<=xs.size)(l:lo<=i)(m:j<=hi):Out xs (LM xs i j ((j - i) / 2)) lo hi:=λk o=>by
 rw[Eu g,qY (by lia)]
def Dn.grow{st:BH}(O:Ord (·∈a₀) lt)(g:Good a₀ B st){lo hi:Nat}(l:hi < a₀.size)(u:Dn lt (Aa st) lo hi)(C:lo < hi)(h:lt (ix (Aa st) (hi - 1)) (ix (Aa st) hi)=false):Dn lt (Aa st) lo (hi+1):=λi j m o E=>by
 by_cases s:j < hi
 ·exact u i j m o s
 ·have:j=hi:=by lia
  subst this
  by_cases A:i=j
  ·subst A;exact O.irr (g.mem l)
  ·exact O.ntr _ _ _ (g.mem l) (g.mem (show j - 1 < _ by omega)) (g.mem (by lia)) h (u i (j - 1) m (by lia) (by lia))
def Ys(O:Ord (·∈a₀) lt){st:BH}(g:Good a₀ o st){lo:Nat}(h:lo < a₀.size):Up lt (Aa st) lo (lo+1):=λi j s A B=>by
 have l:i=lo:=by lia
 have m:j=lo:=by lia
 rw[l,m];exact O.irr (g.mem h)
def kn{st:BH}{lo wa n:Nat}{Q:Option Nat->BH->Prop}(C:MQ prog w A s a₀ l lt)(O:Ord (·∈a₀) lt)(H:1<=n)(J:n<=wa)(L:lo+wa<=a₀.size)(g:Good a₀ l st)(u:Up lt (Aa st) lo (lo+n))
  (h:∀n,1<=n->n<=wa->Up lt (Aa st) lo (lo+n)->Q (some n) st):wpS (Ah prog w) A E s (do
   let mut n:=n
   for _ in [n:wa] do
    let some m <-tV (lo+n) (lo+n - 1) | return none
    if m then break
    n:=n+1
   return some n) Q st:=by
 refine Am (HZ (Di (I:=λx c j=>j=st/\c=(none,x)/\Up lt (Aa st) lo (lo+x))
  (Q:=λc j=>j=st/\∃n,c=(none,n)/\1<=n/\n<=wa/\Up lt (Aa st) lo (lo+n)) ?step ?fin ⟨rfl,rfl,u⟩) ?post)
 case fin=>
  rintro c j ⟨rfl,rfl,u⟩
  have e:max n wa=wa:=by lia
  rw[e]at u ⊢;exact⟨rfl,wa,rfl,by lia,AL _,u⟩
 case step=>
  rintro x c j o N ⟨rfl,rfl,u⟩;dsimp only;refine Am (Pv C g (by lia) (by lia) ?_)
  cases B:lt (ix (Aa j) (lo+x)) (ix (Aa j) (lo+x - 1))with
  | true=>exact An ⟨rfl,x,rfl,by lia,by lia,u⟩
  | false=>exact An ⟨rfl,rfl,Up.grow (hi:=lo+x) O g (by lia) u (by lia) B⟩
 case post=>
  rintro c j ⟨rfl,n,rfl,ϥ,G,u⟩;exact An (h n ϥ G u)
def wpS_countRun{st}{lo wa}{Q}(C:MQ prog w A s a₀ H lt)(O:Ord (·∈a₀) lt)(h1:1<=wa)(hn:lo+wa<=a₀.size)(g:Good a₀ H st)
  (h:∀l n,Good a₀ H l->1<=n->n<=wa->Up lt (Aa l) lo (lo+n)->Out (Aa st) (Aa l) lo (lo+wa)->Ae l=Ae st->Q (some n) l):wpS (Ah prog w) A E s (countRun' lo wa) Q st:=by
 rw[countRun'_eq]
 refine Am (HZ (Di (I:=λx c l=>l=st/\c=(none,x)/\Up lt (Aa st) lo (lo+x))
  (Q:=λc l=>l=st/\∃n,c=(none,n)/\1<=n/\n<=wa/\Up lt (Aa st) lo (lo+n)/\(n=wa∨lt (ix (Aa st) (lo+n)) (ix (Aa st) (lo+n - 1))=true)) ?step ?fin ?init) ?post)
 case init=>
  refine⟨rfl,rfl,λi j a1 a2 a3=>?_⟩
  have:i=j:=by lia
  subst this;exact O.irr (g.mem (by lia))
 case fin=>
  rintro c l ⟨rfl,rfl,u⟩
  have e:max 1 wa=wa:=by lia
  rw[e]at u ⊢;exact⟨rfl,wa,rfl,h1,AL _,u,.inl rfl⟩
 case step=>
  rintro x c l X Pf ⟨rfl,rfl,u⟩;dsimp only;refine Am (Pv C g (by lia) (by lia) ?_)
  cases N:lt (ix (Aa l) (lo+x)) (ix (Aa l) (lo+x - 1))with
  | true=>exact An ⟨rfl,x,rfl,X,by lia,u,.inr N⟩
  | false=>exact An ⟨rfl,rfl,Up.grow (hi:=lo+x) O g (by lia) u (by lia) N⟩
 case post=>
  rintro c l ⟨rfl,n,rfl,ϥ,wK,u,hd⟩;dsimp only
  by_cases T:n=wa
  ·rw[qX (by simpa using T)]
   exact An (h l n g ϥ wK u .refl rfl)
  ·rw[qY (by simpa using T)]
   have xj:=hd.resolve_left T
   have P:∀(wo:BH),Good a₀ H wo->Dn lt (Aa wo) lo (lo+(n+1))->Out (Aa l) (Aa wo) lo (lo+wa)->Ae wo=Ae l ->
     wpS (Ah prog w) A E s (do
      liftM (rule "list.sort.descending-run")
      let mut n:=n+1
      let mut neq:=0
      for _ in [n:wa] do
       let some Y <-tV (lo+n) (lo+n - 1) | return none
       if Y then
        if neq > 0 then RB (lo+n - (neq+1)) (lo+n)
        neq:=0
       else
        let some Pg <-tV (lo+n - 1) (lo+n) | return none
        if Pg then break
        neq:=neq+1
       n:=n+1
      if neq > 0 then RB (lo+n - (neq+1)) (lo+n)
      RB lo (lo+n)
      for _ in [n:wa] do
       let some Y <-tV (lo+n) (lo+n - 1) | return none
       if Y then break
       n:=n+1
      return some n) Q wo:=by
    intro wo Z d1 o1 p1;refine Am (Ku ?_)
    refine Am (HZ (Di (I:=λx c B=>Good a₀ H B/\∃q,c=(none,x,q)/\q+1<=x/\Dn lt (Aa B) lo (lo+x)/\Up lt (Aa B) (lo+x - (q+1)) (lo+x)/\Out (Aa l) (Aa B) lo (lo+wa)/\Ae B=Ae l)
     (Q:=λc B=>Good a₀ H B/\∃n q,c=(none,n,q)/\n<=wa/\q+1<=n/\Dn lt (Aa B) lo (lo+n)/\Up lt (Aa B) (lo+n - (q+1)) (lo+n)/\Out (Aa l) (Aa B) lo (lo+wa)/\Ae B=Ae l) ?dstep ?dfin ?dinit) ?dpost)
    case dinit=>
     refine⟨Z,0,rfl,by lia,d1,?_,o1,p1⟩;have:=Ys O Z (lo:=lo+n) (by lia);rwa [show lo+(n+1) - (0+1)=lo+n by lia,show lo+(n+1)=lo+n+1 by lia]
    case dfin=>
     rintro c B ⟨G,q,rfl,N,d2,S,J,L⟩
     have e:max (n+1) wa=wa:=by lia
     rw[e]at d2 S N ⊢;exact⟨G,wa,q,rfl,AL _,N,d2,S,J,L⟩
    case dstep=>
     rintro x c B X Pf ⟨G,q,rfl,N,d2,S,J,L⟩;dsimp only;refine Am (Pv C G (by lia) (by lia) ?_)
     cases hs:lt (ix (Aa B) (lo+x)) (ix (Aa B) (lo+x - 1))with
     | true=>
      dsimp only;rw[qX rfl];have wb:=O.asym _ _ (G.mem (show lo+x < _ by lia)) (G.mem (show lo+x - 1 < _ by lia)) hs
      by_cases Pq:q > 0
      ·rw[qX Pq,Nu]
       have o:lo+x<=(Aa B).size:=by rw[G.size];lia
       have U:Good a₀ H (setArr B (LM (Aa B) (lo+x - (q+1)) (lo+x) ((lo+x - (lo+x - (q+1))) / 2))):=G.setArr (Wi _ _ _ _);have d3:=Dn.part (lt:=lt) (lo:=lo) o (show lo<=lo+x - (q+1) by lia) (by omega) d2 S;refine Am (D6 (An ⟨U,0,rfl,by lia,?_,?_,J.trans (Lm o (by lia) (by lia)),L⟩))
       ·refine Dn.grow (hi:=lo+x) O U (by lia) d3 (by lia) ?_
        show lt (ix (LM (Aa B) (lo+x - (q+1)) (lo+x) ((lo+x - (lo+x - (q+1))) / 2)) (lo+x - 1)) (ix (LM (Aa B) (lo+x - (q+1)) (lo+x) ((lo+x - (lo+x - (q+1))) / 2)) (lo+x))=false;rw[Eu o,Eu o,qX (by omega),qY (by lia)];exact O.ntr _ _ _ (G.mem (by lia)) (G.mem (show lo+x - 1 < _ by lia)) (G.mem (by omega)) wb (d2 _ _ (by lia) (by omega) (by lia))
       ·have:=Ys O U (lo:=lo+x) (by lia)
        rwa [show lo+(x+1) - (0+1)=lo+x by lia,show lo+(x+1)=lo+x+1 by lia]
      ·rw[qY Pq]
       refine An ⟨G,0,rfl,by lia,Dn.grow (hi:=lo+x) O G (by lia) d2 (by lia) wb,?_,J,L⟩;have:=Ys O G (lo:=lo+x) (by lia);rwa [show lo+(x+1) - (0+1)=lo+x by lia,show lo+(x+1)=lo+x+1 by lia]
     | false=>
      dsimp only;rw[qY AV];refine Am (Pv C G (by lia) (by lia) ?_)
      cases hl:lt (ix (Aa B) (lo+x - 1)) (ix (Aa B) (lo+x))with
      | true=>exact An ⟨G,x,q,rfl,by lia,N,d2,S,J,L⟩
      | false=>
       refine An ⟨G,q+1,rfl,by lia,Dn.grow (hi:=lo+x) O G (by lia) d2 (by lia) hl,?_,J,L⟩;rw[show lo+(x+1) - (q+1+1)=lo+x - (q+1) by lia];exact Up.grow (hi:=lo+x) O G (by lia) S (by omega) hs
    case dpost=>
     rintro c B ⟨G,m,q,rfl,hm,N,d2,S,J,L⟩;dsimp only
     have o:lo+m<=(Aa B).size:=by rw[G.size];lia
     have last:∀xR,Good a₀ H xR->Dn lt (Aa xR) lo (lo+m)->Out (Aa l) (Aa xR) lo (lo+wa)->Ae xR=Ae l->∀(R:StateT BH Sem (Option Nat)),R=(do
        let mut n:=m
        for _ in [n:wa] do
         let some Y <-tV (lo+n) (lo+n - 1) | return none
         if Y then break
         n:=n+1
        return some n)->wpS (Ah prog w) A E s (do RB lo (lo+m);R) Q xR:=by
      rintro xR U d3 o3 p3 R rfl
      have Ϧ:lo+m<=(Aa xR).size:=by rw[U.size];lia
      rw[Nu];refine Am (D6 ?_);have g4:Good a₀ H (setArr xR (LM (Aa xR) lo (lo+m) ((lo+m - lo) / 2))):=U.setArr (Wi _ _ _ _)
      exact kn C O (by lia) hm hn g4 (Dn.flip Ϧ d3) λk k1 k2 k3=>h _ k g4 k1 k2 k3 (o3.trans (Lm Ϧ (by lia) (by lia))) p3
     by_cases Pq:q > 0
     ·rw[qX Pq,Nu]
      refine Am (D6 ?_);exact last _ (G.setArr (Wi _ _ _ _)) (Dn.part o (by lia) (by omega) d2 S) (J.trans (Lm o (by lia) (by lia))) L _ rfl
     ·rw[qY Pq]
      exact last _ G d2 J L _ rfl
   have wb:=O.asym _ _ (g.mem (show lo+n < _ by lia)) (g.mem (show lo+n - 1 < _ by omega)) xj
   by_cases hn0:n > 1
   ·rw[qX hn0]
    refine Am (Pv C g (by lia) (by omega) ?_)
    cases hr:lt (ix (Aa l) lo) (ix (Aa l) (lo+n - 1))with
    | true=>exact An (h l n g ϥ wK u .refl rfl)
    | false=>
     dsimp only;rw[qY AV,Nu]
     have o:lo+n<=(Aa l).size:=by rw[g.size];lia
     have Z:Good a₀ H (setArr l (LM (Aa l) lo (lo+n) ((lo+n - lo) / 2))):=g.setArr (Wi _ _ _ _)
     have al:∀i j,lo<=i->i < lo+n->lo<=j->j < lo+n->lt (ix (Aa l) i) (ix (Aa l) j)=false:=λi j i1 i2 j1 j2=>by
      have q1:=u j (lo+n - 1) (by omega) (by lia) (by omega);have q2:=u lo i (by lia) (by omega) (by omega);exact O.ntr _ _ _ (g.mem (by lia)) (g.mem (show lo < _ by lia)) (g.mem (by lia)) (O.ntr _ _ _ (g.mem (by lia)) (g.mem (show lo+n - 1 < _ by lia)) (g.mem (by lia)) q1 hr) q2
     refine Am (D6 ?_);refine P _ Z ?_ (Lm o (by lia) (by lia)) rfl;refine Dn.grow (hi:=lo+n) O Z (by lia) (λi j a1 a2 a3=>?_) (by lia) ?_
     ·show lt (ix (LM (Aa l) lo (lo+n) ((lo+n - lo) / 2)) i) (ix (LM (Aa l) lo (lo+n) ((lo+n - lo) / 2)) j)=false
      rw[Eu o,Eu o,qX (by lia),qX (by lia)];exact al _ _ (by omega) (by omega) (by omega) (by omega)
     ·show lt (ix (LM (Aa l) lo (lo+n) ((lo+n - lo) / 2)) (lo+n - 1)) (ix (LM (Aa l) lo (lo+n) ((lo+n - lo) / 2)) (lo+n))=false
      rw[Eu o,Eu o,qX (by omega),qY (by lia),show lo+(lo+n) - 1 - (lo+n - 1)=lo by omega];exact O.ntr _ _ _ (g.mem (by lia)) (g.mem (show lo+n - 1 < _ by lia)) (g.mem (by lia)) wb hr
   ·rw[qY hn0]
    have e:n=1:=by lia
    subst e;refine P _ g (Dn.grow (hi:=lo+1) O g (by lia) (λi j a1 a2 a3=>?_) (by lia) wb) .refl rfl
    have e1:i=lo:=by lia
    have e2:j=lo:=by lia
    rw[e1,e2];exact O.irr (g.mem (by lia))
end
def vU:Bool->BO->Array BO->Nat->Nat->Nat->StateT BH Sem (Option Nat):=sortPriv% PySem.Builtin.gallop
section
abbrev BS:=Option (Option Nat)×Nat×Nat
def oI{st:BH}{p:Nat->Bool}{n lo hi:Nat}{F:Nat->BS->StateT BH Sem (ForInStep BS)}{T:BS->StateT BH Sem (Option Nat)}{Q:Option Nat->BH->Prop}(G:lo<=hi)(H:hi<=n)
  (N:∀i,i < lo->p i=true) (O:∀i,hi<=i->i < n->p i=false) (mono:∀i j,i<=j->j < n->p j=true->p i=true)
  (P:∀x l h (R:ForInStep BS->BH->Prop),l<=h->h<=n->(l ≥ h->R (.done (none,l,h)) st)->(l < h->p (l+(h - l) / 2)=true->R (.yield (none,l+(h - l) / 2+1,h)) st)->(l < h->p (l+(h - l) / 2)=false->R (.yield (none,l,l+(h - l) / 2)) st) ->
   wpS (Ah prog w) A E s (F x (none,l,h)) R st)
  (S:∀l h,h<=n->(∀i,i < h->p i=true)->(∀i,h<=i->i < n->p i=false)->wpS (Ah prog w) A E s (T (none,l,h)) Q st):wpS (Ah prog w) A E s (forIn [0:n] (none,lo,hi) F >>= T) Q st:=by
 refine Am (HZ (Di (I:=λx c g=>g=st/\∃l h,c=(none,l,h)/\l<=h/\h<=n/\h - l<=n - x/\(∀i,i < l->p i=true)/\(∀i,h<=i->i < n->p i=false))
  (Q:=λc g=>g=st/\∃l h,c=(none,l,h)/\h<=n/\(∀i,i < h->p i=true)/\(∀i,h<=i->i < n->p i=false)) ?step ?fin ⟨rfl,lo,hi,rfl,G,H,by lia,N,O⟩) ?post)
 case fin=>
  rintro c g ⟨rfl,l,h,rfl,L,m,U,o,B⟩
  have:l=h:=by lia
  subst this;exact⟨rfl,l,l,rfl,m,o,B⟩
 case step=>
  rintro x c g _ Z ⟨rfl,l,h,rfl,L,m,U,o,B⟩
  refine P x l h _ L m (λxp=>?_) (λX C=>?_) λX C=>?_
  ·have:l=h:=by lia
   subst this;exact⟨rfl,l,l,rfl,m,o,B⟩
  ·exact⟨rfl,_,_,rfl,by lia,m,by omega,λi hi=>mono i (l+(h - l) / 2) (by lia) (by lia) C,B⟩
  ·refine⟨rfl,_,_,rfl,by lia,by lia,by omega,o,λi Y J=>?_⟩
   cases e:p i with
   | false=>rfl
   | true=>rw[mono _ i Y J e]at C;cases C
 case post=>
  rintro c g ⟨rfl,l,h,rfl,m,o,B⟩;exact S l h m o B
def ax{st:BH}{q:Nat->Bool}{n mx:Nat}{F:Nat->BS->StateT BH Sem (ForInStep BS)}{T:BS->StateT BH Sem (Option Nat)}{Q:Option Nat->BH->Prop}(N:mx<=n)(C:q 0=true)
  (G:∀x a b (R:ForInStep BS->BH->Prop),a < b->(b ≥ mx->R (.done (none,a,b)) st)->(b < mx->q b=false->R (.done (none,a,b)) st)->(b < mx->q b=true->R (.yield (none,b,2 * b+1)) st)->wpS (Ah prog w) A E s (F x (none,a,b)) R st)
  (H:∀a b,a < b->q a=true->(a=0∨a < mx)->(b < mx->q b=false)->wpS (Ah prog w) A E s (T (none,a,b)) Q st):wpS (Ah prog w) A E s (forIn [0:n] (none,0,1) F >>= T) Q st:=by
 refine Am (HZ (Di (I:=λx c g=>g=st/\∃a b,c=(none,a,b)/\a < b/\x+1<=b/\q a=true/\(a=0∨a < mx))
  (Q:=λc g=>g=st/\∃a b,c=(none,a,b)/\a < b/\q a=true/\(a=0∨a < mx)/\(b < mx->q b=false)) ?step ?fin ⟨rfl,0,1,rfl,by lia,by lia,C,.inl rfl⟩) ?post)
 case fin=>
  rintro c g ⟨rfl,a,b,rfl,j,J,l,m⟩;exact⟨rfl,a,b,rfl,j,l,m,λh=>by lia⟩
 case step=>
  rintro x c g _ O ⟨rfl,a,b,rfl,j,J,l,m⟩
  refine G x a b _ j (λP=>?_) (λB o=>?_) λB o=>?_
  ·exact⟨rfl,a,b,rfl,j,l,m,λh=>by lia⟩
  ·exact⟨rfl,a,b,rfl,j,l,m,λ_=>o⟩
  ·exact⟨rfl,b,2 * b+1,rfl,by lia,by lia,o,.inr B⟩
 case post=>
  rintro c g ⟨rfl,a,b,rfl,j,l,m,L⟩;exact H a b j l m L
def Hq{st:BH}{left:Bool}{key:BO}{arr:Array BO}{base n hint:Nat}{Q:Option Nat->BH->Prop}(C:MQ prog w A s a₀ κ lt)(g:Good a₀ κ st)(p:Nat->Bool)
  (Y:key∈a₀) (P:∀i,i < n->base+i < arr.size/\ix arr (base+i)∈a₀) (hp:∀i,i < n->p i=if left=true then lt (ix arr (base+i)) key else !lt key (ix arr (base+i)))
  (mono:∀i j,i<=j->j < n->p j=true->p i=true) (Z:hint < n)
  (h:∀k,k<=n->(∀i,i < k->p i=true)->(∀i,k<=i->i < n->p i=false)->Q (some k) st):wpS (Ah prog w) A E s (vU left key arr base n hint) Q st:=by
 have ϧ:∀i,i < n->∀R:Option Bool->BH->Prop,R (some (p i)) st->wpS (Ah prog w) A E s (do let x <-elem' arr (base+i);if left=true then lt' x key else do let y <-lt' key x;pure (y.map (!·))) R st:=by
  intro i B R hR;obtain⟨O,H⟩:=P i B;rw[kS,Dw O];refine Am (An ?_);rw[hp i B]at hR
  cases left with
  | true=>exact Ro C g H Y hR
  | false=>exact Am (Ro C g Y H (An hR))
 refine(Am ?_:wpS _ _ _ _ (vU left key arr base n hint) Q st);refine ϧ hint Z _ ?_
 have fin:∀(lo B:Nat) {F:Nat->BS->StateT BH Sem (ForInStep BS)} {T:BS->StateT BH Sem (Option Nat)},lo<=B->B<=n->(∀i,i < lo->p i=true)->(∀i,B<=i->i < n->p i=false) ->
   (∀x l m (R:ForInStep BS->BH->Prop),l<=m->m<=n->(l ≥ m->R (.done (none,l,m)) st)->(l < m->p (l+(m - l) / 2)=true->R (.yield (none,l+(m - l) / 2+1,m)) st)->(l < m->p (l+(m - l) / 2)=false->R (.yield (none,l,l+(m - l) / 2)) st) ->
    wpS (Ah prog w) A E s (F x (none,l,m)) R st)->(∀l m,T (none,l,m)=pure (some m))->wpS (Ah prog w) A E s (forIn [0:n] (none,lo,B) F >>= T) Q st:=λlo B F T O H h3 h4 hF hT=>
  oI O H h3 h4 mono hF λl m q1 q2 q3=>by rw[hT];exact An (h m q1 q2 q3)
 cases hq:p hint with
 | true=>
  dsimp only;rw[qX rfl]
  refine ax (q:=λi=>decide (hint+i < n)&&p (hint+i)) (mx:=n - hint) (by lia) (by simp[hq,Z]) (λx a b R X I J L=>?_) λa b X G ha hb=>?_
  ·dsimp only
   by_cases o:b ≥ n - hint
   ·rw[qX o];exact An (I o)
   ·rw[qY o]
    refine Am (ϧ (hint+b) (by lia) _ ?_);have hd:decide (hint+b < n)=true:=wX (by lia)
    cases e:p (hint+b)with
    | true=>exact An (L (by lia) (by simp[hd,e]))
    | false=>exact An (J (by lia) (by simp[hd,e]))
  ·dsimp only
   have U:p (hint+a)=true:=by simp at G;exact G.2
   have S:hint+a < n:=by simp at G;exact G.1
   refine fin (hint+a+1) (hint+min b (n - hint)) (by omega) (by omega) (λi B=>mono i (hint+a) (by lia) S U) (λi O H=>?_) (λx l m R l1 l2 I J L=>?_) λl m=>rfl
   ·by_cases N:b < n - hint
    ·have:=hb N
     have hd:decide (hint+b < n)=true:=wX (by lia);rw[hd,pe]at this
     cases e:p i with
     | false=>rfl
     | true=>rw[mono (hint+b) i (by lia) H e]at this;cases this
    ·omega
   ·dsimp only
    by_cases o:l ≥ m
    ·rw[qX o];exact An (I o)
    ·rw[qY o]
     refine Am (ϧ (l+(m - l) / 2) (by lia) _ ?_)
     cases e:p (l+(m - l) / 2)with
     | true=>exact An (J (by lia) e)
     | false=>exact An (L (by lia) e)
 | false=>
  dsimp only;rw[qY AV]
  refine ax (q:=λi=>decide (i<=hint)&&!p (hint - i)) (mx:=hint+1) (by lia) (by simp[hq]) (λx a b R X I J L=>?_) λa b X G ha hb=>?_
  ·dsimp only
   by_cases o:b ≥ hint+1
   ·rw[qX o];exact An (I o)
   ·rw[qY o]
    refine Am (ϧ (hint - b) (by omega) _ ?_);have hd:decide (b<=hint)=true:=wX (by lia)
    cases e:p (hint - b)with
    | true=>exact An (J (by lia) (by simp[hd,e]))
    | false=>exact An (L (by lia) (by simp[hd,e]))
  ·dsimp only
   have U:p (hint - a)=false:=by simp at G;exact G.2
   have S:a<=hint:=by simp at G;exact G.1
   refine fin (hint+1 - min b (hint+1)) (hint - a) (by omega) (by omega) (λi B=>?_) (λi O H=>?_) (λx l m R l1 l2 I J L=>?_) λl m=>rfl
   ·by_cases N:b < hint+1
    ·have:=hb N
     have hd:decide (b<=hint)=true:=wX (by lia);rw[hd,pe]at this;exact mono i (hint - b) (by omega) (by lia) (by simpa using this)
    ·omega
   ·cases e:p i with
    | false=>rfl
    | true=>rw[mono (hint - a) i O H e]at U;cases U
   ·dsimp only
    by_cases o:l ≥ m
    ·rw[qX o];exact An (I o)
    ·rw[qY o]
     refine Am (ϧ (l+(m - l) / 2) (by lia) _ ?_)
     cases e:p (l+(m - l) / 2)with
     | true=>exact An (J (by lia) e)
     | false=>exact An (L (by lia) e)
end
structure MI(R:BO->BO->Prop)(T o ra rb:List BO):Prop where
 perm:(o++(ra++rb)).Perm T
 srt:o.Pairwise R
 low:∀x∈o,∀y∈ra++rb,R x y
 sa:ra.Pairwise R
 sb:rb.Pairwise R
structure MV(R:BO->BO->Prop)(T r:List BO):Prop where
 perm:r.Perm T
 srt:r.Pairwise R
section
def MI.takeA(m:MI R T o (xs++s) rb)(h:∀x∈xs,∀y∈rb,R x y):MI R T (o++xs) s rb:=by
 have l:=Bg.mp m.sa;refine⟨by simpa[A7]using m.perm,Bg.mpr ⟨m.srt,l.1,λx g y j=>m.low x g y (by simp[j])⟩,λx g y j=>?_,l.2.1,m.sb⟩
 rcases Aq.mp g with g | g
 ·exact m.low x g y (by rcases Aq.mp j with h | h <;> simp[h])
 ·rcases Aq.mp j with j | j
  ·exact l.2.2 x g y j
  ·exact h x g y j
def MI.takeB(m:MI R T o s (xs++rb))(h:∀x∈xs,∀y∈s,R x y):MI R T (o++xs) s rb:=by
 have l:=Bg.mp m.sb;refine⟨?_,Bg.mpr ⟨m.srt,l.1,λx g y j=>m.low x g y (by simp[j])⟩,λx g y j=>?_,m.sa,l.2.1⟩
 ·refine Dk.trans ?_ m.perm
  rw[A7];refine HY o ?_;rw[<-A7,<-A7];exact Tj rb Yj
 ·rcases Aq.mp g with g | g
  ·exact m.low x g y (by rcases Aq.mp j with h | h <;> simp[h])
  ·rcases Aq.mp j with j | j
   ·exact h x g y j
   ·exact l.2.2 x g y j
def MI.endA(m:MI R T o g []):MV R T (o++g):=by
 refine⟨by simpa using m.perm,Bg.mpr ⟨m.srt,m.sa,λx j y l=>m.low x j y (by simp[l])⟩⟩
def MI.endB(m:MI R T o [] g):MV R T (o++g):=by
 refine⟨by simpa using m.perm,Bg.mpr ⟨m.srt,m.sb,λx j y l=>m.low x j y (by simp[l])⟩⟩
def MI.last(m:MI R T o g j)(h:∀y∈j,∀x∈g,R y x):MV R T (o++(j++g)):=by
 refine⟨(HY o Yj).trans m.perm,Bg.mpr ⟨m.srt,Bg.mpr ⟨m.sb,m.sa,h⟩,λx l y s=>m.low x l y (by rcases Aq.mp s with h | h <;> simp[h])⟩⟩
end
def RW(h:i < a.size):a.toList.drop i=ix a i :: a.toList.drop (i+1):=by
 rw[Km (by simpa using h)]
 congr 1
 have:=Dw h;rw[getElem?_pos a i h]at this;simpa using this
def Jj{a:Array BO}{i k:Nat}(h:i+k<=a.size):a.toList.drop i=(a.extract i (i+k)).toList++a.toList.drop (i+k):=by
 have e:(a.extract i (i+k)).toList=(a.toList.drop i).take k:=by simp[QY]
 rw[e,<-UM,EK]
def RT(h:i+k<=a.size)(g:x∈(a.extract i (i+k)).toList):∃j,j < k/\x=ix a (i+j):=by
 rw[Bh,RF]at g;obtain⟨j,l,rfl⟩:=g;refine⟨j,by lia,?_⟩;have:=Dw (xs:=a) (i:=i+j) (by lia);rw[getElem?_pos a _ (by lia)]at this;simpa using this
def Lz(a:Array BO)(i:Nat):(a.extract i a.size).toList=a.toList.drop i:=by
 simp[QY];exact Br (by simp)
def Gq(g:x∈a.toList.drop i):∃j,i<=j/\j < a.size/\x=ix a j:=by
 obtain⟨k,l,rfl⟩:=F6.mp g;simp at l;refine⟨i+k,by lia,by omega,?_⟩;have:=Dw (xs:=a) (i:=i+k) (by omega);rw[getElem?_pos a _ (by omega)]at this;simpa using this
def RH{g:Type}{M:Yi}{A:B5}{E:AI->AM->Prop}{s:AM}{c:Prop}[Decidable c]{a b:StateT BH Sem g}{Q:g->BH->Prop}{st:BH}(j:c->wpS M A E s a Q st)(hb:¬c->wpS M A E s b Q st):wpS M A E s (if c then a else b) Q st:=by
 split
 ·exact j ‹_›
 ·exact hb ‹_›
def EC{g:Type}{M:Yi}{A:B5}{E:AI->AM->Prop}{s:AM}{x y:Nat}{a b:StateT BH Sem g}{Q:g->BH->Prop}{st:BH}(j:x=y->wpS M A E s a Q st)(hb:¬x=y->wpS M A E s b Q st):wpS M A E s (if (x==y)=true then a else b) Q st:=RH (λh=>j (by simpa using h)) λh=>hb (by simpa using h)
def Kv{M:Yi}{A:B5}{E:AI->AM->Prop}{s:AM}{j l o:Type}{a b:Nat}{f:Nat->l->StateT j Sem (ForInStep l)}{k:l->StateT j Sem o}{R:o->j->Prop}(I:Nat->l->j->Prop){Q:l->j->Prop}
  (step:∀F,f=F->∀(i:Nat) (c:l) (st:j),a<=i->i < b->I i c st->wpS M A E s (F i c) (λr g=>match r with | .done m=>Q m g | .yield m=>I (i+1) m g) st)
  (fin:∀c st,I (max a b) c st->Q c st) {c:l} {st:j} (init:I a c st) (post:∀K,k=K->∀c g,Q c g->wpS M A E s (K c) R g):wpS M A E s (forIn [a:b] c f >>= k) R st:=Am (HZ (Di I (step f rfl) fin init) (post k rfl))
def fM{j g:Type}{M:Yi}{A:B5}{E:AI->AM->Prop}{s:AM}{c:g->Prop}{d:∀i,Decidable (c i)}{F t:g->StateT BH Sem j}{Q:j->BH->Prop}{st:BH}(h:∀i,wpS M A E s (F i) Q st)(l:(∀i,wpS M A E s (F i) Q st)->∀i,wpS M A E s (t i) Q st)(i:g):wpS M A E s (if c i then t i else F i) Q st:=RH (λ_=>l h i) λ_=>h i
def RG{m g l:Type}{M:Yi}{A:B5}{E:AI->AM->Prop}{s:AM}{c:g->l->Prop}{d:∀i j,Decidable (c i j)}{F t:g->l->StateT BH Sem m}{x:g}{y:l}{Q:m->BH->Prop}{st:BH}(I:g->l->Prop)(h:∀i j,I i j->wpS M A E s (F i j) Q st)(o:(∀i j,I i j->wpS M A E s (F i j) Q st)->c x y->wpS M A E s (t x y) Q st)(B:¬c x y->I x y):∀i,x=i->∀j,y=j->wpS M A E s (if c i j then t i j else F i j) Q st:=λ_ e _ f=>e▸f▸RH (o h) λn=>h x y (B n)
def Pu{g:Type}{M:Yi}{A:B5}{E:AI->AM->Prop}{s:AM}{c:Prop}{d:Decidable c}{x:g}{Q:ForInStep g->BH->Prop}{st:BH}(h:Q (.done x) st/\Q (.yield x) st):wpS M A E s (if c then pure (.done x)else pure (.yield x)) Q st:=RH (λ_=>An h.1) λ_=>An h.2
section
variable{prog:Bq}{w:CQ}{A:B5}{E:AI->AM->Prop}{s:AM}{a₀:Array BO}{κ:Pn}{lt:BO->BO->Bool}
def Rp{st:BH}{a:Array BO}{i:Nat}{Q:BO->BH->Prop}(h:i < a.size)(g:Q (ix a i) st):wpS (Ah prog w) A E s (elem' a i) Q st:=by
 rw[kS,Dw h];exact An g
def Cz{g:Type}{st:BH}{a:Array BO}{i:Nat}{f:BO->StateT BH Sem g}{Q:g->BH->Prop}(h:i < a.size)(j:wpS (Ah prog w) A E s (f (ix a i)) Q st):wpS (Ah prog w) A E s (elem' a i >>= f) Q st:=Am (Rp h j)
def mLo:Array BO->Array BO->StateT BH Sem (Array BO):=sortPriv% PySem.Builtin.mergeLo
def mHi:Array BO->Array BO->StateT BH Sem (Array BO):=sortPriv% PySem.Builtin.mergeHi
structure Pb(a₀:Array BO)(κ:Pn)(st st':BH):Prop where
 good:Good a₀ κ st'
 arr:Aa st'=Aa st
 pend:Ae st'=Ae st
def Pb.gal{st g:BH}(h:Pb a₀ κ st g)(n:Nat):Pb a₀ κ st (ID (kindOf g) (Aa g) (Ae g) n (Jq g)):=⟨⟨h.good.perm,h.good.kind,h.good.failed⟩,h.arr,h.pend⟩
abbrev Rl(lt:BO->BO->Bool)(x y:BO):Prop:=lt y x=false
def W9(O:Ord (·∈a₀) lt){a:Array BO}(ma:∀i,i < a.size->ix a i∈a₀)(l:a.toList.Pairwise (Rl lt)):∀i j,i<=j->j < a.size->Rl lt (ix a i) (ix a j):=λi j m g=>by
 by_cases e:i=j
 ·subst e;exact O.irr (ma i g)
 ·have hd:=RW (a:=a) (i:=i) (by lia)
  have:=l.sublist (QZ i a.toList);rw[hd]at this;refine(Ph.mp this).1 _ ?_;rw[show a.toList.drop (i+1)=(a.extract (i+1) (i+1+(j - (i+1)))).toList++a.toList.drop (i+1+(j - (i+1)))from Jj (by lia),show i+1+(j - (i+1))=j by lia,RW g];simp
def WE(ma:∀x∈a.toList,x∈a₀):∀i,i < a.size->ix a i∈a₀:=λi g=>ma _ (Bh.mpr (DO (Dw g)))
def RI{st:BH}{n:Nat}{Q:Unit->BH->Prop}(h:Q () (ID (kindOf st) (Aa st) (Ae st) n (Jq st))):wpS (Ah prog w) A E s ((sortPriv% PySem.Builtin.setMinGallop) n) Q st:=D6 h
abbrev L7:=Option (Array BO)×Array BO×Nat×Nat×Nat×Nat×Nat
abbrev GL(M:Array BO->Nat->Nat->Prop)(p q n t:Nat)(o:Array BO)(i j:Nat):Prop:=M o i j/\i+1 < p/\j < q/\t+n<=i+j
def kl{st:BH}{a b:Array BO}{Q:Array BO->BH->Prop}(C:MQ prog w A s a₀ κ lt)(O:Ord (·∈a₀) lt)(g:Good a₀ κ st)
  (ma:∀x∈a.toList,x∈a₀) (mb:∀x∈b.toList,x∈a₀) (sa:a.toList.Pairwise (Rl lt)) (sb:b.toList.Pairwise (Rl lt)) (na:0 < a.size) (nb:0 < b.size)
  (h0:∀x∈a.toList,Rl lt (ix b 0) x) (h1:∀y∈b.toList,Rl lt y (ix a (a.size - 1)))
  (h:∀r B,Pb a₀ κ st B->MV (Rl lt) (a.toList++b.toList) r.toList->Q r B):wpS (Ah prog w) A E s (mLo a b) Q st:=by
 have R:=WE ma;have S:=WE mb;have ua:=W9 O R sa;have ub:=W9 O S sb
 have tr:∀x y z:BO,x∈a₀->y∈a₀->z∈a₀->Rl lt x y->Rl lt y z->Rl lt x z:=λx y z Z hy hz h1 h2=>O.ntr x y z Z hy hz h1 h2
 let M (out:Array BO) (l ib:Nat):Prop:=MI (Rl lt) (a.toList++b.toList) out.toList (a.toList.drop l) (b.toList.drop ib)
 have tA:∀out l ib,M out l ib->l < a.size->(∀j,ib<=j->j < b.size->Rl lt (ix a l) (ix b j))->M (out.push (ix a l)) (l+1) ib:=λout l ib m hia hr=>by
  have N:MI (Rl lt) (a.toList++b.toList) out.toList ([ix a l]++a.toList.drop (l+1)) (b.toList.drop ib):=by rw[EL,<-RW hia];exact m
  have:=N.takeA λx Z y hy=>by
   obtain⟨j,P,H,rfl⟩:=Gq hy;rw[AN.mp Z];exact hr j P H
  simpa[M]using this
 have tB:∀out l ib,M out l ib->ib < b.size->(∀j,l<=j->j < a.size->Rl lt (ix b ib) (ix a j))->M (out.push (ix b ib)) l (ib+1):=λout l ib m hib hr=>by
  have N:MI (Rl lt) (a.toList++b.toList) out.toList (a.toList.drop l) ([ix b ib]++b.toList.drop (ib+1)):=by rw[EL,<-RW hib];exact m
  have:=N.takeB λx Z y hy=>by
   obtain⟨j,P,H,rfl⟩:=Gq hy;rw[AN.mp Z];exact hr j P H
  simpa[M]using this
 have sA:∀out l ib k,M out l ib->l+k<=a.size->(∀i j,i < k->ib<=j->j < b.size->Rl lt (ix a (l+i)) (ix b j))->M (out++a.extract l (l+k)) (l+k) ib:=λout l ib k m hk hr=>by
  have N:MI (Rl lt) (a.toList++b.toList) out.toList ((a.extract l (l+k)).toList++a.toList.drop (l+k)) (b.toList.drop ib):=by rw[<-Jj hk];exact m
  have:=N.takeA λx Z y hy=>by
   obtain⟨j,P,H,rfl⟩:=Gq hy;obtain⟨i,i1,rfl⟩:=RT hk Z;exact hr i j i1 P H
  show MI _ _ (out++a.extract l (l+k)).toList _ _;rw[BX];exact this
 have sB:∀out l ib k,M out l ib->ib+k<=b.size->(∀i j,i < k->l<=j->j < a.size->Rl lt (ix b (ib+i)) (ix a j))->M (out++b.extract ib (ib+k)) l (ib+k):=λout l ib k m hk hr=>by
  have N:MI (Rl lt) (a.toList++b.toList) out.toList (a.toList.drop l) ((b.extract ib (ib+k)).toList++b.toList.drop (ib+k)):=by rw[<-Jj hk];exact m
  have:=N.takeB λx Z y hy=>by
   obtain⟨j,P,H,rfl⟩:=Gq hy;obtain⟨i,i1,rfl⟩:=RT hk Z;exact hr i j i1 P H
  show MI _ _ (out++b.extract ib (ib+k)).toList _ _;rw[BX];exact this
 have eB:∀out l ib,M out l ib->ib=b.size->MV (Rl lt) (a.toList++b.toList) (out++a.extract l a.size++b.extract ib b.size).toList:=λout l ib m e=>by
  subst e
  have N:MI (Rl lt) (a.toList++b.toList) out.toList (a.toList.drop l) []:=by
   have:b.toList.drop b.size=[]:=by simp
   rw[<-this];exact m
  rw[BX,BX,Lz,Lz,show b.toList.drop b.size=[] by simp,BI];exact N.endA
 have eA:∀out l ib,M out l ib->l=a.size->MV (Rl lt) (a.toList++b.toList) (out++a.extract l a.size++b.extract ib b.size).toList:=λout l ib m e=>by
  subst e
  have N:MI (Rl lt) (a.toList++b.toList) out.toList [] (b.toList.drop ib):=by
   have:a.toList.drop a.size=[]:=by simp
   rw[<-this];exact m
  rw[BX,BX,Lz,Lz,show a.toList.drop a.size=[] by simp,BI];exact N.endB
 have eL:∀out l ib,M out l ib->l+1=a.size->MV (Rl lt) (a.toList++b.toList) (out++b.extract ib b.size++a.extract l a.size).toList:=λout l ib m e=>by
  have:=m.last λy hy x Z=>by
   obtain⟨j,P,H,rfl⟩:=Gq Z;obtain⟨i,i1,i2,rfl⟩:=Gq hy
   have:j=a.size - 1:=by lia
   subst this;exact h1 _ (Bh.mpr (DO (Dw i2)))
  rw[BX,BX,Lz,Lz,A7];exact this
 have m0:M #[] 0 0:=⟨by simp,by simp,by simp,by simpa using sa,by simpa using sb⟩
 have m1:M #[ix b 0] 0 1:=by
  have:=tB #[] 0 0 m0 nb λj _ hj=>h0 _ (Bh.mpr (DO (Dw hj)))
  simpa using this
 let F (r:Array BO):Prop:=MV (Rl lt) (a.toList++b.toList) r.toList
 refine(Am (Ku ?_):wpS _ _ _ _ (mLo a b) Q st);refine Cz nb ?_;refine(show wpS (Ah prog w) A E s (if (1==b.size)=true then _ else _) Q st from ?_)
 refine EC (λc1=>An (h _ st ⟨g,rfl,rfl⟩ (eB _ _ _ m1 c1))) λc1=>?_
 refine EC (λc2=>An (h _ st ⟨g,rfl,rfl⟩ (eL _ _ _ m1 c2))) λc2=>?_
 refine Am (Ie ?_)
 refine Kv (I:=λx c B=>Pb a₀ κ st B/\∃out l ib mg,c=(none,out,l,ib,mg)/\GL M a.size b.size x 1 out l ib)
  (Q:=λc B=>Pb a₀ κ st B/\∃r z,c=(some r,z)/\F r) ?step ?fin ?init ?post
 case init=>exact⟨⟨g,rfl,rfl⟩,_,_,_,_,rfl,m1,by lia,by lia,by lia⟩
 case fin=>
  rintro c B ⟨_,out,l,ib,mg,_,_,k1,k2,k3⟩
  lia
 case post=>
  rintro F hF c B ⟨s1,r,z,rfl,f⟩;subst hF;exact An (h r B s1 f)
 case step=>
  rintro G hG x c wo _ _ ⟨s1,out,l,ib,mg,rfl,m,k1,k2,k3⟩;subst hG
  refine Kv (I:=λy c B=>B=wo/\∃U J xE X Y,c=(none,U,J,xE,X,Y)/\GL M a.size b.size y (l+ib) U J xE)
   (Q:=λc B=>B=wo/\((∃r z,c=(some r,z)/\F r)∨∃U J xE X Y,c=(none,U,J,xE,X,Y)/\GL M a.size b.size 1 (l+ib) U J xE)) ?step1 ?fin1 ?init1 ?post1
  case init1=>exact⟨rfl,out,l,ib,0,0,rfl,m,k1,k2,by lia⟩
  case fin1=>
   rintro c B ⟨rfl,U,J,xE,X,Y,rfl,N,q1,q2,q3⟩;exact⟨rfl,.inr ⟨U,J,xE,X,Y,rfl,N,q1,q2,by lia⟩⟩
  case step1=>
   rintro G hG y c B _ _ ⟨rfl,U,J,xE,X,Y,rfl,N,q1,q2,q3⟩;subst hG
   have q4:J < a.size:=by lia
   refine Cz q2 (Cz q4 (Am (Ro C s1.good (S _ q2) (R _ q4) ?_)))
   cases e:lt (ix b xE) (ix a J)with
   | true=>
    have m2:=tB U J xE N q2 λj P H=>tr _ _ _ (S _ q2) (R _ q4) (R _ H) (O.asym _ _ (S _ q2) (R _ q4) e) (ua J j P H)
    refine Cz q2 (EC (λd=>An ⟨rfl,.inl ⟨_,_,rfl,eB _ _ _ m2 d⟩⟩) λd=>Pu ?_)
    have z:xE+1 < b.size/\l+ib+(y+1)<=J+(xE+1):=by lia
    exact⟨⟨rfl,.inr ⟨_,J,xE+1,_,_,rfl,m2,q1,z.1,by lia⟩⟩,rfl,_,J,xE+1,_,_,rfl,m2,q1,z⟩
   | false=>
    have m2:=tA U J xE N q4 λj P H=>tr _ _ _ (R _ q4) (S _ q2) (S _ H) e (ub xE j P H)
    refine Cz q4 (EC (λd=>An ⟨rfl,.inl ⟨_,_,rfl,eL _ _ _ m2 d⟩⟩) λd=>Pu ?_)
    have z:J+1+1 < a.size/\l+ib+(y+1)<=J+1+xE:=by lia
    exact⟨⟨rfl,.inr ⟨_,J+1,xE,_,_,rfl,m2,z.1,q2,by lia⟩⟩,rfl,_,J+1,xE,_,_,rfl,m2,z.1,q2,z.2⟩
  case post1=>
   rintro G hG c B ⟨rfl,⟨r,z,rfl,f⟩ | ⟨U,J,xE,X,Y,rfl,N⟩⟩ <;> subst hG
   ·exact An ⟨s1,_,_,rfl,f⟩
   refine Am (Ku ?_)
   refine Kv (I:=λy c w8=>Pb a₀ κ st w8/\∃wg L xJ yj X Y,c=(none,wg,L,xJ,yj,X,Y)/\GL M a.size b.size 1 (l+ib) wg L xJ)
    (Q:=λc w8=>Pb a₀ κ st w8/\((∃r z,c=(some r,z)/\F r)∨∃wg L xJ yj X Y,c=(none,wg,L,xJ,yj,X,Y)/\GL M a.size b.size 1 (l+ib) wg L xJ)) ?step2 ?fin2 ?init2 ?post2
   case init2=>exact⟨s1,U,J,xE,mg+1,X,Y,rfl,N⟩
   case fin2=>exact λc w8 h=>⟨h.1,.inr h.2⟩
   case post2=>
    rintro G hG c w8 ⟨s2,⟨r,z,rfl,f⟩ | ⟨wg,L,xJ,yj,ac2,bc2,rfl,m2,p1,p2,p3⟩⟩ <;> subst hG
    ·exact An ⟨s2,_,_,rfl,f⟩
    ·exact Am (RI (An ⟨s2.gal _,wg,L,xJ,yj+1,rfl,m2,p1,p2,by lia⟩))
   case step2=>
    rintro G hG y c w8 _ _ ⟨s2,wg,L,xJ,yj,ac2,bc2,rfl,m2,p1,p2,p3⟩;subst hG;dsimp only
    revert yj
    refine fM (λmg3=>?_) λt i=>t _
    refine Am (RI (Cz p2 ?_));have s3:=s2.gal mg3;refine Am (Hq (base:=L) (n:=a.size - L) (hint:=0) (arr:=a) (key:=ix b xJ) (left:=false) C s3.good (λi=>!lt (ix b xJ) (ix a (L+i))) (S _ p2) (λi hi=>⟨by lia,R _ (by lia)⟩) (λi hi=>rfl) (λi j yQ hj e=>?_) (by lia) λk hk k1 k2=>?_)
    ·have e':lt (ix b xJ) (ix a (L+j))=false:=by simpa using e
     have:=tr _ _ _ (R _ (by lia)) (R _ (by lia)) (S _ p2) (ua (L+i) (L+j) (by lia) (by lia)) e';simpa using this
    have far:∀j,L+k<=j->j < a.size->Rl lt (ix b xJ) (ix a j):=λj P H=>by
     have:=k2 (j - L) (by lia) (by lia);rw[show L+(j - L)=j by lia]at this;exact O.asym _ _ (S _ p2) (R _ H) (by simpa using this)
    have m5:=sA wg L xJ k m2 (by lia) λi j hi P H=>tr _ _ _ (R _ (by lia)) (S _ p2) (S _ H) (by simpa using k1 i hi) (ub xJ j P H)
    generalize ho:wg=o;generalize hi:L=i
    revert o i
    refine RG (λo i=>M o i xJ/\i+1 < a.size/\i=L+k) ?_ (λt hk0=>?_) λhk0=>⟨m2,p1,by lia⟩
    case refine_2=>
     refine EC (λd=>An ⟨s3,.inl ⟨_,_,rfl,eL _ _ _ m5 d⟩⟩) λd1=>?_
     exact EC (λd=>An ⟨s3,.inl ⟨_,_,rfl,eA _ _ _ m5 d⟩⟩) λd2=>t _ _ ⟨m5,by lia,rfl⟩
    rintro P' T ⟨m3,c1,hi3⟩
    have c3:l+ib+1<=T+xJ:=by lia
    have c4:T < a.size:=by lia
    have m4:=tB _ _ _ m3 p2 λj h=>far j (hi3▸h)
    refine Cz p2 (EC (λd=>An ⟨s3,.inl ⟨_,_,rfl,eB _ _ _ m4 d⟩⟩) λd=>Cz c4 ?_)
    have c5:xJ+1 < b.size:=by lia
    have c6:l+ib+1+1<=T+(xJ+1):=by lia
    generalize P'.push (ix b xJ)=out4 at m4 ⊢;generalize xJ+1=ib4 at m4 c5 c6 ⊢;refine Am (Hq (base:=ib4) (n:=b.size - ib4) (hint:=0) (arr:=b) (key:=ix a T) (left:=true) C s3.good (λi=>lt (ix b (ib4+i)) (ix a T)) (R _ c4) (λi hi=>⟨by lia,S _ (by lia)⟩) (λi hi=>rfl) (λi j yQ hj e=>?_) (by lia) λk3 Ϩ k4 k5=>?_)
    ·cases e2:lt (ix b (ib4+i)) (ix a T)with
     | true=>rfl
     | false=>
      have:=tr _ _ _ (R _ c4) (S _ (by lia)) (S _ (by lia)) e2 (ub (ib4+i) (ib4+j) (by lia) (by lia));exact nomatch (show true=false from(show lt (ix b (ib4+j)) (ix a T)=true from e).symm.trans this)
    have far2:∀j,ib4+k3<=j->j < b.size->Rl lt (ix a T) (ix b j):=λj P H=>by
     have:=k5 (j - ib4) (by lia) (by lia);rwa [show ib4+(j - ib4)=j by lia]at this
    have m6:=sB _ T ib4 k3 m4 (by lia) λi j hi P H=>tr _ _ _ (S _ (by lia)) (R _ c4) (R _ H) (O.asym _ _ (S _ (by lia)) (R _ c4) (k4 i hi)) (ua T j P H)
    generalize ho:out4=o;generalize hi:ib4=i
    revert o i
    refine RG (λo j=>M o T j/\j < b.size/\j=ib4+k3) ?_ (λt Ϩ=>EC (λd=>An ⟨s3,.inl ⟨_,_,rfl,eB _ _ _ m6 d⟩⟩) λd=>t _ _ ⟨m6,by lia,rfl⟩) λϨ=>⟨m4,c5,by lia⟩
    rintro out5 ib5 ⟨m5,c7,hi5⟩
    have m7:=tA _ _ _ m5 c4 λj h=>far2 j (hi5▸h)
    refine Cz c4 (EC (λd=>An ⟨s3,.inl ⟨_,_,rfl,eL _ _ _ m7 d⟩⟩) λd=>Pu ?_)
    have z:T+1+1 < a.size/\ib5 < b.size/\l+ib+1<=T+1+ib5:=by lia
    exact⟨⟨s3,.inr ⟨_,T+1,ib5,_,_,_,rfl,m7,z⟩⟩,s3,_,T+1,ib5,_,_,_,rfl,m7,z⟩
end
def MI.last2(m:MI R T o g j)(h:∀x∈g,∀y∈j,R x y):MV R T (o++(g++j)):=by
 refine⟨m.perm,Bg.mpr ⟨m.srt,Bg.mpr ⟨m.sa,m.sb,h⟩,λx l y s=>m.low x l y s⟩⟩
def MV.rev(f:MV (λx y=>Rl lt y x) T r):MV (Rl lt) T r.reverse:=⟨r.reverse_perm.trans f.perm,NY.mpr f.srt⟩
def aC(h:i < a.size):(a.toList.take (i+1)).reverse=ix a i :: (a.toList.take i).reverse:=by
 have:=Dw h;rw[getElem?_pos a i h]at this;rw[Ks,show a.toList[i]?=some (ix a i) by simpa using Dw h];simp
def XA{a:Array BO}{i n:Nat}(h:i<=n)(g:n<=a.size):(a.toList.take n).reverse=(a.extract i n).toList.reverse++(a.toList.take i).reverse:=by
 have e:(a.extract i n).toList=(a.toList.take n).drop i:=by simp[QY,List.drop_take]
 rw[e,<-List.reverse_append]
 congr 1
 have:=EK i (a.toList.take n);rw[List.take_take,show min i n=i by lia]at this;exact this.symm
def Gp(g:x∈(a.toList.take n).reverse):∃j,j < n/\j < a.size/\x=ix a j:=by
 rw[kH]at g;obtain⟨k,l,rfl⟩:=F6.mp g;simp at l;refine⟨k,by lia,by lia,?_⟩;have:=Dw (xs:=a) (i:=k) (by lia);rw[getElem?_pos a _ (by lia)]at this;simpa using this
def Xj(g:x∈(a.extract i n).toList.reverse):∃j,i<=j/\j < n/\j < a.size/\x=ix a j:=by
 rw[kH,Bh,RF]at g;obtain⟨j,l,rfl⟩:=g;refine⟨i+j,by lia,by omega,by omega,?_⟩;have:=Dw (xs:=a) (i:=i+j) (by omega);rw[getElem?_pos a _ (by omega)]at this;simpa using this
def JP(a:Array BO)(n:Nat):(a.extract 0 n).toList=a.toList.take n:=by simp[QY]
section
abbrev GH(M:Array BO->Nat->Nat->Prop)(p q n t:Nat)(o:Array BO)(i j:Nat):Prop:=M o i j/\0 < i/\1 < j/\i<=p/\j<=q/\i+j+n<=t
def km{st:BH}{a b:Array BO}{Q:Array BO->BH->Prop}(C:MQ prog w A s a₀ κ lt)(O:Ord (·∈a₀) lt)(g:Good a₀ κ st)
  (ma:∀x∈a.toList,x∈a₀) (mb:∀x∈b.toList,x∈a₀) (sa:a.toList.Pairwise (Rl lt)) (sb:b.toList.Pairwise (Rl lt)) (pa:0 < a.size) (pb:0 < b.size)
  (h0:∀x∈a.toList,Rl lt (ix b 0) x) (h1:∀y∈b.toList,Rl lt y (ix a (a.size - 1)))
  (h:∀r B,Pb a₀ κ st B->MV (Rl lt) (a.toList++b.toList) r.toList->Q r B):wpS (Ah prog w) A E s (mHi a b) Q st:=by
 have P:=WE ma;have R:=WE mb;have ua:=W9 O P sa;have ub:=W9 O R sb
 have tr:∀x y z:BO,x∈a₀->y∈a₀->z∈a₀->Rl lt x y->Rl lt y z->Rl lt x z:=λx y z Z hy hz h1 h2=>O.ntr x y z Z hy hz h1 h2
 let M (out:Array BO) (l nb:Nat):Prop:=MI (λx y=>Rl lt y x) (a.toList++b.toList) out.toList (a.toList.take l).reverse (b.toList.take nb).reverse
 have tA0:∀out l nb,M out (l+1) nb->l < a.size->nb<=b.size->(∀j,j < nb->Rl lt (ix b j) (ix a l))->M (out.push (ix a l)) l nb:=λout l nb m zm wj hr=>by
  have N:MI (λx y=>Rl lt y x) (a.toList++b.toList) out.toList ([ix a l]++(a.toList.take l).reverse) (b.toList.take nb).reverse:=by rw[EL,<-aC zm];exact m
  have:=N.takeA λx Z y hy=>by
   obtain⟨j,S,j2,rfl⟩:=Gp hy;rw[AN.mp Z];exact hr j S
  simpa[M]using this
 have tB0:∀out l nb,M out l (nb+1)->nb < b.size->l<=a.size->(∀j,j < l->Rl lt (ix a j) (ix b nb))->M (out.push (ix b nb)) l nb:=λout l nb m wj zm hr=>by
  have N:MI (λx y=>Rl lt y x) (a.toList++b.toList) out.toList (a.toList.take l).reverse ([ix b nb]++(b.toList.take nb).reverse):=by rw[EL,<-aC wj];exact m
  have:=N.takeB λx Z y hy=>by
   obtain⟨j,S,j2,rfl⟩:=Gp hy;rw[AN.mp Z];exact hr j S
  simpa[M]using this
 have tA:∀out l nb,M out l nb->0 < l->l<=a.size->nb<=b.size->(∀j,j < nb->Rl lt (ix b j) (ix a (l - 1)))->M (out.push (ix a (l - 1))) (l - 1) nb:=λout l nb m h0 zm wj hr=>
  tA0 out (l - 1) nb (by rw[show l - 1+1=l by lia];exact m) (by omega) wj hr
 have tB:∀out l nb,M out l nb->0 < nb->nb<=b.size->l<=a.size->(∀j,j < l->Rl lt (ix a j) (ix b (nb - 1)))->M (out.push (ix b (nb - 1))) l (nb - 1):=λout l nb m h0 wj zm hr=>
  tB0 out l (nb - 1) (by rw[show nb - 1+1=nb by lia];exact m) (by omega) zm hr
 have sA:∀out l nb k,M out l nb->k<=l->l<=a.size->nb<=b.size->(∀i j,k<=i->i < l->j < nb->Rl lt (ix b j) (ix a i))->M (out++(a.extract k l).reverse) k nb:=λout l nb k m hk zm wj hr=>by
  have N:MI (λx y=>Rl lt y x) (a.toList++b.toList) out.toList ((a.extract k l).toList.reverse++(a.toList.take k).reverse) (b.toList.take nb).reverse:=by rw[<-XA hk zm];exact m
  have:=N.takeA λx Z y hy=>by
   obtain⟨j,S,j2,rfl⟩:=Gp hy;obtain⟨i,i1,i2,i3,rfl⟩:=Xj Z;exact hr i j i1 i2 S
  show MI _ _ (out++(a.extract k l).reverse).toList _ _;rw[BX,Fq];exact this
 have sB:∀out l nb k,M out l nb->k<=nb->nb<=b.size->l<=a.size->(∀i j,k<=i->i < nb->j < l->Rl lt (ix a j) (ix b i))->M (out++(b.extract k nb).reverse) l k:=λout l nb k m hk wj zm hr=>by
  have N:MI (λx y=>Rl lt y x) (a.toList++b.toList) out.toList (a.toList.take l).reverse ((b.extract k nb).toList.reverse++(b.toList.take k).reverse):=by rw[<-XA hk wj];exact m
  have:=N.takeB λx Z y hy=>by
   obtain⟨j,S,j2,rfl⟩:=Gp hy;obtain⟨i,i1,i2,i3,rfl⟩:=Xj Z;exact hr i j i1 i2 S
  show MI _ _ (out++(b.extract k nb).reverse).toList _ _;rw[BX,Fq];exact this
 have eA:∀out l nb,M out l nb->l=0->MV (Rl lt) (a.toList++b.toList) (a.extract 0 l++b.extract 0 nb++out.reverse).toList:=λout l nb m e=>by
  subst e
  have N:MI (λx y=>Rl lt y x) (a.toList++b.toList) out.toList [] (b.toList.take nb).reverse:=by simpa[M]using m
  have:=N.endB.rev;rw[BX,BX,JP,JP,Fq];simpa using this
 have eB:∀out l nb,M out l nb->nb=0->MV (Rl lt) (a.toList++b.toList) (a.extract 0 l++b.extract 0 nb++out.reverse).toList:=λout l nb m e=>by
  subst e
  have N:MI (λx y=>Rl lt y x) (a.toList++b.toList) out.toList (a.toList.take l).reverse []:=by simpa[M]using m
  have:=N.endA.rev;rw[BX,BX,JP,JP,Fq];simpa using this
 have eF:∀out l nb,M out l nb->nb=1->MV (Rl lt) (a.toList++b.toList) (b.extract 0 nb++a.extract 0 l++out.reverse).toList:=λout l nb m e=>by
  have:=m.last2 λx Z y hy=>by
   obtain⟨j,S,j2,rfl⟩:=Gp Z;obtain⟨i,i1,i2,rfl⟩:=Gp hy
   have:i=0:=by lia
   subst this;exact h0 _ (Bh.mpr (DO (Dw j2)))
  have:=this.rev;rw[BX,BX,JP,JP,Fq];simpa using this
 have m0:M #[] a.size b.size:=by
  refine⟨?_,by simp,by simp,?_,?_⟩
  ·rw[Br (by simp),Br (by simp)]
   simpa using Dk.append a.toList.reverse_perm b.toList.reverse_perm
  ·rw[Br (by simp)];exact NY.mpr sa
  ·rw[Br (by simp)];exact NY.mpr sb
 have m1:M #[ix a (a.size - 1)] (a.size - 1) b.size:=by
  have:=tA #[] a.size b.size m0 pa (AL _) (AL _) λj hj=>h1 _ (Bh.mpr (DO (Dw hj)))
  simpa using this
 let F (r:Array BO):Prop:=MV (Rl lt) (a.toList++b.toList) r.toList
 refine(Am (Ku ?_):wpS _ _ _ _ (mHi a b) Q st);refine Cz (i:=a.size - 1) (by omega) ?_;refine(show wpS (Ah prog w) A E s (if (a.size - 1==0)=true then _ else _) Q st from ?_)
 refine EC (λc1=>An (h _ st ⟨g,rfl,rfl⟩ (eA _ _ _ m1 c1))) λc1=>?_
 refine EC (λc2=>An (h _ st ⟨g,rfl,rfl⟩ (eF _ _ _ m1 c2))) λc2=>?_
 refine Am (Ie ?_)
 refine Kv (I:=λx c B=>Pb a₀ κ st B/\∃out l nb mg,c=(none,l,nb,out,mg)/\GH M a.size b.size (1+x) (a.size+b.size) out l nb)
  (Q:=λc B=>Pb a₀ κ st B/\∃r z,c=(some r,z)/\F r) ?step ?fin ?init ?post
 case init=>exact⟨⟨g,rfl,rfl⟩,_,a.size - 1,b.size,_,rfl,m1,by lia,by lia,by omega,by lia,by lia⟩
 case fin=>
  rintro c B ⟨_,out,l,nb,mg,_,_,k1,k2,k3,k4,k5⟩
  lia
 case post=>
  rintro G hG c B ⟨s1,r,z,rfl,f⟩;subst hG;exact An (h r B s1 f)
 case step=>
  rintro G hG x c wo _ _ ⟨s1,out,l,nb,mg,rfl,m,k1,k2,k3,k4,k5⟩;subst hG
  refine Kv (I:=λy c B=>B=wo/\∃U H J X Y,c=(none,H,J,U,X,Y)/\GH M a.size b.size y (l+nb) U H J)
   (Q:=λc B=>B=wo/\((∃r z,c=(some r,z)/\F r)∨∃U H J X Y,c=(none,H,J,U,X,Y)/\GH M a.size b.size 1 (l+nb) U H J)) ?step1 ?fin1 ?init1 ?post1
  case init1=>exact⟨rfl,out,l,nb,0,0,rfl,m,k1,k2,k3,k4,by lia⟩
  case fin1=>
   rintro c B ⟨rfl,U,H,J,X,Y,rfl,N,q1,q2,q3,q4,q5⟩;exact⟨rfl,.inr ⟨U,H,J,X,Y,rfl,N,q1,q2,q3,q4,by lia⟩⟩
  case step1=>
   rintro G hG y c B _ _ ⟨rfl,U,H,J,X,Y,rfl,N,q1,q2,q3,q4,q5⟩;subst hG
   have q6:H - 1 < a.size:=by lia
   have q7:J - 1 < b.size:=by lia
   refine Cz q7 (Cz q6 (Am (Ro C s1.good (R _ q7) (P _ q6) ?_)))
   cases e:lt (ix b (J - 1)) (ix a (H - 1))with
   | true=>
    have m2:=tA U H J N q1 q3 q4 λj S=>tr _ _ _ (R _ (by lia)) (R _ q7) (P _ q6) (ub j (J - 1) (by lia) q7) (O.asym _ _ (R _ q7) (P _ q6) e)
    refine Cz q6 (EC (λd=>An ⟨rfl,.inl ⟨_,_,rfl,eA _ _ _ m2 d⟩⟩) λd=>Pu ?_)
    have z:0 < H - 1/\H - 1<=a.size/\H - 1+J+(y+1)<=l+nb:=by lia
    exact⟨⟨rfl,.inr ⟨_,H - 1,J,_,_,rfl,m2,z.1,q2,z.2.1,q4,by lia⟩⟩,rfl,_,H - 1,J,_,_,rfl,m2,z.1,q2,z.2.1,q4,z.2.2⟩
   | false=>
    have m2:=tB U H J N (by lia) q4 q3 λj S=>tr _ _ _ (P _ (by lia)) (P _ q6) (R _ q7) (ua j (H - 1) (by lia) q6) e
    refine Cz q7 (EC (λd=>An ⟨rfl,.inl ⟨_,_,rfl,eF _ _ _ m2 d⟩⟩) λd=>Pu ?_)
    have z:1 < J - 1/\J - 1<=b.size/\H+(J - 1)+(y+1)<=l+nb:=by lia
    exact⟨⟨rfl,.inr ⟨_,H,J - 1,_,_,rfl,m2,q1,z.1,q3,z.2.1,by lia⟩⟩,rfl,_,H,J - 1,_,_,rfl,m2,q1,z.1,q3,z.2.1,z.2.2⟩
  case post1=>
   rintro G hG c B ⟨rfl,⟨r,z,rfl,f⟩ | ⟨U,H,J,X,Y,rfl,N⟩⟩ <;> subst hG
   ·exact An ⟨s1,_,_,rfl,f⟩
   refine Am (Ku ?_)
   refine Kv (I:=λy c w8=>Pb a₀ κ st w8/\∃wg ym L yj X Y,c=(none,ym,L,wg,yj,X,Y)/\GH M a.size b.size 1 (l+nb) wg ym L)
    (Q:=λc w8=>Pb a₀ κ st w8/\((∃r z,c=(some r,z)/\F r)∨∃wg ym L yj X Y,c=(none,ym,L,wg,yj,X,Y)/\GH M a.size b.size 1 (l+nb) wg ym L)) ?step2 ?fin2 ?init2 ?post2
   case init2=>exact⟨s1,U,H,J,mg+1,X,Y,rfl,N⟩
   case fin2=>exact λc w8 h=>⟨h.1,.inr h.2⟩
   case post2=>
    rintro G hG c w8 ⟨s2,⟨r,z,rfl,f⟩ | ⟨wg,ym,L,yj,ac2,bc2,rfl,m2,p1,p2,p3,p4,p5⟩⟩ <;> subst hG
    ·exact An ⟨s2,_,_,rfl,f⟩
    ·exact Am (RI (An ⟨s2.gal _,wg,ym,L,yj+1,rfl,m2,p1,p2,p3,p4,by lia⟩))
   case step2=>
    rintro G hG y c w8 _ _ ⟨s2,wg,ym,L,yj,ac2,bc2,rfl,m2,p1,p2,p3,p4,p5⟩;subst hG;dsimp only
    revert yj
    refine fM (λmg3=>?_) λt i=>t _
    have s3:=s2.gal mg3
    have p6:L - 1 < b.size:=by lia
    refine Am (RI (Cz p6 ?_));refine Am (Hq (base:=0) (n:=ym) (hint:=ym - 1) (arr:=a) (key:=ix b (L - 1)) (left:=false) C s3.good (λi=>!lt (ix b (L - 1)) (ix a (0+i))) (R _ p6) (λi hi=>⟨by lia,P _ (by lia)⟩) (λi hi=>rfl) (λi j yQ hj e=>?_) (by lia) λk hk k1 k2=>?_)
    ·have e':lt (ix b (L - 1)) (ix a (0+j))=false:=by simpa using e
     have:=tr _ _ _ (P _ (by lia)) (P _ (by lia)) (R _ p6) (ua (0+i) (0+j) (by lia) (by lia)) e';simpa using this
    have near:∀j,j < k->Rl lt (ix a j) (ix b (L - 1)):=λj S=>by
     have:=k1 j S;rw[Mj]at this;simpa using this
    have m5:=sA wg ym L k m2 hk p3 p4 λi j i1 i2 S=>by
     have:=k2 i i1 i2;rw[Mj]at this;exact tr _ _ _ (R _ (by lia)) (R _ p6) (P _ (by lia)) (ub j (L - 1) (by lia) p6) (O.asym _ _ (R _ p6) (P _ (by lia)) (by simpa using this))
    dsimp only;generalize hk6:ym - k=k6;generalize ho:wg=o;generalize hi:ym=i
    revert o i
    refine RG (λo i=>M o i L/\0 < i/\i=k) ?_ (λt hk0=>EC (λd=>An ⟨s3,.inl ⟨_,_,rfl,eA _ _ _ m5 d⟩⟩) λd=>t (wg++(a.extract k ym).reverse) k ⟨m5,by lia,rfl⟩) λhk0=>⟨m2,p1,by lia⟩
    rintro P' T ⟨m3,c1,hi3⟩
    have c4:T - 1 < a.size:=by lia
    have c5:T<=ym:=by lia
    have m4:=tB _ _ _ m3 (by lia) p4 (by lia) λj h=>near j (hi3▸h)
    refine Cz p6 (EC (λd=>An ⟨s3,.inl ⟨_,_,rfl,eF _ _ _ m4 d⟩⟩) λd=>Cz c4 ?_)
    have c6:1 < L - 1/\L - 1 < b.size/\T+(L - 1)+2<=l+nb:=by lia
    generalize P'.push (ix b (L - 1))=out4 at m4 ⊢;generalize L - 1=nb4 at m4 c6 ⊢;obtain⟨c6,c7,c8⟩:=c6;refine Am (Hq (base:=0) (n:=nb4) (hint:=nb4 - 1) (arr:=b) (key:=ix a (T - 1)) (left:=true) C s3.good (λi=>lt (ix b (0+i)) (ix a (T - 1))) (P _ c4) (λi hi=>⟨by lia,R _ (by lia)⟩) (λi hi=>rfl) (λi j yQ hj e=>?_) (by lia) λk3 Ϩ k4 k5=>?_)
    ·cases e2:lt (ix b (0+i)) (ix a (T - 1))with
     | true=>rfl
     | false=>
      have:=tr _ _ _ (P _ c4) (R _ (by lia)) (R _ (by lia)) e2 (ub (0+i) (0+j) (by lia) (by lia));exact nomatch (show true=false from(show lt (ix b (0+j)) (ix a (T - 1))=true from e).symm.trans this)
    have ϩ:∀j,j < k3->Rl lt (ix b j) (ix a (T - 1)):=λj S=>by
     have:=k4 j S;rw[Mj]at this;exact O.asym _ _ (R _ (by lia)) (P _ c4) this
    have m6:=sB _ T nb4 k3 m4 Ϩ (by lia) (by lia) λi j i1 i2 S=>by
     have:=k5 i i1 i2;rw[Mj]at this;exact tr _ _ _ (P _ (by lia)) (P _ c4) (R _ (by lia)) (ua j (T - 1) (by lia) c4) this
    dsimp only;generalize hk7:nb4 - k3=k7;generalize ho:out4=o;generalize hi:nb4=i
    revert o i
    refine RG (λo j=>M o T j/\1 < j/\j<=nb4/\j=k3) ?_ (λt hk4=>?_) λhk4=>⟨m4,c6,AL _,by lia⟩
    case refine_2=>
     refine EC (λd=>An ⟨s3,.inl ⟨_,_,rfl,eF _ _ _ m6 d⟩⟩) λd2=>?_
     exact EC (λd=>An ⟨s3,.inl ⟨_,_,rfl,eB _ _ _ m6 d⟩⟩) λd4=>t (out4++(b.extract k3 nb4).reverse) k3 ⟨m6,by lia,by lia,rfl⟩
    rintro out5 Ϫ ⟨m5,c9,c10,hi5⟩
    have m7:=tA _ _ _ m5 c1 (by lia) (by lia) λj h=>ϩ j (hi5▸h)
    refine Cz c4 (EC (λd=>An ⟨s3,.inl ⟨_,_,rfl,eA _ _ _ m7 d⟩⟩) λd=>Pu ?_)
    have z:0 < T - 1/\1 < Ϫ/\T - 1<=a.size/\Ϫ<=b.size/\T - 1+Ϫ+1<=l+nb:=by lia
    exact⟨⟨s3,.inr ⟨_,T - 1,Ϫ,_,_,_,rfl,m7,z⟩⟩,s3,_,T - 1,Ϫ,_,_,_,rfl,m7,z⟩
end
def wr(arr:Array BO)(g:Nat)(l:List (BO×Nat)):Array BO:=l.foldl (λa (x:BO×Nat)=>match x with | (p,j)=>a.setIfInBounds (g+j) p) arr
def VW(g:Nat):∀(l:List BO) (k:Nat) (arr:Array BO),g+k+l.length<=arr.size->(wr arr g (l.zipIdx k)).toList=arr.toList.take (g+k)++l++arr.toList.drop (g+k+l.length)
 | [],k,arr,h=>by simp[wr]
 | x :: l,k,arr,h=>by
  rw[A1]at h;have e:wr arr g ((x :: l).zipIdx k)=wr (arr.setIfInBounds (g+k) x) g (l.zipIdx (k+1)):=rfl;rw[e,VW g l (k+1) _ (by simp;lia)]
  have j:g+k < arr.toList.length:=by simp;lia
  rw[Tl,A1,show g+(k+1)=g+k+1 by lia];rw[Ks,List.take_set_of_le (AL _),BL j,List.drop_set_of_lt (by lia)];simp[show g+k+1+l.length=g+k+(l.length+1) by lia]
def ix_list(a:Array BO)(i:Nat):ix a i=(a.toList[i]?).getD (.none,.none):=by
 unfold ix;rw[FW];simp
def jG(h:sa+m.size<=arr.size)(i:Nat):ix (wr arr sa m.toList.zipIdx) i=if i < sa then ix arr i else if i < sa+m.size then ix m (i - sa)else ix arr i:=by
 have e:=VW sa m.toList 0 arr (by simpa using h);rw[ix_list,show m.toList.zipIdx=m.toList.zipIdx 0 from rfl,e,Yh]
 have j:(arr.toList.take sa).length=sa:=by simp;lia
 split
 ·rename_i g
  rw[A7,Ab (by lia),El g,ix_list]
 ·rename_i g
  split
  ·rename_i l
   rw[A7,BG (by lia),j,Ab (by simp;lia),ix_list]
  ·rename_i l
   rw[BG (by simp;lia),EG,ix_list]
   congr 2
   simp
   lia
def mW{arr m:Array BO}{g:Nat}(h:g+m.size<=arr.size)(j:m.toList.Perm (arr.extract g (g+m.size)).toList):(wr arr g m.toList.zipIdx).Perm arr:=by
 rw[Fs];have e:=VW g m.toList 0 arr (by simpa using h);rw[show m.toList.zipIdx=m.toList.zipIdx 0 from rfl,e,Yh]
 have l:arr.toList=arr.toList.take g++(arr.extract g (g+m.size)).toList++arr.toList.drop (g+m.toList.length):=by
  rw[A7,BM,<-Jj h,EK]
 conv=>rhs;rw[l]
 exact Tj _ (HY _ j)
def ZO{a:Array BO}{lo hi i:Nat}(h:hi<=a.size)(g:i < hi - lo):ix (a.extract lo hi) i=ix a (lo+i):=by
 apply LA
 rw[Array.getElem?_extract];simp
 lia
section
variable{prog:Bq}{w:CQ}{A:B5}{E:AI->AM->Prop}{s:AM}{a₀:Array BO}{κ:Pn}{lt:BO->BO->Bool}
def fy{a:Array BO}{lo hi:Nat}(h:hi<=a.size)(u:Up lt a lo hi):(a.extract lo hi).toList.Pairwise (Rl lt):=by
 rw[CO];intro i j m o B;simp at m o
 have e:∀k (g:k < (a.extract lo hi).toList.length),(a.extract lo hi).toList[k]=ix a (lo+k):=λk g=>by
  have l:k < (a.extract lo hi).size:=by rw[BM]at g;exact g
  have:=Dw l;rw[getElem?_pos (a.extract lo hi) k l]at this
  have C:(a.extract lo hi).size=hi - lo:=by simp;lia
  rw[<-ZO h (by lia)];simpa using this
 rw[e,e];exact u _ _ (by lia) (by lia) (by omega)
def kj{st g:BH}{Q:PUnit->BH->Prop}(h:Q ⟨⟩ g):wpS (Ah prog w) A E s (set g:StateT BH Sem PUnit) Q st:=An h
def Wx{st}{i l m pw sb nb pw2}{Q}(C:MQ prog w A s a₀ κ lt)(O:Ord (·∈a₀) lt)(g:Good a₀ κ st)
  (e1:(Ae st)[i]?=some (l,m,pw)) (e2:(Ae st)[i+1]?=some (sb,nb,pw2)) (yc:sb=l+m) (zm:1<=m) (wj:1<=nb) (hs:sb+nb<=a₀.size)
  (U:Up lt (Aa st) l (l+m)) (X:Up lt (Aa st) sb (sb+nb))
  (h:∀o,Good a₀ κ o->Ae o=((Ae st).setIfInBounds i (l,m+nb,pw)).eraseIdxIfInBounds (i+1)->Up lt (Aa o) l (l+(m+nb))->Out (Aa st) (Aa o) l (l+(m+nb))->Q true o) :
  wpS (Ah prog w) A E s (mergeAt' i) Q st:=by
 subst yc;have hsz:=g.size
 have mem:∀j,j < a₀.size->ix (Aa st) j∈a₀:=λj Y=>g.mem Y
 have tr:∀x y z:BO,x∈a₀->y∈a₀->z∈a₀->Rl lt x y->Rl lt y z->Rl lt x z:=λx y z hx hy B I H=>O.ntr x y z hx hy B I H
 refine(Am (Ie ?_):wpS _ _ _ _ (mergeAt' i) Q st);rw[show(sortPriv% PySem.Builtin.SortState.pending) st=Ae st from rfl,e1,e2];refine Am (kj ?_);generalize J:((sortPriv% PySem.Builtin.SortState.mk) (kindOf st) (Aa st) (((Ae st).setIfInBounds i (l,m+nb,pw)).eraseIdxIfInBounds (i+1)) (gallopOf st) (Jq st))=wo
 have g1:Good a₀ κ wo:=by subst J;exact⟨g.perm,g.kind,g.failed⟩
 have a1:Aa wo=Aa st:=by subst J;rfl
 have p1:Ae wo=((Ae st).setIfInBounds i (l,m+nb,pw)).eraseIdxIfInBounds (i+1):=by subst J;rfl
 refine Am (Rp (a:=Aa st) (i:=l+m) (by lia) ?_);refine Am (Hq (base:=l) (n:=m) (hint:=0) (arr:=Aa st) (key:=ix (Aa st) (l+m)) (left:=false) C g1 (λj=>!lt (ix (Aa st) (l+m)) (ix (Aa st) (l+j))) (mem _ (by lia)) (λj Y=>⟨by lia,mem _ (by lia)⟩) (λj Y=>rfl) (λx y zo hy e=>?_) (by lia) λk hk k1 k2=>?_)
 ·have e':lt (ix (Aa st) (l+m)) (ix (Aa st) (l+y))=false:=by simpa using e
  have:=tr _ _ _ (mem _ (by lia)) (mem _ (by lia)) (mem _ (by lia)) (U (l+x) (l+y) (by lia) (by lia) (by lia)) e';simpa using this
 have low:∀j,l<=j->j < l+k->Rl lt (ix (Aa st) j) (ix (Aa st) (l+m)):=λj G N=>by
  have:=k1 (j - l) (by lia);rw[show l+(j - l)=j by lia]at this;simpa using this
 have ϫ:∀i j,l<=i->i < l+k->l+m<=j->j < l+m+nb->Rl lt (ix (Aa st) i) (ix (Aa st) j):=λi j R i2 G N=>tr _ _ _ (mem _ (by lia)) (mem _ (by lia)) (mem _ (by lia)) (low i R i2) (X _ _ (by lia) (by omega) (by omega))
 have L:(∀j,l<=j->j < l+m->Rl lt (ix (Aa st) j) (ix (Aa st) (l+m)))->Up lt (Aa st) l (l+(m+nb)):=λhh x y I H Z=>by
  by_cases c1:y < l+m
  ·exact U x y I H c1
  by_cases c2:x < l+m
  ·exact tr _ _ _ (mem _ (by lia)) (mem _ (by lia)) (mem _ (by lia)) (hh x I c2) (X _ _ (by lia) (by lia) (by lia))
  ·exact X x y (by lia) H (by lia)
 refine(show wpS (Ah prog w) A E s (if (m - k==0)=true then _ else _) Q wo from ?_)
 by_cases c1:m - k=0
 ·rw[qX (by simpa using c1)]
  refine An (h wo g1 p1 ?_ (by rw[a1];exact .refl));rw[a1]
  exact L λj G N=>low j G (by lia)
 rw[qY (by simpa using c1)];refine Am (Rp (a:=Aa st) (i:=l+k+(m - k) - 1) (by omega) ?_);rw[show l+k+(m - k) - 1=l+m - 1 by lia];refine Am (Hq (base:=l+m) (n:=nb) (hint:=nb - 1) (arr:=Aa st) (key:=ix (Aa st) (l+m - 1)) (left:=true) C g1 (λj=>lt (ix (Aa st) (l+m+j)) (ix (Aa st) (l+m - 1))) (mem _ (by lia)) (λj Y=>⟨by lia,mem _ (by lia)⟩) (λj Y=>rfl) (λx y zo hy e=>?_) (by omega) λk3 Ϩ k4 k5=>?_)
 ·cases e2:lt (ix (Aa st) (l+m+x)) (ix (Aa st) (l+m - 1))with
  | true=>rfl
  | false=>
   have:=tr _ _ _ (mem _ (by lia)) (mem _ (by lia)) (mem _ (by lia)) e2 (X (l+m+x) (l+m+y) (by lia) (by lia) (by lia));exact nomatch (show true=false from(show lt (ix (Aa st) (l+m+y)) (ix (Aa st) (l+m - 1))=true from e).symm.trans this)
 have S:∀j,l+m+k3<=j->j < l+m+nb->Rl lt (ix (Aa st) (l+m - 1)) (ix (Aa st) j):=λj G N=>by
  have:=k5 (j - (l+m)) (by lia) (by lia);rwa [show l+m+(j - (l+m))=j by lia]at this
 refine(show wpS (Ah prog w) A E s (if (k3==0)=true then _ else _) Q wo from ?_)
 by_cases c2:k3=0
 ·rw[qX (by simpa using c2)]
  refine An (h wo g1 p1 ?_ (by rw[a1];exact .refl));rw[a1]
  exact L λj G N=>tr _ _ _ (mem _ (by lia)) (mem _ (by lia)) (mem _ (by lia)) (U j (l+m - 1) (by omega) (by lia) (by lia)) (S _ (by lia) (by lia))
 rw[qY (by simpa using c2)]
 let x:=(Aa st).extract (l+k) (l+m)
 let y:=(Aa st).extract (l+m) (l+m+k3)
 have xs:x.size=m - k:=by simp[x];lia
 have ys:y.size=k3:=by simp[y];lia
 have ixx:∀j,j < m - k->ix x j=ix (Aa st) (l+k+j):=λj Y=>ZO (by lia) (by lia)
 have ixy:∀j,j < k3->ix y j=ix (Aa st) (l+m+j):=λj Y=>ZO (by lia) (by lia)
 have T':∀z∈x.toList,∃j,j < m - k/\z=ix (Aa st) (l+k+j):=λz B=>by
  have B:z∈((Aa st).extract (l+k) (l+k+(m - k))).toList:=by rw[show l+k+(m - k)=l+m by lia];exact B
  exact RT (by lia) B
 have U':∀z∈y.toList,∃j,j < k3/\z=ix (Aa st) (l+m+j):=λz B=>RT (by lia) B
 have fin:∀(r:Array BO) (o:BH),Pb a₀ κ wo o->MV (Rl lt) (x.toList++y.toList) r.toList->∀w8:BH,Aa w8=wr (Aa o) (l+k) r.toList.zipIdx->kindOf w8=kindOf o->Jq w8=Jq o->Ae w8=Ae o->Q true w8:=by
  intro r o sm f w8 q1 q2 q3 q4
  have hr:r.size=m - k+k3:=by
   have:=f.perm.length_eq;simp only[AK,BM]at this
   lia
  have ha:Aa o=Aa st:=sm.arr.trans a1;rw[ha]at q1
  have hb:l+k+r.size<=(Aa st).size:=by lia
  have mm:∀t,t < r.size->∃t',ix r t=ix (Aa st) t'/\l+k<=t'/\t' < l+m+k3:=λt ht=>by
   have:ix r t∈r.toList:=Bh.mpr (DO (Dw ht))
   rcases Aq.mp (f.perm.mem_iff.mp this)with h | h
   ·obtain⟨j,G,e⟩:=T' _ h
    exact⟨_,e,by lia,by lia⟩
   ·obtain⟨j,G,e⟩:=U' _ h
    exact⟨_,e,by lia,by lia⟩
  have rs:=W9 O (a:=r) (λt ht=>by
   obtain⟨t',e,_,_⟩:=mm t ht;rw[e]
   exact mem _ (by lia)) f.srt
  refine h w8 ⟨?_,?_,?_⟩ (q4.trans (sm.pend.trans p1)) ?_ ?_
  ·rw[q1]
   refine(mW hb (f.perm.trans ?_)).trans g.perm
   have:(Aa st).toList.drop (l+k)=x.toList++(Aa st).toList.drop (l+m):=by
    have:=Jj (a:=Aa st) (i:=l+k) (k:=m - k) (by lia);rw[show l+k+(m - k)=l+m by lia]at this;exact this
   have H:(Aa st).toList.drop (l+m)=y.toList++(Aa st).toList.drop (l+m+k3):=Jj (by lia);have Z:(Aa st).toList.drop (l+k)=((Aa st).extract (l+k) (l+k+r.size)).toList++(Aa st).toList.drop (l+k+r.size):=Jj hb;rw[this,H,<-A7,show l+k+r.size=l+m+k3 by lia]at Z;rw[show l+k+r.size=l+m+k3 by lia];exact Zx (List.append_cancel_right Z)
  ·rw[q2];exact sm.good.kind
  ·rw[q3];exact sm.good.failed
  ·rw[q1]
   intro i j I H Z;show Rl lt _ _;rw[jG hb,jG hb]
   by_cases R:i < l+k
   ·rw[qX R]
    by_cases G:j < l+k
    ·rw[qX G];exact U i j I H (by lia)
    rw[qY G]
    by_cases N:j < l+k+r.size
    ·rw[qX N]
     obtain⟨t,e,t1,t2⟩:=mm (j - (l+k)) (by omega);rw[e]
     by_cases t3:t < l+m
     ·exact U i t I (by lia) t3
     ·exact ϫ i t I R (by lia) (by lia)
    ·rw[qY N];exact ϫ i j I R (by lia) (by lia)
   rw[qY R,qY (show ¬j < l+k by lia)]
   by_cases i2:i < l+k+r.size
   ·rw[qX i2]
    by_cases N:j < l+k+r.size
    ·rw[qX N];exact rs _ _ (by lia) (by omega)
    ·rw[qY N]
     obtain⟨t,e,t1,t2⟩:=mm (i - (l+k)) (by omega);rw[e]
     by_cases t3:t < l+m
     ·exact tr _ _ _ (mem _ (by lia)) (mem _ (by lia)) (mem _ (by lia)) (U t (l+m - 1) (by lia) (by lia) (by lia)) (S j (by lia) (by lia))
     ·exact X t j (by lia) (by lia) (by lia)
   ·rw[qY i2,qY (show ¬j < l+k+r.size by lia)]
    exact X i j (by lia) H (by lia)
  ·rw[q1]
   intro i hi;rw[jG hb]
   by_cases R:i < l+k
   ·rw[qX R]
   ·rw[qY R,qY (by lia)]
 have T:∀{P:Prop},((∀z∈x.toList,z∈a₀)->(∀z∈y.toList,z∈a₀)->x.toList.Pairwise (Rl lt)->y.toList.Pairwise (Rl lt)->0 < x.size->0 < y.size->(∀z∈x.toList,Rl lt (ix y 0) z)->(∀z∈y.toList,Rl lt z (ix x (x.size - 1)))->P)->P:=by
  intro P hP
  refine hP (λz B=>?_) (λz B=>?_) (fy (by lia) λi j I H Z=>U i j (by lia) H Z) (fy (by lia) λi j I H Z=>X i j I H (by lia)) (by lia) (by lia) (λz B=>?_) λz B=>?_
  ·obtain⟨j,G,rfl⟩:=T' z B
   exact mem _ (by lia)
  ·obtain⟨j,G,rfl⟩:=U' z B
   exact mem _ (by lia)
  ·obtain⟨j,G,rfl⟩:=T' z B
   rw[ixy 0 (by lia)];have:=k2 (k+j) (by lia) (by lia);rw[show l+(k+j)=l+k+j by lia]at this;exact O.asym _ _ (mem _ (by lia)) (mem _ (by lia)) (by simpa using this)
  ·obtain⟨j,G,rfl⟩:=U' z B
   rw[xs,ixx _ (by lia),show l+k+(m - k - 1)=l+m - 1 by lia];exact O.asym _ _ (mem _ (by lia)) (mem _ (by lia)) (k4 j G)
 refine(show wpS (Ah prog w) A E s (if m - k<=k3 then mLo x y >>= _ else mHi x y >>= _) Q wo from ?_);split
 ·refine Am (T λb1 b2 b3 b4 b5 b6 b7 b8=>kl C O g1 b1 b2 b3 b4 b5 b6 b7 b8 λr o sm f=>?_)
  refine Am (D6 (Am (Ie (An ?_))));have q:=fin r o sm f (setArr o (wr (Aa o) (l+k) r.toList.zipIdx)) rfl rfl rfl rfl;rw[<-show(Jq o).isNone=true by rw[sm.good.failed];rfl]at q;exact q
 ·refine Am (T λb1 b2 b3 b4 b5 b6 b7 b8=>km C O g1 b1 b2 b3 b4 b5 b6 b7 b8 λr o sm f=>?_)
  refine Am (D6 (Am (Ie (An ?_))));have q:=fin r o sm f (setArr o (wr (Aa o) (l+k) r.toList.zipIdx)) rfl rfl rfl rfl;rw[<-show(Jq o).isNone=true by rw[sm.good.failed];rfl]at q;exact q
end
def nR[Decidable c](h:1 < z):(if c then z - 2 - 1 else z - 2)+1 < z:=by split <;> omega
def Stk(lt:BO->BO->Bool)(arr:Array BO):List (Nat×Nat×Nat)->Nat->Nat->Prop
 | [],lo,g=>lo=g
 | (s,n,_) :: r,lo,g=>s=lo/\1<=n/\Up lt arr s (s+n)/\Stk lt arr r (s+n) g
section
def Stk.le:∀{l:List (Nat×Nat×Nat)} {lo hi:Nat},Stk lt arr l lo hi->lo+l.length<=hi
 | [],lo,hi,h=>by cases h;simp
 | (s,n,_) :: r,lo,hi,⟨j,m,_,g⟩=>by
  have:=Stk.le g;rw[A1]
  lia
def Stk.app:∀{l r:List (Nat×Nat×Nat)} {lo hi:Nat},Stk lt arr (l++r) lo hi↔∃g,Stk lt arr l lo g/\Stk lt arr r g hi
 | [],r,lo,hi=>⟨λh=>⟨lo,rfl,h⟩,λ⟨_,e,h⟩=>by cases e;exact h⟩
 | (s,n,_) :: l,r,lo,hi=>by
  constructor
  ·rintro⟨j,m,o,A⟩
   obtain⟨g,a,b⟩:=Stk.app.mp A;exact⟨g,⟨j,m,o,a⟩,b⟩
  ·rintro⟨g,⟨j,m,o,A⟩,b⟩
   exact⟨j,m,o,Stk.app.mpr ⟨g,A,b⟩⟩
def Stk.pw(m:∀x,(f x).1=x.1/\(f x).2.1=x.2.1):∀{l:List (Nat×Nat×Nat)} {lo hi:Nat} (i:Nat),Stk lt arr l lo hi->Stk lt arr (l.modify i f) lo hi
 | [],lo,hi,i,h=>by cases i <;> exact h
 | (s,n,p) :: r,lo,hi,0,h=>by
  obtain⟨g,j⟩:=m (s,n,p);show Stk lt arr (f (s,n,p) :: r) lo hi;generalize f (s,n,p)=q at g j;obtain⟨E,G,H⟩:=q;dsimp only at g j;subst g j;exact h
 | (s,n,p) :: r,lo,hi,i+1,⟨o,A,B,C⟩=>⟨o,A,B,Stk.pw m i C⟩
def Stk.out:∀{l:List (Nat×Nat×Nat)} {lo hi x y:Nat},Stk lt arr l lo hi->Out arr arr' x y->(hi<=x∨y<=lo)->Stk lt arr' l lo hi
 | [],lo,hi,x,y,h,o,d=>h
 | (s,n,_) :: r,lo,hi,x,y,⟨j,m,A,g⟩,o,d=>by
  have:=g.le;exact⟨j,m,A.out o (by lia),Stk.out g o (by lia)⟩
end
section
def Out.wide(o:Out xs ys l h)(j:g<=l)(m:h<=h'):Out xs ys g h':=λi s=>o i (by lia)
def LR{st:BH}{i hi:Nat}{Q:Bool->BH->Prop}(C:MQ prog w A s a₀ N lt)(O:Ord (·∈a₀) lt)(g:Good a₀ N st)(k:Stk lt (Aa st) (Ae st).toList 0 hi)(hs:hi<=a₀.size)(X:i+1 < (Ae st).size)
  (h:∀j,Good a₀ N j->Stk lt (Aa j) (Ae j).toList 0 hi->(Ae j).size+1=(Ae st).size->Out (Aa st) (Aa j) 0 hi->Q true j):wpS (Ah prog w) A E s (mergeAt' i) Q st:=by
 obtain⟨m,o,pw,P⟩:∃m o pw,(Ae st)[i]?=some (m,o,pw):=⟨_,_,_,getElem?_pos (Ae st) i (by lia)⟩
 obtain⟨G,nb,B,R⟩:∃m o pw,(Ae st)[i+1]?=some (m,o,pw):=⟨_,_,_,getElem?_pos (Ae st) (i+1) X⟩
 obtain⟨l,r,H,Y⟩:∃l r,(Ae st).toList=l++(m,o,pw) :: (G,nb,B) :: r/\l.length=i:=by
  have Z:(Ae st).toList[i]?=some (m,o,pw):=by simpa using P
  have a2:(Ae st).toList[i+1]?=some (G,nb,B):=by simpa using R
  obtain⟨b1,c1⟩:=AC.mp Z;obtain⟨b2,c2⟩:=AC.mp a2;refine⟨(Ae st).toList.take i,(Ae st).toList.drop (i+2),?_,by rw[Be];lia⟩
  conv=>lhs;rw[<-EK i (Ae st).toList,Km b1,Km b2,c1,c2]
 rw[H]at k;obtain⟨I,S,⟨q1,q2,q3,⟨q4,q5,q6,J⟩⟩⟩:=Stk.app.mp k;have hle:=J.le;have T:=S.le
 refine Wx C O g P R q4 q2 q5 (by lia) q3 q6 λj g' p' u' L=>?_
 have U:(Ae j).toList=l++(m,o+nb,pw) :: r:=by
  rw[p',Array.toList_eraseIdxIfInBounds,Tl,H];rw[List.set_append_right _ _ (by lia),Y,uF,List.set_cons_zero,List.eraseIdx_append_of_length_le (by lia),show i+1 - l.length=1 by lia];rfl
 refine h j g' ?_ ?_ (L.wide (by lia) (by lia))
 ·rw[U]
  refine Stk.app.mpr ⟨I,S.out L (.inl (by lia)),q1,by lia,u',?_⟩
  have e:G+nb=m+(o+nb):=by lia
  rw[e]at J;exact J.out L (.inr (by lia))
 ·have z1:=congrArg F7 U
  have z2:=congrArg F7 H;simp at z1 z2
  lia
def wpS_sortRuns{st:BH}{Q:Unit->BH->Prop}(C:MQ prog w A s a₀ J lt)(O:Ord (·∈a₀) lt)(g:Good a₀ J st)(hp:Ae st = #[])
  (h:∀o,Good a₀ J o->Up lt (Aa o) 0 a₀.size->Q () o):wpS (Ah prog w) A E s sortRuns' Q st:=by
 rw[sortRuns'_eq];refine Am (Ie ?_);dsimp only;rw[g.size];generalize minRun' a₀.size a₀.size 0=L
 refine Am (HZ (Di (I:=λx c o=>∃lo,c=(none,lo)/\Good a₀ J o/\Stk lt (Aa o) (Ae o).toList 0 lo/\lo<=a₀.size/\min x a₀.size<=lo)
  (Q:=λc o=>c=(none,a₀.size)/\Good a₀ J o/\Stk lt (Aa o) (Ae o).toList 0 a₀.size) ?step ?fin ?init) ?post)
 case init=>exact⟨0,rfl,g,by rw[hp];rfl,by lia,by lia⟩
 case fin=>
  rintro c o ⟨lo,rfl,g',k',h1,h2⟩
  have:lo=a₀.size:=by lia
  subst this;exact⟨rfl,g',k'⟩
 case step=>
  rintro x c wo _ hx ⟨lo,rfl,g1,U,h1,h2⟩;dsimp only
  by_cases xp:lo ≥ a₀.size
  ·rw[qX xp]
   have:lo=a₀.size:=by lia
   subst this;exact An ⟨rfl,g1,U⟩
  rw[qY xp];refine Am (wpS_countRun C O (by lia) (by lia) g1 λX n Y P T u2 o2 p2=>?_);dsimp only
  have k2:Stk lt (Aa X) (Ae X).toList 0 lo:=by
   rw[p2];exact U.out o2 (.inl (AL _))
  by_cases hm:n < L
  ·rw[qX hm]
   refine Am (Ku ?_);refine Am (wpS_binarySort C O (by lia) (by omega) Y u2 λZ g3 u3 o3 p3=>?_)
   have k3:Stk lt (Aa Z) (Ae Z).toList 0 lo:=by
    rw[p3];exact k2.out o3 (.inl (AL _))
   rw[qY (by simp)];refine Am (Ie ?_)
   cases hb:(Ae Z).back? with
   | none=>
    dsimp only;refine Am (D6 (An ⟨lo+min (a₀.size - lo) L,rfl,⟨g3.perm,g3.kind,g3.failed⟩,?_,by lia,by lia⟩));show Stk lt (Aa Z) ((Ae Z).push (lo,min (a₀.size - lo) L,0)).toList 0 (lo+min (a₀.size - lo) L);rw[FV];exact Stk.app.mpr ⟨lo,k3,rfl,by omega,u3,rfl⟩
   | some t=>
    obtain⟨s1,P,z⟩:=t;dsimp only;generalize power' a₀.size (2 * s1+P) (2 * s1+P+P+min (a₀.size - lo) L) a₀.size=pw
    refine Am (HZ (Di (I:=λ_ c m=>c=(none,())/\Good a₀ J m/\Stk lt (Aa m) (Ae m).toList 0 lo/\Up lt (Aa m) lo (lo+min (a₀.size - lo) L))
     (Q:=λc m=>c=(none,())/\Good a₀ J m/\Stk lt (Aa m) (Ae m).toList 0 lo/\Up lt (Aa m) lo (lo+min (a₀.size - lo) L)) ?_ (λc m h=>h) ⟨rfl,g3,k3,u3⟩) ?_)
    ·rintro x' c' m _ _ ⟨rfl,B,G,H⟩
     refine Am (Ie ?_)
     by_cases N:(Ae m).size > 1
     ·rw[qX N]
      obtain⟨s2,T,R,S⟩:∃s2 T R,(Ae m)[(Ae m).size - 2]?=some (s2,T,R):=⟨_,_,_,getElem?_pos (Ae m) ((Ae m).size - 2) (by lia)⟩
      rw[S];dsimp only
      by_cases ho:R<=pw
      ·rw[qX ho]
       exact An ⟨rfl,B,G,H⟩
      ·rw[qY ho]
       refine Am (LR C O B G (by omega) (by lia) λyV g5 k5 _ o5=>?_);exact An ⟨rfl,g5,k5,H.out o5 (.inr (by lia))⟩
     ·rw[qY N]
      exact An ⟨rfl,B,G,H⟩
    ·rintro c' m ⟨rfl,B,G,H⟩
     dsimp only;refine Am (D6 (Am (D6 (An ⟨lo+min (a₀.size - lo) L,rfl,⟨B.perm,B.kind,B.failed⟩,?_,by lia,by lia⟩))));show Stk lt (Aa m) ((((Ae m).modify ((Ae m).size - 1) λx=>(x.fst,x.2.fst,pw))).push (lo,min (a₀.size - lo) L,0)).toList 0 (lo+min (a₀.size - lo) L);rw[FV,Z0];exact Stk.app.mpr ⟨lo,Stk.pw (f:=λx=>(x.fst,x.2.fst,pw)) (λx=>⟨rfl,rfl⟩) _ G,rfl,by omega,H,rfl⟩
  ·rw[qY hm]
   refine Am (Ie ?_)
   cases hb:(Ae X).back? with
   | none=>
    dsimp only;refine Am (D6 (An ⟨lo+n,rfl,⟨Y.perm,Y.kind,Y.failed⟩,?_,by lia,by lia⟩));show Stk lt (Aa X) ((Ae X).push (lo,n,0)).toList 0 (lo+n);rw[FV];exact Stk.app.mpr ⟨lo,k2,rfl,by omega,u2,rfl⟩
   | some t=>
    obtain⟨s1,P,z⟩:=t;dsimp only;generalize power' a₀.size (2 * s1+P) (2 * s1+P+P+n) a₀.size=pw
    refine Am (HZ (Di (I:=λ_ c m=>c=(none,())/\Good a₀ J m/\Stk lt (Aa m) (Ae m).toList 0 lo/\Up lt (Aa m) lo (lo+n))
     (Q:=λc m=>c=(none,())/\Good a₀ J m/\Stk lt (Aa m) (Ae m).toList 0 lo/\Up lt (Aa m) lo (lo+n)) ?_ (λc m h=>h) ⟨rfl,Y,k2,u2⟩) ?_)
    ·rintro x' c' m _ _ ⟨rfl,B,G,H⟩
     refine Am (Ie ?_)
     by_cases N:(Ae m).size > 1
     ·rw[qX N]
      obtain⟨s2,T,R,S⟩:∃s2 T R,(Ae m)[(Ae m).size - 2]?=some (s2,T,R):=⟨_,_,_,getElem?_pos (Ae m) ((Ae m).size - 2) (by lia)⟩
      rw[S];dsimp only
      by_cases ho:R<=pw
      ·rw[qX ho]
       exact An ⟨rfl,B,G,H⟩
      ·rw[qY ho]
       refine Am (LR C O B G (by omega) (by lia) λyV g5 k5 _ o5=>?_);exact An ⟨rfl,g5,k5,H.out o5 (.inr (by lia))⟩
     ·rw[qY N]
      exact An ⟨rfl,B,G,H⟩
    ·rintro c' m ⟨rfl,B,G,H⟩
     dsimp only;refine Am (D6 (Am (D6 (An ⟨lo+n,rfl,⟨B.perm,B.kind,B.failed⟩,?_,by lia,by lia⟩))));show Stk lt (Aa m) ((((Ae m).modify ((Ae m).size - 1) λx=>(x.fst,x.2.fst,pw))).push (lo,n,0)).toList 0 (lo+n);rw[FV,Z0];exact Stk.app.mpr ⟨lo,Stk.pw (f:=λx=>(x.fst,x.2.fst,pw)) (λx=>⟨rfl,rfl⟩) _ G,rfl,by omega,H,rfl⟩
 case post=>
  rintro c wo ⟨rfl,g1,U⟩;dsimp only
  refine Am (HZ (Di (I:=λx c m=>c=(none,())/\Good a₀ J m/\Stk lt (Aa m) (Ae m).toList 0 a₀.size/\((Ae m).size<=1∨(Ae m).size+x<=a₀.size))
   (Q:=λc m=>c=(none,())/\Good a₀ J m/\Stk lt (Aa m) (Ae m).toList 0 a₀.size/\(Ae m).size<=1) ?_ ?_ ?_) ?_)
  ·rintro x c m _ _ ⟨rfl,B,G,d⟩
   refine Am (Ie ?_)
   by_cases N:(Ae m).size<=1
   ·rw[qX N]
    exact An ⟨rfl,B,G,N⟩
   ·rw[qY N]
    refine Am (LR C O B G (AL _) (nR (by lia)) λyV g5 k5 z5 o5=>?_);exact An ⟨rfl,g5,k5,.inr (by lia)⟩
  ·rintro c m ⟨rfl,B,G,d⟩
   exact⟨rfl,B,G,by lia⟩
  ·refine⟨rfl,g1,U,.inr ?_⟩
   have:=U.le;simp at this;omega
  ·rintro c m ⟨rfl,B,G,d⟩
   refine An (h m B ?_);generalize hl:(Ae m).toList=l at G
   have hd:l.length<=1:=by rw[<-hl];simpa using d
   match l,G,hd with
   | [],G,_=>exact λi j h1 h2 h3=>by have:(0:Nat)=a₀.size:=G;lia
   | [(s,n,_)],⟨e1,_,u,S⟩,_=>
    have S:s+n=a₀.size:=S;rw[S,e1]at u;exact u
end
noncomputable def ltL:ZLi->ZLi->Bool
 | [],[]=>false
 | [],_ :: _=>true
 | _ :: _,[]=>false
 | x :: g,y :: j=>if x=y then ltL g j else decide (x < y)
def SW:∀x y,ltL x y=true->ltL y x=false
 | [],[],h=>by cases h
 | [],_ :: _,_=>rfl
 | _ :: _,[],h=>by cases h
 | x :: g,y :: j,h=>by
  unfold ltL at h ⊢
  by_cases e:x=y
  ·rw[qX e]at h;rw[qX e.symm];exact SW g j h
  ·rw[qY e]at h;rw[qY (CK e)];simp at h ⊢;lia
def WB:∀x y z,ltL y x=false->ltL z y=false->ltL z x=false
 | [],y,[],_,_=>rfl
 | [],[],_ :: _,_,_=>rfl
 | [],_ :: _,_ :: _,_,_=>rfl
 | x :: o,[],z,h,_=>by cases h
 | _,y :: s,[],_,h=>by cases h
 | x :: o,y :: s,z :: B,j,g=>by
  unfold ltL at j g ⊢
  by_cases m:y=x
  ·rw[qX m]at j
   subst m
   by_cases l:z=y
   ·rw[qX l]at g ⊢
    exact WB o s B j g
   ·rw[qY l]at g ⊢;exact g
  ·rw[qY m]at j
   by_cases l:z=y
   ·subst l;rw[qY m];exact j
   ·rw[qY l]at g
    by_cases A:z=x
    ·subst A;simp at j g;lia
    ·rw[qY A];simp at j g ⊢;lia
def aY:∀x y,ltL x y=false->ltL y x=false->x=y
 | [],[],_,_=>rfl
 | [],_ :: _,h,_=>by cases h
 | _ :: _,[],_,h=>by cases h
 | x :: l,y :: m,g,j=>by
  unfold ltL at g j
  by_cases e:x=y
  ·rw[qX e]at g;rw[qX e.symm]at j;rw[e,aY l m g j]
  ·rw[qY e]at g;rw[qY (CK e)]at j;simp at g j;lia
def ltK(f:AI->ZLi)(x y:BO):Bool:=ltL (f x.1) (f y.1)
def nA(f:AI->ZLi)(U:BO->Prop):Ord U (ltK f):=⟨λx y _ _ h=>SW _ _ h,λx y z _ _ _ g j=>WB _ _ _ g j⟩
section
def ZE(o:Bool)(h:Q (decide (a < b)) s):Ag (Ah prog w) A (oneLt' o (.int a t) (.int b u)) Q E s:=by
 cases o with
 | true=>exact oneLt_int h
 | false=>
  rw[oneLt'_eq];simp only[BA,if_false];exact AA (wpAny_lt_int (C7 h))
def Zk(s:AM)(v:AI)(ns:ZLi):Prop:=∃a g,v=.ref a/\s.heap.IsTuple a g/\IntsAre g.toList ns
noncomputable def vZ(o:Bool):(AI×AI)×Nat->Option Bool×Unit->Sem (ForInStep (Option Bool×Unit)):=λe _=>match e with
 | ((p,q),i)=>eqBool p q >>= λc=>if (!c)=true then oneLt' (o&&i==0) p q >>= λb=>pure (.done (some b,()))else pure (.yield (none,()))
def jF(o:Bool)(x y:AI):keyLt' (tS o) x y=(Jt x >>= λr=>Jt y >>= λq=>forIn (r.toList.zip q.toList).zipIdx ((none,()):Option Bool×Unit) (vZ o) >>= λz=>match z.1 with
  | some b=>pure b
  | none=>pure (decide (r.size < q.size))):=by kernel_rfl
def jy(o:Bool):∀{is j:List AI} {ns C:ZLi} (k:Nat) {Q:Bool->AM->Prop},IntsAre is ns->IntsAre j C->Q (ltL ns C) s ->
  Ag (Ah prog w) A (forIn ((is.zip j).zipIdx k) ((none,()):Option Bool×Unit) (vZ o) >>= λz=>match z.1 with
   | some b=>pure b
   | none=>pure (decide (n0+is.length < n0+j.length))) Q E s:=by
 intro is
 induction is with
 | nil=>
  intro j ns C k Q l B g;cases l;rw[List.zip_nil_left,kY,N9];refine AA (AE (AE ?_))
  cases B with
  | nil=>simpa[ltL]using g
  | cons m t h=>simpa[ltL]using g
 | cons v is G=>
  intro j ns C k Q l B g
  cases l with
  | cons n t l=>
   cases B with
   | nil=>
    rw[List.zip_nil_right,kY,N9];refine AA (AE (AE ?_));rw[wY (by rw[A1,JL];lia)];exact g
   | cons m u B=>
    rw[List.zip_cons_cons,kG,Mm];rw[bind_assoc];unfold ltL at g;refine AA ?_;refine AA (t7 ?_)
    by_cases e:n=m
    ·rw[qX e]at g
     rw[qY (by simp[e])];refine AE ?_;have:=G (k+1) l B g;simpa[Nat.add_lt_add_iff_left]using this
    ·rw[qY e]at g
     rw[qX (by simp[e])];refine AA (ZE _ (AE ?_));exact AA (AE (AE g))
end
section
def P0(h:Zk s v ns):∃g:Array AI,IntsAre g.toList ns/\s.TypeIs v "tuple"/\∀(E:AI->AM->Prop) (Q:Array AI->AM->Prop),Q g s->Ag (Ah prog w) A (Jt v) Q E s:=by
 obtain⟨a,g,rfl,⟨o,j,l,n,hd⟩,m⟩:=h;exact⟨g,m,⟨o,j,l⟩,λE Q q=>listItems_at j hd q⟩
def oF(o:Bool)(g:Zk s x ns)(j:Zk s y l)(h:Q (ltL ns l) s):Ag (Ah prog w) A (keyLt' (tS o) x y) Q E s:=by
 obtain⟨r,m,_,wr⟩:=P0 (prog:=prog) (w:=w) (A:=A) g;obtain⟨q,B,_,C⟩:=P0 (prog:=prog) (w:=w) (A:=A) j;rw[jF];refine AA (wr E _ (AA (C E _ ?_)));have:=jy (prog:=prog) (w:=w) (A:=A) (E:=E) (n0:=0) o 0 m B h;simp only[Mj,BM]at this;exact this
def dP(h:Zk s v (n :: ns))(j:∀t,Q (some (.int n t)) s):Ag (Ah prog w) A (bS v) Q E s:=by
 obtain⟨r,g,ty,wr⟩:=P0 (prog:=prog) (w:=w) (A:=A) h;refine(AA (Ko ty ?_):Ag _ _ (bS v) Q E s);refine(show Ag (Ah prog w) A (if (DQ "tuple" != DQ "tuple")=true then _ else _) Q E s from ?_);rw[qY (by simp)];refine AA (wr E _ (AE ?_));generalize m:r.toList=l at g
 cases g with
 | cons _ t o=>
  have:r[0]?=some (.int n t):=by
   rw[<-IG,m];rfl
  rw[this];exact j t
def Sn:∀{g:List AI},(∀v∈g,∃n ns,Zk s v (n :: ns))->∀{Q:List (Option AI)->AM->Prop},(∀is ns,IntsAre is ns->is.length=g.length->Q (is.map some) s)->Ag (Ah prog w) A (g.mapM bS) Q E s
 | [],_,Q,h=>by
  rw[List.mapM_nil];exact AE (h [] [] .nil rfl)
 | v :: g,j,Q,h=>by
  obtain⟨n,ns,l⟩:=j v Ax;rw[List.mapM_cons];refine AA (dP l λt=>AA (Sn (λv m=>j v (AY _ m)) λis o B C=>AE ?_));exact h (.int n t :: is) (n :: o) (.cons n t B) (by rw[A1,C,A1])
def V2(h:IntsAre is ns)(g:is≠[]):oneTypeOnly' is.toArray=pure (some (.type "int")):=by
 rw[oneTypeOnly'_eq,fB,mapM_typeOf_ints h];simp only[map_pure,pure_bind]
 cases is with
 | nil=>exact zX rfl g
 | cons v is=>
  have j:(N8 (λ_=>DQ "int") (v :: is)).toArray[0]?=some (DQ "int"):=by simp
  have l:((N8 (λ_=>DQ "int") (v :: is)).toArray.all λx=>x==DQ "int")=true:=by
   simp only[List.all_toArray,YN,DA]
   exact λ_ _=>rfl
  rw[j];simp only[l,if_true]
def jD(j:∀v∈g,∃n ns,Zk s v (n :: ns))(l:g≠[])(h:Q (tS true) s):Ag (Ah prog w) A (keyKind' g.toArray) Q E s:=by
 rw[keyKind'_eq,fB];refine AA ?_;rw[map_eq_pure_bind];refine AA (Sn j λis ns m o=>AE ?_)
 have B:((is.map some).toArray.all λx=>x.isSome)=true:=by simp
 rw[qX B];refine AA (Hl ?_)
 have C:(is.map some).toArray.filterMap id=is.toArray:=by simp
 rw[C,V2 m (by intro e;subst e;cases g with | nil=>exact l rfl | cons=>simp at o)];refine AA (AE (AE ?_));exact h
end
section
def Hw(h:x∈MY g):x.1∈g/\x.1=x.2:=by
 have:x∈(MY g).toList:=Bh.mpr h;rw[pairsOf_toList]at this;exact⟨(mem_zip_self this).2,(mem_zip_self this).1⟩
def cY(g:List AI):(MY g).map (·.2)=g.toArray:=by
 apply uQ
 rw[LQ,pairsOf_toList];simp[List.map_snd_zip]
def Wb(prog:Bq)(w:CQ)(A:B5)(s:AM)(g:List AI)(f:AI->ZLi):Prop:=
 ∃j:Pn,(∀(Q:Pn->AM->Prop) (E:AI->AM->Prop),Q j s->Ag (Ah prog w) A (keyKind' g.toArray) Q E s)/\MQ prog w A s (MY g) j (ltK f)
def OG(ho:s.heap.get? a=some (Hm "list" m.toArray n)) (hz:m.length<=sizeLine)
  (T:2<=m.length->∀s':AM,(∀b o,b≠a->s.heap.get? b=some o->s'.heap.get? b=some o)->Wb prog w A s' m f)
  (h:∀out:Array AI,out.toList.Perm m->out.toList.Pairwise (λx y=>ltL (f y) (f x)=false)->P (.done (.ret .none)) { s with heap:=YS s.heap a m out }) :
  Ag (Ah prog w) A (Builtin.«list.sort» ⟨[.ref a],[]⟩) P E s:=by
 have ha:a < s.heap.objs.size:=AZ ho
 have N:m.toArray.size=m.length:=by simp
 obtain⟨O,Ϭ⟩:∃O,(s.heap.update a (EJ λ_=>#[])).get? a=some (Hm "list" #[] O):=⟨_,get?_update_seq ho (λ_=>#[])⟩
 have B:(((s.heap.update a (EJ λ_=>#[])).push (Hm "tuple" m.toArray 0)).push (Hm "list" #[] 0)).get? a=some (Hm "list" #[] O):=
  AF _ (AF _ Ϭ)
 have old:∀b o,b≠a->s.heap.get? b=some o->(((s.heap.update a (EJ λ_=>#[])).push (Hm "tuple" m.toArray 0)).push (Hm "list" #[] 0)).get? b=some o:=λb o hb U=>
  AF _ (AF _ (by rw[bf _ _ _ _ hb];exact U))
 have fin:∀j:BH,(Aa j).Perm (MY m)->(Aa j).toList.Pairwise (Rl (ltK f))->P (.done (.ret .none)) { s with heap:=YS s.heap a m ((Aa j).map (·.2)) }:=by
  intro j H J
  have G:∀x∈(Aa j).toList,x.1=x.2:=λx R=>by
   have:x∈(MY m).toList:=(Fs.mp H).mem_iff.mp R;exact(Hw (Bh.mp this)).2
  refine h _ ?_ ?_
  ·have:=(Fs.mp H).map (·.2)
   rw[<-LQ,<-LQ,cY]at this;simpa using this
  ·rw[LQ,B2]
   refine J.imp_of_mem λ{x y} R X r=>?_
   rw[<-G x R,<-G y X];exact r
 have last:∀j:BH,(Aa j).Perm (MY m)->Jq j=none->(Aa j).toList.Pairwise (Rl (ltK f))->(((Aa j).map (·.2)).size<=sizeLine+1):=λj H _ _=>by
  rw[Array.size_map,H.size_eq,pairsOf_size]
  lia
 rw[list_sort_plain];refine AA (listItems_at ho rfl (AA (bR ho rfl (AA (kP Ϭ rfl (AA (wpAny_newTuple (AA (bN (CP ?_)))))) ) (by rw[N];exact hz) (Ce _))));show Ag (Ah prog w) A _ P E { s with heap:=((s.heap.update a (EJ λ_=>#[])).push (Hm "tuple" m.toArray 0)).push (Hm "list" #[] 0) };dsimp only
 by_cases L:m.toArray.size < 2
 ·rw[qX L,qX L]
  refine AA (AE ?_);rw[StateT.run_pure]
  have I:(Aa (ID YY (m.toArray.zip m.toArray) #[] 7 none)).toList.Pairwise (Rl (ltK f)):=by
   have:(Aa (ID YY (m.toArray.zip m.toArray) #[] 7 none)).toList.length < 2:=by
    rw[BM];show(MY m).size < 2;rw[pairsOf_size];omega
   generalize (Aa (ID YY (m.toArray.zip m.toArray) #[] 7 none)).toList=l at this
   match l,this with
   | [],_=>exact .nil
   | [x],_=>exact Ez _ _
   | _ :: _ :: _,h=>simp at h;lia
  refine AA (AE (AA (kP B rfl (AA (bR B rfl ?_ (Ce _) (last (ID YY (m.toArray.zip m.toArray) #[] 7 none) (Pi _) rfl I))))));simp only[bne_self_eq_false,BA,if_false];exact AE (fin (ID YY (m.toArray.zip m.toArray) #[] 7 none) (Pi _) I)
 ·rw[qY L,qY L]
  obtain⟨Y,Z,C⟩:=T (by lia) { s with heap:=((s.heap.update a (EJ λ_=>#[])).push (Hm "tuple" m.toArray 0)).push (Hm "list" #[] 0) } old;refine AA (Z _ _ ?_)
  refine AA (E2 (Srt.wpS_sortRuns (a₀:=MY m) (st:=ID Y (m.toArray.zip m.toArray) #[] 7 none)
   (Q:=λ_ j=>(Aa j).Perm (MY m)/\Jq j=none/\(Aa j).toList.Pairwise (Rl (ltK f))) C (nA f _) ⟨Pi _,rfl,rfl⟩ rfl λj g u=>⟨g.perm,g.failed,?_⟩) ?_ λ_ _ e=>e)
  ·have:=fy (a:=Aa j) (lo:=0) (hi:=(Aa j).size) (AL _) (by rw[g.size];exact u)
   rwa [Lz,UL]at this
  rintro⟨⟨⟩,j⟩ s' ⟨rfl,H,S,J⟩;refine AA (kP B rfl (AA (bR B rfl ?_ (Ce _) (last j H S J))));rw[S];simp only[bne_self_eq_false,BA,if_false];exact AE (fin j H J)
def cB(h:∀v∈g,Zk s v (f v)/\f v≠[])(j:g≠[]):Wb prog w A s g f:=
 ⟨tS true,λQ E q=>jD (λv l=>by
  obtain⟨m,o⟩:=h v l
  cases e:f v with
  | nil=>exact zX e o
  | cons n B=>exact⟨n,B,by rw[<-e];exact m⟩) j q,λx y C G Q E q=>oF true (h _ (Hw C).1).1 (h _ (Hw G).1).1 q⟩
def iT(v:AI):ZLi:=[numOf v]
def cE(h:IntsAre g ns)(o:2<=g.length):Wb prog w A s g iT:=by
 refine⟨oneType',λQ E q=>?_,λx y B C Q E q=>?_⟩
 ·match g,o,h with
  | v :: u :: r,_,h=>rw[keyKind_ints h];exact AE q
 ·obtain⟨n,t,j⟩:=h.all _ (Hw B).1
  obtain⟨m,u,l⟩:=h.all _ (Hw C).1;rw[keyLt'_oneType,j,l];refine oneLt_int ?_
  have:ltK iT x y=decide (n < m):=by
   unfold ltK iT;rw[j,l];show(if n=m then false else decide (n < m))=_;split
   ·rename_i e;simp[e]
   ·rfl
  rw[<-this];exact q
end
def UC(h:CZ)(d:AW)(es:Array ef)(ep:Nat):Prop:=∃o,h.get? d=some o/\o.ExactDict/\o.data=.dict es ep
def UC.at'(x:UC h d es ep)(e:∀o,h.get? d=some o->h'.get? d=some o):UC h' d es ep:=let ⟨o,g,r⟩:=x;⟨o,e _ g,r⟩
def UC.ty{s:AM}{d:AW}{es:Array ef}{ep:Nat}(x:UC s.heap d es ep):s.TypeIs (.ref d) "dict":=let ⟨o,g,j,_⟩:=x;⟨o,g,j.1⟩
section
def gw{Q:AI->AM->Prop}(hd:(d==D7)=false)(j:UC s.heap d es ep)
  (m:Q (.ref s.heap.objs.size) { s with heap:=s.heap.push { cls:=.type "dict_keyiterator",data:=.fields #[.ref d,.int 0 0,.int es.size 0,.int ep 0] } }):Ag (Ah prog w) A (VC (.ref d)) Q E s:=by
 have g:=j.ty;obtain⟨o,l,B,ϭ⟩:=j;refine TX g VN (Bl VN g PySem.F.entry_dict_iter ?_ (PySem.F.args_dict_iter_1 _));unfold Builtin.«dict.__iter__»;refine AA ?_;unfold wH;refine AA (wpAny_notOrdered_dict g (show Ag _ _ (pure (A0 d)) _ _ s from AE ?_));refine(show Ag _ _ (Rj d >>= _) _ _ s from ?_);unfold Rj;rw[qY (by simp[hd])];refine AA (AE (AA (TY l ϭ (AA (Wq l ϭ (AA (BQ (AE ⟨_,rfl, "dict_keyiterator",_,⟨_,AR _ rfl,rfl⟩,C6.lookup,?_⟩))))))));simpa[Eo]using m
def gv(g:s.heap.IsKeyIter it d i es.size ep)(m:UC s.heap d es ep)(hi:i < es.size)
  (B:∀h',h'.IsKeyIter it d (i+1) es.size ep->C8 it s.heap h'->Q (some es[i].key) { s with heap:=h' }):Ag (Ah prog w) A (G3 (.ref it)) Q E s:=by
 obtain⟨o,j,C,hd⟩:=id g;obtain⟨G,Ϯ,H,ϯ⟩:=m;unfold G3;refine AA (EO (Bm (name:=D9 "__next__") g.typeIs C6 (Bl C6 g.typeIs N5 (AA (AE (AA (AA ?_)))) (Nv _))))
 first | refine AA (FR g.typeIs (AE (AA (FG j hd ?_)))) | refine AA (Ha g.typeIs (AE (AA (FG j hd ?_))))
 simp only[show Me "dict_keyiterator" = false by decide,BA,if_false];refine(show Ag _ _ (if (A0 d==BW)=true then _ else _) _ _ s from ?_);rw[qY (λz:(A0 d==BW)=true=>AV z)];refine AA (AE (AA (TY Ϯ ϯ ?_)));rw[qY (by simp)];refine AA (AE (AA (Wq Ϯ ϯ ?_)));rw[qY (by simp)];refine AE ?_;simp only[show ¬((i:Int) < 0) by lia,if_false,Ay,ES hi];refine AA ?_
 first | refine AA (FR g.typeIs (AE (AA (Om g.typeIs ?_)))) | refine AA (Ha g.typeIs (AE (AA (Om g.typeIs ?_))))
 refine(show Ag _ _ (kN (.ref it) 1 (Eo ((i:Int)+1)) >>= _) _ _ s from ?_);have l:(s.heap.update it (Da (·.setIfInBounds 1 (Eo ((i:Int)+1))))).IsKeyIter it d (i+1) es.size ep:=⟨_,Cg _ j (FZ (Cp hd _)),(LH ..).trans C,by rw[Cp hd];simp[Eo]⟩;refine AA (Ea j hd (by simp) (AA (CP (AA (Om (s:={ s with heap:=s.heap.update it (Da (·.setIfInBounds 1 (Eo ((i:Int)+1)))) }) l.typeIs ?_)))));exact(show Ag _ _ (pure es[i].key) _ _ _ from AE (AE ⟨_,rfl,AE (B _ l (C9 ..))⟩))
def lu(l:A.handled=none)(g:s.heap.IsKeyIter it d i es.size ep)(B:UC s.heap d es ep)(hi:es.size<=i)
  (C:∀h',OA it s.heap h'->Q none { s with heap:=h' }):Ag (Ah prog w) A (G3 (.ref it)) Q E s:=by
 obtain⟨o,j,G,hd⟩:=id g;obtain⟨H,Ϯ,I,ϯ⟩:=B;unfold G3;refine AA (EO (Bm (name:=D9 "__next__") g.typeIs C6 (Bl C6 g.typeIs N5 (AA (AE (AA (AA ?_)))) (Nv _))))
 first | refine AA (FR g.typeIs (AE (AA (FG j hd ?_)))) | refine AA (Ha g.typeIs (AE (AA (FG j hd ?_))))
 simp only[show Me "dict_keyiterator" = false by decide,BA,if_false];refine(show Ag _ _ (if (A0 d==BW)=true then _ else _) _ _ s from ?_);rw[qY (λz:(A0 d==BW)=true=>AV z)];refine AA (AE (AA (TY Ϯ ϯ ?_)));rw[qY (by simp)];refine AA (AE (AA (Wq Ϯ ϯ ?_)));rw[qY (by simp)];refine AE ?_;simp only[show ¬((i:Int) < 0) by lia,if_false,Ay,Hd hi];refine AA ?_
 first | refine AA (FR g.typeIs (AE (show Ag _ _ (kN (.ref it) 0 .none >>= _) _ _ s from ?_))) | refine AA (Ha g.typeIs (AE (show Ag _ _ (kN (.ref it) 0 .none >>= _) _ _ s from ?_)))
 refine AA (Ea j hd (by simp) (show Ag _ _ (VH (.type "StopIteration") [] >>= _) _ _ _ from AA ?_));simp only[VH,YV];refine AA (BQ (AA (m:=FI _ _) (MX (a:=BW) (by first | rfl | (simp only[FI];rfl)) (BQ ?_ (by size_fits)))) (by size_fits));simp only[kQ];refine AA (RA ?_);rw[show A.in1.handled=none from l];refine AA (AE (Wg ?_));refine AA (JR (T:="StopIteration") (b:=true) ⟨_,AR _ rfl,rfl⟩ Pm (AE ?_));exact C _ (((C9 ..).extBut.push _).push _)
def cN(C:A.handled=none)(I:AW)(G:d≠I):Walks prog w A I [I,d] [I] es.size (λi v=>∃h:i < es.size,v=es[i].key) (λi h=>h.IsKeyIter I d i es.size ep/\UC h d es ep) where
 sub:=λx l=>by simp at l;simp[l]
 frame:=λ_ _ _ st keep=>⟨st.1.at λo e=>keep I (by simp) o e,st.2.at' λo e=>keep d (by simp) o e⟩
 item:=λi s Q E m st g=>gv st.1 st.2 m λj H B=>g _ j s.toks ⟨m,rfl⟩ ⟨H,st.2.at' λo e=>B.extBut d o G e⟩ λb o hb e=>B.extBut b o (λh=>hb (by simp[h])) e
 done:=λs Q E st g=>lu C st.1 st.2 (AL _) λj J=>g j s.toks λb o hb e=>J b o (λh=>hb (by simp[h])) e
 self:=λ_ _ _ _ st g=>wpAny_pyIter_keyiter st.1 g
def aN(lo:(d==D7)=false):PySem.W.KdlSrc prog w "dict" d d es.size (λi v=>∃h:i < es.size,v=es[i].key) (λh=>UC h d es ep) where
 type:=λ_ g=>g.ty
 there:=λ_ g=>⟨let ⟨_,j,_⟩:=g;AZ j,let ⟨_,j,_⟩:=g;AZ j⟩
 keep:=λ_ _ g m=>g.at' λo e=>m d (.inl rfl) o e
 notList:=by decide
 notTuple:=by decide
 hint:=λ_ _ _ _ g l=>PySem.W.kdl_hint_dict g.ty l
 iter:=λ_ _ s g=>⟨_,_,(λ_ _ l=>gw lo g l),cN s _ (Al (let ⟨_,j,_⟩:=g;AZ j)),⟨⟨_,AR _ rfl,rfl,rfl⟩,g.at' λo e=>AF _ e⟩⟩
end
end Srt
namespace PySem.SetTable
def Up(xs:Array Nat):Prop:=xs.toList.Pairwise (· < ·)
def Up.lt(u:Up xs)(h:i < k)(g:k < xs.size):xs[i] < xs[k]:=by
 have:=CO.mp u i k (by rw[BM];omega) (by rw[BM];exact g) h;simpa using this
structure At(xs:Array Nat)(j r:Nat):Prop where
 le:r<=xs.size
 lo:∀i (h:i < xs.size),i < r->xs[i] < j
 hi:∀i (h:i < xs.size),r<=i->j<=xs[i]
def At.eq(a:At xs j r)(b:At xs j r'):r=r':=by
 rcases Ho r r' with h | h | h
 ·have g:r < xs.size:=Af h b.le
  have l:=b.lo r g h;have m:=a.hi r g (AL _);lia
 ·exact h
 ·have g:r' < xs.size:=Af h a.le
  have l:=a.lo r' g h;have m:=b.hi r' g (AL _);lia
def TF(u:Up xs)(j:Nat):∀(fuel lo hi:Nat),lo<=hi->hi<=xs.size->hi - lo<=fuel ->
  (∀i (h:i < xs.size),i < lo->xs[i] < j)->(∀i (h:i < xs.size),hi<=i->j<=xs[i])->At xs j (Hb.go xs j fuel lo hi)
 | 0,lo,hi,C,g,E,l,m=>by
  have:lo=hi:=by lia
  subst this;exact⟨g,l,m⟩
 | fuel+1,lo,hi,C,g,E,l,m=>by
  unfold Hb.go
  by_cases h:lo < hi
  ·rw[qX h]
   have A:(lo+hi) / 2 < xs.size:=by lia
   have e:xs.getD ((lo+hi) / 2) j=xs[(lo+hi) / 2]:=by simp[Ov,A]
   simp only[e]
   by_cases o:xs[(lo+hi) / 2] < j
   ·rw[qX o]
    refine TF u j fuel _ _ (by lia) g (by omega) (λi B G=>?_) m
    by_cases s:i=(lo+hi) / 2
    ·subst s;exact o
    ·exact Ye (u.lt (by lia:i < (lo+hi) / 2) A) o
   ·rw[qY o]
    refine TF u j fuel _ _ (by lia) (by lia) (by omega) l λi B G=>?_
    by_cases s:i=(lo+hi) / 2
    ·subst s;lia
    ·have:=u.lt (by lia:(lo+hi) / 2 < i) B;omega
  ·rw[qY h]
   have:lo=hi:=by lia
   subst this;exact⟨g,l,m⟩
def TH(u:Up xs)(j:Nat):At xs j (Hb xs j):=
 TF u j _ _ _ (Ce _) (AL _) (by lia) (λ_ _ h=>zX h (by lia)) λi h g=>zX h (by lia)
def Ze(u:Up xs):Hb xs 0=0:=(TH u 0).eq ⟨Ce _,λ_ _ h=>zX h (by lia),λ_ _ _=>Ce _⟩
def Zf(u:Up xs)(h:i < xs.size):Hb xs (xs[i]+1)=i+1:=
 (TH u _).eq ⟨h,λk g j=>by
  by_cases e:k=i
  ·subst e;lia
  ·have:=u.lt (by lia:k < i) h;omega,λk g j=>u.lt (by lia:i < k) g⟩
def bv(u:Up xs)(h:xs[Hb xs j]?≠some j):Up (insertAt xs (Hb xs j) j):=by
 have a:=TH u j;unfold Up;rw[toList_insertAt,Bg,Ph];refine⟨uG u,⟨λy m=>?_,uJ u⟩,λx G y m=>?_⟩
 ·obtain⟨k,l,e⟩:=F6.mp m
  have g:Hb xs j+k < xs.size:=by simp at l;omega
  have o:xs[Hb xs j+k]=y:=by simpa using e
  have C:=a.hi _ g (by lia)
  by_cases H:k=0
  ·subst H
   have E:xs[Hb xs j]?=some y:=by simp at o;simp at g;simp[g,o]
   rcases Nat.lt_or_eq_of_le C with s | s
   ·lia
   ·rw[o]at s;rw[E,<-s]at h;exact zX rfl h
  ·have hb:Hb xs j < xs.size:=by lia
   have E:=a.hi _ hb (AL _);have s:=u.lt (by lia:Hb xs j < Hb xs j+k) g
   lia
 ·have A:x < j:=by
   obtain⟨k,l,e⟩:=F6.mp G
   have g:k < xs.size:=by simp at l;lia
   have B:k < Hb xs j:=by simp at l;lia
   have o:xs[k]=x:=by simpa using e
   have:=a.lo k g B
   lia
  rcases A2.mp m with e | m
  ·subst e;exact A
  ·obtain⟨k,l,e⟩:=F6.mp m
   have g:Hb xs j+k < xs.size:=by simp at l;lia
   have o:xs[Hb xs j+k]=y:=by simpa using e
   have C:=a.hi _ g (by lia)
   lia
def UY{t:Fp}{j:Nat}(h:t.slot j=.empty∨t.slot j=.dummy):t.place[Hb t.place j]?≠some j:=by
 intro e;unfold slot at h;simp only[e,beq_self_eq_true,if_true]at h
 rcases h with h | h <;> cases h
def SD:∀(fuel:Nat) (p:Probe),(∀d,p.dummy=some d->t.slot d=.dummy) ->
  kR t o h fuel p=some (.empty j m)->t.slot j=.empty/\∀d,m=some d->t.slot d=.dummy
 | 0,p,_,e=>by simp[kR]at e
 | fuel+1,p,hd,e=>by
  have g:∀q:Probe,(t.advance q).dummy=q.dummy:=λq=>by
   unfold advance;split <;> rfl
  unfold kR at e;split at e
  ·rename_i l
   cases e;exact⟨l,hd⟩
  ·rename_i l
   exact SD fuel _ (λd q=>by rw[g]at q;cases q;exact l) e
  ·rename_i i l
   split at e
   ·cases e
   ·exact SD fuel _ (λd q=>by rw[g]at q;exact hd d q) e
def dO{t:Fp}{h:Int}{j:Nat}{b:Bool}(e:t.freeSlot h=some (j,b)):t.place[Hb t.place j]?≠some j:=by
 unfold freeSlot at e;split at e
 ·rename_i s g l
  cases e;obtain⟨m,o⟩:=SD _ _ (λd q=>by cases q) l
  cases g with
  | none=>exact UY (.inl m)
  | some d=>exact UY (.inr (o d rfl))
 ·cases e
def fx(n:Nat):Up (Array.range n):=by unfold Up;rw[Array.toList_range];exact Mb
def LX(t:Fp)(n:Nat):Up (t.standIn n).place:=fx n
def Vn{t:Fp}(u:Up t.place)(n:Nat):Up (t.orStandIn n).place:=by
 unfold orStandIn;split
 ·exact u
 ·exact LX t n
def T8(t:Fp)(n:Nat):(t.orStandIn n).led=t.led:=by
 unfold orStandIn;split <;> rfl
end PySem.SetTable
namespace PySem
open SetTable
def cy{t:Fp}(u:Up t.place)(es:Array (Int×AI))(h:Int)(x:AI):Up (layNew t es h x).2.1.place/\(layNew t es h x).2.1.led=t.led:=by
 unfold layNew;split
 ·rename_i j b e
  exact⟨Vn (bv u (dO e)) _,T8 _ _⟩
 ·exact⟨LX _ _,rfl⟩
def nQ{mask finger moves}{led plain}{j}{t}{o}(e:laid mask finger moves led plain j=some (t,o)):Up t.place/\t.led=led:=by
 unfold laid at e
 cases l:layClean mask j with
 | none=>rw[l]at e;cases e
 | some ow=>
  rw[l]at e;cases e;refine⟨?_,rfl⟩;unfold Up;simp only[eX];refine uI (S:=(· < ·)) _ (λa A h b hb B s=>?_) Mb
  have g:∀(k c:Nat),(TU (λx:Nat×Nat=>x.1) (TU (λx=>(k,x)) (ow.getD k none)))=some c->c=k:=λk c q=>by
   cases m:ow.getD k none with
   | none=>rw[m]at q;cases q
   | some _=>rw[m]at q;cases q;rfl
  rw[g _ _ hb,g _ _ s];exact h
def XT(u:Up t.place)(es:Array (Int×AI))(n:Nat):Up (Pl t es n).2.1.place/\(Pl t es n).2.1.led=t.led:=by
 unfold Pl;split
 ·rename_i g o e
  dsimp only;split
  ·exact nQ e
  ·exact⟨LX _ _,rfl⟩
 ·exact⟨LX _ _,rfl⟩
def Oa{g:Type}:∀(l:List g) (i:Nat) (h:i < l.length),Dk (l[i] :: l.eraseIdx i) l
 | [],i,h=>zX h (Dr _)
 | a :: l,0,_=>.rfl
 | a :: l,i+1,h=>(bZ _ _ _).trans ((Oa l i (Yf h)).cons a)
def aP{j:Type}(next:Nat->Nat):∀(fuel k:Nat) (left:List j) (out:Array j),left.length=fuel->Dk (Ta next fuel k left out).toList (out.toList++left)
 | 0,k,left,out,h=>by
  have:left=[]:=Iq h;subst this;simp[Ta]
 | fuel+1,k,left,out,h=>by
  unfold Ta;have g:next k % left.length < left.length:=Nat.mod_lt _ (by lia);rw[Aj g];dsimp only;refine(aP next fuel (k+1) _ _ (by rw[UK g];lia)).trans ?_;rw[FV,A7];refine HY _ ?_;exact Oa _ _ g
def cS{g:Type}(next:Nat->Nat)(xs:Array g):Dk (QU next xs).toList xs.toList:=by
 have:=aP next xs.size 0 xs.toList #[] (by simp);simpa[QU]using this
open PySem.Sem (wp)
open SetTable
def iv:AI->Option Int
 | .int n _=>some n
 | _=>none
def N2(prog:Bq)(w:CQ)(h:CZ)(a:AW)(ns:ZLi):Prop:=
 ∃o g j t,h.get? a=some o/\o.ExactSet/\o.data=.set g j t/\t5 (He prog w) g.toList/\t.fits g.size=true/\Up t.place/\t.led=(!(w.params.followText "set-order"))/\Dk (g.toList.map λe=>iv e.2) (ns.map some)
section
def N2.at'(x:N2 prog w h a ns)(e:∀o,h.get? a=some o->h'.get? a=some o):N2 prog w h' a ns:=let ⟨o,g,j,t,l,r⟩:=x;⟨o,g,j,t,e _ l,r⟩
def Y7{h}{a}{led}(g:led=(!(w.params.followText "set-order"))) (j:h.get? a=some { cls:=.type "set",dict:=none,data:=.set #[] 0 (.fresh 0 0 led) }):N2 prog w h a []:=
 ⟨_,#[],0,_,j,⟨rfl,rfl,rfl⟩,rfl,λe l=>by simp at l,by rfl,GV,g,.nil⟩
def R5{h:CZ}{a:AW}{o:Obj}{es:Array (Int×AI)}{ep:Nat}{t:Fp}(ho:h.get? a=some o)(hex:o.ExactSet)(hd:o.data=.set es ep t)
  {g:Array (Int×AI)} {t':Fp} {ns:ZLi} (l:t5 (He prog w) g.toList) (m:t'.fits g.size=true) (s:Up t'.place) (A:t'.led=(!(w.params.followText "set-order"))) (B:Dk (g.toList.map λe=>iv e.2) (ns.map some)) :
  (h.update a (Pp g t')).get? a=some { o with data:=.set g (ep+1) t' }/\N2 prog w (h.update a (Pp g t')) a ns:=by
 have j:(h.update a (Pp g t')).get? a=some { o with data:=.set g (ep+1) t' }:=by
  have:=Cg (Pp g t') ho (by rw[putSet_of g t' hd];rfl);rw[putSet_of g t' hd]at this;exact this
 exact⟨j,_,g,ep+1,t',j,hex,rfl,l,m,s,A,B⟩
def Ub{g:Bool->Sem Unit}(X:∀(b:Bool) (B:AM) (P:Unit->AM->Prop),P () B->Ag (Ah prog w) A (g b) P E B)
  {a:AW} {o:Obj} {es:Array (Int×AI)} {ep:Nat} {t:Fp} (ho:s.heap.get? a=some o) (hex:o.ExactSet) (hd:o.data=.set es ep t)
  {j:Array (Int×AI)} {l:Fp} {ns:ZLi} (Q:t5 (He prog w) j.toList) (C:j.size < LG) (G:l.fits j.size=true) (S:Up l.place) (T:l.led=(!(w.params.followText "set-order")))
  (U:Dk (j.toList.map λe=>iv e.2) (ns.map some)) {Y:Bool} {R:Option Bool->AM->Prop}
  (h:∀h',C8 a s.heap h'->N2 prog w h' a ns->R (some true) { s with heap:=h' }) :
  Ag (Ah prog w) A (do
    storeSet a j l
    if (!Y&&l.tooFull)=true then do
      g (Pl l j (FT j.size)).2.2
      storeSet a (Pl l j (FT j.size)).1 (Pl l j (FT j.size)).2.1
      pure (some true)
     else pure (some true)) R E s:=by
 refine AA (tO ho hd ?_ (Tc C));obtain⟨Ϭ,H⟩:=R5 (prog:=prog) (w:=w) ho hex hd Q G S T U;have ϰ:=C9 s.heap a (Pp j l);split
 ·have ϱ:=relayAll_perm l j (FT j.size)
  have I:=relayAll_fits l j (FT j.size);have m:=XT S j (FT j.size);generalize Z:Pl l j (FT j.size)=Rl at ϱ I m ⊢;obtain⟨J,t3,L⟩:=Rl;dsimp only at ϱ I m ⊢
  have N:J.size=j.size:=by rw[<-BM,ϱ.length_eq,BM]
  refine AA (X _ _ _ ?_);refine AA (tO Ϭ rfl ?_ (Tc (by rw[N];exact C)));obtain⟨_,O⟩:=R5 (prog:=prog) (w:=w) Ϭ hex rfl (Q.perm ϱ) I m.1 (m.2.trans T) ((ϱ.map _).trans U);exact AE (h _ (ϰ.trans (C9 _ a _)) O)
 ·exact AE (h _ ϰ H)
def gk{a}{ns}{n}{tk}{Q}(hS:N2 prog w s.heap a ns)(yS:ns.length+1 < LG)
  (h:∀h' b,C8 a s.heap h'->N2 prog w h' a (step_dedup ns n)->Q b { s with heap:=h' }) :
  Ag (Ah prog w) A (setAddHashed a (.int n tk) ((He prog w).hash n)) Q E s:=by
 obtain⟨o,g,ep,t,N,hex,hd,X,Z,hu,Y,O⟩:=hS
 have hn:g.size=ns.length:=by have:=O.length_eq;simpa using this
 have hb:g.size < LG:=by lia
 have yi:(He prog w).is n (.int n tk)=true:=pS _ _ _ _;have H:(G1 n tk).scannable=true:=rfl;unfold setAddHashed setAddHashedIn;refine CP (AA (D5 N hd Z ?_));dsimp only;rw[byScan_of H hb X];simp only[↓reduceIte];unfold setAddByScan;refine AA ?_;refine AA (Hl ?_);refine AA (wpAny_setScan_of yi N hd Z X ?_)
 cases hr:List.findIdx? (λe=>(He prog w).is n e.2) g.toList with
 | some j=>
  dsimp only;obtain⟨hj,hpj,_⟩:=List.findIdx?_eq_some_iff_getElem.mp hr
  have I:ns.any (·==n)=true:=by
   obtain⟨tj,e⟩:=eJ hpj;have:some n∈ns.map some:=O.mem_iff.mp (Aw.mpr ⟨g.toList[j],kI hj,by rw[e];rfl⟩);obtain⟨m,I,e⟩:=Aw.mp this;cases e;exact EB.mpr ⟨n,I,by simp⟩
  refine AE (AE ?_)
  have e:s={ s with heap:=s.heap }:=by cases s;rfl
  have:=h s.heap false (VQ a s.heap) (by unfold step_dedup;rw[qX I];exact⟨o,g,ep,t,N,hex,hd,X,Z,hu,Y,O⟩);rw[e];exact this
 | none=>
  dsimp only
  have I:¬ns.any (·==n)=true:=by
   intro I;obtain⟨m,hmm,e⟩:=EB.mp I
   have e:m=n:=by simpa using e
   subst e;obtain⟨x,hx,e⟩:=Aw.mp (O.mem_iff.mpr (Aw.mpr ⟨m,hmm,rfl⟩));have h1:=List.findIdx?_eq_none_iff.mp hr x hx
   have h2:(He prog w).is m x.2=true:=by
    obtain⟨x1,x2⟩:=x
    cases x2 <;> simp[iv]at e
    subst e;exact pS _ _ _ _
   rw[h2]at h1;cases h1
  have hgw:∀(b:Bool) {s₁:AM} {P:Unit->AM->Prop},P () s₁->Ag (Ah prog w) A (match b with | true=>rule "set.scan.the-table-gave-way" | false=>pure ()) P E s₁:=
   λb s₁ P l=>by cases b <;> first | exact AE l | exact Hl l
  have J:=layNew_perm t g ((He prog w).hash n) (.int n tk);have R:=layNew_fits t g ((He prog w).hash n) (.int n tk);have B:=cy hu g ((He prog w).hash n) (.int n tk);generalize hL:layNew t g ((He prog w).hash n) (.int n tk)=L at J R B ⊢;obtain⟨xi,t1,xY,gave⟩:=L;dsimp only at J R B ⊢;rw[FV]at J;have yR:t5 (He prog w) xi.toList:=(X.push yi H).perm J
  have S:Dk (xi.toList.map λe=>iv e.2) ((ns++[n]).map some):=by
   refine(J.map _).trans ?_;rw[BD,BD];exact O.append_right _
  have C:xi.size < LG:=by rw[<-BM,J.length_eq,AK,BM,hn];simpa using yS
  refine AA (hgw _ ?_)
  have G:∀h',C8 a s.heap h'->N2 prog w h' a (ns++[n])->Q true { s with heap:=h' }:=λh' T U=>h h' true T (by unfold step_dedup;rw[qY I];exact U)
  split
  ·refine AA ?_
   rw[hashByValue_scannable 8 H];refine AE ?_;refine Ub ?_ N hex hd yR C ?_ ?_ ?_ S ?_
   ·intro b s₁ P l;cases b <;> first | exact AE l | exact Hl l
   ·split
    ·exact R
    ·exact Fp.fits_plain_off R
   ·split
    ·exact B.1
    ·exact B.1
   ·split
    ·exact B.2.trans Y
    ·exact B.2.trans Y
   ·intro h' T U;dsimp only;exact AE (G h' T U)
  ·refine AA (AE ?_)
   simp only[↓reduceIte];refine Ub ?_ N hex hd yR C R B.1 (B.2.trans Y) S ?_
   ·intro b s₁ P l;cases b <;> first | exact AE l | exact Hl l
   ·intro h' T U;dsimp only;exact AE (G h' T U)
def cH{R}{I}{fp wr}{G}{n}{P}{St}(W:WalksS prog w A.in1 I fp wr G n P St)(S:AW)(H:S∉fp)
  (val:Nat->Int) (O:∀i v,P i v->∃t,v=.int (val i) t) (hb:n+1 < LG) :
  ∀(k i:Nat) (s:AM),n - i=k->i<=n->St i s->N2 prog w s.heap S (firstMet val i) ->
   (∀s',Moved (S :: wr) G s s'->N2 prog w s'.heap S (firstMet val n)->R (.ok (.ret .none)) s') ->
   Ih (Ah prog w) A (.builtin "set.update.loop" ⟨[.ref S,.ref I],[]⟩) R s:=by
 have g:S∉wr:=λh=>H (W.sub _ h)
 have J:∀b∈wr,b∈S :: wr:=λb hb=>AY _ hb
 intro k
 induction k with
 | zero=>
  intro i s Q T C E hR
  have U:i=n:=by lia
  subst U;refine Hf Zz ?_;rw[Fk Mn _];show Ag _ A.in1 (G3 (.ref I) >>= _) _ _ s;refine AA (W.done s _ _ C λs' j=>?_);show Ag _ A.in1 (ret BW) _ _ s';exact AE (hR s' (j.mono J) (E.at' λo e=>j.heap S _ g e))
 | succ k X=>
  intro i s Q T C E hR
  have L:i < n:=by omega
  refine Hf Zz ?_;rw[Fk Mn _];show Ag _ A.in1 (G3 (.ref I) >>= _) _ _ s;refine AA (W.item i s _ _ L C λv s' Y Z j=>?_);obtain⟨t,rfl⟩:=O i v Y
  have xP:=E.at' λo e=>j.heap S _ g e
  show Ag _ A.in1 (Kq [G1 (val i) t] (setAdd S (.int (val i) t)) >>= _) _ _ s';refine AA (CP ?_);unfold setAdd;refine CP ?_;refine AA ((He prog w).pyHash (k:=val i) (pS _ _ _ _) ?_)
  have yS:(firstMet val i).length+1 < LG:=by have:=pT val i;lia
  refine gk (s:={ s' with toks:=s'.toks+1 }) xP yS λh' bb N l=>?_
  rw[<-firstMet_succ]at l;refine AE ⟨Mf Mn _,X (i+1) _ (by lia) L (W.frame _ s' _ _ Z (F9 _) λb hb o e=>?_) l λzf m B=>?_⟩
  ·rw[N.2 b (λh:b=S=>H (by rw[<-h];exact hb))];exact e
  ·refine hR zf (Moved.trans W.gtrans ((j.mono J).then_heap (F9 _) λb o hb e=>?_) m) B
   rw[N.2 b (λh:b=S=>hb (by rw[h];exact Ax))];exact e
def T9(a:AI) 
  (h:Q₁ (.ref s.heap.objs.size) { s with heap:=s.heap.push { cls:=.type "set",dict:=none,data:=.set #[] 0 (.fresh 0 0 (!(w.params.followText "set-order"))) } }) :
  Ih (Ah prog w) A (.call (.builtin "set.__new__") ⟨[.type "set",a],[]⟩) (wants Q₁ E) s:=by
 refine vn ?_;show Ag _ A.in1 (do VJ "set.__new__" ⟨[.type "set",a],[]⟩;again (.builtin "set.__new__" ⟨[.type "set",a],[]⟩)) _ _ s;refine AA (MX (F.newCall_set_1 a) (AE ⟨Mf t4 _,Hf F.entry_set_new ?_⟩));rw[Fk t4 _];unfold Builtin.«set.__new__» kg;have j:=sub_set_self;obtain⟨l,g,d,tk,os⟩:=s;dsimp only
 wp_walk
 refine Gw (AE ?_);dsimp only;simp only[newObj];refine AA (wpAny_alloc (AE ?_));exact AE h
def dh(hh:A.handled=none)(hl:s.heap.IsTuple l items)(hi:wF items.toList ns)(hb:items.size+1 < LG)
  (h:∀(h':CZ) (tk:Nat),N2 prog w h' s.heap.objs.size (Gy (λi=>ns.getD i 0) items.size) ->
   (∀b o,b < s.heap.objs.size->s.heap.get? b=some o->h'.get? b=some o)->Q (.ref s.heap.objs.size) { s with heap:=h',toks:=tk }):Ag (Ah prog w) A (call (.type "set") [.ref l]) Q E s:=by
 obtain⟨c,tl,hmro⟩:=Gg.mro;have S:=Gg.made;have xW:=Gg.sub;refine Ra (vn ?_);show Ag _ _ (callAny (.type "set") _) _ _ _;refine AE ⟨Code.quiet_builtin _ (by decide +kernel),Hf F.entry_type_call ?_⟩;rw[B5.under_plain (weight_type_call_type "set" [.ref l] []) rfl];have h1:=Gg.notType;have h2:=Gg.canCreate;have hct:=F.typeCall_set_1 (.ref l);(repeat(any_goals (first | assumption | wp_step)))
 refine Ig (T9 (.ref l) (E:=E) (Q₁:=λobj j=>∃led:Bool,led=(!(w.params.followText "set-order"))/\obj=.ref s.heap.objs.size/\j={ s with heap:=s.heap.push { cls:=.type "set",dict:=none,data:=.set #[] 0 (.fresh 0 0 led) } }) ⟨_,rfl,rfl,rfl⟩) λr j T=>?_
 cases r with
 | error e=>exact T
 | ok fl=>
  cases fl with
  | ret obj=>
   obtain⟨led,G,rfl,rfl⟩:=T;have hS:(s.heap.push { cls:=.type "set",dict:=none,data:=.set #[] 0 (.fresh 0 0 led) }).get? s.heap.objs.size=some { cls:=.type "set",dict:=none,data:=.set #[] 0 (.fresh 0 0 led) }:=AR _ rfl;have hT:AM.TypeIs { s with heap:=s.heap.push { cls:=.type "set",dict:=none,data:=.set #[] 0 (.fresh 0 0 led) } } (.ref s.heap.objs.size) "set":=⟨_,hS,rfl⟩;have hli:=Gg.init.lookup;have hbi:=Gg.init.bind (.ref s.heap.objs.size);(repeat(any_goals (first | assumption | wp_step)))
   refine Ig (kT (R:=wants (λr m=>r=.none/\∃h' tk,m={ s with heap:=h',toks:=tk } /\
     N2 prog w h' s.heap.objs.size (Gy (λi=>ns.getD i 0) items.size) /\
     (∀b o,b < s.heap.objs.size->s.heap.get? b=some o->h'.get? b=some o)) E) Gg.init.plain F.entry_set_init (check_set_init_1 hT ?_)) λH m g=>?_
   ·obtain⟨ol,zI,yb,nl,yZ⟩:=hl
    obtain⟨ocls,B,U,Z'⟩:=ol;simp only at yb yZ;subst yb;subst yZ;have I:(s.heap.push { cls:=.type "set",dict:=none,data:=.set #[] 0 (.fresh 0 0 led) }).get? l=some { cls:=.type "tuple",dict:=B,data:=.seq items nl,slots:=Z' }:=AF _ zI
    have hsls:eE (.type "tuple") (.type "set")=pure false:=by rw[LN];kernel_rfl
    have hslf:eE (.type "tuple") (.type "frozenset")=pure false:=by rw[LN];kernel_rfl
    have wQ:(DQ "tuple"==DQ "dict")=false:=by decide
    have J:(s.heap.push { cls:=.type "set",dict:=none,data:=.set #[] 0 (.fresh 0 0 led) }).IsTuple l items:=⟨_,I,rfl,nl,rfl⟩;unfold Builtin.«set.__init__» noKeywords kd;generalize X:VC=PI
    wp_walk
    subst X;refine Df J (AA (wpAny_runValue ?_));have L:l < s.heap.objs.size:=AZ zI
    have Y:A.in1.in1.in1.handled=none:=by simp[hh]
    have N:l≠(s.heap.push { cls:=.type "set",dict:=none,data:=.set #[] 0 (.fresh 0 0 led) }).objs.size:=by
     rw[B0];exact Al (Dm L)
    have W':s.heap.objs.size∉[(s.heap.push { cls:=.type "set",dict:=none,data:=.set #[] 0 (.fresh 0 0 led) }).objs.size,l]:=by
     rw[B0];simp only[A2,AN,BY,or_false,not_or];exact⟨Al (Cc _),FJ L⟩
    have yT:∀(i:Nat) (v:AI),items[i]?=some v->∃t,v=.int ((λi=>ns.getD i 0) i) t:=λi v hv=>
     eQ hi i v (by rw[IG];exact hv)
    refine cH ((RC Y _ l N items).toS) s.heap.objs.size W' (λi=>ns.getD i 0) yT hb (items.size - 0) 0 _ (by lia) (Ce _)
     ⟨⟨_,AR _ rfl,rfl,rfl⟩,(J.push _)⟩ ?hS0 ?hR
    case hS0=>
     have O:((s.heap.push { cls:=.type "set",dict:=none,data:=.set #[] 0 (.fresh 0 0 led) }).push { cls:=.type "tuple_iterator",data:=.fields #[.ref l,.int 0 0] }).get? s.heap.objs.size
       = some { cls:=.type "set",dict:=none,data:=.set #[] 0 (.fresh 0 0 led) }:=AF _ hS
     exact Y7 G O
    case hR=>
     intro s' P Z;obtain⟨h',g',d',tk',os'⟩:=s';have eg:g'=s.gens:=P.gens;have ed:d'=s.drawn:=P.drawn;have eo:os'=s.os:=P.os;subst eg;subst ed;subst eo;show Ag _ _ _ _ _ _;refine AE ?_;show Ag _ _ (ret BW) _ _ _;refine AE ⟨rfl,h',tk',rfl,Z,λb o hb e=>?_⟩;have hb1:b≠s.heap.objs.size:=Al hb
     have ε:b≠(s.heap.push { cls:=.type "set",dict:=none,data:=.set #[] 0 (.fresh 0 0 led) }).objs.size:=by
      rw[B0];exact Al (Dm hb)
     exact P.heap b o (by simp only[A2,AN,BY,or_false,not_or];exact⟨hb1,ε⟩) (AF _ (AF _ e))
   ·cases H with
    | error e=>exact g
    | ok C=>
     cases C with
     | ret r=>
      obtain⟨rfl,h',tk,rfl,Z,xf⟩:=g;(repeat(any_goals (first | assumption | wp_step)));exact h _ _ Z xf
     | _=>exact g.elim
  | _=>exact T.elim
end
def Ui:Manifest.owners.lookup (String.ofList ['r','o','t','a','r','e','t','i','_','t','e','s'].reverse)=some Manifest.sig_set_iterator:=by kernel_rfl
def C1:Slot "set_iterator" "__next__" "set_iterator.__next__" :=
 .of (owner:="set_iterator") (n:="__next__") (by rw[vk,kE];kernel_rfl) (by decide +kernel) (by decide +kernel) (by decide +kernel)
  (by first | exact .inl (by decide +kernel) | exact .inr (by decide +kernel)) (by rw[LN];kernel_rfl)
def OB:Slot "set_iterator" "__iter__" "set_iterator.__iter__" :=
 .of (owner:="set_iterator") (n:="__iter__") (by rw[vk,kE];kernel_rfl) (by decide +kernel) (by decide +kernel) (by decide +kernel)
  (by first | exact .inl (by decide +kernel) | exact .inr (by decide +kernel)) (by rw[LN];kernel_rfl)
def HW:entryFor table "set_iterator.__next__" = some Builtin.«set_iterator.__next__»:=entryFor_of_tree (by kernel_rfl)
def Ss:entryFor table "set_iterator.__iter__" = some Builtin.«dict_keyiterator.__iter__»:=entryFor_alias (id':="dict_keyiterator.__iter__") (by kernel_rfl) rfl (by decide +kernel) (by kernel_rfl)
def Su:entryFor table "set.__iter__" = some Builtin.«frozenset.__iter__»:=entryFor_alias (id':="frozenset.__iter__") (by kernel_rfl) rfl (by decide +kernel) (by kernel_rfl)
def IR(a:AI):argsOk "set_iterator.__next__" ⟨[a],[]⟩:=by
 unfold argsOk;rw[signature?_of (id:="set_iterator.__next__") (n:=['_','_','t','x','e','n','_','_']) (o:=['r','o','t','a','r','e','t','i','_','t','e','s']) (by kernel_rfl) Ui];kernel_rfl
def UB(a:AI):argsOk "set_iterator.__iter__" ⟨[a],[]⟩:=by
 unfold argsOk;rw[signature?_of (id:="set_iterator.__iter__") (n:=['_','_','r','e','t','i','_','_']) (o:=['r','o','t','a','r','e','t','i','_','t','e','s']) (by kernel_rfl) Ui];kernel_rfl
def QT(h:CZ)(a:AW)(es:Array (Int×AI))(ep:Nat)(t:Fp):Prop:=∃o,h.get? a=some o/\o.ExactSet/\o.data=.set es ep t/\t.fits es.size=true
def SIt(h:CZ)(it:AW)(f:AI)(i:Nat)(a:AW)(n ep:Nat):Prop:=h.get? it=some { cls:=.type "set_iterator",dict:=none,data:=.fields #[f,.int i 0,.ref a,.int n 0,.int ep 0],slots:=#[] }
def QT.at'(x:QT h a es ep t)(e:∀o,h.get? a=some o->h'.get? a=some o):QT h' a es ep t:=let ⟨o,g,r⟩:=x;⟨o,e _ g,r⟩
section
variable{prog:Bq}{w:CQ}{A:B5}{E:AI->AM->Prop}{s:AM}{a it T:AW}{es:Array (Int×AI)}{ep i:Nat}{t:Fp}
def SIt.ty(x:SIt s.heap it f i a n ep):s.TypeIs (.ref it) "set_iterator":=⟨_,x,rfl⟩
def Nxt(prog:Bq)(w:CQ)(a:AW)(es:Array (Int×AI))(ep:Nat)(t:Fp)(sl i:Nat)(r:Option (AI×Nat)):Prop:=
 ∀(A:B5) (E:AI->AM->Prop) (s:AM) (Q:Option (AI×Nat)->AM->Prop),QT s.heap a es ep t->Q r s->Ag (Ah prog w) A (setNext a sl i ep) Q E s
def Xc(hb:w.params.followText "set-order" = true):Nxt prog w a es ep t 0 i (((QU (w.params.setOrder a ep) es)[i]?).map λe=>(e.2,0)):=by
 intro A E s Q l m;obtain⟨o,g,hex,hd,j⟩:=l;unfold setNext;refine AA (D5 g hd j ?_);dsimp only;unfold YU;refine AA (AA (Gw (AE ?_)));dsimp only;rw[show(Ah prog w).w.params.followText "set-order" = true from hb];simp only[if_true,bne_self_eq_false,BA,if_false];unfold setWalk YU;refine AA ?_;refine AA (D5 g hd j ?_);dsimp only;refine AA (AA (Gw (AE ?_)));dsimp only;rw[show(Ah prog w).w.params.followText "set-order" = true from hb];simp only[if_true];refine AA (Gw (AE ?_));exact AE m
def Xd(hb:w.params.followText "set-order" = false) (m:t.led=true) (g:t.plain=true∨es.size<=1) (sl:Nat) :
  Nxt prog w a es ep t sl i (match es[Hb t.place sl]?,t.place[Hb t.place sl]? with | some (_,x),some j=>some (x,j+1) | _,_=>none):=by
 intro A E s Q B C;obtain⟨o,G,hex,hd,H⟩:=B;unfold setNext;refine AA (D5 G hd H ?_);dsimp only;unfold YU;refine AA (AA (Gw (AE ?_)));dsimp only;rw[show(Ah prog w).w.params.followText "set-order" = false from hb];simp only[BA,if_false]
 have l:(!t.plain&&decide (es.size > 1))=false:=by
  rcases g with g | g
  ·rw[g];rfl
  ·rw[show decide (es.size > 1)=false from wY (by omega),UP]
 refine(show Ag _ _ (if (!t.plain&&decide (es.size > 1))=true then _ else _) _ _ s from ?_);rw[l];simp only[BA,if_false];refine AA (show Ag _ _ (if (!t.led&&!es.isEmpty)=true then _ else _) _ _ s from ?_);rw[m];simp only[Em,oq,BA,if_false];exact AE (AE C)
def ge{sl m:Nat}{x:AI}{Q:Option AI->AM->Prop}(g:SIt s.heap it (.int sl 0) i a es.size ep)(B:QT s.heap a es ep t)(C:Nxt prog w a es ep t sl i (some (x,m)))
  (G:∀h',SIt h' it (.int m 0) (i+1) a es.size ep->C8 it s.heap h'->Q (some x) { s with heap:=h' }):Ag (Ah prog w) A (G3 (.ref it)) Q E s:=by
 obtain⟨o,H,hex,hd,I⟩:=id B;unfold G3;refine AA (EO (Bm (name:=D9 "__next__") g.ty C1 (Bl C1 g.ty HW ?_ (IR _))));unfold Builtin.«set_iterator.__next__» YT;refine AA (AE ?_);dsimp only;refine AA (FG g rfl ?_);dsimp only;refine AA (G2 H hd I ?_);rw[qY (by simp)];refine AA (C _ _ _ _ B ?_);dsimp only;refine AA (LK g (by simp) λN J j=>?_);refine AA (LK J (by simp) λO L l=>?_);refine AE ⟨_,rfl,AE (G _ ?_ (j.trans l))⟩;unfold SIt;rw[L];simp[Eo]
def lf{sl:Nat}{Q:Option AI->AM->Prop}(l:A.handled=none)(g:SIt s.heap it (.int sl 0) i a es.size ep)(j:QT s.heap a es ep t)(B:Nxt prog w a es ep t sl i none)
  (C:∀h',OA it s.heap h'->Q none { s with heap:=h' }):Ag (Ah prog w) A (G3 (.ref it)) Q E s:=by
 obtain⟨o,G,hex,hd,H⟩:=id j;unfold G3;refine AA (EO (Bm (name:=D9 "__next__") g.ty C1 (Bl C1 g.ty HW ?_ (IR _))));unfold Builtin.«set_iterator.__next__» YT;refine AA (AE ?_);dsimp only;refine AA (FG g rfl ?_);dsimp only;refine AA (G2 G hd H ?_);rw[qY (by simp)];refine AA (B _ _ _ _ j ?_);dsimp only;refine AA (Ea g rfl (by simp) (show Ag _ _ (VH (.type "StopIteration") [] >>= _) _ _ _ from AA ?_));simp only[VH,YV];refine AA (BQ (AA (m:=FI _ _) (MX (a:=BW) (by first | rfl | (simp only[FI];rfl)) (BQ ?_ (by size_fits)))) (by size_fits));simp only[kQ];refine AA (RA ?_);rw[show A.in1.handled=none from l];refine AA (AE (Wg ?_));refine AA (JR (T:="StopIteration") (b:=true) ⟨_,AR _ rfl,rfl⟩ Pm (AE ?_));exact C _ (((C9 ..).extBut.push _).push _)
end
section
def Tn(j:n≠0)(h:∀d',Q (M.w.draws g (s.drawn.get g) % n) { s with drawn:=d' }):Ag M A (choose g n) Q E s:=λ_ _ _=>⟨j,h _⟩
def Uz{l:Type}:∀(n:Nat) (xs:List l) (s:AM) (Q:List l->AM->Prop),xs.length=n->(∀ys d',Dk ys xs->Q ys { s with drawn:=d' })->Ag (Ah prog w) A (uA n xs) Q E s
 | 0,xs,s,Q,g,h=>by
  have:xs=[]:=Iq g;subst this;unfold uA;exact AE (h [] s.drawn .nil)
 | n+1,[],s,Q,g,h=>by cases g
 | n+1,x :: xs,s,Q,g,h=>by
  unfold uA;refine AA (Tn (by simp) λd1=>?_);have j:(Ah prog w).w.draws Pd (s.drawn.get Pd) % (x :: xs).length < (x :: xs).length:=Nat.mod_lt _ (by simp);generalize (Ah prog w).w.draws Pd (s.drawn.get Pd) % (x :: xs).length=i at j;rw[Aj j];dsimp only;refine AA (Uz n _ _ _ (by rw[UK j];lia) λys d' m=>?_);exact AE (h _ d' ((m.cons _).trans (Oa _ _ j)))
def TP(h:CZ)(T:AW)(ps:List Nat):Prop:=∃o c,h.get? T=some o/\o.data=.seq (ps.map λ(i:Nat)=>G1 i 0).toArray c
def TP.at'(x:TP h T ps)(e:∀o,h.get? T=some o->h'.get? T=some o):TP h' T ps:=let ⟨o,c,g,r⟩:=x;⟨o,c,e _ g,r⟩
def cG(g:SIt s.heap it (.ref T) i a es.size ep)(G:QT s.heap a es ep t)(H:TP s.heap T ps)(I:ps[i]?=some p)(J:es[p]?=some e)
  (L:∀h',SIt h' it (.ref T) (i+1) a es.size ep->C8 it s.heap h'->Q (some e.2) { s with heap:=h' }):Ag (Ah prog w) A (G3 (.ref it)) Q E s:=by
 obtain⟨o,B,hex,hd,C⟩:=id G;obtain⟨P,c,j,l⟩:=H;unfold G3;refine AA (EO (Bm (name:=D9 "__next__") g.ty C1 (Bl C1 g.ty HW ?_ (IR _))));unfold Builtin.«set_iterator.__next__» YT;refine AA (AE ?_);dsimp only;refine AA (FG g rfl ?_);dsimp only;refine AA (G2 B hd C ?_);rw[qY (by simp)];refine AA (Pj j l ?_);dsimp only
 have N:(ps.map λ(i:Nat)=>G1 i 0).toArray[(Int.toNat (i:Int))]?=some (.int p 0):=by
  rw[Ay];simp[I]
 rw[N];dsimp only;unfold setNextDrawn;refine AA (AA (D5 B hd C ?_));dsimp only;rw[qY (by simp),Ay,J];refine AE ?_;refine AA (LK g (by simp) λR O m=>?_);refine AE ⟨_,rfl,AE (L _ ?_ m)⟩;unfold SIt;rw[O];simp[Eo]
def gf(G:A.handled=none)(g:SIt s.heap it (.ref T) i a es.size ep)(H:QT s.heap a es ep t)(I:TP s.heap T ps)(C:ps[i]?=none)
  (J:∀h',OA it s.heap h'->Q none { s with heap:=h' }):Ag (Ah prog w) A (G3 (.ref it)) Q E s:=by
 obtain⟨o,L,hex,hd,N⟩:=id H;obtain⟨R,c,j,l⟩:=I;unfold G3;refine AA (EO (Bm (name:=D9 "__next__") g.ty C1 (Bl C1 g.ty HW ?_ (IR _))));unfold Builtin.«set_iterator.__next__» YT;refine AA (AE ?_);dsimp only;refine AA (FG g rfl ?_);dsimp only;refine AA (G2 L hd N ?_);rw[qY (by simp)];refine AA (Pj j l ?_);dsimp only
 have O:(ps.map λ(i:Nat)=>G1 i 0).toArray[(Int.toNat (i:Int))]?=none:=by
  rw[Ay];simp at C ⊢;exact C
 rw[O];dsimp only;refine AA (LK g (by simp) λS P B=>?_);refine AA (Ea P rfl (by simp) (show Ag _ _ (VH (.type "StopIteration") [] >>= _) _ _ _ from AA ?_));simp only[VH,YV];refine AA (BQ (AA (m:=FI _ _) (MX (a:=BW) (by first | rfl | (simp only[FI];rfl)) (BQ ?_ (by size_fits)))) (by size_fits));simp only[kQ];refine AA (RA ?_);rw[show A.in1.handled=none from G];refine AA (AE (Wg ?_));refine AA (JR (T:="StopIteration") (b:=true) ⟨_,AR _ rfl,rfl⟩ Pm (AE ?_));exact J _ (((B.trans (C9 ..)).extBut.push _).push _)
def XH(g:SIt s.heap it f i a n ep)(h:Q (.ref it) s):Ag (Ah prog w) A (VC (.ref it)) Q E s:=by
 refine TX g.ty OB (Bl OB g.ty Ss ?_ (UB _));show Ag _ _ (ret (.ref it)) _ _ s;exact AE ⟨_,rfl, "set_iterator",_,g.ty,C1.lookup,h⟩
def Wz(C:A.handled=none)(G:a≠it)(sl:Nat->Nat)(ord:List AI)(m:ord.length=es.size)
  (H:∀i x,ord[i]?=some x->Nxt prog w a es ep t (sl i) i (some (x,sl (i+1)))) (I:Nxt prog w a es ep t (sl es.size) es.size none) :
  Walks prog w A it [it,a] [it] es.size (λi v=>ord[i]?=some v) (λi h=>SIt h it (.int (sl i) 0) i a es.size ep/\QT h a es ep t) where
 sub:=λx g=>by simp at g;simp[g]
 frame:=λ_ _ _ st keep=>⟨keep it (by simp) _ st.1,st.2.at' λo e=>keep a (by simp) o e⟩
 item:=λi s Q E N st j=>by
  have g:ord[i]?=some ord[i]:=Aj (by omega)
  exact ge st.1 st.2 (H i _ g) λl J B=>j _ l s.toks g ⟨J,st.2.at' λo e=>B.extBut a o G e⟩ λb o hb e=>B.extBut b o (λh=>hb (by simp[h])) e
 done:=λs Q E st j=>lf C st.1 st.2 I λl L=>j l s.toks λb o hb e=>L b o (λh=>hb (by simp[h])) e
 self:=λ_ _ _ _ st j=>XH st.1 j
def bi(N:A.handled=none)(O:a≠it)(j:T≠it)(ps:List Nat)(g:Dk ps (Bs es.size)) :
  Walks prog w A it [it,a,T] [it] es.size (λi v=>(ps.filterMap λp=>(es[p]?).map (·.2))[i]?=some v) (λi h=>SIt h it (.ref T) i a es.size ep/\QT h a es ep t/\TP h T ps) where
 sub:=λx J=>by simp at J;simp[J]
 frame:=λ_ _ _ st keep=>⟨keep it (by simp) _ st.1,st.2.1.at' λo e=>keep a (by simp) o e,st.2.2.at' λo e=>keep T (by simp) o e⟩
 item:=λi s Q E Z st m=>by
  have P:ps.length=es.size:=by have:=g.length_eq;simpa using this
  have L:∀p∈ps,p < es.size:=λp h=>by simpa using g.mem_iff.mp h
  have B:ps[i]?=some (ps[i]'(by lia)):=Aj (by lia);have C:=L _ (kI (by lia:i < ps.length));have R:es[ps[i]'(by lia)]?=some (es[ps[i]'(by lia)]'(C)):=ES C
  have G:∀(l:List Nat),(∀p∈l,p < es.size)->(l.filterMap λp=>(es[p]?).map (·.2))=l.map λp=>(es.getD p (0,.none)).2:=λl=>by
   induction l with
   | nil=>intro _;rfl
   | cons p l S=>
    intro h;have g:=h p Ax;rw[List.filterMap_cons_some (b:=(es[p]).2) (by simp[g]),S λq U=>h q (AY _ U)];simp[Ov,g]
  refine cG st.1 st.2.1 st.2.2 B R λH X I=>m _ H s.toks ?_ ⟨X,st.2.1.at' λo e=>I.extBut a o O e,st.2.2.at' λo e=>I.extBut T o j e⟩ λb o hb e=>I.extBut b o (λh=>hb (by simp[h])) e
  rw[G ps L,Ao,B];simp[Ov,C]
 done:=λs Q E st m=>by
  have P:ps.length=es.size:=by have:=g.length_eq;simpa using this
  exact gf N st.1 st.2.1 st.2.2 (CA (by lia)) λH Y=>m H s.toks λb o hb e=>Y b o (λh=>hb (by simp[h])) e
 self:=λ_ _ _ _ st m=>XH st.1 m
def Rq(g:QT s.heap a es ep t)(j:Q (!(w.params.followText "set-order")&&(!t.plain&&decide (es.size > 1))) s):Ag (Ah prog w) A (setDrawn a) Q E s:=by
 obtain⟨o,l,hex,hd,m⟩:=g;unfold setDrawn YU;refine AA (D5 l hd m ?_);dsimp only;refine AA (AA (Gw (AE ?_)));exact AE j
def Y4(t:Fp):Nat->Nat
 | 0=>0
 | i+1=>t.place.getD i 0+1
def TD(g:Up t.place):∀{i:Nat},i<=t.place.size->Hb t.place (Y4 t i)=i
 | 0,_=>Ze g
 | i+1,h=>by
  have:t.place.getD i 0=t.place[i]'(by lia):=by simp[Ov,show i < t.place.size by lia]
  show Hb t.place (t.place.getD i 0+1)=i+1;rw[this];exact Zf g _
def gj(J:A.handled=none)(B:QT s.heap a es ep t)(S:Up t.place)(hl:t.led=(!(w.params.followText "set-order"))) (hz:es.size<=sizeLine)
  (L:∀(h':CZ) (d':_) (I:AW) (fp:List AW) (St:Nat->CZ->Prop) (ord:List AI),Dk ord (es.toList.map (·.2))->(∀b o,s.heap.get? b=some o->h'.get? b=some o) ->
   (∀b∈fp,b=a∨s.heap.objs.size<=b)->s.heap.objs.size<=I->Walks prog w A I fp [I] es.size (λi v=>ord[i]?=some v) St->St 0 h'->Q (.ref I) { s with heap:=h',drawn:=d' }) :
  Ag (Ah prog w) A (VC (.ref a)) Q E s:=by
 obtain⟨o,C,hex,hd,j⟩:=id B;have U:s.TypeIs (.ref a) "set":=⟨o,C,hex.1⟩;have N:a < s.heap.objs.size:=AZ C
 have hps:t.place.size=es.size:=by
  unfold Fp.fits at j;simp at j;exact j.1
 refine TX U tq (Bl tq U Su ?_ (F.args_set_iter_1 _));unfold Builtin.«frozenset.__iter__» ke YT kh kf;refine AA (AE ?_);refine AA (AA (G2 C hd j (AE ?_)));refine AA (Rq B ?_);dsimp only
 by_cases hb:(!(w.params.followText "set-order")&&(!t.plain&&decide (es.size > 1)))=true
 ·rw[qX hb]
  refine AA (Uz es.size (Bs es.size) s _ (by simp) λO d' l=>?_)
  have H:O.length=es.size:=by have:=l.length_eq;simpa using this
  unfold YV;refine AA (BQ ?_ (show _<=sizeLine by simp[H];exact hz));unfold setEpoch;refine AA (AA (D5 (AF _ C) hd j (AE ?_)));unfold t9;refine AA (BQ (AE ⟨_,rfl, "set_iterator",_,⟨_,AR _ rfl,rfl⟩,C1.lookup,?_⟩) (by size_fits));refine L _ d' _ _ _ (O.filterMap λp=>(es[p]?).map (·.2)) ?_ (λb o e=>AF _ (AF _ e)) ?_ ?_ (bi J (a:=a) (T:=s.heap.objs.size) (t:=t) (ep:=ep) ?_ ?_ O l) ⟨?_,?_,?_⟩
  ·refine(l.filterMap _).trans ?_
   have:(Bs es.size).filterMap (λp=>(es[p]?).map (·.2))=es.toList.map (·.2):=by
    have e:=filterMap_getElem?_range es;rw[<-e,eX]
   rw[this]
  ·intro b hb
   simp only[A2,BY,or_false,B0]at hb
   rcases hb with rfl | rfl | rfl
   ·right;lia
   ·left;rfl
   ·right;lia
  ·rw[B0];exact F9 _
  ·rw[B0];exact Al (Dm N)
  ·rw[B0];exact Al (Cc _)
  ·exact AR _ rfl
  ·exact B.at' λo e=>AF _ (AF _ e)
  ·exact⟨_,_,AF _ (AR _ rfl),rfl⟩
 ·rw[qY hb]
  refine AA (AE ?_);unfold setEpoch;refine AA (AA (D5 C hd j (AE ?_)));unfold t9;refine AA (BQ (AE ⟨_,rfl, "set_iterator",_,⟨_,AR _ rfl,rfl⟩,C1.lookup,?_⟩) (by size_fits))
  have G:∀b∈[s.heap.objs.size,a],b=a∨s.heap.objs.size<=b:=λb hb=>by
   simp only[A2,BY,or_false]at hb
   rcases hb with rfl | rfl
   ·right;exact AL _
   ·left;rfl
  cases m:w.params.followText "set-order" with
  | true=>
   have l:=cS (w.params.setOrder a ep) es
   have P:(QU (w.params.setOrder a ep) es).size=es.size:=by have:=l.length_eq;simpa using this
   refine L _ s.drawn _ _ _ ((QU (w.params.setOrder a ep) es).toList.map (·.2)) (l.map _) (λb o e=>AF _ e) G (AL _)
    (Wz J (a:=a) (t:=t) (ep:=ep) (Al N) (λ_=>0) _ (by simp[P]) (λi x g=>?_) ?_) ⟨AR _ rfl,B.at' λo e=>AF _ e⟩
   ·have:=Xc (prog:=prog) (a:=a) (es:=es) (ep:=ep) (i:=i) (t:=t) m
    rw[Ao,IG]at g
    cases X:(QU (w.params.setOrder a ep) es)[i]? with
    | none=>rw[X]at g;cases g
    | some e=>
     rw[X]at g this;cases g;exact this
   ·have:=Xc (prog:=prog) (a:=a) (es:=es) (ep:=ep) (i:=es.size) (t:=t) m
    rw[Hd (by lia)]at this;exact this
  | false=>
   have Y:t.led=true:=by rw[hl,m];rfl
   have H:t.plain=true∨es.size<=1:=by
    rw[m]at hb
    cases hh:t.plain with
    | true=>exact .inl rfl
    | false=>rw[hh]at hb;simp at hb;exact .inr hb
   refine L _ s.drawn _ _ _ (es.toList.map (·.2)) .rfl (λb o e=>AF _ e) G (AL _)
    (Wz J (a:=a) (t:=t) (ep:=ep) (Al N) (Y4 t) _ (by simp) (λi x g=>?_) ?_) ⟨AR _ rfl,B.at' λo e=>AF _ e⟩
   ·have:=Xd (prog:=prog) (a:=a) (es:=es) (ep:=ep) (i:=i) (t:=t) m Y H (Y4 t i)
    rw[Ao,IG]at g
    have Z:i < es.size:=by
     rcases Nat.lt_or_ge i es.size with h | h
     ·exact h
     ·rw[Hd h]at g;cases g
    have R:Hb t.place (Y4 t i)=i:=TD S (by lia);rw[R,ES Z,ES (by lia:i < t.place.size)]at this;rw[ES Z]at g;cases g
    have e2:t.place.getD i 0=t.place[i]'(by lia):=by simp[Ov,show i < t.place.size by lia]
    show Nxt prog w a es ep t (Y4 t i) i (some (_,t.place.getD i 0+1));rw[e2];exact this
   ·have:=Xd (prog:=prog) (a:=a) (es:=es) (ep:=ep) (i:=es.size) (t:=t) m Y H (Y4 t es.size)
    have R:Hb t.place (Y4 t es.size)=es.size:=TD S (by lia);rw[R,Hd (AL _)]at this;exact this
end
section
def jM(j:s.TypeIs (.ref a) "set") (h:Q false s):Ag (Ah prog w) A (Ou (.ref a)) Q E s:=by
 unfold Ou;refine AA (vj j PySem.F.slot_set_len.lookup ?_);generalize g:("set.__len__" : String)=id0
 wp_delta
 rw[show splitId id0=some ("set", "__len__")from by subst g;decide +kernel];subst g;refine AA (JR (T:="set") (b:=true) j (by rw[LN];kernel_rfl) ?_);refine Wp (λl=>zX l (by decide)) (λ_=>?_);refine Wp (λ_=>?_) (λl=>zX (by decide +kernel) l);refine AA (Ko j ?_);exact AE h
def Y6(hh:A.handled=none)(Q:QT s.heap a es ep t)(hu:Up t.place)(hl:t.led=(!(w.params.followText "set-order"))) (hz:es.size<=sizeLine)
  (S:AW) (J:S≠a) (res:AI) (B:Nat) (hL:s.heap.get? S=some { cls:=.type "list",data:=.seq #[] B })
  (hR:∀h' tk d' (C:Array AI) G (ord:List AI),Dk ord (es.toList.map (·.2))->(∀b o,b≠S->s.heap.get? b=some o->h'.get? b=some o)->h'.get? S=some { cls:=.type "list",dict:=none,data:=.seq C G,slots:=#[] } ->
   C.toList=ord->R (.ok (.ret res)) { s with heap:=h',toks:=tk,drawn:=d' }) :
  Ag (Ah prog w) A.in1 (IF (.ref S) (.ref a) res)
   (λfin s'=>match fin with | .done f=>R (.ok f) s' | .again G=>G.quiet=true/\Ih (Ah prog w) A G R s') (λe s'=>R (.error e) s') s:=by
 have hT:s.TypeIs (.ref a) "set":=let ⟨o,U,hex,_⟩:=Q;⟨o,U,hex.1⟩
 have X:S < s.heap.objs.size:=AZ hL;unfold IF;refine AA (Ko (T:="set") hT ?_)
 have h1:Qb (.ref S) (.ref a)=false:=by simp[Qb,J]
 simp only[h1,show(DQ "set"==DQ "list")=false by decide,show(DQ "set"==DQ "tuple")=false by decide,Bool.or_false,BA,if_false];refine AA (gj (A:=A.in1) hh Q hu hl hz λh1 d1 I fp St ord hp H Y hI W st=>?_)
 have W':S∉fp:=λh=>by
  rcases Y S h with e | e
  ·exact J e
  ·exact zX X (G5.mpr e)
 have L:∀(h:CZ) (g tk:Nat),St 0 h->(∀b o,b≠S->s.heap.get? b=some o->h.get? b=some o) ->
   h.get? S=some { cls:=.type "list",data:=.seq #[] g }->Ih (Ah prog w) A (.builtin "list.extend.loop" ⟨[.ref S,.ref I,res],[]⟩) R { s with heap:=h,toks:=tk,drawn:=d1 }:=by
  intro h g tk yD H N
  refine codeAny_extend_loopS W.toS hz S W' res es.size 0 _ #[] g rfl (Ce _) yD N (ItemsOf.nil _) λs' C G hm xP Z=>?_
  rw[Moved.eq_with hm];refine hR s'.heap s'.toks d1 C G ord hp (λb o hb e=>hm.heap b o (λl=>?_) (H b o hb e)) xP ?_
  ·rcases A2.mp l with e' | l
   ·exact hb e'
   ·exact zX (AZ e) (by rw[AN.mp l];exact G5.mpr hI)
  ·have zI:ord.length=es.size:=by have:=hp.length_eq;simpa using this
   apply Hg
   intro j
   by_cases hj:j < es.size
   ·have P:j < C.size:=by rw[Z.1];exact hj
    have:=Z.2 j C[j] (by simp[P]);rw[this];simp[P]
   ·have P:¬j < C.size:=by rw[Z.1];exact hj
    simp[P,zI,hj]
 have N:=H S _ hL;refine AA (CP (jM (let ⟨o,U,hex,_⟩:=Q;⟨o,H _ _ U,hex.1⟩) ?_));refine Wp (λ_=>?_) (λ_=>AE ⟨Mf TR _,L _ B _ st (λb o _ e=>H b o e) N⟩);refine AA (Hl ?_);refine AA ?_;show Ag _ _ (updateSeq S (·.push .none) >>= λ_=>updateSeq S (·.pop)) _ _ _;refine AA (Wo N rfl ?_);have m:=Cg (EJ (·.push BW)) N rfl;refine Wo (hz:=by seq_fits) m rfl ?_;have E:=Cg (EJ (·.pop)) m rfl;refine AE ⟨Mf TR _,L _ _ _ ?_ (λb o hb e=>?_) E⟩
 ·refine W.frame 0 _ _ st λb hb o e=>?_
  have O:b≠S:=λh=>W' (h▸hb)
  exact(B3 _ _ (CK O)).trans ((B3 _ _ (CK O)).trans e)
 ·exact(B3 _ _ (CK hb)).trans ((B3 _ _ (CK hb)).trans (H b o e))
def XJ(T:A.handled=none)(U:N2 prog w s.heap a ns)(hn:ns.length<=sizeLine)
  (h:∀(h':CZ) (tk:Nat) d' (j:List AI),(∀b o,s.heap.get? b=some o->h'.get? b=some o)->Dk (j.map iv) (ns.map some)->R j { s with heap:=h',toks:=tk,drawn:=d' }) :
  Ag (Ah prog w) A (collect (.ref a)) R E s:=by
 obtain⟨o,J,ep,t,P,hex,hd,V',X,Y,L,I⟩:=U;have Z:a < s.heap.objs.size:=AZ P
 have hz:J.size<=sizeLine:=by have:=I.length_eq;simp at this;omega
 unfold collect;refine AA (wpAny_runValue (Hf entry_proto_collect' ?_));rw[Fk PySem.F.plain_proto_collect _];show Ag _ A.in1 (newList [] >>= λl=>again (.builtin "list.__iadd__" ⟨[l,.ref a],[]⟩)) _ _ s;refine AA (BQ ?_);refine AE ⟨Mf UG _,Hf entry_list_iadd' ?_⟩;rw[Fk UG _];have Α:(s.heap.push { cls:=.type "list",data:=.seq ([]:List AI).toArray }).get? s.heap.objs.size=some { cls:=.type "list",data:=.seq #[] }:=AR _ rfl;show Ag _ A.in1 (IF (.ref s.heap.objs.size) (.ref a) (.ref s.heap.objs.size)) _ _ _
 have N:=Y6 (prog:=prog) (A:=A) (s:={ s with heap:=s.heap.push { cls:=.type "list",data:=.seq ([]:List AI).toArray } })
  (R:=λ(q:Result) (O:AM)=>∃(h':CZ) (tk:Nat) (d':_) (g:Array AI) (m:Nat),q=.ok (.ret (.ref s.heap.objs.size))/\O={ s with heap:=h',toks:=tk,drawn:=d' } /\
   (∀b o,s.heap.get? b=some o->h'.get? b=some o)/\h'.get? s.heap.objs.size=some { cls:=.type "list",dict:=none,data:=.seq g m,slots:=#[] }/\Dk g.toList (J.toList.map (·.2)))
  T ⟨o,AF _ P,hex,hd,X⟩ Y L hz s.heap.objs.size (FJ Z) (.ref s.heap.objs.size) 0 Α
  (λh' tk d' g m ord I B C G=>⟨h',tk,d',g,m,rfl,rfl,λb o e=>B b o (Al (AZ e)) (AF _ e),C,G▸I⟩)
 have fin:∀{l:List AI},Dk l (J.toList.map (·.2))->Dk (l.map iv) (ns.map some):=λL=>(L.map iv).trans (by rw[BV];exact I)
 refine E2 N (λH O x=>?_) λe O x=>?_
 ·cases H with
  | done f=>
   obtain⟨h',tk,d',g,m,e,rfl,B,C,G⟩:=x;cases e;show Ag _ A (load s.heap.objs.size >>= _) _ _ _;refine AA (pO C ?_);exact AE (h h' tk d' _ B (fin G))
  | again Q=>
   refine⟨x.1,Ig x.2 λq S y=>?_⟩;obtain⟨h',tk,d',g,m,rfl,rfl,B,C,G⟩:=y;show Ag _ A (load s.heap.objs.size >>= _) _ _ _;refine AA (pO C ?_);exact AE (h h' tk d' _ B (fin G))
 ·obtain⟨_,_,_,_,_,e',_⟩:=x
  cases e'
end
end PySem
namespace L2
open Srt (ltL)
def Qi{A B:Type}{R:A->B->Prop}{C g:List B}(p:C.Perm g):∀{l1:List A},Hn R l1 C->∃E,Hn R E g/\E.Perm l1:=by
 induction p with
 | nil=>intro l1 h;cases h;exact⟨[],.nil,.refl _⟩
 | cons x _ G=>
  intro l1 h
  cases h with
  | cons r t=>
   obtain⟨H,j,m⟩:=G t;exact⟨_ :: H,.cons r j,m.cons _⟩
 | swap x y l=>
  intro l1 h
  cases h with
  | cons r t=>
   cases t with
   | cons I t=>exact⟨_ :: _ :: _,.cons I (.cons r t),bZ _ _ _⟩
 | trans _ _ o s=>
  intro l1 h;obtain⟨a,j,m⟩:=o h;obtain⟨b,J,L⟩:=s j;exact⟨b,J,L.trans m⟩
def Lj{j l o:Type}{R:j->l->Prop}{f:j->o}{g:l->o}:∀{m:List j} {s:List l},Hn R m s->(∀a∈m,∀b,R a b->g b=f a)->s.map g=m.map f
 | _,_,.nil,_=>rfl
 | _,_,.cons r t,h=>by rw[A4,A4,h _ Ax _ r,Lj t λa A=>h a (AY _ A)]
def SF{j g:Type}{R:j->g->Prop}:∀{l:List j} {m:List g} {b:g},Hn R l m->b∈m->∃a∈l,R a b
 | _,_,_,.nil,h=>nomatch h
 | _,_,b,.cons r t,h=>by
  rcases A2.mp h with h | h
  ·subst h;exact⟨_,Ax,r⟩
  ·obtain⟨a,o,e⟩:=SF t h
   exact⟨a,AY _ o,e⟩
noncomputable def K6:V->Int
 | .int n=>n
 | _=>0
def Vz(H:Hp):AI->ZLi
 | .int n _=>[n]
 | .ref b=>match H b with
  | some (.tup g)=>g.map K6
  | _=>[]
 | _=>[]
def Nj(r:ZLi):(r.map V.int).map K6=r:=by
 rw[BV];exact(Cy λa _=>rfl).trans (tZ r)
def vf(K:AJ)(H:Hp)(p:AW)(G:List V->Prop):Prop:=
 (∃j,(SqL K H p j∨SqT K H p j)/\G j)∨(∃g,H p=some (.dK g)/\G (g.map λx=>kV x.1)) ∨
  ∃g,H p=some (.dT g)/\∀bs:List AW,Hn (λ(k:List Key×V) b=>H b=some (.tup (k.1.map kV))) g bs->G (bs.map V.ref)
def TN(H:Hp)(f:V->ZLi)(g:List V):Prop:=(∀v∈g,∃n,v=.int n/\f v=[n])∨∀v∈g,∃b,v=.ref b/\H b=some (.tup ((f v).map V.int))/\f v≠[]
def uj(K:AJ):List V->Hp->VK->Prop:=λj H Q=>∃p,j=[.ref p]/\vf K H p λg=>∃f:V->ZLi,TN H f g /\
 ∀out,out.Perm g->out.Pairwise (λx y=>ltL (f y) (f x)=false)->∀l,H l=none->Q (.ref l) (upd H l (.lst out))
def TN.rel(h:TN H f j):∀v∈j,∀u,RelV v u->Vz H u=f v:=λv g u r=>by
 rcases h with h | h
 ·obtain⟨n,rfl,e⟩:=h v g
  obtain⟨t,rfl⟩:=r;exact e.symm
 ·obtain⟨b,rfl,e,_⟩:=h v g
  cases r;show(match H b with | some (.tup l)=>l.map K6 | _=>[])=_;rw[e];exact Nj _
def XF(hc:X.calm=true)(I:Inv X ζ σ H s)(h:vf X.K H p G) :
  ∃Y P,G Y/\Bx Y P/\P.length<=sizeLine/\∀(R:List AI->AM->Prop) (E:AI->AM->Prop),(∀(g:CZ) (tk:Nat),(∀b o,s.heap.get? b=some o->g.get? b=some o)->R P { s with heap:=g,toks:=tk })->Ag (Ah X.prog X.w) X.A.in1 (collect (.ref p)) R E s:=by
 have hh:X.A.handled=none:=I.ok.hd hc
 rcases h with⟨Y,sq,g⟩ | ⟨m,e,g⟩ | ⟨m,e,g⟩
 ·rcases sq with sq | sq
  ·obtain⟨P,U,pl,J⟩:=I.list sq
   refine⟨Y,P,g,U,by rw[<-U.length];exact J,λR E k=>collect_list pl.isList (k _ s.toks λb o e=>?_) (by rw[<-U.length];exact J)⟩;rw[bf _ _ _ _ (Al (AZ e))];exact AF _ e
  ·obtain⟨P,U,⟨o,ho,yb,n,hd⟩,J⟩:=I.tuple sq
   have Z:P.length<=sizeLine:=by rw[<-U.length];exact J
   exact⟨Y,P,g,U,Z,λR E k=>wpAny_collect_seq p (.inr rfl) ho yb hd (λh' kp=>by simpa using k h' s.toks kp) (by simpa using Z)⟩
 ·obtain⟨J,sm,us,kv,o,es,ep,g1,g2,g3,g5,g6,_⟩:=(show DG X.prog X.w H s.heap p (.dK m)from I.hok p _ e)
  have C:es.size=m.length:=by
   have a1:=g6.length;have a2:m.length=us.length:=Ef kv;rw[BM]at a1
   lia
  have hv:Bx (m.map λx=>kV x.1) (es.toList.map (·.key)):=by
   have Q:∀{l:List ef} {us:List (Key×AI)} {m:List (Key×V)},Pairs (ED X.prog X.w) l us->KV m us->Bx (m.map λx=>kV x.1) (l.map (·.key)):=by
    intro l us m hp
    induction hp generalizing m with
    | nil=>intro h;cases h;exact .nil
    | cons q1 q2 _ ih=>
     intro h
     cases h with
     | cons r t=>
      refine .cons ?_ (ih t);dsimp only;rw[r.1]
      rcases D0 q1 with⟨i,t,e1,S⟩ | ⟨x,t,e1,S⟩
      ·rw[e1,S];exact⟨t,rfl⟩
      ·rw[e1,S];exact⟨t,rfl⟩
   exact Q g6 kv
  refine⟨_,es.toList.map (·.key),g,hv,by rw[AG,BM,C];exact J,λR E k=>?_⟩
  refine YI (Srt.aN (es:=es) (ep:=ep) sm) hh ⟨o,g1,g2,g3⟩ (by rw[C];exact J) λg' tk B kp T=>?_
  have:B.toList=es.toList.map (·.key):=by
   apply Hg
   intro j
   by_cases L:j < es.size
   ·have N:j < B.size:=by rw[T.1];exact L
    obtain⟨_,S⟩:=T.2 j B[j] (by simp[N]);simp[L,N,S]
   ·have N:¬j < B.size:=by rw[T.1];exact L
    simp[L,N]
  rw[this];exact k g' tk kp
 ·obtain⟨J,sm,O,rr,o,es,ep,g1,g2,g3,g4,_⟩:=(show DG X.prog X.w H s.heap p (.dT m)from I.hok p _ e)
  have C:es.size=m.length:=by
   have a1:=congrArg F7 g4;have a2:m.length=O.length:=Ef rr;rw[BM,AG]at a1
   lia
  have hb:Hn (λ(k:List Key×V) b=>H b=some (.tup (k.1.map kV))) m (O.map (·.2.1)):=by
   have Q:∀{m:List (List Key×V)} {O:List (List Key×AW×AI)},Hn (λ(p:List Key×V) (q:List Key×AW×AI)=>p.1=q.1/\H q.2.1=some (.tup (p.1.map kV))/\RelV p.2 q.2.2) m O->Hn (λ(k:List Key×V) b=>H b=some (.tup (k.1.map kV))) m (O.map (·.2.1)):=by
    intro m O h
    induction h with
    | nil=>exact .nil
    | cons r _ ih=>exact .cons r.2.1 ih
   exact Q rr
  have hk:es.toList.map (·.key)=(O.map (·.2.1)).map A0:=by
   rw[g4,BV,BV];rfl
  have hv:∀l:List AW,Bx (l.map V.ref) (l.map A0):=λl=>by
   induction l with
   | nil=>exact .nil
   | cons a l ih=>exact .cons rfl ih
  refine⟨_,(O.map (·.2.1)).map A0,g _ hb,hv _,by rw[AG,AG,<-Ef rr];exact J,λR E k=>?_⟩
  refine YI (Srt.aN (es:=es) (ep:=ep) sm) hh ⟨o,g1,g2,g3⟩ (by rw[C];exact J) λg' tk B kp T=>?_
  have:B.toList=(O.map (·.2.1)).map A0:=by
   rw[<-hk]
   apply Hg
   intro j
   by_cases L:j < es.size
   ·have N:j < B.size:=by rw[T.1];exact L
    obtain⟨_,S⟩:=T.2 j B[j] (by simp[N]);simp[L,N,S]
   ·have N:¬j < B.size:=by rw[T.1];exact L
    simp[L,N]
  rw[this];exact k g' tk kp
def Qh{X:Cx}{s:AM}{H:Hp}{f:V->ZLi}{j:List V}{g:List AI}(I:∀b xs,H b=some (.tup xs)->∃is:List AI,Bx xs is/\kb s.heap b is.toArray)(h:TN H f j)(G:Bx j g)(J:2<=g.length){A:B5}:Srt.Wb X.prog X.w A s g (Vz H):=by
 rcases id h with O | P
 ·have:∃ns,IntsAre g ns:=by
   have C:∀{j:List V} {g:List AI},Bx j g->(∀v∈j,∃n,v=.int n/\f v=[n])->∃ns,IntsAre g ns:=by
    intro j g r
    induction r with
    | nil=>exact λ_=>⟨[],.nil⟩
    | cons r _ R=>
     intro l
     obtain⟨ns,B⟩:=R λv S=>l v (AY _ S)
     obtain⟨n,rfl,_⟩:=l _ Ax;obtain⟨t,rfl⟩:=r;exact⟨n :: ns,.cons n t B⟩
   exact C G O
  obtain⟨ns,B⟩:=this;obtain⟨T,U,Y⟩:=Srt.cE (prog:=X.prog) (w:=X.w) (A:=A) (s:=s) B J;refine⟨T,U,λx y L N Q E q=>Y x y L N Q E ?_⟩;obtain⟨n,t,Z⟩:=B.all _ (Srt.Hw L).1;obtain⟨m,u,e2⟩:=B.all _ (Srt.Hw N).1
  have e:Srt.ltK Srt.iT x y=Srt.ltK (Vz H) x y:=by
   unfold Srt.ltK Srt.iT;rw[Z,e2];rfl
  rw[e];exact q
 ·refine Srt.cB (λu hu=>?_) (by intro e;subst e;simp at J)
  obtain⟨v,l,r⟩:=SF G hu;rw[h.rel v l u r];obtain⟨b,rfl,e,ne⟩:=P v l;cases r;refine⟨⟨b,?_⟩,ne⟩;obtain⟨is,r,o,ho,yb,n,hd⟩:=I b _ e;exact⟨is.toArray,rfl,⟨o,ho,yb,n,hd⟩,by simpa using intsAre_of r⟩
def dg{X}(U:X.calm=true):HX X (.builtin "sorted") (uj X.K):=by
 intro Y s Z H P us Q I r h;obtain⟨p,rfl,C⟩:=h;obtain⟨u,rfl,rx⟩:=vals1 r;cases rx;obtain⟨vs,B,⟨f,j,q⟩,E,G,J⟩:=XF U I C;refine UN kind_sorted plain_sorted entry_sorted (args_sorted1 _) ?_;unfold Builtin.«sorted»;refine AA (m:=checkCount "sorted" 1 1 _) (AE (AA (J _ _ λg tk kp=>?_)));refine AA (bN ?_ G);have L:Inv X Y Z H { s with heap:=g,toks:=tk }:=I.kept kp;have N:(g.push (Hm "list" B.toArray 0)).get? g.objs.size=some (Hm "list" B.toArray 0):=AR _ rfl;refine AA (CP (Bl slot_list_sort ⟨_,N,rfl⟩ vm (Srt.OG (f:=Vz H) N G (λh2 s' keep=>?_) λout po so=>⟨_,rfl,AE ⟨_,rfl,?_⟩⟩) (args_list_sort _)))
 ·refine Qh (λb P e=>?_) j E h2
  obtain⟨_,is,r,o,S,yb,n,hd⟩:=(show DG X.prog X.w H g b (.tup P)from L.hok b _ e);exact⟨is,r,o,keep b o (Al (AZ S)) (AF _ S),yb,n,hd⟩
 ·obtain⟨l,T,pv⟩:=Qi po.symm E
  have O:l.Pairwise (λx y=>ltL (f y) (f x)=false):=by
   have e:out.toList.map (Vz H)=l.map f:=Lj T λa ha b rb=>j.rel a (pv.mem_iff.mp ha) b rb
   have:=(B2 (f:=Vz H) (R:=λx y=>ltL y x=false)).mpr so;rw[e]at this;exact B2.mp this
  obtain⟨k,hk⟩:=sortedHeap_at (out:=out) N
  have A:l.length<=sizeLine:=by rw[pv.length_eq,E.length];exact G
  have I2:=L.laid (a:=g.objs.size) (o:=.lst l) (t':=tk) (h':=YS (g.push (Hm "list" B.toArray 0)) g.objs.size B out)
   (λb u z=>by
    have lt:b < g.objs.size:=AZ z;rw[sortedHeap_old (Al lt) (by rw[size_push'];exact Dm lt)]
    exact AF _ z) (AL _) ⟨A,out.toList,k,T,hk⟩
  exact⟨.ref g.objs.size,_,I2,rfl,q l pv O _ (L.hok.fresh (AL _))⟩
def CF(ns:ZLi):ZLi:=ns.mergeSort (λa b=>decide (a<=b))
@[simp] def cF:CF []=[]:=by unfold CF;simp
def Bp(ns:ZLi):(CF ns).Perm ns:=bW ns _
def Kw(ns:ZLi):(CF ns).Pairwise (·<=·):=by
 have:=Wu (le:=λa b:Int=>decide (a<=b)) (by intro a b c g j;simp at g j ⊢;lia) (by intro a b;simp;lia) ns
 exact this.imp λh=>by simpa using h
def Mt(g:List ZLi):List ZLi:=g.mergeSort (λa b=>!ltL b a)
def JY(rs:List ZLi):(Mt rs).Perm rs:=bW rs _
def gY(g:List ZLi):(Mt g).Pairwise (λa b=>ltL b a=false):=by
 have:=Wu (le:=λa b:ZLi=>!ltL b a) (by intro a b c j l;simp at j l ⊢;exact Srt.WB _ _ _ j l) (by
  intro a b
  cases e:ltL b a with
  | false=>simp
  | true=>simp[Srt.SW _ _ e]) g
 exact this.imp λh=>by simpa using h
def cD{l l':List ZLi}(p:l.Perm l')(h:l.Pairwise (λa b=>ltL b a=false))(h':l'.Pairwise (λa b=>ltL b a=false)):l=l':=
 p.eq_of_pairwise (λa b _ _ g j=>Srt.aY a b j g) h h'
noncomputable def jE:Key->D
 | .inl i=>.int i
 | .inr x=>.str x
def Io(d:D)(S:Sto):Option (List D):=match d with
 | .fro j=>some j
 | .tup j=>some j
 | .ref n=>match S[n]? with
  | some (.lst j)=>some j
  | some (.dK g)=>some (g.map λx=>jE x.1)
  | some (.dT g)=>some (g.map λx=>.tup (x.1.map jE))
  | _=>none
 | _=>none
def Ky(r:ZLi):D:=.tup (r.map D.int)
def OC:List D->Option (List ZLi)
 | []=>some []
 | .tup g :: r=>match Hj g,OC r with
  | some (n :: j),some l=>some ((n :: j) :: l)
  | _,_=>none
 | _ :: _=>none
def Mu(ds:List D):Option (List D):=match Hj ds with
 | some g=>some ((CF g).map D.int)
 | none=>match OC ds with
  | some j=>some ((Mt j).map Ky)
  | none=>none
def DM(m:ME):ME:=λe S=>(m e S).bind λd g=>match Io d g with
 | some j=>match Mu j with
  | some l=>.ok (.ref g.length) (g++[.lst l])
  | none=>.bad
 | none=>.bad
section
def aZ(x y:Int):ltL [y] [x]=decide (y < x):=by
 show(if y=x then false else decide (y < x))=_;split
 ·rename_i e;simp[e]
 ·rfl
def T0(H:Hp):V->ZLi
 | .int n=>[n]
 | .ref b=>match H b with
  | some (.tup g)=>g.map K6
  | _=>[]
 | _=>[]
def XO{K}{ρ}{H}:∀{ds:List D} {j:List ZLi} {l:List V},OC ds=some j->A3 K ρ H ds l->l.map (T0 H)=j/\∀v∈l,∃b,v=.ref b/\H b=some (.tup ((T0 H v).map V.int))/\T0 H v≠[]
 | [],_,_,h,.nil=>by cases h;exact⟨rfl,λv g=>nomatch g⟩
 | .tup G :: ds,j,_,h,.cons r t=>by
  unfold OC at h;split at h
  ·rename_i n ns m o s
   cases h;obtain⟨A,B⟩:=XO s t
   cases r with
   | @tup _ b I hb C=>
    have:=NC o;subst this;have:=C.ints;subst this
    have e:T0 H (.ref b)=n :: ns:=by
     show(match H b with | some (.tup E)=>E.map K6 | _=>[])=_;rw[hb];exact Nj _
    refine⟨by rw[A4,e,A],λv g=>?_⟩
    rcases A2.mp g with g | g
    ·subst g
     refine⟨b,rfl,?_,?_⟩
     ·rw[e];exact hb
     ·rw[e];exact List.cons_ne_nil _ _
    ·exact B v g
  ·cases h
 | .non :: _,_,_,h,_=>by cases h
 | .bl _ :: _,_,_,h,_=>by cases h
 | .int _ :: _,_,_,h,_=>by cases h
 | .str _ :: _,_,_,h,_=>by cases h
 | .fro _ :: _,_,_,h,_=>by cases h
 | .ref _ :: _,_,_,h,_=>by cases h
 | .exc _ :: _,_,_,h,_=>by cases h
def XU{K}{ρ}{H}:∀{g:List V},(∀v∈g,∃b,v=.ref b/\H b=some (.tup ((T0 H v).map V.int))/\T0 H v≠[])->A3 K ρ H ((g.map (T0 H)).map Ky) g
 | [],_=>.nil
 | v :: g,h=>by
  obtain⟨b,e,hb,_⟩:=h v Ax;refine .cons ?_ (XU λu j=>h u (AY _ j));subst e;exact .tup hb (A3.of_ints _)
def gW{K:AJ}{ρ:List AW}{H:Hp}{ds es:List D}{l:List V}(h:Mu ds=some es)(r:A3 K ρ H ds l) :
  ∃f:V->ZLi,TN H f l/\∀out,out.Perm l->out.Pairwise (λx y=>ltL (f y) (f x)=false)->A3 K ρ H es out:=by
 unfold Mu at h;split at h
 ·rename_i ns B
  cases h;have:=NC B;subst this;have:=r.ints;subst this;refine⟨λv=>[K6 v],.inl λv g=>?_,λout j m=>?_⟩
  ·obtain⟨n,_,rfl⟩:=Aw.mp g
   exact⟨n,rfl,rfl⟩
  ·have C:out=(out.map K6).map V.int:=by
    rw[BV]
    conv=>lhs;rw[<-N7 out]
    refine Cy λv g=>?_
    obtain⟨n,_,rfl⟩:=Aw.mp (j.mem_iff.mp g);rfl
   have o:out.map K6=CF ns:=by
    have E:(out.map K6).Perm (CF ns):=by
     have:=j.map K6;rw[Nj]at this;exact this.trans (Bp ns).symm
    refine E.eq_of_pairwise (λa b _ _ G I=>Nb G I) ?_ (Kw ns);rw[B2]
    refine m.imp λ{x y} s=>?_
    rw[aZ]at s;simp at s;exact s
   rw[C,o];exact A3.of_ints _
 ·split at h
  ·rename_i rs J
   cases h;obtain⟨L,A⟩:=XO J r;refine⟨T0 H,.inr A,λout j m=>?_⟩
   have o:out.map (T0 H)=Mt rs:=by
    refine cD ?_ (B2.mpr m) (gY rs);have:=j.map (T0 H);rw[L]at this;exact this.trans (JY rs).symm
   rw[<-o]
   exact XU λv g=>A v (j.mem_iff.mp g)
  ·cases h
def Sb{K}{ρ}{H}:∀g:List Key,A3 K ρ H (g.map jE) (g.map kV)
 | []=>.nil
 | .inl i :: g=>.cons (.int i) (Sb g)
 | .inr x :: g=>.cons (.str x) (Sb g)
def Sa{K}{ρ}{H}:∀{kvs:List (Key×D)} {kvs':List (Key×V)},KVR K ρ H kvs kvs'->A3 K ρ H (kvs.map λx=>jE x.1) (kvs'.map λx=>kV x.1)
 | _,_,.nil=>.nil
 | (k,_) :: _,(k',_) :: _,.cons r t=>by
  have e:k=k':=r.1;subst e
  cases k with
  | inl i=>exact .cons (.int i) (Sa t)
  | inr x=>exact .cons (.str x) (Sa t)
def Xn{K}{ρ}{H}:∀{kvs:List (List Key×D)} {kvs':List (List Key×V)} {bs:List AW},KVR K ρ H kvs kvs'->Hn (λ(k:List Key×V) b=>H b=some (.tup (k.1.map kV))) kvs' bs->A3 K ρ H (kvs.map λx=>.tup (x.1.map jE)) (bs.map V.ref)
 | _,_,_,.nil,.nil=>.nil
 | (k,_) :: _,(k',_) :: _,_,.cons r t,.cons g j=>by
  have e:k=k':=r.1;subst e;exact .cons (.tup g (Sb k)) (Xn t j)
def FE(Y:X.calm=true)(Z:Gl X "sorted") (s:X.mg "sorted" = none) (h:GE X E e m) (P:AQ [e] X.env=(false,B1 e X.env) :: AQ [] X.env:=by rfl):GE X E (.Call (.Name "sorted" p) [e] [] pos) (DM m):=
 (Kz (dg Y) Z s wA (Du h GF P) (by decide) (by decide) P rfl).imp<|by
 rintro σ H Q ⟨ρ,l,S,hl,hs,s⟩
 refine⟨ρ,l,S,hl,hs,s.seq λd S1 s A B x l1 R r1=>?_⟩
 cases g:Io d S1 with
 | none=>rw[g]at s;exact s.elim
 | some T=>
  rw[g]at s;dsimp only at s
  cases I:Mu T with
  | none=>rw[I]at s;exact s.elim
  | some U=>
   rw[I]at s
   have fin:∀j:List V,A3 X.K A B U j->∀q,B q=none->Q (.ref q) (upd B q (.lst j)):=λj G q g=>by
    have le:Le X.K A B (A++[q]) (upd B q (.lst j)):=Le.alloc g;obtain⟨s4,l4,ϣ⟩:=R.alloc (ho:=.lst j) (o:=.lst U) g ⟨_,Bi,G.mono le⟩;exact s _ _ _ (l1.trans l4) s4 (.ref ϣ)
   have out:∀j,A3 X.K A B T j->∃f:V->ZLi,TN B f j/\∀out,out.Perm j->out.Pairwise (λx y=>ltL (f y) (f x)=false)->∀l,B l=none->Q (.ref l) (upd B l (.lst out)):=λj G=>by
    obtain⟨f,k1,k2⟩:=gW I G;exact⟨f,k1,λout po so=>fin out (k2 out po so)⟩
   cases r1 with
   | fro J L=>cases g;exact⟨_,rfl,.inl ⟨_,.inl J.sq,out _ L⟩⟩
   | tup J L=>cases g;exact⟨_,rfl,.inl ⟨_,.inr (.inl (.inl J)),out _ L⟩⟩
   | @ref n a hn=>
    obtain⟨o,ho,N⟩:=R.there hn;unfold Io at g;simp only[ho]at g
    cases o with
    | lst ys=>cases g;obtain⟨j,e,G⟩:=N;exact⟨_,rfl,.inl ⟨j,.inl (.inl (.inl e)),out _ G⟩⟩
    | dK O=>cases g;obtain⟨j,e,G⟩:=N;exact⟨_,rfl,.inr (.inl ⟨j,e,out _ (Sa G)⟩)⟩
    | dT O=>cases g;obtain⟨j,e,G⟩:=N;exact⟨_,rfl,.inr (.inr ⟨j,e,λbs hb=>out _ (Xn G hb)⟩)⟩
    | ins C fs=>cases g
    | fK _=>cases g
    | fT _=>cases g
    | mem _=>cases g
   | _=>cases g
end
def isV(A:String):Option Bool:=if A = "NoneType" then some false else none
def sK{K}:∀A b,isV A=some b->CS K (.type A) (.type "ValueError")=some b:=λA b e=>by
 unfold isV at e;split at e
 ·rename_i g
  subst g;cases e
  kernel_rfl
 ·cases e
def sM{K}{C}(h:∀A∈["NoneType", "bool", "int", "str", "tuple", "list", "dict"],CS K (.type A) (.ref C)=some false):∀A b,isN A=some b->CS K (.type A) (.ref C)=some b:=λA b e=>by
 unfold isN at e;split at e
 ·rename_i g
  cases e;exact h A (by simpa using g)
 ·cases e
def nS{K}{C}(j:(FC K C).isSome=true)(l:Mg K (.ref C)=some (.type "type")):∀A∈["NoneType", "bool", "int", "str", "tuple", "list", "dict"],CS K (.type A) (.ref C)=some false:=λA h=>by
 have g:∀A,N3 K (.type A) (.ref C)=some false->CS K (.type A) (.ref C)=some false:=λA e=>by
  unfold CS PySem.W.kitCls;rw[qY (by simp)];dsimp only;rw[qX (by rw[j,l];rfl)];exact e
 refine g A ?_;simp only[A2,BY,or_false]at h
 rcases h with rfl | rfl | rfl | rfl | rfl | rfl | rfl <;> kernel_rfl
def gR(K:AJ):Sp:=λj H Q _=>∃(a:AW) (g:ZLi),j=[.ref a]/\UD K H a (g.map V.int)/\g.length<=63/\∀l,Q (.bl true) l
def jB{P}{w}{K}{g}{base}{k}{l}{fd}{f}(F:EZ P w K g base (CXG P w) k l fd ["script"] (spM K 1 f))
  (h:∀ns:ZLi,ns.length<=63->∃m,f [.fro (ns.map D.int)] []=.ok (.bl true) m):EZ P w K g base (CXG P w) k l fd ["script"] (gR K):=F.imp<|by
 rintro J H Q E ⟨a,ns,e,s,A,q⟩
 subst e;obtain⟨m,e⟩:=h ns A;refine⟨[],[.fro (ns.map D.int)],[],rfl,.cons (.fro s (A3.of_ints ns)) .nil,⟨rfl,λi j a B=>by simp at B,λn o a C=>by simp at C⟩,?_⟩;rw[e]
 exact λG I x _ _ r=>by cases r;exact q I
def sh{K:AJ}{H:Hp}{a:AW}{ns:ZLi}(g:oW H)(j:SqL K H a (ns.map V.int)):UD K H a (ns.map V.int):=by
 rcases j with(h | h) | h
 ·rcases g a with z | ⟨o,l,z⟩ <;> rw[z]at h <;> cases h
 ·exact .inl h
 ·exact .inr h
def S8{K}{C}{v}{b}(h:N4 K C v=some b):(FC K C).isSome=true:=by
 obtain⟨g,a,_⟩:=VP.mp h;rw[a];rfl
def tD(h:CXG P w [] H s (λ_ _ _=>False) e s'):False:=by
 obtain⟨_,_,_,_,_,_,_,_,_,z⟩:=h;exact z
def pN(I:Lo->Sto->Prop)(R:Fl->Sto->Prop)(f:Fl)(S:Sto):Prop:=match f with
 | .nx e=>I e S
 | .ct e=>I e S
 | .bk e=>R (.nx e) S
 | .rt d=>R (.rt d) S
 | .ex c e=>R (.ex c e) S
def nt(I:Nat->Lo->Sto->Prop)(R:Fl->Sto->Prop)(l:∀i e S,I i e S->v S=some xs)
  (step:∀i d e S,xs[i]?=some d->I i e S->∃e1 S1,g d e S=.ok e1 S1/\∃f S2,b e1 S1=.ok f S2/\pN (I (i+1)) R f S2)
  (fin:∀e S,I xs.length e S->R (.nx e) S):∀(k i:Nat) (e:Lo) (S:Sto),I i e S->i<=xs.length->xs.length<=i+k->∃f S',HP v g b k i e S=.ok f S'/\R f S':=by
 intro k
 induction k with
 | zero=>
  intro i e S h o s
  have:i=xs.length:=by lia
  subst this;refine⟨.nx e,S,?_,fin e S h⟩;unfold HP;rw[l _ e S h];simp
 | succ k m=>
  intro i e S h o s;unfold HP;rw[l _ e S h];dsimp only
  by_cases A:i < xs.length
  ·have hd:xs[i]?=some xs[i]:=by simp[A]
   rw[hd];dsimp only;obtain⟨e1,S1,B,f,S2,C,t⟩:=step i _ e S hd h;rw[B];dsimp only[Res.bind];rw[C];dsimp only[Res.bind]
   cases f with
   | nx j=>exact m (i+1) j S2 t (by lia) (by lia)
   | ct j=>exact m (i+1) j S2 t (by lia) (by lia)
   | bk j=>exact⟨_,_,rfl,t⟩
   | rt d=>exact⟨_,_,rfl,t⟩
   | ex c j=>exact⟨_,_,rfl,t⟩
  ·have:i=xs.length:=by lia
   subst this;rw[show xs[xs.length]?=none by simp];exact⟨.nx e,S,rfl,fin e S h⟩
def QJ(I:Nat->Lo->Sto->Prop)(R:Fl->Sto->Prop)(j:I 0 e S)(l:∀i e S,I i e S->v S=some xs)
  (step:∀i d e S,xs[i]?=some d->I i e S->∃e1 S1,g d e S=.ok e1 S1/\∃f S2,b e1 S1=.ok f S2/\pN (I (i+1)) R f S2)
  (fin:∀e S,I xs.length e S->R (.nx e) S):∃f S',HP v g b (DR v S) 0 e S=.ok f S'/\R f S':=by
 have m:DR v S=xs.length:=by unfold DR;rw[l 0 e S j]
 rw[m];exact nt I R l step fin _ _ _ _ j (Ce _) (by lia)
def jt(I:Nat->Lo->Sto->List D->Prop)(l:∀i e S j,I i e S j->v S=some xs)
  (step:∀i d e S j,xs[i]?=some d->I i e S j->j.length < sizeLine/\∃e1 S1,g d e S=.ok e1 S1/\∃b S2,c e1 S1=.ok b S2/\((b=true/\∃y S3,m e1 S2=.ok y S3/\I (i+1) e1 S3 (j++[y]))∨(b=false/\I (i+1) e1 S2 j))) :
  ∀(k i:Nat) (e:Lo) (S:Sto) (j:List D),I i e S j->i<=xs.length->xs.length<=i+k->∃r o,Gu v g c m k i e S j=.ok r o/\∃A,I xs.length A o r:=by
 intro k
 induction k with
 | zero=>
  intro i e S j h B C
  have:i=xs.length:=by lia
  subst this;refine⟨j,S,?_,e,h⟩;unfold Gu;rw[l _ e S j h];simp
 | succ k s=>
  intro i e S j h B C;unfold Gu;rw[l _ e S j h];dsimp only
  by_cases E:i < xs.length
  ·have hd:xs[i]?=some xs[i]:=by simp[E]
   rw[hd];dsimp only;obtain⟨G,e1,S1,H,b,S2,J,t⟩:=step i _ e S j hd h;rw[qX G,H];dsimp only[okR,Res.bind];rw[J];dsimp only[okR,Res.bind]
   rcases t with⟨rfl,y,S3,L,t⟩ | ⟨rfl,t⟩
   ·rw[qX rfl,L]
    exact s (i+1) e1 S3 _ t (by lia) (by lia)
   ·rw[qY AV]
    exact s (i+1) e1 S2 j t (by lia) (by lia)
  ·have:i=xs.length:=by lia
   subst this;rw[show xs[xs.length]?=none by simp];exact⟨j,S,rfl,e,h⟩
def WQ(I:Nat->Lo->Sto->List D->Prop)(l:I 0 e S [])(o:∀i e S j,I i e S j->v S=some xs)
  (step:∀i d e S j,xs[i]?=some d->I i e S j->j.length < sizeLine/\∃e1 S1,g d e S=.ok e1 S1/\∃b S2,c e1 S1=.ok b S2/\((b=true/\∃y S3,m e1 S2=.ok y S3/\I (i+1) e1 S3 (j++[y]))∨(b=false/\I (i+1) e1 S2 j))) :
  ∃r s,Gu v g c m (DR v S) 0 e S []=.ok r s/\∃A,I xs.length A s r:=by
 have B:DR v S=xs.length:=by unfold DR;rw[o 0 e S [] l]
 rw[B];exact jt I o step _ _ _ _ _ l (Ce _) (by lia)
def i9(h:-1000000<=j):-(2 ^ 62)<=j:=Int.le_trans (by decide) h
def jP{j:Int}(h:j<=1000000):j < 2 ^ 62:=KN h (by decide)
def ZS{ml:ML}{e:Lo}{S S1:Sto}{j:Int}(h:ml e S=.ok [.int j] S1)(g:-1000000<=j)(l:j<=1000000):iR1 ml e S=.ok (JV (Gb 0 j.toNat)) S1:=by
 unfold iR1;rw[h];dsimp only[Res.bind];rw[qX ⟨i9 g,jP l⟩]
def sP{ml:ML}{e:Lo}{S S1:Sto}{i j:Int}(h:ml e S=.ok [.int i,.int j] S1)(g:-1000000<=i)(l:i<=1000000)(m:-1000000<=j)(o:j<=1000000):iR2 ml e S=.ok (JV (Gb i (j - i).toNat)) S1:=by
 unfold iR2;rw[h];dsimp only[Res.bind];rw[qX ⟨i9 g,jP l,i9 m,jP o⟩]
def Uf(lo:Int)(n:Nat):(Gb lo n).length=n:=by simp[Gb]
def XS{lo:Int}{n i:Nat}{d:D}(h:(Gb lo n)[i]?=some d):i < n/\d=.int (lo+i):=by
 rw[Ug]at h;split at h
 ·rename_i g
  cases h;exact⟨g,rfl⟩
 ·cases h
def vG(h:-1000000<=j)(g:j<=1000000):YF i j:=.inr ⟨Pt (by decide) h,KN g (by decide)⟩
def nK(h:-1000000<=j)(g:j<=1000000):Q6 (.int i) (.int j) S=.ok (.int (i * j)) S:=by
 show(if YF i j then _ else _)=_;rw[qX (vG h g)]
def jh(h:0 < j)(g:j<=1000000):Jg (.int i) (.int j) S=.ok (.int (i / j)) S:=by
 show(if kC i j then _ else _)=_;rw[qX ⟨h,by lia⟩]
def aU(h:0 < j):Im (.int i) (.int j) S=.ok (.int (i % j)) S:=by
 show(if 0 < j then _ else _)=_;rw[qX h]
def EI(g:ma e S=.ok x S1)(hb:mb e S1=.ok y S2)(j:f x y S2=.ok d S3):m2 f ma mb e S=.ok d S3:=by
 unfold m2;rw[g];dsimp only[Res.bind];rw[hb];dsimp only[Res.bind];rw[j];rfl
def KP(h:m e S=.ok d S1):Bn i m e S=.ok (.nx (e.set i (some d))) S1:=by
 unfold Bn Lh;rw[h];rfl
def Li(h:m e S=.ok d S1):Dt m e S=.ok (.rt d) S1:=by
 unfold Dt;rw[h];rfl
def Gf(h:m e S=.ok d S1):C2 m e S=.ok (.nx e) S1:=by
 unfold C2;rw[h];rfl
def Qo(h:t e S=.ok c S1):sIf t a b e S=if c=true then a e S1 else b e S1:=by
 unfold sIf;rw[h];rfl
def NH(h:m e S=.ok v S1):Ex m g b e S=HP v g b (DR v S1) 0 e S1:=by
 unfold Ex;rw[h];rfl
def JK(h:m e S=.ok ds S1)(g:ds.length=n):Cd n f m e S=f ds S1:=by
 unfold Cd;rw[h];dsimp only[Res.bind];rw[qX g]
def Ch(h:a e S=.ok (.nx e1) S1):BF a b e S=b e1 S1:=by unfold BF;rw[h];rfl
def gm(h:a e S=.ok (.rt d) S1):BF a b e S=.ok (.rt d) S1:=by unfold BF;rw[h];rfl
def gq(h:a e S=.ok (.ex c e1) S1):BF a b e S=.ok (.ex c e1) S1:=by unfold BF;rw[h];rfl
def KU(h:mb (HB n ds) S=.ok (.rt d) S1):FA n mb ds S=.ok d S1:=by unfold FA;rw[h];rfl
def SB(h:mb (HB n ds) S=.ok (.nx e) S1):FA n mb ds S=.ok .non S1:=by unfold FA;rw[h];rfl
def qk(h:mb (HB n ds) S=.ok (.ex c e) S1):FA n mb ds S=.err c S1:=by unfold FA;rw[h];rfl
def Keeps(S g:Sto):Prop:=S.length<=g.length/\∀j,j < S.length->g[j]?=S[j]?
def Keeps.refl(S:Sto):Keeps S S:=⟨AL _,λ_ _=>rfl⟩
def Keeps.trans(a:Keeps S S1)(b:Keeps S1 S2):Keeps S S2:=⟨Ap a.1 b.1,λj h=>(b.2 j (Af h a.1)).trans (a.2 j h)⟩
def Keeps.app(S:Sto)(G:Sto):Keeps S (S++G):=⟨by simp,λj h=>Ab h⟩
def Keeps.set(a:Keeps S S1)(h:S.length<=m)(o:Ob):Keeps S (S1.set m o):=⟨by simpa using a.1,λj g=>by rw[Az (by lia)];exact a.2 j g⟩
def Keeps.at{S S1:Sto}(a:Keeps S S1){j:Nat}{o:Ob}(h:S[j]?=some o):S1[j]?=some o:=by
 rw[a.2 j (AC.mp h).1];exact h
def TM(g:mo e S=.ok (.ref n) S1)(j:S1[n]?=some (.lst xs))(l:ma e S1=.ok y S2)(m:S2[n]?=some (.lst xs2))(o:xs2.length < sizeLine) :
  K9 mo ma e S=.ok .non (S2.set n (.lst (xs2++[y]))):=by
 unfold K9;rw[g];dsimp only[Res.bind];rw[j];dsimp only;rw[l];dsimp only[Res.bind];rw[m];dsimp only;rw[qX o]
def dR(g:mo e S=.ok (.ref n) S1)(j:S1[n]?=some (.lst xs))(l:ma e S1=.ok (.ref k) S2)(m:S2[n]?=some (.lst xs2))(o:S2[k]?=some (.lst ys))(s:k≠n)(A:xs2.length+ys.length<=sizeLine) :
  Nn mo ma e S=.ok .non (S2.set n (.lst (xs2++ys))):=by
 unfold Nn;rw[g];dsimp only[Res.bind]
 have B:atL (.ref n) S1=some (n,xs):=by unfold atL;dsimp only;rw[j]
 have C:atL (.ref n) S2=some (n,xs2):=by unfold atL;dsimp only;rw[m]
 have E:atL (.ref k) S2=some (k,ys):=by unfold atL;dsimp only;rw[o]
 rw[B];dsimp only;rw[l];dsimp only[Res.bind];rw[C,E];dsimp only;rw[qX ⟨s,A⟩]
def lM(h:xs.length+ys.length<=sizeLine):E5 (.tup xs) (.tup ys) S=.ok (.tup (xs++ys)) S:=by
 unfold E5;dsimp only;rw[qX h]
def FD(h:S[n]?=some (.lst xs)):IU (.ref n) S=some xs:=by
 unfold IU Qd;dsimp only;rw[h]
def IY(h:m e S=.ok (.ref n) S1)(g:S1[n]?=some (.lst xs)):Ek m e S=.ok (IU (.ref n)) S1:=by
 unfold Ek;rw[h];dsimp only[Res.bind];rw[FD g]
def Si(h:m e S=.ok (.tup xs) S1):Ek m e S=.ok (JV xs) S1:=by
 unfold Ek;rw[h];rfl
def SO(h:ml e S=.ok ds S1):D4 ml e S=.ok (.ref S1.length) (S1++[.lst ds]):=by
 unfold D4;rw[h];rfl
def Dh(S:Sto)(o:Ob):(S++[o])[S.length]?=some o:=by simp
def Es(h:S[n]?=some (.lst ds)):Ht (.ref n) S=some ds:=by
 unfold Ht;dsimp only;rw[h]
def Ls(h:S[n]?=some (.lst ds)):Io (.ref n) S=some ds:=by
 unfold Io;dsimp only;rw[h]
def JO(h:m e S=.ok d S1)(hi:Io d S1=some ds)(g:Mu ds=some es):DM m e S=.ok (.ref S1.length) (S1++[.lst es]):=by
 unfold DM;rw[h];dsimp only[Res.bind];rw[hi];dsimp only;rw[g]
def Mr(h:m e S=.ok d S1)(g:Ht d S1=some ds):GJ m e S=.ok (.tup ds) S1:=by
 unfold GJ;rw[h];dsimp only[Res.bind];rw[g]
def WD(h:m e S=.ok d S1)(g:Ht d S1=some ds):G0 m e S=.ok (.int ds.length) S1:=by
 unfold G0;rw[h];dsimp only[Res.bind];rw[g]
def Vr(g:mv e S=.ok v S1)(ho:mo e S1=.ok (.ref n) S2)(j:S2[n]?=some (.ins C fs))(l:fs.length < 1000) :
  Uc C f mo mv e S=.ok (.nx e) (S2.set n (.ins C (Q2 f v fs))):=by
 unfold Uc;rw[g];dsimp only[Res.lift];rw[ho];dsimp only[Res.lift];rw[j];dsimp only;rw[qX ⟨rfl,l⟩]
def WM(h:m e S=.ok (.ref n) S1)(g:S1[n]?=some (.ins C fs))(j:fs.lookup f=some v):Lr C f m e S=.ok v S1:=by
 unfold Lr;rw[h];dsimp only[Res.bind];rw[g];dsimp only;rw[qX rfl,j]
def nO(h:ml e S=.ok ds S1)(g:ds.length+1=n)(j:f (.ref S1.length :: ds) (S1++[.ins C []])=.ok .non S2):SR C n f ml e S=.ok (.ref S1.length) S2:=by
 unfold SR;rw[h];dsimp only[Res.bind];rw[qX g,j]
def CU(h:m e S=.ok d S1)(g:r e S1=.ok ds S2):AX m r e S=.ok (d :: ds) S2:=by
 unfold AX;rw[h];dsimp only[Res.bind];rw[g]
def RY(h:mi e S=.ok v S1):Fe n mi g c m e S=Gu v g c m (DR v S1) 0 (Ak n none++e) S1 []:=by
 unfold Fe;rw[h];rfl
def TQ(h:m e S=.ok (.bl b) S1):mB m e S=.ok b S1:=by
 unfold mB;rw[h];rfl
def i6(j:ma e S=.ok x S1)(hb:mb e S1=.ok y S2)(l:f x y S2=.ok (.bl true) S3)(m:o e S3=.ok w s)(A:g y w s=.ok d S5):m3 f g ma mb o e S=.ok d S5:=by
 unfold m3;rw[j];dsimp only[Res.bind];rw[hb];dsimp only[Res.bind];rw[l];dsimp only[Res.bind,okR];rw[m];dsimp only[Res.bind];rw[A]
def vH(j:ma e S=.ok x S1)(hb:mb e S1=.ok y S2)(l:f x y S2=.ok (.bl false) S3):m3 f g ma mb m e S=.ok (.bl false) S3:=by
 unfold m3;rw[j];dsimp only[Res.bind];rw[hb];dsimp only[Res.bind];rw[l];rfl
def ZN(h:decide (i<=j)=b):leD (.int i) (.int j) S=.ok (.bl b) S:=by subst h;rfl
def i7(h:decide (i < j)=b):ltD (.int i) (.int j) S=.ok (.bl b) S:=by subst h;rfl
def sg(h:decide (j<=i)=b):geD (.int i) (.int j) S=.ok (.bl b) S:=by subst h;rfl
def sw(h:decide (i=j)=b):eqD false (.int i) (.int j) S=.ok (.bl b) S:=by
 subst h;show Res.ok (D.bl (i==j)) S=_;rfl
def WA(h:m e S=.ok b S1):OX m e S=.ok (!b) S1:=by
 unfold OX;rw[h];rfl
def lh(h:m e S=.err c S1):Bn i m e S=.ok (.ex c e) S1:=by
 unfold Bn Lh;rw[h];rfl
def gy(h:ml e S=.ok ds S1)(g:ds.length<=30):P5 C ml e S=.ok (.ex C e) S1:=by
 unfold P5;rw[h];dsimp only[Res.lift];rw[qX (Ap g (by decide))]
def qP(hb:b e S=.ok (.nx e1) S1):cK cs i b h e S=.ok (.nx e1) S1:=by
 unfold cK;rw[hb];rfl
def qQ(hb:b e S=.ok (.ex c e1) S1)(g:c∈cs)(j:h (e1.set i (some (.exc c))) S1=.ok (.nx e2) S2):cK cs i b h e S=.ok (.nx (e2.set i none)) S2:=by
 unfold cK;rw[hb];dsimp only[Res.bind];rw[qX g,j]
def Yw(h:ml e S=.ok ds S1)(g:ds.length<=1000):Hy ml e S=.ok (.tup ds) S1:=by
 unfold Hy;rw[h];dsimp only[Res.bind];rw[qX (Ap g (by decide))]
def jH(h:m e S=.ok (.exc C) S1)(hb:g C=some b):mIs j g m e S=.ok (.bl b) S1:=by
 unfold mIs;rw[h];dsimp only[Res.bind];rw[hb]
def rP(h:g e S=.ok true S1):mOr g j e S=.ok true S1:=by
 unfold mOr;rw[h];rfl
def ZD(h:g e S=.ok false S1):mOr g j e S=j e S1:=by
 unfold mOr;rw[h];rfl
def oQ(h:g e S=.ok true S1):Q7 g j e S=j e S1:=by
 unfold Q7;rw[h];rfl
def oP(h:g e S=.ok false S1):Q7 g j e S=.ok false S1:=by
 unfold Q7;rw[h];rfl
def oz(h:m e S=.ok d S1)(g:Ht d S1=some ds):Ka m e S=.ok ds S1:=by
 unfold Ka;rw[h];dsimp only[Res.bind];rw[g]
def cO(h:ml e S=.ok ds S1)(g:f ds S1=.ok d S2):mQ f ml e S=.ok d S2:=by
 unfold mQ;rw[h];dsimp only[Res.bind];rw[g];rfl
def SX(h:S[n]?=some (.lst ds)):WC (.ref n) S=some ds:=by
 unfold WC;dsimp only;rw[h]
def tCs(cs:List V):TA:=λ_ H Q=>Q cs H
section
variable{X:Cx}{E:EW}{e:Expr}{es:List Expr}{p pos p2:Pos}{x1:Nat}{m:ME}{Cs:List AW}{xh:AW->Option Bool}
def u0:PA X [] (tCs []):=GF
def mw(h:PE X e (tC c))(g:PA X es (tCs cs))(j:AQ (e :: es) X.env=(false,B1 e X.env) :: AQ es X.env:=by rfl):PA X (e :: es) (tCs (c :: cs)):=Du h g j
def rIsT(K:AJ)(Cs:List AW):List V->Hp->VK->Prop:=λj H Q=>
 ∃a o u C b g,j=[.ref a,.ref g]/\H a=some (.frz o u)/\UE o C/\XIs K C/\H g=some (.tup (Cs.map V.ref))/\Ep K (.ref C) (Cs.map A0)=some b/\Q (.bl b) H
def UU:∀{l:List AW} {g:List AI},Bx (l.map V.ref) g->g=l.map A0
 | [],_,.nil=>rfl
 | a :: l,_,.cons r t=>by rw[UU t,show _=A0 a from r];rfl
def jz:HX X (.builtin "isinstance") (rIsT X.K Cs):=by
 intro R s S H T U Q I r h;obtain⟨a,o,u,C,b,j,rfl,A,B,G,J,e,q⟩:=h;obtain⟨v,w,rfl,L,N⟩:=vals2 r;cases(show v=A0 a from L);cases(show w=A0 j from N);obtain⟨g,_⟩:=(show DG X.prog X.w H s.heap a (.frz o u)from I.hok a _ A);obtain⟨_,is,O,⟨Y,Z,dt,sl⟩,P,l,n,hd⟩:=(show DG X.prog X.w H s.heap j (.tup (Cs.map V.ref))from I.hok j _ J);dsimp only at l hd;subst l hd;rw[<-UU O]at e
 exact PySem.W.kia_tup (Xo G) I.kIn ⟨o,g,B⟩ P e (λz=>nomatch z) λtk=>⟨.bl b,H,I.tok tk,rfl,q⟩
def iu(xh:AW->Option Bool)(m:ME):ME:=λe S=>(m e S).bind λd g=>match d with
 | .exc C=>match xh C with
  | some b=>.ok (.bl b) g
  | none=>.bad
 | _=>.bad
def sY(B:∀C b,xh C=some b->XIs X.K C/\Ep X.K (.ref C) (Cs.map A0)=some b)(hz:Cs.length<=1000)
  (J:Gl X "isinstance") (j:X.mg "isinstance" = none) (h:GE X E e m) (s:PA X es (tCs (Cs.map V.ref)))
  (G:AQ [e,.Tuple es x1 p2] X.env=(false,B1 e X.env) :: AQ [.Tuple es x1 p2] X.env:=by rfl) (L:AQ [.Tuple es x1 p2] X.env=(false,B1 (.Tuple es x1 p2) X.env) :: AQ [] X.env:=by rfl) (N:(DH pos (AQ [.Tuple es x1 p2] X.env)).any (·.1)=false:=by rfl) :
  GE X E (.Call (.Name "isinstance" p) [e,.Tuple es x1 p2] [] pos) (iu xh m):=
 (Kz jz J j Oi (Du h (Du (iL s) GF L) G) (by decide) (by decide) G N).imp<|by
 rintro σ H Q ⟨O,l,S,P,R,j⟩
 refine⟨O,l,S,P,R,j.seq λd S1 j A H1 x T U Y=>⟨by rw[AG];exact Ap hz (by decide),λZ hp=>?_⟩⟩
 cases d with
 | exc C=>
  dsimp only at j
  cases hb:xh C with
  | none=>rw[hb]at j;exact j.elim
  | some b=>
   rw[hb]at j;obtain⟨s2,I⟩:=Fv (ho:=.tup (Cs.map V.ref)) U hp
   cases Y with
   | @exc _ a o u g xo=>
    exact⟨a,o,u,C,b,Z,rfl,I.frz _ _ _ g,xo,(B C b hb).1,Bi,(B C b hb).2,j A _ _ (T.trans I) s2 (.bl _)⟩
 | _=>exact j.elim
end
section
variable{X:Cx}{E:EW}{e:Expr}{p pos:Pos}{m:ME}
def Xl(m:ME):ME:=λe S=>(m e S).bind λd g=>match d with
 | .int i=>.ok (.int i) g
 | .bl k=>.ok (.int (if k then 1 else 0)) g
 | _=>.bad
def WK(G:Gl X "int") (g:X.mg "int" = none) (h:GE X E e m) (o:AQ [e] X.env=(false,B1 e X.env) :: AQ [] X.env:=by rfl):GE X E (.Call (.Name "int" p) [e] [] pos) (Xl m):=
 (P9 du G g wC (Du h GF o) (by decide) (by decide) o rfl).imp<|by
 rintro N H Q ⟨I,l,S,J,L,g⟩
 refine⟨I,l,S,J,L,g.seq λd O g j s x A B C=>?_⟩
 cases d <;> first | exact g.elim | skip
 ·cases C
  exact .inr ⟨_,rfl,g j s _ A B (.int _)⟩
 ·cases C
  exact .inl ⟨_,rfl,g j s _ A B (.int _)⟩
end
end L2
namespace PySem
open PySem.Sem (wp)
def M9(l:AW)(items:Array AI)(n:Nat)(B:Option AW)(sl:Array (Option AI)) :
  Meets (Builtin.«enumerate.__new__» ⟨[.type "enumerate",.ref l],[]⟩) (λ_ R s=>s.heap.get? l=some { cls:=.type "tuple",dict:=B,data:=.seq items n,slots:=sl } /\
   R (.ok (.ret (.ref (s.heap.push { cls:=.type "tuple_iterator",data:=.fields #[.ref l,.int 0 0] }).objs.size)))
    { s with heap:=(s.heap.push { cls:=.type "tuple_iterator",data:=.fields #[.ref l,.int 0 0] }).push { cls:=.type "enumerate",data:=.fields #[.none,.bool false,.ref s.heap.objs.size,Eo 0,.none,.none] } }):=
 .of_wp λo w A R s h=>by
  obtain⟨C,g,d,tk,os⟩:=s;obtain⟨j,h⟩:=h;have E:=sub_enumerate;have m:CZ.IsTuple (AM.heap ⟨C,g,d,tk,os⟩) l items:=⟨_,j,rfl,n,rfl⟩
  wp_walk using DP j
  refine wpAny_stack_any λst=>AE ?_
  split
  ·rename_i c _ _ _ _ _
   cases(c==DQ "enumerate")
   ·wp_walk using DP j,Df m
    exact⟨_,rfl,h⟩
   ·wp_walk using DP j,Df m
    exact⟨_,rfl,h⟩
  ·wp_walk using DP j,Df m
   exact⟨_,rfl,h⟩
section
variable{w:CQ}{A:B5}{E:AI->AM->Prop}{s:AM}
def NR(C:s.heap.IsTuple l g)
  (h:∀h',fF h' (s.heap.objs.size+1) s.heap.objs.size 0 .none->h'.IsTupleIter s.heap.objs.size l 0->h'.objs.size=s.heap.objs.size+2 ->
   (∀b o,s.heap.get? b=some o->h'.get? b=some o)->Q (.ref (s.heap.objs.size+1)) { s with heap:=h' }) :
  Ag (Ah prog w) A (call (.type "enumerate") [.ref l]) Q E s:=by
 obtain⟨⟨c,G,H,sl⟩,I,j,n,hd⟩:=C
 replace j:c=.type "tuple":=j
 replace hd:H=.seq g n:=hd
 subst j hd
 refine callType_new F.called_enumerate (by decide) (F.typeCall_enumerate_1 _) (F.newCall_enumerate_1 _) (λobj=>F.args_object_init_2 obj _) F.entry_enumerate_new
  (M9 l g n G sl) ⟨I,?_⟩
 have m:(s.heap.push { cls:=.type "tuple_iterator",data:=.fields #[.ref l,.int 0 0] }).objs.size=s.heap.objs.size+1:=B0 ..;show _/\_;rw[m]
 have B:fF ((s.heap.push { cls:=.type "tuple_iterator",data:=.fields #[.ref l,.int 0 0] }).push
   { cls:=.type "enumerate",data:=.fields #[.none,.bool false,.ref s.heap.objs.size,Eo 0,.none,.none] }) (s.heap.objs.size+1) s.heap.objs.size 0 .none:=by
  have:=AR (s.heap.push { cls:=.type "tuple_iterator",data:=.fields #[.ref l,.int 0 0] })
   (o:={ cls:=.type "enumerate",data:=.fields #[.none,.bool false,.ref s.heap.objs.size,Eo 0,.none,.none] }) rfl
  rw[m]at this;exact this
 refine⟨⟨_,B,rfl⟩,h _ B ⟨_,AF _ (AR _ rfl),rfl,rfl⟩ (by rw[B0,m]) λb o x=>AF _ (AF _ x)⟩
def O7{it t}{i}{g}{x}{Q}(j:s.heap.IsTupleIter it t i)
  (m:s.heap.IsTuple t g) (B:g[i]?=some x)
  (C:∀h',h'.IsTupleIter it t (i+1)->C8 it s.heap h'->Q x { s with heap:=h' }) :
  Ag (Ah prog w) A (E4 (.ref it)) Q E s:=by
 obtain⟨o,l,G,hd⟩:=id j;obtain⟨J,H,_,L,I⟩:=m;unfold E4
 refine AA (Bm (name:=D9 "__next__") j.typeIs GX
  (Bl GX j.typeIs Wm ?_ (VR _)))
 show Ag _ _ (field (.ref it) 0 >>= _) _ _ s;refine AA (Dp l hd (x:=.ref t) rfl ?_);show Ag _ _ (if (A0 t==BW)=true then _ else _) _ _ s;rw[qY (show ¬((A0 t==BW)=true)from AV)];show Ag _ _ (field (.ref it) 1 >>= _) _ _ s;refine AA (Dp l hd (x:=.int i 0) rfl ?_);show Ag _ _ (seqItems? (.ref t) >>= _) _ _ s;refine AA (Pj H I ?_);simp only[Ay,B];refine AA (Ea l hd (by simp) (AE ⟨x,rfl,AE (C _ ?_ (C9 ..))⟩))
 exact⟨_,Cg _ l (FZ (Cp hd _)),(LH ..).trans G,by
  rw[Cp hd];simp[Eo]⟩
def K7{it t}{i}{g}{Q}(B:A.handled=none)
  (j:s.heap.IsTupleIter it t i) (C:s.heap.IsTuple t g) (G:g[i]?=none)
  (H:∀h' e,OA it s.heap h'->(∃o,h'.get? e=some o/\o.cls=.type "StopIteration")->E (.ref e) { s with heap:=h' }) :
  Ag (Ah prog w) A (E4 (.ref it)) Q E s:=by
 obtain⟨o,l,L,hd⟩:=id j;obtain⟨N,I,_,O,J⟩:=C;unfold E4
 refine AA (Bm (name:=D9 "__next__") j.typeIs GX
  (Bl GX j.typeIs Wm ?_ (VR _)))
 show Ag _ _ (field (.ref it) 0 >>= _) _ _ s;refine AA (Dp l hd (x:=.ref t) rfl ?_);show Ag _ _ (if (A0 t==BW)=true then _ else _) _ _ s;rw[qY (show ¬((A0 t==BW)=true)from AV)];show Ag _ _ (field (.ref it) 1 >>= _) _ _ s;refine AA (Dp l hd (x:=.int i 0) rfl ?_);show Ag _ _ (seqItems? (.ref t) >>= _) _ _ s;refine AA (Pj I J ?_);simp only[Ay,G];refine AA (Hl (AA (Ea l hd (by simp) ?_)));show Ag _ _ (VH (.type "StopIteration") [] >>= _) _ _ _;refine AA ?_;simp only[VH,YV];refine AA (BQ ?_ (by size_fits));refine AA (m:=FI _ _) (MX (a:=BW) (by first | rfl | (simp only[FI];rfl)) ?_);refine BQ ?_ (by size_fits);simp only[kQ];refine AA (RA ?_)
 first | rw[show A.in1.handled=none from B] | rw[B]
 refine AA (AE (Wg ?_));exact H _ _ (((C9 ..).extBut.push _).push _) ⟨_,AR _ rfl,rfl⟩
def YD(H:A.handled=none)(it l:AW)(I:l≠it)(g:Array AI) :
  Draws prog w A it [it,l] g.size (λi v=>g[i]?=some v) (λi h=>h.IsTupleIter it l i/\h.IsTuple l g) where
 live:=λ_ _ st=>let ⟨o,m,_⟩:=st.1;⟨o,m⟩
 frame:=λ_ _ _ st B=>⟨st.1.at λo e=>B it (by simp) o e,let ⟨o,m,r⟩:=st.2;⟨o,B l (by simp) o m,r⟩⟩
 item:=λi s Q E C st J=>by
  refine O7 st.1 st.2 (x:=g[i]) (by simp[C]) λL j G=>?_
  exact J _ L s.toks (by simp[C]) ⟨j,st.2.extBut G.extBut I⟩ G
 done:=λs Q E st N=>K7 H st.1 st.2 (by simp) N
def Nz{e it l:AW}{i:Nat}{g:Array AI}{old:AI}{Q:Option AI->AM->Prop}(G:A.handled=none)
  (B:fF s.heap e it i old) (j:s.heap.IsTupleIter it l i) (H:s.heap.IsTuple l g) (I:g[i]?=none)
  (J:∀h',OA it s.heap h'->Q none { s with heap:=h' }):Ag (Ah prog w) A (G3 (.ref e)) Q E s:=by
 have C:s.TypeIs (.ref e) "enumerate":=⟨_,B,rfl⟩;unfold G3
 refine AA (EO (Bm (name:=D9 "__next__") C ee
  (Bl ee C F.entry_enumerate_next ?_ (F.args_enumerate_next_1 _))))
 show Ag _ _ (field (.ref e) 2 >>= _) _ _ _;refine AA (Dp B rfl (x:=.ref it) rfl ?_);refine AA (K7 G j H I λh' x L m=>?_);obtain⟨o,N,O⟩:=m;refine AA (JR (T:="StopIteration") (b:=true) ⟨o,N,O⟩ Pm ?_);exact AE (J _ L)
end
end PySem
namespace L2
def Inv.turned2(I:Inv X B G H s)(k:∀b u,b≠e->b≠it->s.heap.get? b=some u->h'.get? b=some u)
  (j:Of X B H e) (l:Of X B H it) (C:s.heap.objs.size<=a) (new:DG X.prog X.w (upd H a o) h' a o):Inv X B G (upd H a o) { s with heap:=h',toks:=t' }:=by
 have A:=I.hok.fresh C
 have E:∀b u,H b=some u->b≠e/\b≠it:=λb u q=>⟨λz=>(by rw[z,j.1]at q;cases q),λz=>(by rw[z,l.1]at q;cases q)⟩
 have out:∀b:AW,b∉[e,it]->b≠e/\b≠it:=λb hb=>⟨λz=>hb (by simp[z]),λz=>hb (by simp[z])⟩
 refine I.step (g':=s.gens) (d':=s.drawn) (ch:=[e,it]) (λb hb=>?_) (λb o _ _ g q _=>k b o (out b g).1 (out b g).2 q) (λb o _ _ g q _=>⟨o.slots,k b o (out b g).1 (out b g).2 q⟩) (λb o _ q n=>?_)
  (λb o g q=>⟨o,k b o (out b g).1 (out b g).2 q⟩) (λb J q=>by rw[Bk (B6 q A)];exact q) (λb o u q=>by rw[Bk (B6 q A)];exact q) (λb R q=>⟨#[],by rw[Bk (B6 q A),q];simp⟩) (λm L=>?_) (λb u q=>?_) I.bare
 ·have N:b=e∨b=it:=by simpa using hb
  rcases N with z | z
  ·subst z;exact⟨j.2.2.2.1,j.2.1,j.2.2.2.2.1,j.2.2.2.2.2⟩
  ·subst z;exact⟨l.2.2.2.1,l.2.1,l.2.2.2.2.1,l.2.2.2.2.2⟩
 ·rw[Bk (Al (Af (AZ q) C))];exact n
 ·obtain⟨o,O,P,Q,r⟩:=L
  exact⟨o,O,P,k _ o (CK j.2.1) (CK l.2.1) Q,r⟩
 ·by_cases hb:b=a
  ·subst hb;rw[Bi]at q;cases q;exact new
  ·rw[Bk hb]at q
   refine(I.hok b u q).stay (λc v g r=>?_) (λc r=>by rw[Bk (B6 r A)];exact r) λc J r=>by rw[Bk (B6 r A)];exact r
   have:c≠e/\c≠it:=by
    rcases g with z | z
    ·rw[z];exact E b u q
    ·exact E c _ z
   exact k c v this.1 this.2 r
def Ite(sq:Hp->List V->Prop):It:=
 ⟨λi H=>∃g x,sq H g/\g[i]?=some x,λi H y j=>∃p x,H p=none/\y=.ref p/\j=upd H p (.tup [.int i,x])/\∀g,sq H g->g[i]?=some x,λi H=>∃g,sq H g/\g.length<=i⟩
section
variable{P:Bq}{w:CQ}{K:AJ}{elts:List Expr}{x1:Nat}{pos:Pos}
def dY{X:Cx}{l:List (AW×Obj)}{B:St}{H:Hp}{s:AM}{E:AI->AM->Prop}{sq:Hp->List V->Prop}{e it:AW}{i:Nat}{x:V}{u:AI}{tk:Nat}{h':CZ}{tn:Nat->CZ->Prop}
  (I:Inv X l B H s) (wQ:e≠it) (C:∀b∈[e,it],Of X l H b) (le:e < s.heap.objs.size) (O:it < s.heap.objs.size) (Q:RelV x u) (R:∀xs,sq H xs->xs[i]?=some x)
  (ho:IsEnumOut h' e it ((i:Int)+1) u s.heap.objs.size) (G:h'.get? s.heap.objs.size=some { cls:=.type "tuple",data:=.seq #[.int i tk,u] }) (S:∀b o,b≠e->b≠it->s.heap.get? b=some o->h'.get? b=some o)
  (T:∀h2,C8 e h' h2->(∃old,fF h2 e it ((i+1:Nat):Int) old)->tn (i+1) h2) :
  Ag (Ah X.prog X.w) X.A (Oh (.Tuple elts x1 pos) (.ref e) (.ref s.heap.objs.size)) (λ_ J=>∃y m,Inv X l B m J/\RelV y (.ref s.heap.objs.size)/\(Ite sq).yld i H y m/\tn (i+1) J.heap/\∀b∈[e,it],m b=none) E { s with heap:=h',toks:=tk+1 }:=by
 have j:=C e (by simp);have L:=C it (by simp);have N:e≠s.heap.objs.size:=Al le;have U:it≠s.heap.objs.size:=Al O
 have new:DG X.prog X.w (upd H s.heap.objs.size (.tup [.int i,x])) h' s.heap.objs.size (.tup [.int i,x]):=
  ⟨⟨Ap (show 2<=1000 by decide) (by decide),_,G,rfl⟩,[.int i tk,u],.cons ⟨tk,rfl⟩ (.cons Q .nil),_,G,rfl,_,rfl⟩
 have Y:=I.turned2 (t':=tk+1) S j L (AL _) new
 refine wpAny_letOwnedTupleGo_enum (s:={ s with heap:=h',toks:=tk+1 }) ho λh2 Z xl=>?_
 have g:C8 e h' h2:=xl;have I2:=Y.turned (t':=tk+1) (h':=h2) (it:=e) (λb o hb q=>(g.2 b hb).trans q) (by rw[Bk N];exact j.1) j.2.1 j.2.2.2.1 j.2.2.2.2.1 j.2.2.2.2.2;refine⟨.ref s.heap.objs.size,_,I2,rfl,⟨s.heap.objs.size,x,I.hok.fresh (AL _),rfl,rfl,R⟩,T h2 g ⟨u,by rw[Int.natCast_add,Int.natCast_one];exact Z⟩,λb hb=>?_⟩
 have xn:b=e∨b=it:=by simpa using hb
 rcases xn with z | z
 ·rw[z,Bk N];exact j.1
 ·rw[z,Bk U];exact L.1
def Yv(a e it:AW)(B:e≠it)(G:a≠it)(J:e≠a):Zj P w K (.Tuple elts x1 pos) (Ite λH xs=>SqT K H a xs) [e,it] e (λi h=>(∃old,fF h e it i old)/\h.IsTupleIter it a i) where
 mem:=by simp
 obj:=λi h st b hb=>by
  have xn:b=e∨b=it:=by simpa using hb
  rcases xn with z | z
  ·subst z
   obtain⟨⟨old,g⟩,_⟩:=st
   exact⟨_,g,λv z=>by
    have z':uL _=Data.cell v:=z
    cases z'⟩
  ·subst z
   obtain⟨_,o,e,c,d⟩:=st;exact⟨o,e,λv z=>by rw[d]at z;cases z⟩
 keep:=λi h Y st k=>⟨st.1.imp λold g=>k e (by simp) _ g,st.2.at λo q=>k it (by simp) o q⟩
 item:=by
  intro X L hw N O i ζ s σ H E I Q st R;subst L hw N;obtain⟨xs,x,C,S⟩:=R;obtain⟨l,T,p,hz⟩:=I.tuple C;have p':s.heap.IsTuple a l.toArray:=p;obtain⟨u,Z,ru⟩:=T.get S
  have wb:i < l.toArray.size:=by
   have:=(AC.mp Z).1;simpa using this
  obtain⟨⟨old,g⟩,j⟩:=st
  have li:it < s.heap.objs.size:=by obtain⟨o,q,_⟩:=j;exact AZ q
  refine wpAny_pyNext_enum_itemD (YD (A:=X.A.in1) (I.ok.hd O) it a G l.toArray) g ⟨j,p'⟩ wb B (by simp[B,J]) λu' Y tk U ho Y' hT hsz hk=>?_
  have:u'=u:=by
   have m:l[i]?=some u':=by simpa using U
   rw[Z]at m;cases m;rfl
  subst this;exact⟨_,rfl,dY (sq:=λH xs=>SqT X.K H a xs) (tn:=λi h=>(∃old,fF h e it i old)/\h.IsTupleIter it a i) I B Q (AZ g) li ru (λys hy=>by rw[I.tuple_inj hy C];exact S) ho hT hk λh2 xl xX=>⟨xX,Y'.1.at λo q=>(xl.2 it (CK B)).trans q⟩⟩
 done:=by
  intro X L hw N O i ζ s σ H E I Q st R;subst L hw N;obtain⟨xs,C,S⟩:=R;obtain⟨l,T,p,hz⟩:=I.tuple C;obtain⟨⟨old,g⟩,j⟩:=st;obtain⟨f0,f1,f2,f3,f4,f5⟩:=Q it (by simp);have hl:=T.length
  exact Nz (I.ok.hd O) g j (show s.heap.IsTuple a l.toArray from p) (by simp;lia) λY eb=>⟨rfl,I.turned (t':=s.toks) (λb o hb e=>eb b o hb e) f0 f1 f3 f4 f5⟩
 self:=λ_ _ _ _ _ st h=>by
  obtain⟨⟨old,g⟩,_⟩:=st;exact tQ g h
end
section
variable{p:Pos}
noncomputable def QO(ds:List D):List D:=ds.zipIdx.map λx=>.tup [.int x.2,x.1]
def Z5(v:N1):N1:=λS=>(v S).map QO
def Sr(ds:List D)(i:Nat):(QO ds)[i]?=(ds[i]?).map λd=>.tup [.int i,d]:=by
 unfold QO;rw[Ao,Zw]
 cases ds[i]? <;> simp
def W1{K}{ρ}{H}{J}{v}{sq}(I:QR K ρ H J v)(L:∀i H,J.go i H->∃xs x,sq H xs/\xs[i]?=some x)(N:∀i H,J.stop i H->∃xs,sq H xs/\xs.length<=i)
  (O:∀i H x,(∀xs,sq H xs->xs[i]?=some x)->J.yld i H x H):QR K ρ H (Ite sq) (Z5 v):=by
 intro B j S ds i l s m;unfold Z5 at m
 cases hd:v S with
 | none=>rw[hd]at m;cases m
 | some g=>
  rw[hd]at m;cases m;obtain⟨P,Q⟩:=I B j S g i l s hd;refine⟨λC=>?_,λd o=>?_⟩
  ·rw[Sr]at C
   refine N i j (P ?_)
   cases A:g[i]? with
   | none=>rfl
   | some d=>rw[A]at C;cases C
  ·rw[Sr]at o
   cases A:g[i]? with
   | none=>rw[A]at o;cases o
   | some R=>
    rw[A]at o;cases o;obtain⟨T,U⟩:=Q R A;refine⟨L i j T,λy H' X=>?_⟩;obtain⟨p,x,Y,rfl,rfl,Z⟩:=X;obtain⟨E,l3,s3,r3⟩:=U x j (O i j x Z);obtain⟨s4,G⟩:=Fv (ho:=.tup [.int i,x]) s3 Y;exact⟨E,l3.trans G,s4,.tup Bi (.cons (.int _) (.cons (r3.mono G) .nil))⟩
end
def TC(f:Int->Int->Bool):ZLi->Option Int
 | []=>none
 | a :: r=>some (r.foldl (λm x=>if f x m=true then x else m) a)
def PY(f:Int->Int->Bool)(a:Int)(r:ZLi):∀k,k<=r.length->(a :: r).getD (Ii (λi j=>f ((a :: r).getD i 0) ((a :: r).getD j 0)) k) 0=(r.take k).foldl (λm x=>if f x m=true then x else m) a
 | 0,_=>by simp[Ii]
 | k+1,h=>by
  have o:=PY f a r k (by lia)
  have g:k < r.length:=by lia
  have s:r.take (k+1)=r.take k++[r[k]]:=by rw[Ks];simp[g]
  have l:(a :: r).getD (k+1) 0=r[k]:=by simp[g]
  rw[s,fC,<-o];show(a :: r).getD (if f ((a :: r).getD (k+1) 0) ((a :: r).getD (Ii (λi j=>f ((a :: r).getD i 0) ((a :: r).getD j 0)) k) 0)=true then k+1 else Ii (λi j=>f ((a :: r).getD i 0) ((a :: r).getD j 0)) k) 0=_;rw[l];show _=(if f r[k] _=true then r[k]else _);split
  ·exact l
  ·rfl
def TL(g:Nat->Nat->Bool):∀k,Ii g k<=k
 | 0=>AL _
 | k+1=>by
  show(if g (k+1) (Ii g k)=true then k+1 else Ii g k)<=k+1;have:=TL g k
  split <;> lia
def ltZ(x m:Int):Bool:=decide (x < m)
def gtZ(x m:Int):Bool:=decide (x > m)
def X8(f:Int->Int->Bool)(h:TC f ns=some b):0 < ns.length/\ns[Ii (λi j=>f (ns.getD i 0) (ns.getD j 0)) (ns.length - 1)]?=some b:=by
 cases ns with
 | nil=>cases h
 | cons a r=>
  cases h;refine⟨by simp,?_⟩;have e:=PY f a r r.length (AL _);rw[GU]at e;have l:=TL (λi j=>f ((a :: r).getD i 0) ((a :: r).getD j 0)) r.length;rw[<-e,show(a :: r).length - 1=r.length by simp]
  have g:Ii (λi j=>f ((a :: r).getD i 0) ((a :: r).getD j 0)) r.length < (a :: r).length:=by rw[A1];exact Nat.lt_succ_of_le l
  rw[Aj g,Bz,Aj g];rfl
def Hr{ns:ZLi}{g:List AI}(r:Bx (ns.map V.int) g){i:Nat}{v:AI}(h:g[i]?=some v):∃t,v=.int (ns.getD i 0) t:=by
 have j:i < ns.length:=by
  have:=(AC.mp h).1;have m:=r.length;rw[AG]at m
  lia
 obtain⟨u,l,o⟩:=r.get (i:=i) (x:=.int (ns.getD i 0)) (by rw[Ao,Aj j,Bz,Aj j];rfl);rw[h]at l;cases l;exact o
section
variable{X:Cx}
def gz(K:AJ)(f:Int->Int->Bool):List V->Hp->VK->Prop:=λj H Q=>∃a g b,j=[.ref a]/\(SqL K H a (g.map V.int)∨SqT K H a (g.map V.int))/\TC f g=some b/\Q (.int b) H
def RS{s:AM}{o:Obj}{h':CZ}(g:∀b u,b∉[s.heap.objs.size]->(s.heap.push o).get? b=some u->h'.get? b=some u):∀b u,s.heap.get? b=some u->h'.get? b=some u:=λb u e=>
 g b u (λj=>zX (AN.mp j▸AZ e) (Db _)) (AF _ e)
def az{s:AM}{o:Obj}{l:AW}(g:l < s.heap.objs.size):∀b∈[s.heap.objs.size,l],b < (s.heap.push o).objs.size:=λb hb=>by
 rw[B0]
 have j:b=s.heap.objs.size∨b=l:=by simpa using hb
 rcases j with rfl | rfl
 ·exact Cc _
 ·exact Dm g
def dk(S:X.calm=true):HX X (.builtin "min") (gz X.K ltZ):=by
 intro T s U H xs us Q I r h;obtain⟨a,m,b,rfl,sq,hb,q⟩:=h;obtain⟨u,rfl,Y⟩:=vals1 r;cases Y;obtain⟨J',P⟩:=X8 ltZ hb;have R:=I.ok.hd S
 have fin:∀(g:List AI) (v:AI) (B:CZ) (tk:Nat),Bx (m.map V.int) g->g.toArray[Ii (λi j=>decide (m.getD i 0 < m.getD j 0)) (g.toArray.size - 1)]?=some v->(∀b o,s.heap.get? b=some o->B.get? b=some o)->EP X T U Q v { s with heap:=B,toks:=tk }:=λg v B tk l C G=>by
  have E:=l.length;rw[AG]at E;rw[Yk,AT,<-E]at C;obtain⟨t,rfl⟩:=Hr l C;refine⟨.int b,H,I.kept G,⟨t,?_⟩,q⟩
  have e:m.getD (Ii (λi j=>decide (m.getD i 0 < m.getD j 0)) (m.length - 1)) 0=b:=by
   rw[Bz];unfold ltZ at P;rw[P];rfl
  rw[e]
 rcases sq with sq | sq
 ·obtain⟨g,l,J,Z⟩:=I.list sq
  have E:=l.length;rw[AG]at E
  have L:a < s.heap.objs.size:=by obtain⟨o,q,_⟩:=J.isList;exact AZ q
  refine call_min_walk (MW J.isList ?_);refine⟨_,_,_,_,_,_,_,rfl,bT (A:=X.A.in1) R _ a (Al L) g.toArray,⟨⟨_,AR _ rfl,rfl,rfl⟩,J.isList.push _⟩,az L,by rw[AT];lia,om (λi=>m.getD i 0) (λi v N=>Hr l (by simpa using N)),λv B tk C G=>fin g v B tk l C (RS G)⟩
 ·obtain⟨g,l,J,Z⟩:=I.tuple sq
  have E:=l.length;rw[AG]at E;have O:s.heap.IsTuple a g.toArray:=J
  have L:a < s.heap.objs.size:=by obtain⟨o,q,_⟩:=O;exact AZ q
  refine call_min_walk (Df O ?_);refine⟨_,_,_,_,_,_,_,rfl,RC (A:=X.A.in1) R _ a (Al L) g.toArray,⟨⟨_,AR _ rfl,rfl,rfl⟩,O.push _⟩,az L,by rw[AT];lia,om (λi=>m.getD i 0) (λi v N=>Hr l (by simpa using N)),λv B tk C G=>fin g v B tk l C (RS G)⟩
def dq(S:X.calm=true):HX X (.builtin "max") (gz X.K gtZ):=by
 intro T s U H xs us Q I r h;obtain⟨a,m,b,rfl,sq,hb,q⟩:=h;obtain⟨u,rfl,Y⟩:=vals1 r;cases Y;obtain⟨J',P⟩:=X8 gtZ hb;have R:=I.ok.hd S
 have fin:∀(g:List AI) (v:AI) (B:CZ) (tk:Nat),Bx (m.map V.int) g->g.toArray[Ii (λi j=>decide (m.getD i 0 > m.getD j 0)) (g.toArray.size - 1)]?=some v->(∀b o,s.heap.get? b=some o->B.get? b=some o)->EP X T U Q v { s with heap:=B,toks:=tk }:=λg v B tk l C G=>by
  have E:=l.length;rw[AG]at E;rw[Yk,AT,<-E]at C;obtain⟨t,rfl⟩:=Hr l C;refine⟨.int b,H,I.kept G,⟨t,?_⟩,q⟩
  have e:m.getD (Ii (λi j=>decide (m.getD i 0 > m.getD j 0)) (m.length - 1)) 0=b:=by
   rw[Bz];unfold gtZ at P;rw[P];rfl
  rw[e]
 rcases sq with sq | sq
 ·obtain⟨g,l,J,Z⟩:=I.list sq
  have E:=l.length;rw[AG]at E
  have L:a < s.heap.objs.size:=by obtain⟨o,q,_⟩:=J.isList;exact AZ q
  refine call_max_walk (MW J.isList ?_);refine⟨_,_,_,_,_,_,_,rfl,bT (A:=X.A.in1) R _ a (Al L) g.toArray,⟨⟨_,AR _ rfl,rfl,rfl⟩,J.isList.push _⟩,az L,by rw[AT];lia,oo (λi=>m.getD i 0) (λi v N=>Hr l (by simpa using N)),λv B tk C G=>fin g v B tk l C (RS G)⟩
 ·obtain⟨g,l,J,Z⟩:=I.tuple sq
  have E:=l.length;rw[AG]at E;have O:s.heap.IsTuple a g.toArray:=J
  have L:a < s.heap.objs.size:=by obtain⟨o,q,_⟩:=O;exact AZ q
  refine call_max_walk (Df O ?_);refine⟨_,_,_,_,_,_,_,rfl,RC (A:=X.A.in1) R _ a (Al L) g.toArray,⟨⟨_,AR _ rfl,rfl,rfl⟩,O.push _⟩,az L,by rw[AT];lia,oo (λi=>m.getD i 0) (λi v N=>Hr l (by simpa using N)),λv B tk C G=>fin g v B tk l C (RS G)⟩
def U5(f:Int->Int->Bool)(ds:List D)(S:Sto):Res D:=match Hj ds with
 | some g=>match TC f g with
  | some b=>.ok (.int b) S
  | none=>.bad
 | none=>.bad
def aI:oV X.K (gz X.K f) (U5 f):=λl H S A q B d C Q m j sq g k=>by
 unfold U5 at g;split at g
 ·rename_i o s
  split at g
  ·rename_i b hb
   cases g;rw[NC s]at j;rw[j.ints]at sq;exact⟨q,o,b,rfl,sq,hb,k l H _ .refl m (.int _)⟩
  ·cases g
 ·cases g
abbrev ij:=U5 ltZ
abbrev io:=U5 gtZ
def ng(g:X.calm=true)(j:Gl X "min") (l:X.mg "min" = none) (h:GE X E e m) (o:AQ [e] X.env=(false,B1 e X.env) :: AQ [] X.env:=by rfl):GE X E (.Call (.Name "min" p) [e] [] pos) (mQ ij (Ka m)):=
 PR (dk g) aI j l Rg (Uu h) (by decide) (by decide) o
def nh(g:X.calm=true)(j:Gl X "max") (l:X.mg "max" = none) (h:GE X E e m) (o:AQ [e] X.env=(false,B1 e X.env) :: AQ [] X.env:=by rfl):GE X E (.Call (.Name "max" p) [e] [] pos) (mQ io (Ka m)):=
 PR (dq g) aI j l Rh (Uu h) (by decide) (by decide) o
end
def Zg{g:Type}{xs:List g}{j:Int}{x:g}(l:0<=j)(h:xs[j.toNat]?=some x):atI xs j=some x:=by
 have m:=(AC.mp h).1;unfold atI ixN;rw[qX (by omega),qX (by lia)];simpa using h
def ah(hd:Ht d S=some ds)(g:0<=j)(h:ds[j.toNat]?=some z):ixA d (.int j) S=.ok z S:=by
 show HI (ixD d (.int j) S) _=_
 have:ixD d (.int j) S=.ok z S:=by
  unfold ixD;rw[hd];dsimp only;rw[Zg g h]
 rw[this];rfl
def sL(h:m e S=.ok (.exc C) S1)(hb:g C=some b):iu g m e S=.ok (.bl b) S1:=by
 unfold iu;rw[h];dsimp only[Res.bind];rw[hb]
def MH{P:AW->Prop}:∀C∈([]:List AW),P C:=λ_ h=>zX h BY
def all_cons{P:AW->Prop}{a:AW}{l:List AW}(h:P a)(t:∀C∈l,P C):∀C∈a :: l,P C:=λC g=>by
 rcases A2.mp g with e | g
 ·rw[e];exact h
 ·exact t C g
def Yy{P:AW->Bool->Prop}{al ex:List AW}(g:∀C∈al,P C true)(j:∀C∈ex,C∉al->P C false)(C:AW)(b:Bool)(e:(if C∈al then some true else if C∈ex then some false else none)=some b):P C b:=by
 split at e
 ·cases e;exact g C ‹_›
 ·split at e
  ·cases e;exact j C ‹_› ‹_›
  ·cases e
def j8{K:AJ}{v:AI}:Ep K v []=some false:=by simp only[Ep]
def Wa{K:AJ}{v t:AI}{ts:List AI}(h:CS K v t=some false):Ep K v (t :: ts)=Ep K v ts:=by simp only[Ep,h]
def vL{g:Type}:∀{l:List g},l.length=1->∃j,l=[j]
 | [a],_=>⟨a,rfl⟩
def vK{j:Type}:∀{l:List j},l.length=2->∃m g,l=[m,g]
 | y :: _,q=>by
  obtain⟨g,rfl⟩:=vL (LJ q);exact⟨y,g,rfl⟩
def vJ{m:Type}:∀{l:List m},l.length=3->∃o g j,l=[o,g,j]
 | y :: _,q=>by
  obtain⟨g,j,rfl⟩:=vK (LJ q);exact⟨y,g,j,rfl⟩
def len4{o:Type}:∀{l:List o},l.length=4->∃s g j m,l=[s,g,j,m]
 | y :: _,q=>by
  obtain⟨g,j,m,rfl⟩:=vJ (LJ q);exact⟨y,g,j,m,rfl⟩
def len5{s:Type}:∀{l:List s},l.length=5->∃A g j m o,l=[A,g,j,m,o]
 | y :: _,q=>by
  obtain⟨g,j,m,o,rfl⟩:=len4 (LJ q);exact⟨y,g,j,m,o,rfl⟩
section
noncomputable def M2(lo:Int)(n:Nat):List V:=(Bs n).map λk:Nat=>V.int (lo+k)
def XR{lo}:∀{n:Nat} {g:List AI},g.length=n->(∀(k:Nat) v,g[k]?=some v->∃t,v=.int (lo+k) t)->Bx (M2 lo n) g
 | 0,g,j,_=>by
  have:g=[]:=Iq j;subst this;exact .nil
 | n+1,g,j,h=>by
  cases g with
  | nil=>cases j
  | cons v r=>
   have l:r.length=n:=LJ j;obtain⟨t,e⟩:=h 0 v rfl
   have m:=XR (lo:=lo+1) l λk v o=>by
    obtain⟨t,e⟩:=h (k+1) v o;exact⟨t,by rw[e];congr 1;lia⟩
   have s:M2 lo (n+1)=.int lo :: M2 (lo+1) n:=by
    unfold M2;rw[YL,A4,BV]
    congr 1
    ·congr 1;lia
    ·apply Cy
     intro k _;show V.int (lo+((k+1:Nat):Int))=V.int (lo+1+k)
     congr 1
     lia
   rw[s];refine .cons ⟨t,?_⟩ m;rw[e]
   congr 1
   lia
def ln{K}{ρ}{H}(lo:Int)(n:Nat):A3 K ρ H (Gb lo n) (M2 lo n):=by
 unfold Gb M2
 induction Bs n with
 | nil=>exact .nil
 | cons k r g=>exact .cons (.int _) g
end
section
def XV{K}{ρ}{H}:∀{ns:ZLi} {g:List V},A3 K ρ H (ns.map D.int) g->g=ns.map V.int
 | [],_,.nil=>rfl
 | n :: ns,_,.cons r t=>by
  cases r;rw[XV t];rfl
end
section
def lQ(l:TA):TE:=λm H Q=>l m H λo g=>∃j:Int,o=[.int j]/\(-1000000<=j/\j<=1000000)/\∀q,g q=none->Q (.ref q) (upd g q (.lst (M2 0 (j - 0).toNat)))
def cV(L:X.calm=true)(N:Gl X "list") (O:X.mg "list" = none) (P:Gl X "range") (R:X.mg "range" = none) (S:PA X [a] T)
  (U:AQ [a] X.env=[(false,B1 a X.env)]:=by rfl)
  (C:AQ [.Call (.Name "range" m) [a] [] l] X.env=(false,B1 (.Call (.Name "range" m) [a] [] l) X.env) :: AQ [] X.env:=by rfl) :
  PE X (.Call (.Name "list" p) [.Call (.Name "range" m) [a] [] l] [] pos) (lQ T):=by
 intro Y s Z H Q I hq;refine Eb (Kc I N O RD ?_ (by decide) (by decide));refine CT ?_ C rfl;rw[C];show Ag _ _ (ez ((false,B1 (.Call (.Name "range" m) [a] [] l) X.env) :: DH pos (AQ [] X.env))) _ _ s;refine Jr ?_;refine Call_ (Kc I P R pV (CT (thn (S l Y s Z H _ I hq) λus A ⟨vs,H1,E,r1,q1⟩=>?_) U rfl));obtain⟨j,e,⟨b3,b4⟩,q⟩:=q1;subst e
 cases r1 with
 | cons r rr=>
  cases rr;obtain⟨t,rfl⟩:=r;refine call_range_1 ?_;refine Kn ?_
  have hn:Qa 0 j 1=((j - 0).toNat:Nat):=by rw[rangeSize_one];split <;> lia
  refine call_list_range (I.ok.hd L) (oj ..) (small_one (i9 (by lia)) (jP (by lia)) (i9 b3) (jP b4)) hn (Ap (show(j - 0).toNat<=2000000 by lia) (by decide)) λh' tk g c' hk hS B=>?_
  have k:∀b o,A.heap.get? b=some o->h'.get? b=some o:=λb o e=>hk b o (AF _ e)
  have G:Bx (M2 0 (j - 0).toNat) g.toList:=XR (by have:=B.1;simpa using this) λk v hv=>by
   obtain⟨t,e⟩:=B.2 k v (by simpa using hv);exact⟨t,by rw[e];congr 1;lia⟩
  have hl:(M2 0 (j - 0).toNat).length<=sizeLine:=by
   rw[G.length,show g.toList.length=(j - 0).toNat by have:=B.1;simpa using this];exact Ap (show(j - 0).toNat<=2000000 by lia) (by decide)
  have J:∀o,A.heap.objs.size<=(A.heap.push o).objs.size:=λo=>by rw[B0];exact F9 _
  refine⟨.ref _,upd H1 _ (.lst (M2 0 (j - 0).toNat)),E.laid (t':=tk) k (J _) ?_,rfl,q _ (E.hok.fresh (J _))⟩;exact⟨hl,g.toList,c',G,by simpa using hS⟩
def Nm(ml:ML):ML:=λe S=>(ml e S).bind λg l=>match g with
 | [.int j]=>if -1000000<=j/\j<=1000000 then .ok (Gb 0 (j - 0).toNat) l else .bad
 | _=>.bad
def Uv(G:X.calm=true)(I:Gl X "list") (g:X.mg "list" = none) (J:Gl X "range") (L:X.mg "range" = none) (N:GA X E [a] ml)
  (m:AQ [a] X.env=[(false,B1 a X.env)]:=by rfl)
  (O:AQ [.Call (.Name "range" A) [a] [] B] X.env=(false,B1 (.Call (.Name "range" A) [a] [] B) X.env) :: AQ [] X.env:=by rfl) :
  GL X E (.Call (.Name "list" p) [.Call (.Name "range" A) [a] [] B] [] pos) (Nm ml):=(cV G I g J L N m O).imp<|by
 rintro σ H Q ⟨P,l,S,R,m,g⟩
 refine⟨P,l,S,R,m,g.seq λds S1 g T H1 xs C o U=>?_⟩;split at g
 ·rename_i j
  split at g
  ·rename_i hb
   cases U with
   | cons r Y=>
    cases Y;cases r;refine⟨j,rfl,hb,λq s=>?_⟩;obtain⟨Z,l4⟩:=Fv (ho:=.lst (M2 0 (j - 0).toNat)) o s;exact g _ _ q _ (C.trans l4) Z (ln _ _) Bi (λn z=>o.notIn s z) (C.back m o s)
  ·exact g.elim
 ·exact g.elim
end
def SU(mk mv:ME):ME:=λe S=>(mk e (S++[.dK []])).bind λx j=>(mv e j).bind λy g=>match g[S.length]?,dB x with
 | some (.dK []),some k=>.ok (.ref S.length) (g.set S.length (.dK (Gz [] k y)))
 | _,_=>.bad
section
def jY(hk:GE X E k mk)(hv:GE X E v mv):GE X E (.Dict [some k] [v] pos) (SU mk mv):=
 (md (iE hk hv mO) rfl rfl (by simp) (by simp)).imp<|by
 rintro σ H Q ⟨O,l,S,P,hs,g⟩ p hp
 obtain⟨s0,B,I⟩:=hs.alloc (ho:=.dK []) (o:=.dK []) hp ⟨[],Bi,.nil⟩;refine⟨O++[p],l,S++[.dK []],P.mono B,s0,(g.later B).seq λx S1 g J H1 u s s1 r1=>⟨J,l,S1,P.mono (B.trans s),s1,(g.later s).seq λy S2 g j C w G R r2=>?_⟩⟩;have T:CB X.K (O++[p]) (upd H p (.dK [])) (.ref S.length) (.ref p):=.ref I;have L:=T.mono (s.trans G)
 show C p=some (.dK [])/\∃m:List (Key×V),[(u,w)]=m.map (λU=>(kV U.1,U.2))/\m.length<=15/\Q (.ref p) (upd C p (.dK (KY [] m)))
 split at g
 ·rename_i A h4 xf
  cases L with
  | @ref _ a N=>
   obtain⟨Y,e,r⟩:=R.ob S.length _ _ h4 N;cases r;rw[PJ (r1.mono G) xf];have le:Le X.K j C j (upd C p (.dK (Il [] A w))):=Le.write N (by rw[e];trivial);obtain⟨s5,Z⟩:=R.write (ho:=.dK (Il [] A w)) (o:=.dK (Gz [] A y)) N ⟨_,Bi,(KVR.put A r2 .nil).mono le⟩ le;exact⟨e,[(A,w)],rfl,by simp,g j _ _ (B.trans (s.trans (G.trans Z))) s5 ((T.mono (s.trans G)).mono Z)⟩
 ·exact g.elim
end
end L2
namespace PySem
open AutoSeq1 in
def OY(l:AW)(j:Array AI)(n:Nat)(b:AW)(m:Array AI)(E:Nat)(G:Option AW)(sl:Array (Option AI))(H:¬(!j.isEmpty&&DL (j.size+m.size))=true)(I:j.size<=sizeLine)(J:j.size+m.size<=sizeLine+1) :
  Meets (Builtin.«list.extend» ⟨[.ref l,.ref b],[]⟩) (λ_ R s=>s.heap.get? l=some { cls:=.type "list",dict:=none,data:=.seq j n,slots:=#[] }/\s.heap.get? b=some { cls:=.type "tuple",dict:=G,data:=.seq m E,slots:=sl }/\R (.ok (.ret BW)) { s with heap:=s.heap.update l (EJ λx=>x++m),toks:=s.toks }):=
 .of_wp λB w A R s h=>by
  obtain⟨L,g,d,tk,os⟩:=s;obtain⟨C,hb,h⟩:=h;have N:=idx_int;have O:=AutoSeq1.sub_tuple_tuple;have P:=AutoSeq1.sub_list_list;have Q:=AutoSeq1.sub_tuple_list;have S:=AutoSeq1.sub_list_tuple;
  have o:(j++m).size<=sizeLine+1:=by rw[Array.size_append];exact J
  wp_walk using(Wo C rfl (hz:=I) (_hz':=o)),DP C,DP hb;exact⟨_,rfl,h⟩
end PySem
namespace L2
def uo(K:AJ):V->List V->Hp->VK->Prop:=λx m H Q=>∃l b g j,x=.ref l/\m=[.ref b]/\H l=some (.lst g)/\SqT K H b j/\g.length+j.length<=sizeLine/\Q .non (upd H l (.lst (g++j)))
def nL:MtM X "list.extend" (uo X.K):=by
 intro R s S H x T v U Q I C E h;obtain⟨l,b,Y,Z,rfl,rfl,A,G,hz,q⟩:=h;cases C;obtain⟨u,rfl,J⟩:=E.one;cases J;obtain⟨z,g,n,r,hl,e⟩:=I.lstM A;obtain⟨j,B,⟨⟨c,L,N,sl⟩,O,m,n2,hd⟩,z2⟩:=I.tuple G
 replace m:c=.type "tuple":=m
 replace hd:N=.seq j.toArray n2:=hd
 subst m hd;have yW:=B.length
 have o:g.toArray.size+j.toArray.size<=sizeLine:=by rw[AT,AT];lia
 have P:¬(!g.toArray.isEmpty&&DL (g.toArray.size+j.toArray.size))=true:=by
  rw[SM o,UP];exact AV
 refine OL kc ⟨_,e,rfl⟩ kK (fG _ _)
  (OY l g.toArray n b j.toArray n2 L sl P (by rw[AT];lia) (by lia)) ⟨e,O,?_⟩
 refine⟨.non,_,I.lset (its':=g++j) A e (by simp) (r.append B) ?_,rfl,q⟩;rw[AK];omega
def SS(mo ma:ME):ME:=λe S=>(mo e S).bind λd g=>match atL d g with
 | some (n,_)=>(ma e g).bind λy j=>match atL d j,y with
  | some (_,l),.tup m=>if l.length+m.length<=sizeLine then .ok .non (j.set n (.lst (l++m)))else .bad
  | _,_=>.bad
 | none=>.bad
section
def av(ho:GE X E o mo)(Y:GE X E e ma)(Z:E3 o "extend" X.env (B1 o X.env)=B1 o X.env:=by rfl)
  (xO:((DH g (AQ [e] X.env)).all (λx=>!x.1)&&(Te g (MZ [] X.env)).all (λx=>x.1.isSome)
    &&decide ([e].length+([]:List Jn).length+(if ([]:List Jn).isEmpty then 0 else 1) < 30))=true:=by rfl)
  (wW:(m.endLine==g.line)=true:=by rfl) (s:AQ [e] X.env=(false,B1 e X.env) :: AQ [] X.env:=by rfl) (wx:(DH g (AQ [] X.env)).any (·.1)=false:=by rfl) :
  GE X E (.Call (.Attribute o "extend" m) [e] [] g) (SS mo ma):=(aQ Gn Th Tg nL ho (Du Y GF s) Z xO wW s wx).imp<|by
 rintro σ H Q ⟨ρ,l,S,I,s,j⟩
 refine⟨ρ,l,S,I,s,j.seq λd J j A H1 v B L N=>?_⟩
 cases C:atL d J with
 | none=>rw[C]at j;exact j.elim
 | some z=>
  obtain⟨n,xs0⟩:=z;rw[C]at j;dsimp only at j;obtain⟨rfl,h0,a,Ω,rfl,hn,e0,_⟩:=NX L N C;refine⟨.inl ⟨rfl,Ω,.inl (.inl e0)⟩,A,l,J,I.mono B,L,(j.later B).seq λy S2 j G H2 u O P r2=>?_⟩;split at j
  ·rename_i n' xs ys h2
   split at j
   ·rename_i hz
    obtain⟨e',h4,a',vs,ea,wK,R,T⟩:=NX P (N.mono O) h2;cases e';cases ea
    cases r2 with
    | tup b1 U=>
     obtain⟨s3,l3⟩:=RP P wK R (T.append U);exact⟨a,_,vs,_,rfl,rfl,R,.inl (.inl b1),by rw[<-T.length,<-U.length];exact hz,j G _ _ (B.trans (O.trans l3)) s3 .non⟩
   ·exact j.elim
  ·exact j.elim
end
def uX(o ty:TE):TE:=λl H Q=>o l H λx m=>∃a,x=.ref a/\IsD m a/\ty l m λy j=>∃b g more,y=.ref b/\a≠b/\j a=some (.dK g)/\j b=some (.dK more)/\g.length+more.length<=sizeLine/\Q .non (upd j a (.dK (KY g more)))
section
def mZ(ho:PE X o U)(Y:PE X e ty)(m:M1 X o "update" g e j):PE X (.Call (.Attribute o "update" g) [e] [] j) (uX U ty):=by
 intro L s N H Q I h;refine wpAny_Call_method m.base m.few m.line PySem.F.plainAttrs_dict Ti PySem.F.type_dict_update (thn (ho L s N H _ I h) λu Z ⟨x,H1,O,rx,a,ex,d,q1⟩=>?_);subst ex;obtain rfl:u=A0 a:=rx;obtain⟨t1,t2,_⟩:=sO O d;refine⟨t1,t2,?_⟩;rw[m.trees];refine Ww rfl (Nx (Jr (thn (Y L Z N H1 _ O q1) λiv s2 ⟨y,H2,A,ry,b,B,more,ey,yc,P,eb,R,q2⟩=>Kn ?_)));subst ey;cases(show iv=A0 b from ry);obtain⟨za,C,E,S,l⟩:=bE A.hok P;obtain⟨zb,xg,G,T,J⟩:=bE A.hok eb;refine call_meetsIn Ti l.typeIs PySem.F.entry_dict_update (PySem.F.args_dict_update_2 _ _) (meets_dict_update (ED X.prog X.w) a b yc xg) ⟨E,G,l,J,by rw[<-S.length,<-T.length];exact R,λh' d1 _ hs=>⟨.non,_,?_,rfl,q2⟩⟩
 have zq:∃q,h'.get? a=some q:=let ⟨q,_,_,hq,_⟩:=d1;⟨q,hq⟩
 exact RX A (by rw[P];exact DT) hs zq (Za (Ap (Kb more B) R) C (T.merge S) d1)
end
def QC{j:Type}(kvs more:List (Key×j)):List (Key×j):=more.foldl (λg l=>Gz g l.1 l.2) kvs
def KVR.merge{K}{ρ}{H}:∀{more:List (Key×D)} {j:List (Key×V)} {kvs:List (Key×D)} {kvs':List (Key×V)},KVR K ρ H more j->KVR K ρ H kvs kvs'->KVR K ρ H (QC kvs more) (KY kvs' j)
 | _,_,_,_,.nil,q=>q
 | (g,a) :: x,(g',b) :: y,kvs,kvs',.cons r t,q=>by
  have e:g=g':=r.1;subst e;exact KVR.merge (kvs:=Gz kvs g a) (kvs':=Il kvs' g b) t (KVR.put g r.2 q)
def Um(mo ma:ME):ME:=λe S=>(mo e S).bind λx l=>match x with
 | .ref n=>match l[n]? with
  | some (.dK _)=>(ma e l).bind λy j=>match y with
   | .ref m=>match j[n]?,j[m]? with
    | some (.dK g),some (.dK more)=>if n≠m/\g.length+more.length<=sizeLine then .ok .non (j.set n (.dK (QC g more)))else .bad
    | _,_=>.bad
   | _=>.bad
  | _=>.bad
 | _=>.bad
section
def nk(ho:GE X E o mo)(ha:GE X E e ma)(m:M1 X o "update" A e cpos:=by exact⟨rfl,rfl,rfl,rfl⟩):GE X E (.Call (.Attribute o "update" A) [e] [] cpos) (Um mo ma):=(mZ ho ha m).imp<|by
 rintro σ H Q ⟨ρ,l,S,R,hs,g⟩
 refine⟨ρ,l,S,R,hs,g.seq λx S1 g I H1 u J T r1=>?_⟩;split at g
 ·rename_i n
  split at g
  ·rename_i kv0 h1
   cases r1 with
   | @ref _ a U=>
    obtain⟨B,e0,_⟩:=T.ob n _ _ h1 U;refine⟨a,rfl,.inl ⟨B,.inl e0⟩,I,l,S1,R.mono J,T,(g.later J).seq λy S2 g s L v Y C r2=>?_⟩;split at g
    ·rename_i m
     split at g
     ·rename_i N more h2 h3
      split at g
      ·rename_i Z
       have O:CB X.K s L (.ref n) (.ref a):=(CB.ref U).mono Y
       cases O with
       | @ref _ _ G=>
        cases r2 with
        | @ref _ b w5=>
         obtain⟨j,ea,ra⟩:=C.ob n _ _ h2 G;obtain⟨P,eb,rb⟩:=C.ob m _ _ h3 w5;have le:Le X.K s L s (upd L a (.dK (KY j P))):=Le.write G (by rw[ea];trivial);obtain⟨s5,l5⟩:=C.write (ho:=.dK (KY j P)) (o:=.dK (QC N more)) G ⟨_,Bi,(KVR.merge rb ra).mono le⟩ le;exact⟨b,j,P,rfl,λz=>Z.1 (C.nd n m a G (z▸w5)),ea,eb,by rw[<-KVR.length ra,<-KVR.length rb];exact Z.2,g s _ _ (J.trans (Y.trans l5)) s5 .non⟩
      ·exact g.elim
     ·exact g.elim
    ·exact g.elim
  ·exact g.elim
 ·exact g.elim
end
def rIns:V->List V->Hp->VK->Prop:=λx j H Q=>∃l g i y,x=.ref l/\j=[.int i,y]/\H l=some (.lst g)/\0<=i/\i < 2 ^ 63/\g.length+1<=sizeLine/\Q .non (upd H l (.lst (g.take i.toNat++[y]++g.drop i.toNat)))
section
def ck:MtM X "list.insert" rIns:=by
 intro G s J H x L v N Q I m o h;obtain⟨l,O,i,y,rfl,rfl,j,P,A,R,q⟩:=h;cases m;obtain⟨u,w,rfl,B,C⟩:=vals2 o;obtain⟨t,rfl⟩:=B;obtain⟨z,g,n,r,S,e⟩:=I.lstM j
 have E:¬(!Builtin.List.listFitsIndex i)=true:=by
  rw[fitsIndex_both (by lia) A];exact AV
 refine OL F.slot_list_insert ⟨_,e,rfl⟩ F.entry_list_insert (F.args_list_insert_3 _ _ _)
  (AutoListH.list_insert_list_int_val_1 l g.toArray n i t w E (by rw[AT];lia)) ⟨e,?_⟩
 refine⟨.non,_,I.lset (its':=g.take i.toNat++[w]++g.drop i.toNat) j e ?_ (((r.take _).append (.cons C .nil)).append (r.drop _)) ?_,rfl,q⟩
 ·show(g.toArray.extract 0 (if i < 0 then(i+((g.toArray.size:Nat):Int)).toNat else min i.toNat g.toArray.size)).push w++g.toArray.extract (if i < 0 then(i+((g.toArray.size:Nat):Int)).toNat else min i.toNat g.toArray.size)=_
  rw[qY (by lia)]
  apply uQ
  rw[AT]
  by_cases c:i.toNat<=g.length
  ·rw[JS c]
   simp;rw[Br (by rw[Ca];lia)]
  ·rw[Ri (by lia),Br (by lia),List.drop_of_length_le (by lia)]
   simp
 ·simp only[AK,Be,Ca,Ai]
  omega
end
def iw(mo mi m:ME):ME:=λe S=>(mo e S).bind λd j=>match atL d j with
 | some (n,_)=>(mi e j).bind λx o=>(m e o).bind λy l=>match atL d l,x with
  | some (_,g),.int i=>if 0<=i/\i < 1000000/\g.length+1<=sizeLine then .ok .non (l.set n (.lst (g.take i.toNat++[y]++g.drop i.toNat)))else .bad
  | _,_=>.bad
 | none=>.bad
def A3.drop'{K}{ρ}{H}:∀{ds:List D} {g:List V},A3 K ρ H ds g->∀k,A3 K ρ H (ds.drop k) (g.drop k)
 | _,_,.nil,k=>by rw[pd,pd];exact .nil
 | _,_,.cons r t,k=>by
  cases k with
  | zero=>exact .cons r t
  | succ k=>exact A3.drop' t k
section
def sZ(ho:GE X E o mo)(he:GE X E e mi)(hf:GE X E f my)(wV:E3 o "insert" X.env (B1 o X.env)=B1 o X.env:=by rfl)
  (xO:((DH g (AQ [e,f] X.env)).all (λx=>!x.1)&&(Te g (MZ [] X.env)).all (λx=>x.1.isSome)
    &&decide ([e,f].length+([]:List Jn).length+(if ([]:List Jn).isEmpty then 0 else 1) < 30))=true:=by rfl)
  (wW:(m.endLine==g.line)=true:=by rfl) (A:AQ [e,f] X.env=(false,B1 e X.env) :: AQ [f] X.env:=by rfl) (xl:AQ [f] X.env=(false,B1 f X.env) :: AQ [] X.env:=by rfl) (wx:(DH g (AQ [f] X.env)).any (·.1)=false:=by rfl) :
  GE X E (.Call (.Attribute o "insert" m) [e,f] [] g) (iw mo mi my):=(aQ Gn PySem.F.slot_list_insert PySem.F.type_list_insert ck ho (Du he (Du hf GF xl) A) wV xO wW A wx).imp<|by
 rintro σ H Q ⟨ρ,l,S,G,A,j⟩
 refine⟨ρ,l,S,G,A,j.seq λd R j I H1 v B T U=>?_⟩
 cases J:atL d R with
 | none=>rw[J]at j;exact j.elim
 | some z=>
  obtain⟨n,xs0⟩:=z;rw[J]at j;dsimp only at j;obtain⟨rfl,h0,a,Ω,rfl,hn,e0,_⟩:=NX T U J;refine⟨.inl ⟨rfl,Ω,.inl (.inl e0)⟩,I,l,R,G.mono B,T,(j.later B).seq λx S2 j L H2 u C s2 r2=>⟨L,l,S2,G.mono (B.trans C),s2,(j.later C).seq λy S3 s N H3 w Y Z r3=>?_⟩⟩;split at s
  ·rename_i n' xs i h2
   split at s
   ·rename_i O
    obtain⟨e',h4,a',vs,ea,wK,e2,P⟩:=NX Z (U.mono (C.trans Y)) h2;cases e';cases ea;cases r2;obtain⟨s4,l4⟩:=RP Z wK e2 (((P.take i.toNat).append (.cons r3 .nil)).append (P.drop' i.toNat));exact⟨a,vs,i,w,rfl,rfl,e2,O.1,Int.lt_trans O.2.1 (by decide),by rw[<-P.length];exact O.2.2,s N _ _ (B.trans (C.trans (Y.trans l4))) s4 .non⟩
   ·exact s.elim
  ·exact s.elim
end
end L2
namespace HT
section
variable{E:AI->AM->Prop}
def PQ{t sl}{g}{m o}{lo hi}{Q}(j:kb s.heap t g)(B:s.heap.IsSliceOf sl m o .none)(C:Ps m lo)(G:Ps o hi)
  (hw:sIx g.size 0 lo=0/\sIx g.size g.size hi=g.size) (h:Q (.ref t) s):Ag (Ah prog w) A (Ma (.ref t) (.ref sl)) Q E s:=by
 obtain⟨os,H,I,J⟩:=id B;have l:s.TypeIs (.ref sl) "slice":=⟨os,H,I⟩;unfold Ma
 try with_reducible refine CP ?_
 first | refine AA (AE ?_) | skip
 refine AA (tP j.typeIs (by decide) (AA (Bm (name:=D9 "__getitem__") j.typeIs Cb
  (Bl Cb j.typeIs oZ ?_ (pW _ _)))))
 show Ag (Ah prog w) _ (Os (.ref t) >>= _) _ _ s;refine AA (tupleItemsOf_ j (AA (Ko l ?_)));rw[qX (by decide)];refine AA (Kx B C G ?_);show Ag (Ah prog w) _ (if (((sIx g.size 0 lo:Nat):Int)==0&&(1:Int)==1&&(sIx g.size g.size hi - sIx g.size 0 lo)==g.size)=true then _ else _) _ _ s;rw[hw.1,hw.2,qX (by simp)];unfold uN;refine AA (AA (Ko j.typeIs (AE ?_)));rw[qX (by decide)];exact AA (Hl (AA (AE (AE ⟨_,rfl,AE h⟩))))
end
end HT
namespace L2
section
variable{X:Cx}
def rSlW(K:AJ):V->Option Int->Option Int->Hp->VK->Prop:=λx lo j H Q=>∃a g,x=.ref a/\SqT K H a g/\(HT.sIx g.length 0 lo=0/\HT.sIx g.length g.length j=g.length)/\Q (.ref a) H
def qf:SlR X (rSlW X.K):=by
 intro G s J H x v L N lo O sl Q I l m o A h;obtain⟨a,B,rfl,C,hw,q⟩:=h;cases l;obtain⟨E,r,j,_⟩:=I.tuple C
 have g:E.toArray.size=B.length:=by rw[AT];exact r.length.symm
 exact⟨"tuple",_,Cb.lookup,j.typeIs,HT.PQ j m o A (by rw[g];exact hw) ⟨.ref a,H,I,rfl,q⟩⟩
def qe(d:D)(lo hi:Option Int)(S:Sto):Res D:=match d with
 | .tup g=>.ok (.tup (EN g lo hi)) S
 | _=>.bad
def Lq(m:ME)(ml g:MO):ME:=λe S=>(m e S).bind λd j=>(ml e j).bind λlo l=>(g e l).bind λo s=>okR (qe d lo o s)
variable{E:EW}{e:Expr}{lo hi:Option Expr}{pos p2:Pos}{m:ME}{ml mh:MO}
def oE{g:Type}(xs:List g)(lo hi:Option Int)(h:HT.sIx xs.length 0 lo=0/\HT.sIx xs.length xs.length hi=xs.length):EN xs lo hi=xs:=by
 unfold EN;rw[h.1,h.2];simp
def Np(O:GE X E e m)(o:GO X E lo ml)(P:GO X E hi mh):GE X E (.Subscript e (.Slice lo hi none p2) pos) (Lq m ml mh):=(XY (qf.or gd) O o P).imp<|by
 rintro σ H Q ⟨R,l,S,o,T,g⟩
 refine⟨R,l,S,o,T,g.seq λd U g B H1 x s Y Z=>⟨B,l,U,o.mono s,Y,(g.later s).seq λlo S2 g C H2 A s2=>⟨C,l,S2,o.mono (s.trans A),s2,(g.later A).seq λhi S3 g ρ3 H3 G L=>?_⟩⟩⟩;obtain⟨d',S',e,k⟩:=g.okR;have r3:=Z.mono (A.trans G)
 cases d with
 | tup ds=>
  cases e
  cases r3 with
  | @tup _ a j I J=>
   by_cases hw:HT.sIx j.length 0 lo=0/\HT.sIx j.length j.length hi=j.length
   ·refine .inl ⟨a,j,rfl,.inl (.inl I),hw,k _ _ _ (s.trans (A.trans G)) L ?_⟩
    rw[oE ds lo hi (by rw[J.length];exact hw)];exact .tup I J
   ·refine .inr ⟨a,j,rfl,.inl (.inl I),hw,λq hq=>?_⟩
    obtain⟨s4,N⟩:=Fv (ho:=.tup (Q9 j lo hi)) L hq;exact k _ _ _ (s.trans (A.trans (G.trans N))) s4 (.tup Bi ((Sx J lo hi).mono N))
 | _=>cases e
end
section
instance(i j:Int):Decidable ((λ_ j:Int=>0<=j) i j):=inferInstanceAs (Decidable (0<=j))
end
open PySem.SeqAt
noncomputable def gu:D->D->Sto->Res D
 | .ref l,.int k,S=>match S[l]? with
  | some (.lst g)=>if 0<=k/\k<=1000/\g.length * k.toNat<=1000000 then .ok (.ref S.length) (S++[.lst (Ak k.toNat g).flatten])else .bad
  | _=>.bad
 | _,_,_=>.bad
section
variable{X:Cx}{K:AJ}{ρ:List AW}{H:Hp}
def A3.rep(r:A3 K ρ H ds g):∀k:Nat,A3 K ρ H (Ak k ds).flatten (Ak k g).flatten
 | 0=>.nil
 | k+1=>by
  rw[Dy,Dy,Fa,Fa];exact r.append (A3.rep r k)
def re:OpR X (DZ .Mult) (rD X.K gu):=rR.imp<|by
 rintro x y H Q ⟨ρ,S,a,b,d,P,l,B,C,g,k⟩
 cases B with
 | @ref n R E=>
  cases C with
  | int i=>
   unfold gu at g;dsimp only at g;split at g
   ·rename_i G I
    split at g
    ·rename_i J
     cases g;obtain⟨m,L,s⟩:=l.ob _ _ _ I E;refine⟨_,_,_,rfl,rfl,L,by lia,by omega,Ap (by rw[<-s.length];exact J.2.2) (by decide),λp A=>?_⟩;have le:Le X.K ρ H (ρ++[p]) (upd H p (.lst (Ak i.toNat m).flatten)):=Le.alloc A;obtain⟨N,O,j⟩:=l.alloc (ho:=.lst (Ak i.toNat m).flatten) (o:=.lst (Ak i.toNat G).flatten) A ⟨_,Bi,(s.rep _).mono le⟩;exact k _ _ _ O N (.ref j)
    ·cases g
   ·cases g
  | _=>cases g
 | _=>cases g
end
section
variable{P:Bq}{w:CQ}{K:AJ}{mg:Str->Option AI}{base:CZ}
def Hx(g:N.Nodup:=by decide +kernel)(j:∀x∈ps,sc.names.lookup x=some .local∨sc.names.lookup x=some .cell:=by decide +kernel)(l:∀y∈sc.names,y.2≠.free:=by decide +kernel)(m:sc.kind=.function:=by rfl)(o:sc.isCoroutine=false:=by rfl)(s:sc.isGenerator=false:=by rfl)(A:N.take ps.length=ps:=by rfl):CI N ps sc:=⟨m,o,s,g,A,j,l⟩
def Cr{x j}{st}{f}{fd}{N ps}{k n}(F:Fun K x j st f fd)(m:CI N ps (BP st))(C:ps.length=n){mb}
  (G:∀(l:AI) (A:B5) (g:List Env) (s:AM) (H:Hp) (E:XK),Ib k (A.deeper (OK j (BP st) s.heap.objs.size f l))->LF (WP (CXG P w) P w K mg base N j (BP st) f l A g s H E)->(A.deeper (OK j (BP st) s.heap.objs.size f l)).units+64 < FS->N.Nodup ->
   ∀pn o,GSs ((WP (CXG P w) P w K mg base N j (BP st) f l A g s H E).w' pn o) o (JJ st) mb) :
  EZ P w K mg base (CXG P w) (k+1) f fd ps (spM K n (FA N.length mb)):=si F m C λl A g s H E B=>G l A g s H E B ⟨rfl,rfl,rfl⟩ B.units m.nd
end
section
variable{X:Cx}{E:EW}{e:Expr}
def CW(i:Nat)(g:X.N.Nodup)(hi:X.N[i]?=some x:=by rfl)(j:Loc X.env.scope x:=by first | exact QW rfl | exact Oj rfl)(l:X.fn x=true∨X.env.scope.names.lookup x=some .local:=by first | exact .inl rfl | exact .inr rfl | assumption):GG X (.Name x pos) (tgN i):=nX (mV g hi j l)
def B4(i:Nat)(j:X.N.Nodup)(l:GE X E e m)(hi:X.N[i]?=some x:=by rfl)(o:Loc X.env.scope x:=by first | exact QW rfl | exact Oj rfl)(s:Gx e (some (.Name x g)) pos.line X.env=pure false:=by rfl)
  (A:X.fn x=true∨X.env.scope.names.lookup x=some .local:=by first | exact .inl rfl | exact .inr rfl | assumption):GS X E (.Assign [.Name x g] e pos) (Bn i m):=sU j hi o l s A
end
open Srt
def Inv.drew(I:Inv X g j H s):Inv X g j H { s with drawn:=d' }:=⟨I.ok,I.os,I.bare,I.base,I.loc,I.cell,I.free,I.freeC,I.pin,I.hok,I.len⟩
def Qx(ns:ZLi):ZLi:=CF (firstMet (λi=>ns.getD i 0) ns.length)
def Sg:∀{g:List AI} {ns:ZLi},g.map iv=ns.map some->Bx (ns.map V.int) g
 | [],[],_=>.nil
 | [],_ :: _,h=>by cases h
 | _ :: _,[],h=>by cases h
 | v :: g,n :: ns,h=>by
  rw[A4,A4]at h
  injection h with j l
  cases v <;> simp[iv]at j
  subst j;exact .cons ⟨_,rfl⟩ (Sg l)
def mX{g:List AI}{ns:ZLi}(h:Dk (g.map iv) (ns.map some)):∃m:ZLi,m.Perm ns/\g.map iv=m.map some:=by
 refine⟨(g.map iv).filterMap id,?_,?_⟩
 ·have:=h.filterMap id
  have e:(ns.map some).filterMap id=ns:=by
   rw[eZ];exact List.filterMap_some
  rwa [e]at this
 ·have j:∀l:List (Option Int),(∀x∈l,∃n,x=some n)->l=(l.filterMap id).map some:=by
   intro l
   induction l with
   | nil=>intro _;rfl
   | cons x l s=>
    intro o;obtain⟨n,rfl⟩:=o x Ax;have e:(some n :: l).filterMap id=n :: l.filterMap id:=rfl;rw[e,A4,<-s λy A=>o y (AY _ A)]
  exact j _ λx B=>by
   obtain⟨n,_,e⟩:=Aw.mp (h.mem_iff.mp B);exact⟨n,e.symm⟩
def sorted_ints{out:List V}{j ns:ZLi}(l:out.Perm (j.map V.int))(m:j.Perm ns)(o:out.Pairwise (λx y=>ltL [K6 y] [K6 x]=false)):out=(CF ns).map V.int:=by
 have s:out=(out.map K6).map V.int:=by
  rw[BV]
  conv=>lhs;rw[<-N7 out]
  refine Cy λv A=>?_
  obtain⟨n,_,rfl⟩:=Aw.mp (l.mem_iff.mp A);rfl
 have B:out.map K6=CF ns:=by
  have C:(out.map K6).Perm (CF ns):=by
   have:=l.map K6;rw[Nj]at this;exact(this.trans m).trans (Bp ns).symm
  refine C.eq_of_pairwise (λa b _ _ E G=>Nb E G) ?_ (Kw ns);rw[B2]
  refine o.imp λ{x y} g=>?_
  rw[aZ]at g;simp at g;exact g
 rw[<-B];exact s
def WV{X}{G}{s}{J}{H}{a}{ns}{Q}(Z:X.calm=true)(I:Inv X G J H s)(hS:N2 X.prog X.w s.heap a ns)(hz:ns.length<=sizeLine)
  (q:∀l,H l=none->Q (.ref l) (upd H l (.lst ((CF ns).map V.int)))):Ag (Ah X.prog X.w) X.A (call (.builtin "sorted") [.ref a]) (EP X G J Q) X.xe s:=by
 refine UN kind_sorted plain_sorted entry_sorted (args_sorted1 _) ?_;unfold Builtin.«sorted»;refine AA (m:=checkCount "sorted" 1 1 _) (AE (AA (XJ (A:=X.A.in1) (I.ok.hd Z) hS hz λg tk d' tx kp hp=>?_)));obtain⟨P,S,em⟩:=mX hp;have C:Bx (P.map V.int) tx:=Sg em
 have hz:tx.length<=sizeLine:=by rw[<-C.length,AG,S.length_eq];exact hz
 have j:TN H (λv=>[K6 v]) (P.map V.int):=.inl λv hv=>by
  obtain⟨n,_,rfl⟩:=Aw.mp hv;exact⟨n,rfl,rfl⟩
 refine AA (bN ?_ hz);have L:Inv X G J H { s with heap:=g,toks:=tk,drawn:=d' }:=(I.kept (t':=tk) kp).drew;have N:(g.push (Hm "list" tx.toArray 0)).get? g.objs.size=some (Hm "list" tx.toArray 0):=AR _ rfl;refine AA (CP (Bl slot_list_sort ⟨_,N,rfl⟩ vm (Srt.OG (f:=Vz H) N hz (λh2 s' keep=>?_) λout po so=>⟨_,rfl,AE ⟨_,rfl,?_⟩⟩) (args_list_sort _)))
 ·refine Qh (λb xs e=>?_) j C h2
  obtain⟨_,is,r,o,T,yb,n,hd⟩:=(show DG X.prog X.w H g b (.tup xs)from L.hok b _ e);exact⟨is,r,o,keep b o (Al (AZ T)) (AF _ T),yb,n,hd⟩
 ·obtain⟨E,U,pv⟩:=Qi po.symm C
  have O:E.Pairwise (λx y=>ltL [K6 y] [K6 x]=false):=by
   have e:out.toList.map (Vz H)=E.map λv=>[K6 v]:=Lj U λa ha b rb=>j.rel a (pv.mem_iff.mp ha) b rb
   have:=(B2 (f:=Vz H) (R:=λx y=>ltL y x=false)).mpr so;rw[e]at this;exact B2.mp this
  obtain⟨k,hk⟩:=sortedHeap_at (out:=out) N
  have B:E.length<=sizeLine:=by rw[pv.length_eq,C.length];exact hz
  have Y:=L.laid (a:=g.objs.size) (o:=.lst E) (t':=tk) (h':=YS (g.push (Hm "list" tx.toArray 0)) g.objs.size tx out)
   (λb u z=>by
    have lt:b < g.objs.size:=AZ z;rw[sortedHeap_old (Al lt) (by rw[size_push'];exact Dm lt)]
    exact AF _ z) (AL _) ⟨B,out.toList,k,U,hk⟩
  rw[sorted_ints pv S O]at Y;exact⟨.ref g.objs.size,_,Y,rfl,q _ (L.hok.fresh (AL _))⟩
open MeetsSeq
noncomputable def QE(k:Int):ZLi->Option Nat
 | []=>none
 | x :: l=>if x=k then some 0 else(QE k l).map (· + 1)
def ak:∀{l:ZLi} {j:Nat},QE k l=some j->∃h:j < l.length,l[j]=k/\∀m (g:m < l.length),m < j->l[m]≠k
 | [],j,h=>by cases h
 | x :: l,j,h=>by
  unfold QE at h;split at h
  ·rename_i c
   cases h;exact⟨by simp,c,λm _ g=>zX g (Dr _)⟩
  ·rename_i c
   cases o:QE k l with
   | none=>rw[o]at h;cases h
   | some i=>
    rw[o]at h;cases h;obtain⟨C,s,A⟩:=ak o;refine⟨by simp;omega,s,λm g B=>?_⟩
    cases m with
    | zero=>exact c
    | succ m=>exact A m (by simp at g;omega) (Yf B)
def mIndex(mo mi:ME):ME:=λe S=>(mo e S).bind λd g=>match d with
 | .tup l=>(mi e g).bind λx m=>match Hj l,x with
  | some o,.int k=>match QE k o with
   | some j=>.ok (.int j) m
   | none=>.bad
  | _,_=>.bad
 | _=>.bad
section
variable{X:Cx}{E:EW}{e:Expr}{p pos:Pos}
def aW(m:ME):ME:=λe S=>(m e S).bind λd j=>match d with
 | .ref n=>match j[n]? with
  | some (.dK g)=>.ok (.int g.length) j
  | _=>.bad
 | _=>.bad
def nj(J:Gl X "len") (o:X.mg "len" = none) (h:GE X E e m) (G:AQ [e] X.env=(false,B1 e X.env) :: AQ [] X.env:=by rfl):GE X E (.Call (.Name "len" p) [e] [] pos) (aW m):=
 (Kz dr J o kW (Du h GF G) (by decide) (by decide) G rfl).imp<|by
 rintro σ H Q ⟨L,l,S,s,N,o⟩
 refine⟨L,l,S,s,N,o.seq λd O j A P x R I T=>?_⟩
 cases d <;> first | exact j.elim | skip
 rename_i n
 cases T with
 | @ref _ a U=>
  dsimp only at j
  cases B:O[n]? with
  | none=>rw[B]at j;exact j.elim
  | some Y=>
   rw[B]at j
   cases Y <;> first | exact j.elim | skip
   rename_i C;obtain⟨g,Z,rr⟩:=I.ob n _ a B U;have s:C.length=g.length:=Ef rr;exact⟨a,g,rfl,Z,by rw[<-s];exact j A P _ R I (.int _)⟩
end
section
end
end L2
namespace L2
open PySem.W
section
variable{X:Cx}{k k' n:Nat}{x qual:Str}{st:EF}{ps:List Str}{p pos:Pos}{e:Expr}{es:List Expr}{ml:ML}{g:List D->Sto->Res D}
def gcl(D:Dfn X.K X.mg x qual st ps)(F:EZ X.prog X.w X.K X.mg X.base (CXG X.prog X.w) k D.f D.fd ps (spM X.K n g))(j:Ib k' X.A)(l:GA X noE (e :: es) ml)(o:k<=k':=by decide)(s:X.xe=λ_ _=>False:=by rfl)(B:Gl X x:=by rfl)
  (C:(x==("__debug__" : Str))=false:=by decide) (E:AQ (e :: es) X.env=(false,B1 e X.env) :: AQ es X.env:=by rfl) (G:(DH pos (AQ es X.env)).any (·.1)=false:=by rfl) :
  GE X noE (.Call (.Name x p) (e :: es) [] pos) (Cd n g ml):=CG F (good_none s).pass (j.mono o) B D.m D.kp D.b l C E G
end
abbrev FnAt(K:Frag)(x g:Str)(st:EF)(f:AW):Prop:=∃(m:AI) (o:Option AW) (kV j s:AI) (A:Option AW) (l ct:AI) (B:Array (Option AI)),
 K.lookup f=some ⟨m,o,.func (fnOf x g (L8 st) (JJ st) (BP st) .none kV j s A l ct),B⟩/\codeIn K l g=true/\keepIn K (.ref f)=true
abbrev Ew(K:Frag)(x:Str)(st:EF)(f:AW):Prop:=nsIn K BC x=some (some (.ref f))/\FnAt K x x st f
abbrev kB(K:Frag)(C:AW)(x g:Str)(st:EF)(f:AW):Prop:=findIn K (.ref C) x=some (some (.ref f))/\isFn K (.ref f)=true/\FnAt K x g st f
abbrev ClsAt(K:Frag)(x:Str)(C:AW):Prop:=nsIn K BC x=some (some (.ref C))/\plainGet K C Str.empty=true/\hasDictIn K C=true/\plainOver K C=true/\findIn K (.ref C) "__setattr__" = some (some (.builtin "object.__setattr__"))/\makesIn K C=true/\keepIn K (.ref C)=true
def eC(st:EF)(ps:List Str):Prop:=∀(x g:Str) (kV j m:AI) (o:Option AW) (s ct:AI) (l:List AI),l.length=ps.length->kU (fnOf x g (L8 st) (JJ st) (BP st) .none kV j m o s ct) ⟨l,[]⟩=pure (ps.zip l)
section
variable{K:Frag}{h:CZ}{mg:Str->Option AI}{x qual:Str}{st:EF}{f C:AW}{ps:List Str}{a b c d e:Str}
def FnAt.fd(z:FnAt K x qual st f):∃fd,Fun K x qual st f fd:=by
 obtain⟨j,m,kV,g,o,s,A,ct,B,l,c,k⟩:=z;exact⟨_,jd l c k⟩
def mkD(X:K.In h)(G:h.Ns BC mg)(z:Ew K x st f)(b:eC st ps):Dfn K mg x x st ps:=⟨f,(FnAt.fd z.2).choose,(FnAt.fd z.2).choose_spec,(FnAt.fd z.2).choose_spec.binds (b x x),Tb X G z.1⟩
def mkM(z:kB K C x qual st f)(b:eC st ps):Mtd K x qual st ps:=⟨f,(FnAt.fd z.2.2).choose,(FnAt.fd z.2.2).choose_spec,(FnAt.fd z.2.2).choose_spec.binds (b x qual)⟩
def mkO(X:K.In h)(G:h.Ns BC mg)(z:ClsAt K y C)(i:kB K C "__init__" qual st f):Own K mg y C f:=⟨⟨z.2.1,z.2.2.1,z.2.2.2.1,z.2.2.2.2.1⟩,⟨z.2.2.2.2.2.1,i.1,i.2.1,z.2.2.2.2.2.2⟩,Tb X G z.1⟩
abbrev bnd(st:EF)(ps:List Str)(j:List AI):Prop:=∀(x qual:Str) (kV g l:AI) (m:Option AW) (o ct:AI),kU (fnOf x qual (L8 st) (JJ st) (BP st) .none kV g l m o ct) ⟨j,[]⟩=pure (ps.zip j)
def bd1(z:∀u,bnd st [a] [u]):eC st [a]:=λx q k d p n c t j g=>by obtain⟨u,rfl⟩:=vL g;exact z u x q k d p n c t
def bd2(z:∀u v,bnd st [a,b] [u,v]):eC st [a,b]:=λx q k d p n c t j g=>by obtain⟨u,v,rfl⟩:=vK g;exact z u v x q k d p n c t
def bd3(z:∀u v w,bnd st [a,b,c] [u,v,w]):eC st [a,b,c]:=λx q k d p n c t j g=>by obtain⟨u,v,w,rfl⟩:=vJ g;exact z u v w x q k d p n c t
def bd5(z:∀u v w y l,bnd st [a,b,c,d,e] [u,v,w,y,l]):eC st [a,b,c,d,e]:=λx q k d p n c t j g=>by obtain⟨u,v,w,y,l,rfl⟩:=len5 g;exact z u v w y l x q k d p n c t
end
open Srt
open Srt (ltL)
section
variable{X:Cx}{E:EW}{e b:Expr}{p p2 pos wO:Pos}{m:ME}{te:TE}
def bz(K:AJ)(te:TE):TE:=λo H Q=>te o H λx g=>∃q j,x=.ref q/\SqT K g q (N8 V.int j)/\j.length<=4000/\∀l,g l=none->Q (.ref l) (upd g l (.lst ((Qx j).map V.int)))
def XX(S:X.calm=true)(hg:Gl X "sorted") (hm:X.mg "sorted" = none) (Γ:Gl X "set") (w5:X.mg "set" = none) (h:PE X e te)
  (T:AQ [e] X.env=(false,B1 e X.env) :: AQ [] X.env:=by rfl) (U:AQ [.Call (.Name "set" p2) [e] [] wO] X.env=(false,B1 (.Call (.Name "set" p2) [e] [] wO) X.env) :: AQ [] X.env:=by rfl) :
  PE X (.Call (.Name "sorted" p) [.Call (.Name "set" p2) [e] [] wO] [] pos) (bz X.K te):=by
 intro N s O H Q I hq;refine Eb (Kc I hg hm boot_sorted ?_ (by decide) (by decide));refine N6 ?_ U rfl;rw[U];show Ag _ _ (ez ((false,B1 (.Call (.Name "set" p2) [e] [] wO) X.env) :: DH pos (AQ [] X.env))) _ _ s;refine Jr ?_;refine Eb (Kc I Γ w5 wB ?_ (by decide) (by decide));refine CT (thn (Du h GF T wO N s O H (λB C=>match B with | [x]=>∃q j,x=.ref q/\SqT X.K C q (N8 V.int j)/\j.length<=4000/\∀l,C l=none->Q (.ref l) (upd C l (.lst ((Qx j).map V.int))) | _=>False) I hq) λus g ⟨B,C,Y,P,R⟩=>?_) T rfl
 match B,P,R with
 | [x],P,R=>
  obtain⟨q,j,rfl,sq,hl,k⟩:=R;obtain⟨u,rfl,ru⟩:=vals1 P;cases ru
  have fin:∀(n:Nat),n=j.length->∀(G:CZ) (tk:Nat),N2 X.prog X.w G g.heap.objs.size (firstMet (λi=>j.getD i 0) n) ->
    (∀b o,b < g.heap.objs.size->g.heap.get? b=some o->G.get? b=some o)->Ag (Ah X.prog X.w) X.A (ez (DH pos (AQ [] X.env))) (λB J=>Ag (Ah X.prog X.w) X.A (call (.builtin "sorted") (.ref g.heap.objs.size :: B)) (EP X N O Q) X.xe J) X.xe { g with heap:=G,toks:=tk }:=λn hn G tk hS hk=>by
   refine Kn ?_;subst hn
   have I2:Inv X N O C { g with heap:=G,toks:=tk }:=Y.kept λb o e=>hk b o (AZ e) e
   exact WV S I2 hS (Ap (pT _ _) (Ap hl (Tc (by decide)))) k
  obtain⟨Z,rv,pl,hz⟩:=Y.tuple sq;have L:=rv.length;rw[AG]at L;exact dh (I.ok.hd S) (show g.heap.IsTuple q Z.toArray from pl) (by simpa using intsAre_of rv) (by rw[AT];unfold LG;lia) (fin Z.toArray.size (by rw[AT];lia))
def K8(m:ME):ME:=λe S=>(m e S).bind λd g=>match d with
 | .tup l=>match Hj l with
  | some j=>if j.length<=4000 then .ok (.ref g.length) (g++[.lst ((Qx j).map D.int)])else .bad
  | none=>.bad
 | _=>.bad
def Qq(C:X.calm=true)(G:Gl X "sorted") (g:X.mg "sorted" = none) (I:Gl X "set") (J:X.mg "set" = none) (h:GE X E e m)
  (L:AQ [e] X.env=(false,B1 e X.env) :: AQ [] X.env:=by rfl) (N:AQ [.Call (.Name "set" p2) [e] [] wO] X.env=(false,B1 (.Call (.Name "set" p2) [e] [] wO) X.env) :: AQ [] X.env:=by rfl) :
  GE X E (.Call (.Name "sorted" p) [.Call (.Name "set" p2) [e] [] wO] [] pos) (K8 m):=(XX C G g I J h L N).imp<|by
 rintro σ H Q ⟨O,l,S,P,R,g⟩
 refine⟨O,l,S,P,R,g.seq λd S1 g T H1 x U Y Z=>?_⟩
 cases d with
 | tup ds=>
  dsimp only at g
  cases j:Hj ds with
  | none=>rw[j]at g;exact g.elim
  | some s=>
   rw[j]at g;dsimp only at g;split at g
   ·rename_i hn
    cases Z with
    | @tup _ q vs A B=>
     rw[NC j]at B;rw[XV B]at A;refine⟨q,s,rfl,.inl (.inl A),hn,λl η=>?_⟩;obtain⟨s4,l4,ϣ⟩:=Y.alloc (ho:=.lst ((Qx s).map V.int)) (o:=.lst ((Qx s).map D.int)) η ⟨_,Bi,A3.of_ints _⟩;exact g _ _ _ (U.trans l4) s4 (.ref ϣ)
   ·exact g.elim
 | _=>exact g.elim
end
section
variable{X:Cx}{E:EW}{e:Expr}{elts:List Expr}{x1:Nat}{p pos ptg:Pos}{m:ME}{ta:TA}
def sQ(K:AJ)(ta:TA):TI:=λl H R=>ta l H λo j=>∃a,o=[.ref a]/\(∃g,SqT K j a g)/\R (Ite λH g=>SqT K H a g) j
def iI(N:Gl X "enumerate") (O:X.mg "enumerate" = none) (P:PA X [e] ta) (Q:AQ [e] X.env=[(false,B1 e X.env)]:=by rfl):PI X (.Tuple elts x1 ptg) (.Call (.Name "enumerate" p) [e] [] pos) (sQ X.K ta):=by
 intro B s S H R I h;refine Call_ (Kc I N O boot_enumerate (CT (thn (P pos B s S H _ I h) λus g ⟨vs,C,j,T,l⟩=>?_) Q rfl));obtain⟨a,rfl,l⟩:=l;obtain⟨u,rfl,U⟩:=vals1 T;cases U
 have Y:∀{h':CZ} (b:AW),b∈[g.heap.objs.size+1,g.heap.objs.size]->Of X B C b:=λb hb=>by
  have Z:b=g.heap.objs.size+1∨b=g.heap.objs.size:=by simpa using hb
  rcases Z with z | z
  ·rw[z];exact j.fpOk (F9 _) (j.hok.fresh (F9 _))
  ·rw[z];exact j.fpOk (AL _) (j.hok.fresh (AL _))
 obtain⟨⟨xs,sq⟩,q⟩:=l;obtain⟨tx,rv,pl,hz⟩:=j.tuple sq;have G:g.heap.IsTuple a tx.toArray:=pl
 have J:a < g.heap.objs.size:=by obtain⟨o,q,_⟩:=G;exact AZ q
 refine NR G λh' L A hsz hk=>tQ L ?_
 exact⟨_,[g.heap.objs.size+1,g.heap.objs.size],_,_,C,rfl,j.kept (t':=g.toks) hk,Yv a _ _ (Nat.succ_ne_self _) (Al J) (FJ (Dm J)),⟨⟨_,L⟩,A⟩,Y (h':=h'),q⟩
def PK(m:ME):MI:=λe S=>(m e S).bind λd g=>match d with
 | .tup j=>.ok (Z5 (IU (.tup j))) g
 | _=>.bad
def Xv(A:Gl X "enumerate") (g:X.mg "enumerate" = none) (h:GE X E e m) (o:AQ [e] X.env=[(false,B1 e X.env)]:=by rfl):GI X E (.Tuple elts x1 ptg) (.Call (.Name "enumerate" p) [e] [] pos) (PK m):=
 (iI A g (Du h GF o) o).imp<|by
 rintro T H R ⟨B,l,S,C,G,g⟩
 refine⟨B,l,S,C,G,g.seq λd U g j I x J L N=>?_⟩
 cases d with
 | tup Y=>
  have O:=g
  cases N with
  | @tup _ a P s Q=>
   exact⟨a,rfl,⟨P,.inl (.inl s)⟩,O j I _ J L (W1 (Rr s Q) (λi H z=>z) (λi H z=>z) λi H x z=>⟨rfl,z⟩)⟩
 | _=>exact g.elim
end
end L2
namespace L4
open L2
inductive Cel where
 | no | fz (o:Ob) | ow (i:Nat)
abbrev Fz:=Nat->Cel
inductive Sl where
 | u | v (d:D) | z (o:Ob) | y (o:Ob) | w (i:Nat) (o:Ob) | q (P:(Nat->Option Ob)->D->Prop)
def Sl.ok(S0:Sto)(F:Fz)(S:Sto):Sl->Option D->Prop
 | .u,_=>True
 | .v d,x=>x=some d
 | .z o,x=>∃n,x=some (.ref n)/\F n=.fz o
 | .y o,x=>∃n,x=some (.ref n)/\F n=.fz o/\S0.length<=n
 | .w i o,x=>∃n,x=some (.ref n)/\F n=.ow i/\S[n]?=some o
 | .q P,x=>∃d,x=some d/\∀L:Nat->Option Ob,(∀n o,F n=.fz o->L n=some o)->P L d
structure Vs(S0:Sto)(A:List Sl)(e:Lo)(F:Fz)(S:Sto):Prop where
 kp:Keeps S0 S
 fz:∀n o,F n=.fz o->S[n]?=some o
 ow:∀n i,F n=.ow i->S0.length<=n/\n < S.length
 hi:∀n,S.length<=n->F n=.no
 sl:∀(i:Nat) (a:Sl),A[i]?=some a->∃x,e[i]?=some x/\a.ok S0 F S x
def Fle(F g:Fz):Prop:=∀n o,F n=.fz o->g n=.fz o
def Fle.refl(F:Fz):Fle F F:=λ_ _ h=>h
def Fle.trans(a:Fle F G)(b:Fle G H):Fle F H:=λn o h=>b n o (a n o h)
def QN(F:Fz)(S g:Sto):Fz:=λn=>if n < S.length then F n else match g[n]? with
 | some o=>.fz o
 | none=>.no
section
variable{S0 S S':Sto}{A B:List Sl}{e:Lo}{F:Fz}{α β γ ρ σ τ:Type}
def Ev(h:n < S.length):QN F S S' n=F n:=qX h
def LC(h:S.length<=n)(ho:S'[n]?=some o):QN F S S' n=.fz o:=by
 unfold QN;rw[qY (G5.mpr h),ho]
def C4(h:S[n]?=some o):n < S.length:=(AC.mp h).1
def Sl.mono{S0:Sto}{F l:Fz}{S S':Sto}{a:Sl}{x:Option D}(h:a.ok S0 F S x)(m:∀n o,F n=.fz o->l n=.fz o)(C:∀n i o,F n=.ow i->S[n]?=some o->l n=.ow i/\S'[n]?=some o):a.ok S0 l S' x:=by
 cases a with
 | u=>trivial
 | v d=>exact h
 | z o=>obtain⟨n,g,j⟩:=h;exact⟨n,g,m _ _ j⟩
 | y o=>obtain⟨n,g,j,s⟩:=h;exact⟨n,g,m _ _ j,s⟩
 | w i o=>obtain⟨n,g,j,s⟩:=h;exact⟨n,g,C _ _ _ j s⟩
 | q P=>obtain⟨d,g,j⟩:=h;exact⟨d,g,λL E=>j L λn o q=>E n o (m n o q)⟩
def Vs.fle(h:Vs S0 A e F S)(S':Sto):Fle F (QN F S S'):=λn o q=>by rw[Ev (C4 (h.fz n o q))];exact q
def Vs.grow(h:Vs S0 A e F S)(k:Keeps S S'):Vs S0 A e (QN F S S') S':=by
 refine⟨h.kp.trans k,λn o q=>?_,λn i q=>?_,λn j=>?_,λi a m=>?_⟩
 ·unfold QN at q
  split at q
  ·rename_i j
   rw[k.2 n j];exact h.fz n o q
  ·cases g:S'[n]? with
   | none=>rw[g]at q;cases q
   | some s=>rw[g]at q;cases q;rfl
 ·unfold QN at q
  split at q
  ·exact⟨(h.ow n i q).1,Af (h.ow n i q).2 k.1⟩
  ·cases g:S'[n]? with
   | none=>rw[g]at q;cases q
   | some s=>rw[g]at q;cases q
 ·unfold QN
  rw[qY (G5.mpr (Ap k.1 j)),CA j]
 ·obtain⟨x,C,E⟩:=h.sl i a m
  exact⟨x,C,Sl.mono E (h.fle S') λn i o G l=>⟨by rw[Ev (C4 l)];exact G,by rw[k.2 n (C4 l)];exact l⟩⟩
def Vs.cons(h:Vs S0 A e F S)(g:a.ok S0 F S x):Vs S0 (a :: A) (x :: e) F S:=
 ⟨h.kp,h.fz,h.ow,h.hi,λi b hb=>by
  cases i with
  | zero=>cases hb;exact⟨x,rfl,g⟩
  | succ i=>exact h.sl i b hb⟩
def Vs.set(h:Vs S0 A e F S)(i:Nat)(g:a.ok S0 F S x):Vs S0 (A.set i a) (e.set i x) F S:=
 ⟨h.kp,h.fz,h.ow,h.hi,λj b hb=>by
  by_cases c:i=j
  ·subst c
   rw[Kt]at hb;rw[qX rfl]at hb;split at hb
   ·rename_i l
    cases hb;obtain⟨y,m,_⟩:=h.sl i (A[i]) (Aj l);exact⟨x,by rw[Kt];rw[qX rfl,qX (AC.mp m).1],g⟩
   ·cases hb
  ·rw[Az c]at hb ⊢
   exact h.sl j b hb⟩
inductive Wk:List Sl->List Sl->Prop where
 | nil:Wk [] []
 | same {a:Sl} {A B:List Sl}:Wk A B->Wk (a :: A) (a :: B)
 | drop {a:Sl} {A B:List Sl}:Wk A B->Wk (a :: A) (.u :: B)
 | less {o:Ob} {A B:List Sl}:Wk A B->Wk (.y o :: A) (.z o :: B)
def Wk.at:∀{A B:List Sl},Wk A B->∀(i:Nat) (b:Sl),B[i]?=some b->∃a,A[i]?=some a/\(b=.u∨b=a∨∃o,a=.y o/\b=.z o)
 | _,_,.nil,i,b,h=>by simp at h
 | _,_,.same w,0,b,h=>by cases h;exact⟨_,rfl,.inr (.inl rfl)⟩
 | _,_,.less w,0,b,h=>by cases h;exact⟨_,rfl,.inr (.inr ⟨_,rfl,rfl⟩)⟩
 | _,_,.less w,i+1,b,h=>Wk.at w i b h
 | _,_,.drop w,0,b,h=>by cases h;exact⟨_,rfl,.inl rfl⟩
 | _,_,.same w,i+1,b,h=>Wk.at w i b h
 | _,_,.drop w,i+1,b,h=>Wk.at w i b h
def Wk.refl:∀A:List Sl,Wk A A
 | []=>.nil
 | _ :: A=>.same (Wk.refl A)
def Vs.weak(h:Vs S0 A e F S)(w:Wk A B):Vs S0 B e F S:=⟨h.kp,h.fz,h.ow,h.hi,λi b hb=>by
 obtain⟨a,l,m⟩:=w.at i b hb;obtain⟨x,g,j⟩:=h.sl i a l
 rcases m with rfl | rfl | ⟨o,rfl,rfl⟩
 ·exact⟨x,g,trivial⟩
 ·exact⟨x,g,j⟩
 ·obtain⟨n,s,C,_⟩:=j
  exact⟨x,g,n,s,C⟩⟩
def Sl.oth(i:Nat):Sl->Bool
 | .w k _=>!(Nat.beq k i)
 | _=>true
def rM(h:((A.set i .u).all (Sl.oth i))=true)(l:j≠i)(m:A[j]?=some (.w k o)):k≠i:=by
 have s:(A.set i .u)[j]?=some (.w k o):=by rw[Az (CK l)];exact m
 have:=DA.mp h _ (Ac s);intro e;subst e;have g:(!(Nat.beq k k))=true:=this;rw[Nat.beq_refl]at g;cases g
def Vs.put(h:Vs S0 A e F S)(H:((A.set i .u).all (Sl.oth i))=true)(O:A[i]?=some (.w i o))(I:e[i]?=some (some (.ref n)))(l:F n=.ow i):Vs S0 (A.set i (.w i o')) e F (S.set n o'):=by
 have E:=h.ow n i l;refine⟨h.kp.set E.1 o',λk q s=>?_,λk j q=>by rw[Do];exact h.ow k j q,λk G=>h.hi k (by rw[Do]at G;exact G),λj b hb=>?_⟩
 ·have:n≠k:=λc=>by subst c;rw[l]at s;cases s
  rw[Az this];exact h.fz k q s
 ·by_cases c:i=j
  ·subst c
   rw[Kt]at hb;rw[qX rfl]at hb;split at hb
   ·cases hb
    exact⟨_,I,n,rfl,l,by rw[Kt];rw[qX rfl,qX E.2]⟩
   ·cases hb
  ·rw[Az c]at hb
   obtain⟨x,J,g⟩:=h.sl j b hb;refine⟨x,J,?_⟩
   cases b with
   | u=>trivial
   | v d=>exact g
   | z q=>exact g
   | y q=>exact g
   | q P=>exact g
   | w k q=>
    obtain⟨m,L,C,N⟩:=g;refine⟨m,L,C,?_⟩
    have:n≠m:=λz=>by
     subst z;rw[l]at C;cases C;exact rM H (λz=>c z.symm) hb rfl
    rw[Az this];exact N
def Vs.own(h:Vs S0 A e F S)(k:Keeps S S'){i n:Nat}{o:Ob}(s:S.length<=n)(ho:S'[n]?=some o):∃F',Vs S0 (A.set i (.w i o)) (e.set i (some (.ref n))) F' S'/\Fle F F':=by
 have g:=h.grow k;have E:=C4 ho
 have fl:Fle F (λj=>if j=n then Cel.ow i else QN F S S' j):=λj q l=>by
  have:j≠n:=λc=>by subst c;exact zX (C4 (h.fz _ _ l)) (G5.mpr s)
  show(if j=n then Cel.ow i else _)=_;rw[qY this];exact h.fle S' _ _ l
 refine⟨λj=>if j=n then .ow i else QN F S S' j,(Vs.set (a:=.w i o) (x:=some (.ref n)) ⟨g.kp,λj q l=>?_,λj q l=>?_,λj G=>?_,λj b hb=>?_⟩ i ⟨n,rfl,qX rfl,ho⟩),fl⟩
 ·split at l
  ·cases l
  ·exact g.fz j q l
 ·split at l
  ·rename_i c;subst c;exact⟨Ap h.kp.1 s,E⟩
  ·exact g.ow j q l
 ·have:j≠n:=λc=>by subst c;exact zX E (G5.mpr G)
  show(if j=n then Cel.ow i else _)=_;rw[qY this];exact g.hi j G
 ·obtain⟨x,I,J⟩:=h.sl j b hb
  refine⟨x,I,Sl.mono J fl λm j q L H=>?_⟩;have C:=C4 H
  have:m≠n:=λc=>by subst c;exact zX C (G5.mpr s)
  refine⟨?_,by rw[k.2 m C];exact H⟩;show(if m=n then Cel.ow i else _)=_;rw[qY this,Ev C];exact L
abbrev Rk(α:Type):=α->Sto->D->Sto->Prop
def rV(enc:α->D):Rk α:=λv _ d _=>d=enc v
def rO(g:α->Ob):Rk α:=λv _ d S=>∃n,d=.ref n/\S[n]?=some (g v)
def rN(g:α->Ob):Rk α:=λv S0 d S=>∃n,d=.ref n/\S0.length<=n/\S[n]?=some (g v)
def VE(A:List Sl)(m:ME)(R:Rk α)(p:Option α):Prop:=∀v,p=some v->∀S0 e F S,Vs S0 A e F S->∃d S',m e S=.ok d S'/\Keeps S S'/\R v S d S'
def VB(A:List Sl)(t:MT)(p:Option Bool):Prop:=∀v,p=some v->∀S0 e F S,Vs S0 A e F S->∃S',t e S=.ok v S'/\Keeps S S'
def VL(A:List Sl)(ml:ML)(enc:α->D)(p:Option (List α)):Prop:=∀v,p=some v->∀S0 e F S,Vs S0 A e F S->∃S',ml e S=.ok (v.map enc) S'/\Keeps S S'
def VK(A:List Sl)(mi:MI)(enc:α->D)(p:Option (List α)):Prop:=∀v,p=some v->∀S0 e F S,Vs S0 A e F S->∃w S',mi e S=.ok w S'/\Keeps S S'/\∀g,Keeps S' g->w g=some (v.map enc)
def VI(A:List Sl)(mi:MI)(enc:α->D)(p:Option (List α)):Prop:=∀v,p=some v->∀S0 e F S,Vs S0 A e F S->∃w S',mi e S=.ok w S'/\Keeps S S'/\∀g j,Fle (QN F S S') g->(∀n o,g n=.fz o->j[n]?=some o)->w j=some (v.map enc)
def VI.k(h:VI A mi enc p):VK A mi enc p:=λv o S0 e F S j=>by
 obtain⟨w,S',s,l,C⟩:=h v o S0 e F S j;have g:=j.grow l;exact⟨w,S',s,l,λm k=>C _ m (g.fle m) (g.grow k).fz⟩
def eT(enc:α->D)(l:List α):D:=.tup (l.map enc)
def eP(a:α->D)(b:β->D)(x:α×β):D:=.tup [a x.1,b x.2]
def eO(a:α->D):Option α->D
 | none=>.non
 | some x=>a x
def eU(_:Unit):D:=.non
def eF(l:ZLi):D:=.fro (l.map D.int)
def oL(enc:α->D)(l:List α):Ob:=.lst (l.map enc)
def qG(h:VE A m R p)(i:∀v S d S',R v S d S'->R' v S d S'):VE A m R' p:=λv g S0 e F S j=>by
 obtain⟨d,S',l,o,s⟩:=h v g S0 e F S j;exact⟨d,S',l,o,i _ _ _ _ s⟩
def E7(h:VE A m (rN g) p):VE A m (rO g) p:=qG h λv S d S' ⟨n,j,_,l⟩=>⟨n,j,l⟩
def AO(h:A[i]?=some (.v (enc v))):VE A (AH i) (rV enc) (some v):=λ_ g S0 e F S j=>by
 cases g;obtain⟨x,l,m⟩:=j.sl i _ h;cases m;exact⟨_,S,by unfold AH;rw[l],Keeps.refl S,rfl⟩
def Ds(h:A[i]?=some (.z (j v))):VE A (AH i) (rO j) (some v):=λ_ l S0 e F S g=>by
 cases l;obtain⟨x,m,n,rfl,o⟩:=g.sl i _ h;exact⟨_,S,by unfold AH;rw[m],Keeps.refl S,n,rfl,g.fz _ _ o⟩
def EU(h:A[i]?=some (.y (j v))):VE A (AH i) (rO j) (some v):=λ_ l S0 e F S g=>by
 cases l;obtain⟨x,m,n,rfl,o,_⟩:=g.sl i _ h;exact⟨_,S,by unfold AH;rw[m],Keeps.refl S,n,rfl,g.fz _ _ o⟩
def DF(h:A[i]?=some (.w k (g v))):VE A (AH i) (rO g) (some v):=λ_ j S0 e F S l=>by
 cases j;obtain⟨x,m,n,rfl,s,o⟩:=l.sl i _ h;exact⟨_,S,by unfold AH;rw[m],Keeps.refl S,n,rfl,o⟩
def Ck(h:d=enc v):VE A (mC d) (rV enc) (some v):=λ_ g S0 e F S j=>by
 cases g;exact⟨d,S,rfl,Keeps.refl S,h⟩
def A6(h:p.bind q=some v):∃x,p=some x/\q x=some v:=VP.mp h
def Ir{f:D->D->Sto->Res D}{a b:ME}{l:α->D}{m:β->D}{o:γ->D}{s:Option α}{C:Option β}{g:α->β->Option γ}(I:VE A a (rV l) s)(hb:VE A b (rV m) C)
  (J:∀x y z S,g x y=some z->f (l x) (m y) S=.ok (o z) S):VE A (m2 f a b) (rV o) (s.bind λx=>C.bind λy=>g x y):=λv j S0 e F S E=>by
 obtain⟨x,L,j⟩:=A6 j;obtain⟨y,N,O⟩:=A6 j;obtain⟨d1,P,Q,G,rfl⟩:=I x L S0 e F S E;obtain⟨d2,H,R,T,rfl⟩:=hb y N S0 e _ P (E.grow G);exact⟨_,H,EI Q R (J x y v H O),G.trans T,rfl⟩
def ff{f:D->D->Sto->Res D}{a b:ME}{l:α->D}{m:β->Ob}{o:γ->D}{s:Option α}{C:Option β}{g:α->β->Option γ}(I:VE A a (rV l) s)(hb:VE A b (rO m) C)
  (J:∀x y z S (n:Nat),S[n]?=some (m y)->g x y=some z->f (l x) (.ref n) S=.ok (o z) S):VE A (m2 f a b) (rV o) (s.bind λx=>C.bind λy=>g x y):=λv j S0 e F S E=>by
 obtain⟨x,L,j⟩:=A6 j;obtain⟨y,N,O⟩:=A6 j;obtain⟨d1,P,Q,G,rfl⟩:=I x L S0 e F S E;obtain⟨d2,H,R,T,n,rfl,U⟩:=hb y N S0 e _ P (E.grow G);exact⟨_,H,EI Q R (J x y v H n U O),G.trans T,rfl⟩
def fu{f:D->D->Sto->Res D}{a b:ME}{l:α->Ob}{m:β->D}{o:γ->D}{s:Option α}{C:Option β}{g:α->β->Option γ}(J:VE A a (rO l) s)(hb:VE A b (rV m) C)
  (L:∀x y z S (n:Nat),S[n]?=some (l x)->g x y=some z->f (.ref n) (m y) S=.ok (o z) S):VE A (m2 f a b) (rV o) (s.bind λx=>C.bind λy=>g x y):=λv j S0 e F S E=>by
 obtain⟨x,N,j⟩:=A6 j;obtain⟨y,O,P⟩:=A6 j;obtain⟨d1,Q,R,G,n,rfl,T⟩:=J x N S0 e F S E;obtain⟨d2,H,U,I,rfl⟩:=hb y O S0 e _ Q (E.grow G);exact⟨_,H,EI R U (L x y v H n (I.at T) P),G.trans I,rfl⟩
def E8(h:VE A m (rV D.bl) p):VB A (mB m) p:=λv g S0 e F S j=>by
 obtain⟨d,S',l,o,rfl⟩:=h v g S0 e F S j;exact⟨S',TQ l,o⟩
def Yq(h:VE A m (rV D.bl) p):VB A (O9 m) p:=λv g S0 e F S j=>by
 obtain⟨d,S',l,o,rfl⟩:=h v g S0 e F S j;refine⟨S',?_,o⟩;unfold O9;rw[l];rfl
def Nf:VB A Hk (some true):=λv g S0 e F S j=>by cases g;exact⟨S,rfl,Keeps.refl S⟩
def Py(h:VB A t p):VB A (OX t) (p.bind λb=>some (!b)):=λv g S0 e F S j=>by
 obtain⟨x,l,m⟩:=A6 g;cases m;obtain⟨S',o,s⟩:=h x l S0 e F S j;exact⟨S',WA o,s⟩
def Rv(h:VB A t p)(s:VB A u q):VB A (Q7 t u) (p.bind λb=>if b=true then q else some false):=λv C S0 e F S j=>by
 obtain⟨x,E,l⟩:=A6 C;obtain⟨m,o,g⟩:=h x E S0 e F S j
 cases x with
 | true=>
  obtain⟨G,H,I⟩:=s v l S0 e _ m (j.grow g);exact⟨G,(oQ o).trans H,g.trans I⟩
 | false=>cases l;exact⟨m,oP o,g⟩
def UT(h:VB A t p)(s:VB A u q):VB A (mOr t u) (p.bind λb=>if b=true then some true else q):=λv C S0 e F S j=>by
 obtain⟨x,E,l⟩:=A6 C;obtain⟨m,o,g⟩:=h x E S0 e F S j
 cases x with
 | false=>
  obtain⟨G,H,I⟩:=s v l S0 e _ m (j.grow g);exact⟨G,(ZD o).trans H,g.trans I⟩
 | true=>cases l;exact⟨m,rP o,g⟩
def Hi:∀(v:α) (S S1:Sto) (d:D) (S':Sto),S.length<=S1.length->rV enc v S1 d S'->rV enc v S d S':=λ_ _ _ _ _ _ h=>h
def Uh:∀(v:α) (S S1:Sto) (d:D) (S':Sto),S.length<=S1.length->rN g v S1 d S'->rN g v S d S':=λ_ _ _ _ _ l ⟨n,j,m,o⟩=>⟨n,j,Ap l m,o⟩
inductive Fw(ρ σ:Type) where
 | rt (r:ρ) | nx (s:σ) | bk (s:σ) | ct (s:σ)
def VG(S0:Sto)(F:Fz)(S':Sto)(R:Rk ρ)(B:σ->List Sl)(g:Fl):Fw ρ σ->Prop
 | .nx s=>∃j l,g=.nx j/\Vs S0 (B s) j l S'/\Fle F l
 | .ct s=>∃j l,g=.ct j/\Vs S0 (B s) j l S'/\Fle F l
 | .bk s=>∃j l,g=.bk j/\Vs S0 (B s) j l S'/\Fle F l
 | .rt r=>∃d,g=.rt d/\R r S0 d S'/\Keeps S0 S'
def VS(A:List Sl)(b:MS)(R:Rk ρ)(p:Option (Fw ρ σ))(B:σ->List Sl):Prop:=∀f,p=some f->∀S0 e F S,Vs S0 A e F S->∃g S',b e S=.ok g S'/\VG S0 F S' R B g f
noncomputable def BZ(p:Option (Fw ρ σ))(q:σ->Option (Fw ρ τ)):Option (Fw ρ τ):=match p with
 | some (.nx s)=>q s
 | some (.rt r)=>some (.rt r)
 | _=>none
def VG.up{S0:Sto}{F G:Fz}{S':Sto}{R:Rk ρ}{B:σ->List Sl}{g:Fl}{f:Fw ρ σ}(l:Fle F G)(h:VG S0 G S' R B g f):VG S0 F S' R B g f:=by
 cases f with
 | rt r=>exact h
 | nx s=>obtain⟨j,m,o,C,E⟩:=h;exact⟨j,m,o,C,l.trans E⟩
 | bk s=>obtain⟨j,m,o,C,E⟩:=h;exact⟨j,m,o,C,l.trans E⟩
 | ct s=>obtain⟨j,m,o,C,E⟩:=h;exact⟨j,m,o,C,l.trans E⟩
def A8{a b:MS}{R:Rk ρ}{p:Option (Fw ρ σ)}{q:σ->Option (Fw ρ τ)}{B:σ->List Sl}{C:τ->List Sl}(G:VS A a R p B)(hb:∀s,VS (B s) b R (q s) C):VS A (BF a b) R (BZ p q) C:=λf l S0 e F S H=>by
 cases p with
 | none=>cases l
 | some w=>
  obtain⟨g,o,E,j⟩:=G _ rfl S0 e F S H
  cases w with
  | nx s=>
   obtain⟨I,J,rfl,j,m⟩:=j;obtain⟨L,N,O,P⟩:=hb s f l S0 I J o j;exact⟨L,N,(Ch E).trans O,P.up m⟩
  | rt r=>
   cases l;obtain⟨d,rfl,j,m⟩:=j;exact⟨_,o,gm E,d,rfl,j,m⟩
  | bk s=>cases l
  | ct s=>cases l
def E6{R:Rk ρ}{B:σ->List Sl}{s:σ}(w:Wk A (B s)):VS A sNx R (some (.nx s)) B:=λf g S0 e F S j=>by
 cases g;exact⟨_,S,rfl,e,F,rfl,j.weak w,Fle.refl F⟩
noncomputable def Ej(g:σ->τ)(p:Option (Fw ρ σ)):Option (Fw ρ τ):=match p with
 | some (.nx s)=>some (.nx (g s))
 | some (.rt r)=>some (.rt r)
 | some (.bk s)=>some (.bk (g s))
 | some (.ct s)=>some (.ct (g s))
 | none=>none
def DE{b:MS}{R:Rk ρ}{p:Option (Fw ρ σ)}{g:σ->τ}{B:σ->List Sl}{C:τ->List Sl}(h:VS A b R p B)(w:∀s,Wk (B s) (C (g s))):VS A b R (Ej g p) C:=λf l S0 e F S I=>by
 cases p with
 | none=>cases l
 | some x=>
  obtain⟨g,G,H,j⟩:=h _ rfl S0 e F S I
  cases x with
  | nx s=>cases l;obtain⟨m,o,rfl,j,E⟩:=j;exact⟨_,G,H,m,o,rfl,j.weak (w s),E⟩
  | rt r=>cases l;exact⟨_,G,H,j⟩
  | bk s=>cases l;obtain⟨m,o,rfl,j,E⟩:=j;exact⟨_,G,H,m,o,rfl,j.weak (w s),E⟩
  | ct s=>cases l;obtain⟨m,o,rfl,j,E⟩:=j;exact⟨_,G,H,m,o,rfl,j.weak (w s),E⟩
def DJ(h:VE A m (rV enc) p):VS A (Bn i m) R (p.bind λv=>some (.nx v)) (λv=>A.set i (.v (enc v))):=λf j S0 e F S g=>by
 obtain⟨v,l,o⟩:=A6 j;cases o;obtain⟨d,S',s,C,rfl⟩:=h v l S0 e F S g;exact⟨_,S',KP s,_,_,rfl,(g.grow C).set i rfl,g.fle S'⟩
def Ju(h:VE A m (rN j) p):VS A (Bn i m) R (p.bind λv=>some (.nx v)) (λv=>A.set i (.y (j v))):=λf o S0 e F S g=>by
 obtain⟨v,s,C⟩:=A6 o;cases C;obtain⟨d,S',E,G,n,rfl,l,H⟩:=h v s S0 e F S g;exact⟨_,S',KP E,_,_,rfl,(g.grow G).set (a:=.y (j v)) i ⟨n,rfl,LC l H,Ap g.kp.1 l⟩,g.fle S'⟩
def G7(h:VE A m (rN j) p):VS A (Bn i m) R (p.bind λv=>some (.nx v)) (λv=>A.set i (.w i (j v))):=λf l S0 e F S g=>by
 obtain⟨v,o,s⟩:=A6 l;cases s;obtain⟨d,S',C,E,n,rfl,G,H⟩:=h v o S0 e F S g;obtain⟨I,J,L⟩:=g.own E (i:=i) G H;exact⟨_,S',KP C,_,I,rfl,J,L⟩
def DV{m:ME}{enc:ρ->D}{p:Option ρ}{B:σ->List Sl}(h:VE A m (rV enc) p):VS A (Dt m) (rV enc) (p.bind λv=>some (.rt v)) B:=λf j S0 e F S g=>by
 obtain⟨v,l,o⟩:=A6 j;cases o;obtain⟨d,S',s,C,rfl⟩:=h v l S0 e F S g;exact⟨_,S',Li s,_,rfl,rfl,g.kp.trans C⟩
def VY{m:ME}{j:ρ->Ob}{p:Option ρ}{B:σ->List Sl}(h:VE A m (rN j) p):VS A (Dt m) (rN j) (p.bind λv=>some (.rt v)) B:=λf l S0 e F S g=>by
 obtain⟨v,o,s⟩:=A6 l;cases s;obtain⟨d,S',C,E,n,rfl,G,H⟩:=h v o S0 e F S g;exact⟨_,S',Li C,_,rfl,⟨n,rfl,Ap g.kp.1 G,H⟩,g.kp.trans E⟩
def VX{i:Nat}{j:ρ->Ob}{v:ρ}{B:σ->List Sl}{k:Nat}(h:A[i]?=some (.w k (j v))):VS A (Dt (AH i)) (rN j) (some (.rt v)) B:=λf l S0 e F S g=>by
 cases l;obtain⟨x,m,n,rfl,o,s⟩:=g.sl i _ h;exact⟨_,S,Li (d:=.ref n) (by unfold AH;rw[m]),_,rfl,⟨n,rfl,(g.ow _ _ o).1,s⟩,g.kp⟩
def MN{t:MT}{a b:MS}{R:Rk ρ}{pt:Option Bool}{p q:Option (Fw ρ σ)}{B:σ->List Sl}(H:VB A t pt)(I:VS A a R p B)(hb:VS A b R q B):VS A (sIf t a b) R (pt.bind λc=>if c=true then p else q) B:=λf J S0 e F S j=>by
 obtain⟨c,L,C⟩:=A6 J;obtain⟨l,E,G⟩:=H c L S0 e F S j
 cases c with
 | true=>
  obtain⟨g,m,o,s⟩:=I f C S0 e _ l (j.grow G);exact⟨g,m,(Qo E).trans o,s.up (j.fle l)⟩
 | false=>
  obtain⟨g,m,o,s⟩:=hb f C S0 e _ l (j.grow G);exact⟨g,m,(Qo E).trans o,s.up (j.fle l)⟩
def YB(l:List α)(x:α):Option (List α):=if l.length < 1000000 then some (l++[x])else none
def Js(l k:List α):Option (List α):=if l.length+k.length<=1000000 then some (l++k)else none
def rp(h:n < 1000000):n < sizeLine:=Af h (by decide)
def cx(h:n<=1000000):n<=sizeLine:=Ap h (by decide)
def VZ(hi:A[i]?=some (.w i (oL enc l)))(h:VE A m (rV enc) p)(H:((A.set i .u).all (Sl.oth i))=true) :
  VS A (C2 (K9 (AH i) m)) R (p.bind λv=>(YB l v).bind λj=>some (.nx j)) (λj=>A.set i (.w i (oL enc j))):=λf I S0 e F S o=>by
 obtain⟨v,J,g⟩:=A6 I;obtain⟨j,g,L⟩:=A6 g;cases L;unfold YB at g;split at g
 ·rename_i N
  cases g;obtain⟨x,C,n,rfl,O,s⟩:=o.sl i _ hi;obtain⟨d,S',P,E,rfl⟩:=h v J S0 e F S o;have Q:=o.grow E;have G:=TM (mo:=AH i) (e:=e) (S:=S) (S1:=S) (n:=n) (by unfold AH;rw[C]) s P (E.at s) (by rw[AG];exact rp N);rw[show l.map enc++[enc v]=(l++[v]).map enc by simp]at G;exact⟨_,_,Gf G,e,_,rfl,Q.put H hi C (by rw[Ev (C4 s)];exact O),o.fle S'⟩
 ·cases g
def fU(hi:A[i]?=some (.w i (oL enc l)))(h:VE A m (rN (oL enc)) p)(H:((A.set i .u).all (Sl.oth i))=true) :
  VS A (C2 (Nn (AH i) m)) R (p.bind λv=>(Js l v).bind λj=>some (.nx j)) (λj=>A.set i (.w i (oL enc j))):=λf I S0 e F S o=>by
 obtain⟨v,J,g⟩:=A6 I;obtain⟨j,g,L⟩:=A6 g;cases L;unfold Js at g;split at g
 ·rename_i N
  cases g;obtain⟨x,C,n,rfl,O,s⟩:=o.sl i _ hi;obtain⟨d,S',P,E,k,rfl,Q,T⟩:=h v J S0 e F S o;have U:=o.grow E;have G:=dR (mo:=AH i) (e:=e) (S:=S) (S1:=S) (n:=n) (by unfold AH;rw[C]) s P (E.at s) T (λc=>by subst c;exact zX (C4 s) (G5.mpr Q)) (by rw[AG,AG];exact cx N);rw[<-BD]at G;exact⟨_,_,Gf G,e,_,rfl,U.put H hi C (by rw[Ev (C4 s)];exact O),o.fle S'⟩
 ·cases g
def Z2(hi:A[i]?=some (.w i (oL enc l)))(h:VE A m (rV (eT enc)) p)(G:((A.set i .u).all (Sl.oth i))=true) :
  VS A (C2 (SS (AH i) m)) R (p.bind λv=>(Js l v).bind λj=>some (.nx j)) (λj=>A.set i (.w i (oL enc j))):=λf H S0 e F S o=>by
 obtain⟨v,I,g⟩:=A6 H;obtain⟨j,g,J⟩:=A6 g;cases J;unfold Js at g;split at g
 ·rename_i L
  cases g;obtain⟨x,C,n,rfl,N,s⟩:=o.sl i _ hi;obtain⟨d,S',O,E,rfl⟩:=h v I S0 e F S o;have P:=o.grow E
  have Q:SS (AH i) m e S=.ok .non (S'.set n (.lst ((l++v).map enc))):=by
   unfold SS;rw[show AH i e S=.ok (.ref n) S by unfold AH;rw[C]];dsimp only[Res.bind];rw[show atL (.ref n) S=some (n,l.map enc) by unfold atL;dsimp only;rw[s];rfl];dsimp only;rw[O];dsimp only;rw[show atL (.ref n) S'=some (n,l.map enc) by unfold atL;dsimp only;rw[E.at s];rfl];unfold eT;dsimp only;rw[qX (by rw[AG,AG];exact cx L),BD]
  exact⟨_,_,Gf Q,e,_,rfl,P.put G hi C (by rw[Ev (C4 s)];exact N),o.fle S'⟩
 ·cases g
def kt(h:VE A m Rm p):VS A (C2 m) R (p.bind λ_=>some (.nx ())) (λ_:Unit=>A):=λf j S0 e F S g=>by
 obtain⟨v,l,o⟩:=A6 j;cases o;obtain⟨d,S',s,C,_⟩:=h v l S0 e F S g;exact⟨_,S',Gf s,e,_,rfl,g.grow C,g.fle S'⟩
def VT(g:MG)(enc:α->D)(t:α->List Sl->List Sl):Prop:=∀x S0 A e F S,Vs S0 A e F S->∃j,g (enc x) e S=.ok j S/\Vs S0 (t x A) j F S
def G6:VT (tgN i) enc (λx A=>A.set i (.v (enc x))):=λx S0 A e F S g=>⟨_,rfl,g.set (a:=.v (enc x)) i rfl⟩
def Ow:VT (E9 2 (Bo (tgN i) (Bo (tgN j) FN))) (eP a b) (λx A=>(A.set i (.v (a x.1))).set j (.v (b x.2))):=λx S0 A e F S g=>⟨_,rfl,(g.set (a:=.v (a x.1)) i rfl).set (a:=.v (b x.2)) j rfl⟩
def Ey:List α->σ->(σ->α->Option (Fw ρ σ))->Option (Fw ρ σ)
 | [],s,_=>some (.nx s)
 | x :: l,s,q=>match q s x with
  | some (.nx g)=>Ey l g q
  | some (.ct g)=>Ey l g q
  | some (.bk g)=>some (.nx g)
  | some (.rt r)=>some (.rt r)
  | none=>none
def kr{enc:α->D}{g:MG}{t:α->List Sl->List Sl}{b:MS}{R:Rk ρ}{q:σ->α->Option (Fw ρ σ)}{B:σ->List Sl}(hg:VT g enc t)(hb:∀s x,VS (t x (B s)) b R (q s x) B){w:N1}{S0:Sto}{Y:Fz}{j:List α}
  (hw:∀O Z,Fle Y O->(∀n o,O n=.fz o->Z[n]?=some o)->w Z=some (j.map enc)):∀(l:List α) (k:Nat),j.drop k=l->∀(s:σ) (f:Fw ρ σ),Ey l s q=some f->∀e F S,Vs S0 (B s) e F S->Fle Y F->∃h S',HP w g b (l.length) k e S=.ok h S'/\VG S0 Y S' R B h f:=by
 intro l
 induction l with
 | nil=>
  intro k T s f C e F S P E;cases C
  have:j.length<=k:=by
   have:=congrArg F7 T;rw[Ca,JL]at this
   lia
  refine⟨_,S,?_,e,F,rfl,P,E⟩;unfold HP;rw[hw F S E P.fz];dsimp only;rw[CA (by rw[AG];exact this)]
 | cons x l ih=>
  intro k T s f C e F S P E
  have hx:j[k]?=some x:=by
   have:=congrArg (λz=>z[0]?) T;rw[EG]at this;simpa using this
  have xf:j.drop (k+1)=l:=by
   have G:j.drop (k+1)=(j.drop k).drop 1:=by rw[UM]
   exact G.trans (congrArg (List.drop 1) T)
  obtain⟨G,g1,U⟩:=hg x S0 _ e F S P
  have run:∀h S',b G S=.ok h S'->HP w g b ((x :: l).length) k e S=(match h with
    | .nx m=>HP w g b l.length (k+1) m S'
    | .ct m=>HP w g b l.length (k+1) m S'
    | .bk m=>.ok (.nx m) S'
    | .rt d=>.ok (.rt d) S'
    | .ex c m=>.ok (.ex c m) S'):=λh S' xn=>by
   show HP w g b (l.length+1) k e S=_
   conv=>lhs;unfold HP
   rw[hw F S E P.fz];dsimp only;rw[Ao,hx];dsimp only[TU];rw[g1];dsimp only[Res.bind];rw[xn]
   all_goals (cases h <;> rfl)
  unfold Ey at C;split at C
  ·rename_i X H
   obtain⟨h,I,J,m,Q,rfl,L,N⟩:=hb s x _ H S0 G F S U;rw[run _ _ J];exact ih (k+1) xf X f C m Q I L (E.trans N)
  ·rename_i X H
   obtain⟨h,I,J,m,Q,rfl,L,N⟩:=hb s x _ H S0 G F S U;rw[run _ _ J];exact ih (k+1) xf X f C m Q I L (E.trans N)
  ·rename_i X H
   cases C;obtain⟨h,I,J,m,Q,rfl,L,N⟩:=hb s x _ H S0 G F S U;rw[run _ _ J];exact⟨_,I,rfl,m,Q,rfl,L,E.trans N⟩
  ·rename_i r H
   cases C;obtain⟨h,I,J,d,rfl,L,N⟩:=hb s x _ H S0 G F S U;rw[run _ _ J];exact⟨_,I,rfl,d,rfl,L,N⟩
  ·cases C
def JU{enc:α->D}{mi:MI}{g:MG}{t:α->List Sl->List Sl}{b:MS}{R:Rk ρ}{p:Option (List α)}{q:σ->α->Option (Fw ρ σ)}{B:σ->List Sl}{s0:σ}(hi:VI A mi enc p)(E:VT g enc t)(w0:Wk A (B s0))(hb:∀s x,VS (t x (B s)) b R (q s x) B) :
  VS A (Ex mi g b) R (p.bind λl=>Ey l s0 q) B:=λf G S0 e F S o=>by
 obtain⟨l,H,I⟩:=A6 G;obtain⟨w,m,J,L,C⟩:=hi l H S0 e F S o;have j:=o.grow L
 have N:DR w m=l.length:=by unfold DR;rw[C _ m (Fle.refl _) j.fz];exact AG _
 obtain⟨h,O,P,Q⟩:=kr E hb C l 0 rfl s0 f I e _ m (j.weak w0) (Fle.refl _);refine⟨h,O,?_,Q.up (o.fle m)⟩;rw[NH J,N];exact P
noncomputable def S6(c:α->Option Bool)(m:α->Option β):List α->Option (List β)
 | []=>some []
 | x :: l=>(c x).bind λb=>if b=true then(m x).bind λy=>(S6 c m l).bind λg=>some (y :: g)else S6 c m l
def Ff(l:List α)(c:α->Option Bool)(m:α->Option β):Option (List β):=if l.length<=1000000 then S6 c m l else none
def fX{enc:α->D}{H:β->D}{g:MG}{P:List (Option D)->Prop}{T:α->List Sl}{c:MT}{m:ME}{Z:α->Option Bool}{pm:α->Option β}
  (hg:∀x S0 e F S o,P o->Vs S0 A e F S->∃E,g (enc x) (o++e) S=.ok (E++e) S/\P E/\Vs S0 (T x) (E++e) F S)
  (hc:∀x,VB (T x) c (Z x)) (hm:∀x,VE (T x) m (rV H) (pm x)) {w:N1} {S0:Sto} {e:Lo} {j:List α} {S1:Sto} (hf:j.length<=1000000) (hw:∀yx,Keeps S1 yx->w yx=some (j.map enc)) :
  ∀(l:List α) (k:Nat),j.drop k=l->∀(r:List β),S6 Z pm l=some r->∀o F S s,P o->Vs S0 A e F S->Keeps S1 S->s.length<=k->∃S',Gu w g c m l.length k (o++e) S s=.ok (s++r.map H) S'/\Keeps S S':=by
 intro l
 induction l with
 | nil=>
  intro k I r J o F S s hp N C ha;cases J
  have:j.length<=k:=by
   have:=congrArg F7 I;rw[Ca,JL]at this
   lia
  refine⟨S,?_,Keeps.refl S⟩;unfold Gu;rw[hw S C];dsimp only;rw[CA (by rw[AG];exact this),Mc,BI]
 | cons x l ih=>
  intro k I r J o F S s hp N C ha
  have hx:j[k]?=some x:=by
   have:=congrArg (λz=>z[0]?) I;rw[EG]at this;simpa using this
  have xf:j.drop (k+1)=l:=by
   have e1:j.drop (k+1)=(j.drop k).drop 1:=by rw[UM]
   exact e1.trans (congrArg (List.drop 1) I)
  have O:k < j.length:=(AC.mp hx).1;obtain⟨E,g1,g2,g3⟩:=hg x S0 e F S o hp N;unfold S6 at J;obtain⟨b,h1,L⟩:=A6 J;obtain⟨S2,h3,G⟩:=hc x b h1 S0 _ F S g3;have xl:=N.grow G
  show ∃S',Gu w g c m (l.length+1) k (o++e) S s=_/\_
  conv=>arg 1;ext S';arg 1;lhs;unfold Gu
  rw[hw S C];dsimp only;rw[Ao,hx];dsimp only[TU];rw[qX (B8 ha (rp (Af O hf))),g1];dsimp only[okR,Res.bind];rw[h3];dsimp only[okR,Res.bind]
  cases b with
  | true=>
   rw[qX rfl]at L ⊢;obtain⟨y,h5,h6⟩:=A6 L;obtain⟨ys,Q,h7⟩:=A6 h6;cases h7;obtain⟨d,S3,h8,R,rfl⟩:=hm x y h5 S0 _ _ S2 (g3.grow G);rw[h8];obtain⟨U,X,Y⟩:=ih (k+1) xf ys Q E _ S3 (s++[H y]) g2 (xl.grow R) (C.trans (G.trans R)) (by rw[AK,Ai];lia);refine⟨U,?_,(G.trans R).trans Y⟩;show Gu w g c m l.length (k+1) (E++e) S3 (s++[H y])=_;rw[X,A7];rfl
  | false=>
   rw[qY AV]at L ⊢;obtain⟨U,X,Y⟩:=ih (k+1) xf r L E _ S2 s g2 xl (C.trans G) (by lia);exact⟨U,X,G.trans Y⟩
def Z4{enc:α->D}{E:β->D}{n:Nat}{mi:MI}{g:MG}{P:List (Option D)->Prop}{T:α->List Sl}{c:MT}{m:ME}{p:Option (List α)}{G:α->Option Bool}{H:α->Option β}(hi:VK A mi enc p)(N:P (Ak n none))
  (O:∀x S0 e F S j,P j->Vs S0 A e F S->∃s,g (enc x) (j++e) S=.ok (s++e) S/\P s/\Vs S0 (T x) (s++e) F S)
  (Q:∀x,VB (T x) c (G x)) (R:∀x,VE (T x) m (rV E) (H x)):VL A (Fe n mi g c m) E (p.bind λl=>Ff l G H):=λr U S0 e F S I=>by
 obtain⟨l,X,o⟩:=A6 U;obtain⟨w,C,Y,J,L⟩:=hi l X S0 e F S I;unfold Ff at o;split at o
 ·rename_i Z
  have zr:=I.grow J;obtain⟨S2,h6,h7⟩:=fX O Q R Z L l 0 rfl r o _ _ C [] N zr (Keeps.refl _) (AL _);refine⟨S2,?_,J.trans h7⟩;rw[RY Y,show DR w C=l.length by unfold DR;rw[L C (Keeps.refl _)];exact AG _];exact h6
 ·cases o
def G9{enc:α->D}{j:β->D}{mi:MI}{c:MT}{m:ME}{p:Option (List α)}{o:α->Option Bool}{s:α->Option β}(hi:VK A mi enc p)(C:∀x,VB (.v (enc x) :: A) c (o x))(E:∀x,VE (.v (enc x) :: A) m (rV j) (s x)) :
  VL A (Fe 1 mi (tgN 0) c m) j (p.bind λl=>Ff l o s):=
 Z4 (P:=λg=>∃z,g=[z]) hi ⟨none,rfl⟩ (λx S0 e F S g G H=>by
  obtain⟨z,rfl⟩:=G
  exact⟨[some (enc x)],rfl,⟨_,rfl⟩,H.cons (a:=.v (enc x)) rfl⟩) C E
def fY{a:α->D}{b:γ->D}{j:β->D}{mi:MI}{c:MT}{m:ME}{p:Option (List (α×γ))}{o:α×γ->Option Bool}{s:α×γ->Option β}(hi:VK A mi (eP a b) p)(C:∀x:α×γ,VB (.v (a x.1) :: .v (b x.2) :: A) c (o x))(E:∀x:α×γ,VE (.v (a x.1) :: .v (b x.2) :: A) m (rV j) (s x)) :
  VL A (Fe 2 mi (E9 2 (Bo (tgN 0) (Bo (tgN 1) FN))) c m) j (p.bind λl=>Ff l o s):=
 Z4 (P:=λg=>∃z y,g=[z,y]) hi ⟨none,none,rfl⟩ (λx S0 e F S g G H=>by
  obtain⟨z,y,rfl⟩:=G
  exact⟨[some (a x.1),some (b x.2)],rfl,⟨_,_,rfl⟩,(H.cons (a:=.v (b x.2)) rfl).cons (a:=.v (a x.1)) rfl⟩) C E
def Dg(h:VL A ml enc p):VE A (D4 ml) (rN (oL enc)) p:=λv j S0 e F S l=>by
 obtain⟨S',m,g⟩:=h v j S0 e F S l;exact⟨_,_,SO m,g.trans (Keeps.app _ _),_,rfl,g.1,Dh _ _⟩
inductive Ar where
 | v (d:D) | z (o:Ob) | q (P:(Nat->Option Ob)->D->Prop)
def Ar.ok(S:Sto):Ar->D->Prop
 | .v d,x=>x=d
 | .z o,x=>∃n,x=.ref n/\S[n]?=some o
 | .q P,x=>∀L:Nat->Option Ob,(∀n o,S[n]?=some o->L n=some o)->P L x
def Ar.sl:Ar->Sl
 | .v d=>.v d
 | .z o=>.z o
 | .q P=>.q P
def OJ(S:Sto):List Ar->List D->Prop
 | [],[]=>True
 | a :: as,d :: g=>a.ok S d/\OJ S as g
 | _,_=>False
def OJ.len:∀{as:List Ar} {ds:List D},OJ S as ds->ds.length=as.length
 | [],[],_=>rfl
 | _ :: as,_ :: ds,h=>by rw[A1,A1,OJ.len h.2]
 | [],_ :: _,h=>h.elim
 | _ :: _,[],h=>h.elim
def OJ.at:∀{as:List Ar} {ds:List D},OJ S as ds->∀(i:Nat) (a:Ar),as[i]?=some a->∃d,ds[i]?=some d/\a.ok S d
 | [],[],_,i,a,h=>by simp at h
 | b :: as,d :: ds,h,0,a,q=>by cases q;exact⟨d,rfl,h.1⟩
 | b :: as,d :: ds,h,i+1,a,q=>OJ.at h.2 i a q
 | [],_ :: _,h,_,_,_=>h.elim
 | _ :: _,[],h,_,_,_=>h.elim
def VF(f:List D->Sto->Res D)(as:List Ar)(R:Rk α)(p:Option α):Prop:=∀v,p=some v->∀S g,OJ S as g->∃d S',f g S=.ok d S'/\Keeps S S'/\R v S d S'
def VA(A:List Sl)(ml:ML)(p:Option γ)(j:γ->List Ar):Prop:=∀v,p=some v->∀S0 e F S,Vs S0 A e F S->∃g S',ml e S=.ok g S'/\Keeps S S'/\OJ S' (j v) g
def DW:VA A BR (some ()) (λ_=>[]):=λv g S0 e F S j=>⟨[],S,rfl,Keeps.refl S,trivial⟩
def GB(h:VE A m (rV enc) p)(l:VA A ml q o):VA A (AX m ml) (p.bind λx=>q.bind λy=>some (x,y)) (λz=>.v (enc z.1) :: o z.2):=λv s S0 e F S g=>by
 obtain⟨x,C,E⟩:=A6 s;obtain⟨y,G,H⟩:=A6 E;cases H;obtain⟨d,I,J,j,rfl⟩:=h x C S0 e F S g;obtain⟨Q,L,N,O,P⟩:=l y G S0 e _ I (g.grow j);exact⟨_,L,CU J N,j.trans O,rfl,P⟩
def MU(h:VE A m (rO o) p)(s:VA A ml q C):VA A (AX m ml) (p.bind λx=>q.bind λy=>some (x,y)) (λz=>.z (o z.1) :: C z.2):=λv E S0 e F S g=>by
 obtain⟨x,G,H⟩:=A6 E;obtain⟨y,I,J⟩:=A6 H;cases J;obtain⟨d,L,N,j,n,rfl,O⟩:=h x G S0 e F S g;obtain⟨T,P,Q,l,R⟩:=s y I S0 e _ L (g.grow j);exact⟨_,P,CU N Q,j.trans l,⟨n,rfl,l.at O⟩,R⟩
def Cv(m:VA A ml p g)(o:∀z,VF f (g z) R (q z))(s:∀z,(g z).length=n)(hR:∀v S S1 d S',S.length<=S1.length->R v S1 d S'->R v S d S'):VE A (Cd n f ml) R (p.bind q):=λv C S0 e F S E=>by
 obtain⟨z,G,H⟩:=A6 C;obtain⟨I,S1,J,j,l⟩:=m z G S0 e F S E;obtain⟨d,L,N,O,P⟩:=o z v H S1 I l;exact⟨d,L,(JK J (l.len.trans (s z))).trans N,j.trans O,hR _ _ _ _ _ j.1 P⟩
def U7(S:Sto):Fz:=λn=>match S[n]? with
 | some o=>.fz o
 | none=>.no
def Vs.start(h:OJ S as ds):Vs S (as.map Ar.sl++Ak (n - as.length) .u) (HB n ds) (U7 S) S:=by
 refine⟨Keeps.refl S,λn o q=>?_,λn i q=>?_,λn s=>by unfold U7;rw[CA s],λi a g=>?_⟩
 ·unfold U7 at q
  split at q
  ·rename_i N C;cases q;exact C
  ·cases q
 ·unfold U7 at q
  split at q <;> cases q
 ·unfold HB
  by_cases c:i < as.length
  ·rw[Ab (by rw[AG];exact c),Ao]at g
   rw[Ab (by rw[AG,h.len];exact c),Ao]
   cases j:as[i]? with
   | none=>rw[j]at g;cases g
   | some b=>
    rw[j]at g;cases g;obtain⟨d,E,l⟩:=h.at i b j;refine⟨some d,by rw[E];rfl,?_⟩
    cases b with
    | v x=>exact congrArg some l
    | z o=>obtain⟨m,G,H⟩:=l;exact⟨m,congrArg some G,by unfold U7;rw[H]⟩
    | q P=>exact⟨d,rfl,λL I=>l L λn o q=>I n o (by unfold U7;rw[q])⟩
  ·rw[BG (by rw[AG];lia)]at g
   rw[AG,Dj]at g;split at g
   ·rename_i J
    cases g;refine⟨none,?_,trivial⟩;rw[BG (by rw[AG,h.len];lia),AG,h.len,Dj,qX J]
   ·cases g
def KW(p:Option (Fw ρ σ)):Option ρ:=match p with
 | some (.rt r)=>some r
 | _=>none
def m8(p:Option (Fw Unit σ)):Option Unit:=match p with
 | some (.rt r)=>some ()
 | some (.nx _)=>some ()
 | _=>none
end
section
variable{S0 S S':Sto}{A:List Sl}{α β γ δ:Type}
section
variable{a b c:ME}{pa pb pc:Option Int}
def Er(g:VE A a (rV D.int) pa)(hb:VE A b (rV D.int) pb):VE A (m2 E5 a b) (rV D.int) (pa.bind λx=>pb.bind λy=>some (x+y)):=Ir g hb λx y z S h=>by cases h;rfl
def Vb(g:VE A a (rV D.int) pa)(hb:VE A b (rV D.int) pb):VE A (m2 cA a b) (rV D.int) (pa.bind λx=>pb.bind λy=>some (x - y)):=Ir g hb λx y z S h=>by cases h;rfl
def ZI(x y:Int):Option Int:=if YF x y then some (x * y)else none
def a7(x y:Int):Option Int:=if kC x y then some (x / y)else none
def SQ(x y:Int):Option Int:=if 0 < y then some (x % y)else none
def cQ(x y:Int):Option Int:=if oY x y then some (x ^ y.toNat)else none
def Vd(g:VE A a (rV D.int) pa)(hb:VE A b (rV D.int) pb):VE A (m2 Q6 a b) (rV D.int) (pa.bind λx=>pb.bind λy=>ZI x y):=Ir g hb λx y z S h=>by
 unfold ZI at h;split at h
 ·rename_i j;cases h;exact qX j
 ·cases h
def lG(g:VE A a (rV D.int) pa)(hb:VE A b (rV D.int) pb):VE A (m2 Jg a b) (rV D.int) (pa.bind λx=>pb.bind λy=>a7 x y):=Ir g hb λx y z S h=>by
 unfold a7 at h;split at h
 ·rename_i j;cases h;exact qX j
 ·cases h
def Mp(g:VE A a (rV D.int) pa)(hb:VE A b (rV D.int) pb):VE A (m2 Im a b) (rV D.int) (pa.bind λx=>pb.bind λy=>SQ x y):=Ir g hb λx y z S h=>by
 unfold SQ at h;split at h
 ·rename_i j;cases h;exact aU j
 ·cases h
def fc(g:VE A a (rV D.int) pa)(hb:VE A b (rV D.int) pb):VE A (m2 mP a b) (rV D.int) (pa.bind λx=>pb.bind λy=>cQ x y):=Ir g hb λx y z S h=>by
 unfold cQ at h;split at h
 ·rename_i j;cases h;exact qX j
 ·cases h
def GY(j:(decide (0 < k)&&decide (k<=1000000))=true)(l:VE A a (rV D.int) pa):VE A (m2 Jg a (mC (.int k))) (rV D.int) (pa.bind λx=>some (x / k)):=λv m S0 e F S o=>by
 obtain⟨x,s,B⟩:=A6 m;cases B;obtain⟨d,S',C,E,rfl⟩:=l x s S0 e F S o;have g:=DU _ _▸j;exact⟨_,S',EI C rfl (jh (of_decide_eq_true g.1) (of_decide_eq_true g.2)),E,rfl⟩
def Fu(g:decide (0 < k)=true)(j:VE A a (rV D.int) pa):VE A (m2 Im a (mC (.int k))) (rV D.int) (pa.bind λx=>some (x % k)):=λv l S0 e F S m=>by
 obtain⟨x,o,s⟩:=A6 l;cases s;obtain⟨d,S',B,C,rfl⟩:=j x o S0 e F S m;exact⟨_,S',EI B rfl (aU (of_decide_eq_true g)),C,rfl⟩
def Z9(j:(decide (-1000000<=k)&&decide (k<=1000000))=true)(l:VE A a (rV D.int) pa):VE A (m2 Q6 a (mC (.int k))) (rV D.int) (pa.bind λx=>some (x * k)):=λv m S0 e F S o=>by
 obtain⟨x,s,B⟩:=A6 m;cases B;obtain⟨d,S',C,E,rfl⟩:=l x s S0 e F S o;have g:=DU _ _▸j;exact⟨_,S',EI C rfl (nK (of_decide_eq_true g.1) (of_decide_eq_true g.2)),E,rfl⟩
def Yp(g:VE A a (rV D.int) pa):VE A (cq a) (rV D.int) (pa.bind λx=>some (-x)):=λv j S0 e F S l=>by
 obtain⟨x,m,o⟩:=A6 j;cases o;obtain⟨d,S',s,B,rfl⟩:=g x m S0 e F S l;exact⟨_,S',by unfold cq;rw[s];rfl,B,rfl⟩
def fh(g:VE A a (rV D.int) pa)(hb:VE A b (rV D.int) pb):VE A (m2 ltD a b) (rV D.bl) (pa.bind λx=>pb.bind λy=>some (decide (x < y))):=Ir g hb λx y z S h=>by cases h;rfl
def fk(g:VE A a (rV D.int) pa)(hb:VE A b (rV D.int) pb):VE A (m2 gtD a b) (rV D.bl) (pa.bind λx=>pb.bind λy=>some (decide (y < x))):=Ir g hb λx y z S h=>by cases h;rfl
def ou(g:VE A a (rV D.int) pa)(hb:VE A b (rV D.int) pb):VE A (m2 geD a b) (rV D.bl) (pa.bind λx=>pb.bind λy=>some (decide (y<=x))):=Ir g hb λx y z S h=>by cases h;rfl
def fq{f g:D->D->Sto->Res D}{P Q:Int->Int->Bool}(J:∀x y S,f (.int x) (.int y) S=.ok (.bl (P x y)) S)(L:∀x y S,g (.int x) (.int y) S=.ok (.bl (Q x y)) S)(N:VE A a (rV D.int) pa)(hb:VE A b (rV D.int) pb)(O:VE A c (rV D.int) pc) :
  VE A (m3 f g a b c) (rV D.bl) (pa.bind λx=>pb.bind λy=>if P x y=true then pc.bind λz=>some (Q y z)else some false):=λv o S0 e F S s=>by
 obtain⟨x,R,o⟩:=A6 o;obtain⟨y,T,j⟩:=A6 o;obtain⟨d1,U,E,l,rfl⟩:=N x R S0 e F S s;obtain⟨d2,B,G,C,rfl⟩:=hb y T S0 e _ U (s.grow l);have m:=J x y B
 cases H:P x y with
 | false=>
  rw[H]at j m;cases j;exact⟨_,B,vH E G m,l.trans C,rfl⟩
 | true=>
  rw[H]at j m;rw[qX rfl]at j;obtain⟨w,X,Y⟩:=A6 j;cases Y;obtain⟨d3,I,Z,k3,rfl⟩:=O w X S0 e _ B ((s.grow l).grow C);exact⟨_,I,i6 E G m Z (L y w I),(l.trans C).trans k3,rfl⟩
def vb(x y:Int)(S:Sto):ltD (.int x) (.int y) S=.ok (.bl (decide (x < y))) S:=rfl
def vc(x y:Int)(S:Sto):leD (.int x) (.int y) S=.ok (.bl (decide (x<=y))) S:=rfl
def Ve(m:VE A a (rV D.int) pa)(hb:VE A b (rV D.int) pb):VE A (mQ OF (AX a (AX b BR))) (rV D.int) (pa.bind λx=>pb.bind λy=>some (if y < x then y else x)):=λv g S0 e F S j=>by
 obtain⟨x,o,g⟩:=A6 g;obtain⟨y,s,B⟩:=A6 g;cases B;obtain⟨d1,C,E,l,rfl⟩:=m x o S0 e F S j;obtain⟨d2,G,H,I,rfl⟩:=hb y s S0 e _ C (j.grow l);exact⟨_,G,cO (CU E (CU H rfl)) rfl,l.trans I,rfl⟩
def lD(m:VE A a (rV D.int) pa)(hb:VE A b (rV D.int) pb):VE A (mQ Ql (AX a (AX b BR))) (rV D.int) (pa.bind λx=>pb.bind λy=>some (if y > x then y else x)):=λv g S0 e F S j=>by
 obtain⟨x,o,g⟩:=A6 g;obtain⟨y,s,B⟩:=A6 g;cases B;obtain⟨d1,C,E,l,rfl⟩:=m x o S0 e F S j;obtain⟨d2,G,H,I,rfl⟩:=hb y s S0 e _ C (j.grow l);exact⟨_,G,cO (CU E (CU H rfl)) rfl,l.trans I,rfl⟩
def qF{pb}(hb:VE A b (rV D.bl) pb):VE A (Xl b) (rV D.int) (pb.bind λx=>some (if x=true then 1 else 0)):=λv g S0 e F S j=>by
 obtain⟨x,l,m⟩:=A6 g;cases m;obtain⟨d,S',o,s,rfl⟩:=hb x l S0 e F S j;refine⟨_,S',?_,s,rfl⟩;unfold Xl;rw[o];rfl
def lI{pa pb}(o:VE A a (rV D.bl) pa)(hb:VE A b (rV D.bl) pb):VE A (Xm a b) (rV D.bl) (pa.bind λx=>if x=true then pb else some false):=λv s S0 e F S j=>by
 obtain⟨x,B,l⟩:=A6 s;obtain⟨d,S',m,g,rfl⟩:=o x B S0 e F S j
 cases x with
 | true=>
  obtain⟨d,C,E,G,rfl⟩:=hb v l S0 e _ S' (j.grow g);exact⟨_,C,by unfold Xm;rw[m];exact E,g.trans G,rfl⟩
 | false=>cases l;exact⟨_,S',by unfold Xm;rw[m];rfl,g,rfl⟩
def qD{pa pb}(o:VE A a (rV D.bl) pa)(hb:VE A b (rV D.bl) pb):VE A (ir a b) (rV D.bl) (pa.bind λx=>if x=true then some true else pb):=λv s S0 e F S j=>by
 obtain⟨x,B,l⟩:=A6 s;obtain⟨d,S',m,g,rfl⟩:=o x B S0 e F S j
 cases x with
 | false=>
  obtain⟨d,C,E,G,rfl⟩:=hb v l S0 e _ S' (j.grow g);exact⟨_,C,by unfold ir;rw[m];exact E,g.trans G,rfl⟩
 | true=>cases l;exact⟨_,S',by unfold ir;rw[m];rfl,g,rfl⟩
end
def EqN(n:Nat)(enc:α->D)[DecidableEq α]:Prop:=∀x y,eqP n (enc x) (enc y)=some (decide (x=y))
def NL(enc:α->D):Prop:=∀x S,WC (enc x) S=none
def B7:EqN n D.int:=λx y=>by
 have:NO (.int x) (.int y)=some (decide (x=y)):=rfl
 cases n <;> exact this
def ss:EqN n D.bl:=λx y=>by
 have:NO (.bl x) (.bl y)=some (decide (x=y)):=by cases x <;> cases y <;> rfl
 cases n <;> exact this
def bC{n:Nat}{enc:α->D}[DecidableEq α](h:EqN n enc):EqN (n+1) (eT enc):=by
 have g:∀l k:List α,eqL (eqP n) (l.map enc) (k.map enc)=some (decide (l=k)):=by
  intro l
  induction l with
  | nil=>intro k;cases k <;> rfl
  | cons x l j=>
   intro k
   cases k with
   | nil=>rfl
   | cons y k=>
    rw[A4,A4];unfold eqL;rw[h x y,j k]
    by_cases c:x=y <;> by_cases d:l=k <;> simp[c,d]
 exact λl k=>g l k
def Xz{n:Nat}{a:α->D}{b:β->D}[DecidableEq α][DecidableEq β](g:EqN n a)(hb:EqN n b):EqN (n+1) (eP a b):=λx y=>by
 show eqL (eqP n) [a x.1,b x.2] [a y.1,b y.2]=_;unfold eqL eqL eqL;rw[g,hb];obtain⟨j,l⟩:=x;obtain⟨m,o⟩:=y
 by_cases c:j=m <;> by_cases d:l=o <;> simp[c,d]
def FK:NL D.int:=λ_ _=>rfl
def vB:NL D.bl:=λ_ _=>rfl
section
variable{a b:ME}{enc:α->D}[DecidableEq α]
def jk(h:EqN 8 enc)(n:NL enc)(neg:Bool)(x y:α)(S:Sto):eqD neg (enc x) (enc y) S=.ok (.bl (if neg then !decide (x=y)else decide (x=y))) S:=by
 unfold eqD eqB;rw[n x S,n y S];dsimp only;rw[h x y]
def JW(h:EqN 8 enc)(n:NL enc)(g:VE A a (rV enc) j)(hb:VE A b (rV enc) l):VE A (m2 (eqD false) a b) (rV D.bl) (j.bind λx=>l.bind λy=>some (decide (x=y))):=Ir g hb λx y z S q=>by cases q;exact jk h n false x y S
def Z8(h:EqN 8 enc)(n:NL enc)(g:VE A a (rV enc) j)(hb:VE A b (rV enc) l):VE A (m2 (eqD true) a b) (rV D.bl) (j.bind λx=>l.bind λy=>some (!decide (x=y))):=Ir g hb λx y z S q=>by cases q;exact jk h n true x y S
def YC(h:EqN 8 enc)(x:α):∀l:List α,OI (enc x) (l.map enc)=some (decide (x∈l))
 | []=>by simp[OI]
 | y :: l=>by
  rw[A4];unfold OI;rw[h y x,YC h x l]
  by_cases c:y=x
  ·subst c;simp
  ·have:¬x=y:=λz=>c z.symm
   simp[c,this]
def ZQ(h:EqN 8 enc)(neg:Bool)(x:α){l:List α}{d:D}{S:Sto}(g:Ht d S=some (l.map enc)):inA neg (enc x) d S=.ok (.bl (if neg then !decide (x∈l)else decide (x∈l))) S:=by
 show HI (inD neg (enc x) d S) _=_
 have e:inD neg (enc x) d S=.ok (.bl (if neg then !decide (x∈l)else decide (x∈l))) S:=by
  unfold inD;rw[g];dsimp only;rw[YC h]
 rw[e];rfl
def Px{g:Option (List α)}(h:EqN 8 enc)(j:VE A a (rV enc) m)(hb:VE A b (rV (eT enc)) g):VE A (m2 (inA false) a b) (rV D.bl) (m.bind λx=>g.bind λl=>some (decide (x∈l))):=Ir j hb λx l z S q=>by cases q;exact ZQ h false x rfl
def Z7{g:Option (List α)}(h:EqN 8 enc)(j:VE A a (rV enc) m)(hb:VE A b (rV (eT enc)) g):VE A (m2 (inA true) a b) (rV D.bl) (m.bind λx=>g.bind λl=>some (!decide (x∈l))):=Ir j hb λx l z S q=>by cases q;exact ZQ h true x rfl
def Vc{g:Option (List α)}(h:EqN 8 enc)(j:VE A a (rV enc) m)(hb:VE A b (rO (oL enc)) g):VE A (m2 (inA true) a b) (rV D.bl) (m.bind λx=>g.bind λl=>some (!decide (x∈l))):=ff j hb λx l z S n o q=>by cases q;exact ZQ h true x (Es o)
def sv(h:EqN n enc):∀l k:List α,eqL (eqP n) (l.map enc) (k.map enc)=some (decide (l=k)):=by
 intro l
 induction l with
 | nil=>intro k;cases k <;> rfl
 | cons x l g=>
  intro k
  cases k with
  | nil=>rfl
  | cons y k=>
   rw[A4,A4];unfold eqL;rw[h x y,g k]
   by_cases c:x=y <;> by_cases d:l=k <;> simp[c,d]
def Ux(h:EqN 8 enc)(neg:Bool)(g:S[n]?=some (oL enc l))(j:S[m]?=some (oL enc k)):eqD neg (.ref n) (.ref m) S=.ok (.bl (if neg then !decide (l=k)else decide (l=k))) S:=by
 unfold eqD eqB;rw[SX g,SX j];dsimp only;rw[AG,AG]
 by_cases c:l.length=k.length
 ·rw[qX c,sv h]
 ·rw[qY c,wY λz=>c (by rw[z])]
def ox{f:D->D->Sto->Res D}{l:β->Ob}{o:γ->Ob}{s:δ->D}{B:Option β}{C:Option γ}{g:β->γ->Option δ}(J:VE A a (rO l) B)(hb:VE A b (rO o) C)
  (L:∀x y z S (n m:Nat),S[n]?=some (l x)->S[m]?=some (o y)->g x y=some z->f (.ref n) (.ref m) S=.ok (s z) S):VE A (m2 f a b) (rV s) (B.bind λx=>C.bind λy=>g x y):=λv j S0 e F S E=>by
 obtain⟨x,N,j⟩:=A6 j;obtain⟨y,O,P⟩:=A6 j;obtain⟨d1,Q,R,G,n,rfl,T⟩:=J x N S0 e F S E;obtain⟨d2,H,U,I,m,rfl,X⟩:=hb y O S0 e _ Q (E.grow G);exact⟨_,H,EI R U (L x y v H n m (I.at T) X P),G.trans I,rfl⟩
def qH{g j:Option (List α)}(h:EqN 8 enc)(l:VE A a (rO (oL enc)) g)(hb:VE A b (rO (oL enc)) j):VE A (m2 (eqD false) a b) (rV D.bl) (g.bind λx=>j.bind λy=>some (decide (x=y))):=ox l hb λx y z S n m o s q=>by cases q;exact Ux h false o s
def fg{g j:Option (List α)}(h:EqN 8 enc)(l:VE A a (rO (oL enc)) g)(hb:VE A b (rO (oL enc)) j):VE A (m2 (eqD true) a b) (rV D.bl) (g.bind λx=>j.bind λy=>some (!decide (x=y))):=ox l hb λx y z S n m o s q=>by cases q;exact Ux h true o s
end
section
variable{a b m mo:ME}
def oM(l:List α)(i:Int)(f:α->β):atI (l.map f) i=(atI l i).map f:=by
 unfold atI;rw[AG]
 cases ixN l.length i with
 | none=>rfl
 | some j=>show(l.map f)[j]?=(l[j]?).map f;rw[Ao]
def Se(g:Ht d S=some (l.map enc))(h:atI l i=some x):ixA d (.int i) S=.ok (enc x) S:=by
 show HI (ixD d (.int i) S) _=_
 have:ixD d (.int i) S=.ok (enc x) S:=by
  unfold ixD;rw[g];dsimp only;rw[oM,h];rfl
 rw[this];rfl
def Ru(g:VE A a (rV (eT enc)) j)(hb:VE A b (rV D.int) o):VE A (m2 ixA a b) (rV enc) (j.bind λl=>o.bind λi=>atI l i):=Ir g hb λl i z S q=>Se rfl q
def fj{g}(j:VE A a (rV eF) g)(hb:VE A b (rV D.int) o):VE A (m2 ixA a b) (rV D.int) (g.bind λl=>o.bind λi=>atI l i):=Ir j hb λl i z S q=>Se rfl q
def KO(g:VE A a (rO (oL enc)) j)(hb:VE A b (rV D.int) o):VE A (m2 ixA a b) (rV enc) (j.bind λl=>o.bind λi=>atI l i):=fu g hb λl i z S n s q=>Se (Es s) q
def fm(j:VE A a (rV (eP g l)) p):VE A (m2 ixA a (mC (.int 0))) (rV g) (p.bind λx=>some x.1):=λv o S0 e F S s=>by
 obtain⟨x,B,C⟩:=A6 o;cases C;obtain⟨d,S',E,G,rfl⟩:=j x B S0 e F S s;exact⟨_,S',EI E rfl (ah (ds:=[g x.1,l x.2]) rfl (by decide) rfl),G,rfl⟩
def qA(j:VE A a (rV (eP l g)) p):VE A (m2 ixA a (mC (.int 1))) (rV g) (p.bind λx=>some x.2):=λv o S0 e F S s=>by
 obtain⟨x,B,C⟩:=A6 o;cases C;obtain⟨d,S',E,G,rfl⟩:=j x B S0 e F S s;exact⟨_,S',EI E rfl (ah (ds:=[l x.1,g x.2]) rfl (by decide) rfl),G,rfl⟩
def Jw(g:VE A a (rV (eT enc)) j):VE A (G0 a) (rV D.int) (j.bind λl=>some (l.length:Int)):=λv o S0 e F S s=>by
 obtain⟨l,B,C⟩:=A6 o;cases C;obtain⟨d,S',E,G,rfl⟩:=g l B S0 e F S s;exact⟨_,S',(WD (ds:=l.map enc) E rfl).trans (by rw[AG]),G,rfl⟩
def Vf{g}(j:VE A a (rV eF) g):VE A (G0 a) (rV D.int) (g.bind λl=>some (l.length:Int)):=λv o S0 e F S s=>by
 obtain⟨l,B,C⟩:=A6 o;cases C;obtain⟨d,S',E,G,rfl⟩:=j l B S0 e F S s;exact⟨_,S',(WD (ds:=l.map D.int) E rfl).trans (by rw[AG]),G,rfl⟩
def Jx(g:VE A a (rO (oL enc)) j):VE A (G0 a) (rV D.int) (j.bind λl=>some (l.length:Int)):=λv o S0 e F S s=>by
 obtain⟨l,B,C⟩:=A6 o;cases C;obtain⟨d,S',E,G,n,rfl,H⟩:=g l B S0 e F S s;exact⟨_,S',(WD (ds:=l.map enc) E (Es H)).trans (by rw[AG]),G,rfl⟩
def NB:∀ns:ZLi,Hj (ns.map D.int)=some ns
 | []=>rfl
 | x :: ns=>by rw[A4];unfold Hj;rw[NB ns];rfl
def Nd(g:VE A a (rO (oL enc)) pl):VE A (GJ a) (rV (eT enc)) pl:=λl j S0 e F S o=>by
 obtain⟨d,S',s,B,n,rfl,C⟩:=g l j S0 e F S o;exact⟨_,S',Mr s (Es C),B,rfl⟩
def LS(g:VE A a (rO (oL enc)) pl):VL A (Ka a) enc pl:=λl j S0 e F S o=>by
 obtain⟨d,S',s,B,n,rfl,C⟩:=g l j S0 e F S o;exact⟨S',oz s (Es C),B⟩
def RJ(h:VL A ml enc pl):VL A (mN SY ml) enc pl:=λl g S0 e F S j=>by
 obtain⟨S',o,s⟩:=h l g S0 e F S j;exact⟨S',by unfold mN;rw[o];rfl,s⟩
def WY:∀l:List Bool,Zd (l.map D.bl)=some l
 | []=>rfl
 | x :: l=>by rw[A4];unfold Zd;rw[WY l];rfl
def ft{g}(h:VL A ml D.bl g):VE A (mQ j9 ml) (rV D.bl) (g.bind λl=>some (l.all id)):=λv j S0 e F S o=>by
 obtain⟨l,s,B⟩:=A6 j;cases B;obtain⟨S',C,E⟩:=h l s S0 e F S o;refine⟨_,S',cO C ?_,E,rfl⟩;unfold j9 dy;rw[WY]
def qI{g}(h:VL A ml D.bl g):VE A (mQ oO ml) (rV D.bl) (g.bind λl=>some (l.any id)):=λv j S0 e F S o=>by
 obtain⟨l,s,B⟩:=A6 j;cases B;obtain⟨S',C,E⟩:=h l s S0 e F S o;refine⟨_,S',cO C ?_,E,rfl⟩;unfold oO dy;rw[WY]
def Gj:VL A BR enc (some []):=λv g S0 e F S j=>by cases g;exact⟨S,rfl,Keeps.refl S⟩
def LU(h:VE A m (rV enc) p)(o:VL A ml enc s):VL A (AX m ml) enc (p.bind λx=>s.bind λl=>some (x :: l)):=λv B S0 e F S g=>by
 obtain⟨x,C,E⟩:=A6 B;obtain⟨l,G,H⟩:=A6 E;cases H;obtain⟨d,I,J,j,rfl⟩:=h x C S0 e F S g;obtain⟨L,N,O⟩:=o l G S0 e _ I (g.grow j);exact⟨L,CU J N,j.trans O⟩
def Kd(l:List α):Option (List α):=if l.length<=1000000 then some l else none
def G8(h:VL A ml enc j):VL A (Dv ml) enc (j.bind Kd):=λv o S0 e F S s=>by
 obtain⟨l,B,g⟩:=A6 o;unfold Kd at g;split at g
 ·rename_i C
  cases g;obtain⟨S',E,G⟩:=h _ B S0 e F S s;refine⟨S',?_,G⟩;unfold Dv;rw[E];dsimp only[Res.bind];rw[qX (by rw[AG];exact cx C)]
 ·cases g
def Pw(h:VL A ml enc j):VE A (Hy ml) (rV (eT enc)) (j.bind Kd):=λv o S0 e F S s=>by
 obtain⟨l,B,g⟩:=A6 o;unfold Kd at g;split at g
 ·rename_i C
  cases g;obtain⟨S',E,G⟩:=h _ B S0 e F S s;refine⟨_,S',?_,G,rfl⟩;unfold Hy;rw[E];dsimp only[Res.bind];rw[qX (by rw[AG];exact cx C)];rfl
 ·cases g
def II(B:VE A a (rV j) C)(hb:VE A b (rV l) E):VE A (Hy (AX a (AX b BR))) (rV (eP j l)) (C.bind λx=>E.bind λy=>some (x,y)):=λv g S0 e F S o=>by
 obtain⟨x,G,g⟩:=A6 g;obtain⟨y,H,I⟩:=A6 g;cases I;obtain⟨d1,J,L,s,rfl⟩:=B x G S0 e F S o;obtain⟨d2,N,O,P,rfl⟩:=hb y H S0 e _ J (o.grow s);exact⟨_,N,Yw (ds:=[j x,l y]) (CU L (CU O rfl)) (by simp),s.trans P,rfl⟩
def RM(g:VE A a (rV (eT enc)) j)(hb:VE A b (rV (eT enc)) o):VE A (m2 E5 a b) (rV (eT enc)) (j.bind λl=>o.bind λk=>Js l k):=Ir g hb λl k z S q=>by
 unfold Js at q;split at q
 ·rename_i s
  cases q;unfold eT;rw[BD];exact lM (by rw[AG,AG];exact cx s)
 ·cases q
def Vh(E:VE A a (rO (oL enc)) G)(hb:VE A b (rO (oL enc)) H):VE A (m2 E5 a b) (rN (oL enc)) (G.bind λl=>H.bind λk=>Js l k):=λv j S0 e F S B=>by
 obtain⟨x,I,j⟩:=A6 j;obtain⟨y,J,g⟩:=A6 j;obtain⟨d1,L,N,o,n,rfl,O⟩:=E x I S0 e F S B;obtain⟨d2,C,P,s,m,rfl,Q⟩:=hb y J S0 e _ L (B.grow o);unfold Js at g;split at g
 ·rename_i R
  cases g;refine⟨_,_,EI N P (d:=.ref C.length) (S3:=C++[oL enc (x++y)]) ?_,(o.trans s).trans (Keeps.app _ _),_,rfl,(o.trans s).1,Dh _ _⟩;unfold E5;dsimp only;rw[s.at O,Q];unfold oL;dsimp only;rw[qX (by rw[AG,AG];exact cx R),BD]
 ·cases g
def VO(A:List Sl)(mo:MO)(p:Option (Option Int)):Prop:=∀v,p=some v->∀S0 e F S,Vs S0 A e F S->∃S',mo e S=.ok v S'/\Keeps S S'
def Jv:VO A OE (some none):=λv g S0 e F S j=>by cases g;exact⟨S,rfl,Keeps.refl S⟩
def IH(h:VE A m (rV D.int) g):VO A (K5 m) (g.bind λi=>some (some i)):=λv j S0 e F S l=>by
 obtain⟨x,o,s⟩:=A6 j;cases s;obtain⟨d,S',B,C,rfl⟩:=h x o S0 e F S l;exact⟨S',by unfold K5;rw[B];rfl,C⟩
def Sw(l:List α)(f:α->β)(lo hi:Option Int):EN (l.map f) lo hi=(EN l lo hi).map f:=by
 unfold EN;rw[AG,<-List.map_drop,<-pZ]
def RK(C:VE A a (rV (eT enc)) E)(G:VO A mlo H)(I:VO A mhi ph):VE A (Lq a mlo mhi) (rV (eT enc)) (E.bind λl=>H.bind λx=>ph.bind λy=>some (EN l x y)):=λv g S0 e F S j=>by
 obtain⟨l,J,g⟩:=A6 g;obtain⟨x,L,g⟩:=A6 g;obtain⟨y,N,O⟩:=A6 g;cases O;obtain⟨d1,P,Q,o,rfl⟩:=C l J S0 e F S j;obtain⟨R,T,s⟩:=G x L S0 e _ P (j.grow o);obtain⟨B,U,X⟩:=I y N S0 e _ R ((j.grow o).grow s);refine⟨_,B,?_,(o.trans s).trans X,rfl⟩;unfold Lq;rw[Q];dsimp only[Res.bind];rw[T];dsimp only;rw[U];show Res.ok (D.tup (EN (l.map enc) x y)) B=_;rw[Sw];rfl
def RL(E:VE A a (rO (oL enc)) G)(H:VO A mlo I)(J:VO A mhi ph):VE A (KZ a mlo mhi) (rN (oL enc)) (G.bind λl=>I.bind λx=>ph.bind λy=>some (EN l x y)):=λv g S0 e F S s=>by
 obtain⟨l,L,g⟩:=A6 g;obtain⟨x,N,g⟩:=A6 g;obtain⟨y,O,P⟩:=A6 g;cases P;obtain⟨d1,Q,R,j,n,rfl,T⟩:=E l L S0 e F S s;obtain⟨U,X,o⟩:=H x N S0 e _ Q (s.grow j);obtain⟨B,Y,C⟩:=J y O S0 e _ U ((s.grow j).grow o);refine⟨.ref B.length,B++[oL enc (EN l x y)],?_,((j.trans o).trans C).trans (Keeps.app _ _),_,rfl,((j.trans o).trans C).1,Dh _ _⟩;unfold KZ;rw[R];dsimp only[Res.bind];rw[X];dsimp only;rw[Y];dsimp only;unfold Vq;dsimp only;rw[SX ((o.trans C).at T)];show Res.ok _ (B++[Ob.lst (EN (l.map enc) x y)])=_;rw[Sw];rfl
def Ox{g}(o:VE A a (rO (oL D.int)) g):VE A (DM a) (rN (oL D.int)) (g.bind λl=>some (CF l)):=λv s S0 e F S B=>by
 obtain⟨l,C,E⟩:=A6 s;cases E;obtain⟨d,S',G,j,n,rfl,H⟩:=o l C S0 e F S B;refine⟨_,_,JO G (Ls H) (es:=(CF l).map D.int) ?_,j.trans (Keeps.app _ _),_,rfl,j.1,Dh _ _⟩;unfold Mu;rw[NB]
def XQ:∀g:List ZLi,g.all (λr=>!r.isEmpty)=true->OC (g.map Ky)=some g
 | [],_=>rfl
 | [] :: g,h=>by simp at h
 | (x :: r) :: g,h=>by
  rw[Wl,DU]at h;show OC (.tup ((x :: r).map D.int) :: g.map Ky)=_;unfold OC;rw[NB,XQ g h.2]
def LV(g:VE A a (rV (eT enc)) pl):VI A (Ek a) enc pl:=λl j S0 e F S o=>by
 obtain⟨d,S',s,B,rfl⟩:=g l j S0 e F S o;exact⟨_,S',Si (xs:=l.map enc) s,B,λ_ _ _ _=>rfl⟩
def p8(j:VE A a (rN (oL enc)) pl):VI A (Ek a) enc pl:=λl o S0 e F S s=>by
 obtain⟨d,S',B,C,n,rfl,E,g⟩:=j l o S0 e F S s;exact⟨_,S',IY B g,C,λH I G h=>FD (h n _ (G _ _ (LC E g)))⟩
def Va(h:A[i]?=some (.z (oL enc l))):VI A (Ek (AH i)) enc (some l):=λ_ s S0 e F S g=>by
 cases s;obtain⟨x,B,n,rfl,j⟩:=g.sl i _ h;have o:=g.fz _ _ j;exact⟨_,S,IY (n:=n) (by unfold AH;rw[B]) o,Keeps.refl S,λE G C h=>FD (h n _ (C _ _ (by rw[Ev (C4 o)];exact j)))⟩
def p7(j:VE A a (rO (oL enc)) pl):VK A (Ek a) enc pl:=λl o S0 e F S s=>by
 obtain⟨d,S',B,C,n,rfl,g⟩:=j l o S0 e F S s;exact⟨_,S',IY B g,C,λE k=>FD (k.at g)⟩
noncomputable def Ga(lo:Int)(n:Nat):ZLi:=(Bs n).map λi:Nat=>lo+i
def P6(j:Int):Option ZLi:=if -1000000<=j/\j<=1000000 then some (Ga 0 j.toNat)else none
def lr(i j:Int):Option ZLi:=if -1000000<=i/\i<=1000000/\-1000000<=j/\j<=1000000 then some (Ga i (j - i).toNat)else none
def ZA(lo:Int)(n:Nat):Gb lo n=(Ga lo n).map D.int:=by
 unfold Gb Ga;rw[BV];rfl
def JM(s:VE A a (rV D.int) B):VI A (iR1 (AX a BR)) D.int (B.bind P6):=λl C S0 e F S E=>by
 obtain⟨j,G,g⟩:=A6 C;obtain⟨d,S',H,I,rfl⟩:=s j G S0 e F S E;unfold P6 at g;split at g
 ·rename_i o
  cases g;exact⟨_,S',ZS (j:=j) (CU H rfl) o.1 o.2,I,λ_ _ _ _=>congrArg some (ZA _ _)⟩
 ·cases g
def bq(E:VE A a (rV D.int) G)(hb:VE A b (rV D.int) pj):VI A (iR2 (AX a (AX b BR))) D.int (G.bind λi=>pj.bind λj=>lr i j):=λl s S0 e F S B=>by
 obtain⟨i,H,s⟩:=A6 s;obtain⟨j,I,g⟩:=A6 s;obtain⟨d,J,L,C,rfl⟩:=E i H S0 e F S B;obtain⟨d,N,O,P,rfl⟩:=hb j I S0 e _ J (B.grow C);unfold lr at g;split at g
 ·rename_i o
  cases g;exact⟨_,N,sP (i:=i) (j:=j) (CU L (CU O rfl)) o.1 o.2.1 o.2.2.1 o.2.2.2,C.trans P,λ_ _ _ _=>congrArg some (ZA _ _)⟩
 ·cases g
noncomputable def HV(l:List α):List (Int×α):=l.zipIdx.map λx=>((x.2:Int),x.1)
def db(l:List α):QO (l.map enc)=(HV l).map (eP D.int enc):=by
 unfold QO HV;rw[List.zipIdx_map,BV,BV];rfl
def NN(enc:α->D):Prop:=∀x S neg,dF neg (enc x) .non S=.ok (.bl neg) S
def nH{a:α->D}{b:β->D}:NN (eP a b):=λ_ _ _=>rfl
def qE(g:NN enc)(j:VE A a (rV (eO enc)) p):VE A (m2 (dF false) a (mC .non)) (rV D.bl) (p.bind λo=>some o.isNone):=λv l S0 e F S s=>by
 obtain⟨x,B,C⟩:=A6 l;cases C;obtain⟨d,S',E,G,rfl⟩:=j x B S0 e F S s;refine⟨_,S',EI E rfl ?_,G,rfl⟩
 cases x with
 | none=>rfl
 | some y=>exact g y S' false
def k9(g:VE A a (rV enc) p):VE A a (rV (eO enc)) (p.bind λo=>some (some o)):=λv j S0 e F S l=>by
 obtain⟨x,s,B⟩:=A6 j;cases B;exact g _ s S0 e F S l
def lB:VE A (mC .non) (rV (eO enc)) (some none):=Ck rfl
end
end
section
variable{α β ρ σ κ κ':Type}
def oDK(enc:α->D)(l:List (Int×α)):Ob:=.dK (l.map λx=>(C5 x.1,enc x.2))
def fv[DecidableEq κ][DecidableEq κ']{g:κ->κ'}(j:∀x y,g x=g y->x=y)(f:α->β)(l:List (κ×α))(k:κ):Ei (l.map λx=>(g x.1,f x.2)) (g k)=(Ei l k).map f:=by
 unfold Ei
 induction l with
 | nil=>rfl
 | cons x l m=>
  rw[A4,Bv,Bv]
  by_cases c:x.1=k
  ·rw[wX c,wX (show g x.1=g k by rw[c])]
   rfl
  ·rw[wY c,wY λz=>c (j _ _ z)]
   exact m
def g8[DecidableEq κ][DecidableEq κ']{g:κ->κ'}(m:∀x y,g x=g y->x=y)(f:α->β)(l:List (κ×α))(k:κ)(v:α):Gz (l.map λx=>(g x.1,f x.2)) (g k) (f v)=(Gz l k v).map λx=>(g x.1,f x.2):=by
 have any:((l.map λx=>(g x.1,f x.2)).any λj=>decide (j.1=g k))=l.any λj=>decide (j.1=k):=by
  rw[tf]
  congr 1
  funext x
  exact decide_eq_decide.mpr ⟨m _ _,λz=>congrArg g z⟩
 unfold Gz;rw[any];split
 ·rw[BV,BV]
  refine Cy λx _=>?_
  show(if g x.1=g k then(g x.1,f v)else(g x.1,f x.2))=_
  by_cases c:x.1=k
  ·show _=(λx:κ×α=>(g x.1,f x.2)) (if x.1=k then(x.1,v)else x)
   rw[qX c,qX (show g x.1=g k by rw[c])]
  ·show _=(λx:κ×α=>(g x.1,f x.2)) (if x.1=k then(x.1,v)else x)
   rw[qY c,qY λz=>c (m _ _ z)]
 ·rw[BD]
  rfl
def ai(x y:Int)(h:(C5 x:Key)=C5 y):x=y:=by cases h;rfl
def pL{enc:α->D}{l:List (Int×α)}{n:Nat}{S:Sto}(h:S[n]?=some (oDK enc l))(k:Int):PV (.ref n) (.int k) S=some ((Ei l k).map enc):=by
 unfold PV;dsimp only;rw[h];show some (Ei _ (C5 k))=_;rw[fv ai]
def sy(g:Ht (.ref n) S=none)(h:PV (.ref n) y S=some o)(neg:Bool):inA neg y (.ref n) S=.ok (.bl (if neg then !o.isSome else o.isSome)) S:=by
 show HI (inD neg y (.ref n) S) (L6 neg y (.ref n) S)=_;rw[show inD neg y (.ref n) S=.bad by unfold inD;rw[g]];show L6 neg y (.ref n) S=_;unfold L6;rw[h]
def sx(g:Ht (.ref n) S=none)(h:PV (.ref n) y S=some (some d)):ixA (.ref n) y S=.ok d S:=by
 show HI (ixD (.ref n) y S) (OH (.ref n) y S)=_;rw[show ixD (.ref n) y S=.bad by unfold ixD;rw[g]];show OH (.ref n) y S=_;unfold OH;rw[h]
def ug(h:S[n]?=some (oDK enc l)):Ht (.ref n) S=none:=by unfold Ht;dsimp only;rw[h];rfl
section
def fo:VE A SV (rN (oDK enc)) (some []):=λv g j e F S l=>by cases g;exact⟨_,_,rfl,Keeps.app _ _,_,rfl,AL _,Dh _ _⟩
def aA{g}{j}(o:VE A a (rV D.int) g)(hb:VE A b (rO (oDK enc)) j):VE A (m2 (inA false) a b) (rV D.bl) (g.bind λx=>j.bind λl=>some (Ei l x).isSome):=ff o hb λx l z S n m q=>by cases q;rw[sy (ug m) (pL m x)];simp
def W4(j:VE A a (rO (oDK enc)) m)(hb:VE A b (rV D.int) o):VE A (m2 ixA a b) (rV enc) (m.bind λl=>o.bind λx=>Ei l x):=fu j hb λl x z S n g q=>sx (ug g) (by rw[pL g x,q];rfl)
def cP[DecidableEq κ](l:List (κ×α))(k:κ)(v:α):Option (List (κ×α)):=if l.length < 1000000 then some (Gz l k v)else none
def ku{I:κ->D}[DecidableEq κ]{o:List (κ×α)->Ob}{R:Rk ρ}{p:Option α}{J:Option κ}{i:Nat}{l:List (κ×α)}
  (s:∀(l:List (κ×α)) (k:κ) (v:α) (S:Sto) (n:Nat),S[n]?=some (o l)->l.length < 1000000->X4 (.ref n) (I k) (enc v) S=some (S.set n (o (Gz l k v))))
  (hi:A[i]?=some (.w i (o l))) (P:VE A b (rV I) J) (h:VE A m (rV enc) p) (Q:((A.set i .u).all (Sl.oth i))=true) :
  VS A (Gm (AH i) b m) R (p.bind λv=>J.bind λk=>(cP l k v).bind λC=>some (.nx C)) (λC=>A.set i (.w i (o C))):=λf T L e F S g=>by
 obtain⟨v,U,X⟩:=A6 T;obtain⟨k,Y,Z⟩:=A6 X;obtain⟨C,E,h0⟩:=A6 Z;cases h0;unfold cP at E;split at E
 ·rename_i hl
  cases E;obtain⟨x,N,n,rfl,g2,H⟩:=g.sl i _ hi;obtain⟨d,j,h5,B,rfl⟩:=h v U L e F S g;obtain⟨d,G,h7,O,rfl⟩:=P k Y L e _ j (g.grow B);have hg:=(g.grow B).grow O;have hn:=(B.trans O).at H
  have hx:Gm (AH i) b m e S=.ok (.nx e) (G.set n (o (Gz l k v))):=by
   unfold Gm;rw[h5];dsimp only[Res.lift];rw[show AH i e j=.ok (.ref n) j by unfold AH;rw[N]];dsimp only;rw[h7];dsimp only;rw[s l k v G n hn hl]
  have hF:QN (QN F S j) j G n=.ow i:=by rw[Ev (C4 (B.at H)),Ev (C4 H)];exact g2
  exact⟨_,_,hx,e,_,rfl,hg.put Q hi N hF,(g.fle j).trans ((g.grow B).fle G)⟩
 ·cases E
def fV{R:Rk ρ}{p:Option α}{j:Option Int}{i:Nat}{l:List (Int×α)}(hi:A[i]?=some (.w i (oDK enc l)))(o:VE A b (rV D.int) j)(h:VE A m (rV enc) p)(s:((A.set i .u).all (Sl.oth i))=true) :
  VS A (Gm (AH i) b m) R (p.bind λv=>j.bind λk=>(cP l k v).bind λg=>some (.nx g)) (λg=>A.set i (.w i (oDK enc g))):=
 ku (λl k v S n B C=>by
  unfold X4;dsimp only;rw[B];show(if (l.map _).length < sizeLine then some (S.set n (.dK (Gz (l.map λx=>(C5 x.1,enc x.2)) (C5 k) (enc v))))else none)=_;rw[qX (by rw[AG];exact rp C),g8 ai]
  rfl) hi o h s
def lJ(h:VE A m (rV (eT enc)) g):VB A (O9 m) (g.bind λl=>some (!l.isEmpty)):=λv j o e F S s=>by
 obtain⟨l,B,C⟩:=A6 j;cases C;obtain⟨d,E,G,H,rfl⟩:=h l B o e F S s;refine⟨E,?_,H⟩;unfold O9;rw[G]
 cases l <;> rfl
def p0{b:MS}{R:Rk ρ}{B:σ->List Sl}:VS A b R none B:=λf g=>by cases g
def qS(r:ZLi):Int×Int:=(r.getD 0 0,r.getD 1 0)
def Qg(l:List ZPi):List ZPi:=(Mt (l.map λx=>[x.1,x.2])).map qS
def lX(l:List ZPi):(Mt (l.map λx=>[x.1,x.2])).map Ky=(Qg l).map (eP D.int D.int):=by
 unfold Qg;rw[BV]
 refine Cy λr g=>?_
 obtain⟨x,_,rfl⟩:=Aw.mp ((JY _).mem_iff.mp g);rfl
def W3(m:VE A a (rO (oL (eP D.int D.int))) o):VE A (DM a) (rN (oL (eP D.int D.int))) (o.bind λl=>some (Qg l)):=λv s B e F S C=>by
 obtain⟨l,E,G⟩:=A6 s;cases G;obtain⟨d,J,H,j,n,rfl,I⟩:=m l E B e F S C;refine⟨_,_,JO H (Ls I) (es:=(Qg l).map (eP D.int D.int)) ?_,j.trans (Keeps.app _ _),_,rfl,j.1,Dh _ _⟩;rw[<-lX]
 cases l with
 | nil=>show some ((CF []).map D.int)=some ((Mt []).map Ky);rw[cF];unfold Mt;rw[List.mergeSort_nil];rfl
 | cons x l=>
  have g:OC (N8 (eP D.int D.int) (x :: l))=some ((x :: l).map λx=>[x.1,x.2]):=by
   have:=XQ ((x :: l).map λx=>[x.1,x.2]) (DA.mpr λr g=>by obtain⟨y,_,rfl⟩:=Aw.mp g;rfl);rw[BV]at this;exact this
  unfold Mu;rw[show Hj (N8 (eP D.int D.int) (x :: l))=none from rfl,g]
end
end
section
variable{α ρ σ:Type}
def BJ:BZ (some (.nx s)) q=q s:=rfl
def mz:m8 (some (.nx s))=some ():=rfl
def WL{l:List α}{q:σ->α->Option (Fw ρ σ)}{s0:σ}(I:List α->σ->Prop)(o:I [] s0)(h:∀g x s,x∈l->g++[x] <+: l->I g s->∃s',q s x=some (.nx s')/\I (g++[x]) s'):∃s,Ey l s0 q=some (.nx s)/\I l s:=by
 have j:∀(r g:List α) (s:σ),l=g++r->I g s->∃s',Ey r s q=some (.nx s')/\I l s':=by
  intro r
  induction r with
  | nil=>intro g s e m;rw[BI]at e;subst e;exact⟨s,rfl,m⟩
  | cons x r A=>
   intro g s e m;obtain⟨s',B,C⟩:=h g x s (by rw[e];simp) ⟨r,by rw[e];simp⟩ m;obtain⟨E,G,H⟩:=A (g++[x]) s' (by rw[e];simp) C;refine⟨E,?_,H⟩;unfold Ey;rw[B];exact G
 exact j l [] s0 rfl o
def je(I:List α->σ->Prop)(R:ρ->Prop)(B:I [] s0)(h:∀g x s,x∈l->g++[x] <+: l->I g s->(∃s',q s x=some (.nx s')/\I (g++[x]) s')∨∃r,q s x=some (.rt r)/\R r):(∃s,Ey l s0 q=some (.nx s)/\I l s)∨∃r,Ey l s0 q=some (.rt r)/\R r:=by
 have j:∀(r g:List α) (s:σ),l=g++r->I g s->(∃s',Ey r s q=some (.nx s')/\I l s')∨∃y,Ey r s q=some (.rt y)/\R y:=by
  intro r
  induction r with
  | nil=>intro g s e m;rw[BI]at e;subst e;exact .inl ⟨s,rfl,m⟩
  | cons x r C=>
   intro g s e m
   rcases h g x s (by rw[e];simp) ⟨r,by rw[e];simp⟩ m with⟨s',o,A⟩ | ⟨y,o,A⟩
   ·have E:Ey (x :: r) s q=Ey r s' q:=by
     conv=>lhs;unfold Ey
     rw[o]
    rw[E];exact C (g++[x]) s' (by rw[e];simp) A
   ·refine .inr ⟨y,?_,A⟩
    unfold Ey;rw[o]
 exact j l [] s0 rfl B
def PU{l:List α}{q:Unit->α->Option (Fw ρ Unit)}{r:ρ}{P:α->Bool}(h:∀x∈l,q () x=some (if P x=true then .nx ()else .rt r)):Ey l () q=some (if l.all P=true then .nx ()else .rt r):=by
 induction l with
 | nil=>rfl
 | cons x l g=>
  unfold Ey;rw[h x Ax,Wl]
  cases m:P x with
  | false=>rfl
  | true=>exact g λy j=>h y (AY _ j)
def jv(s:∀x∈l,c x=some (P x))(A:∀x∈l,P x=true->m x=some (f x)):S6 c m l=some ((l.filter P).map f):=by
 induction l with
 | nil=>rfl
 | cons x l g=>
  have g:=g (λy j=>s y (AY _ j)) λy j=>A y (AY _ j)
  unfold S6;rw[s x Ax];show(if P x=true then _ else _)=_
  cases o:P x with
  | true=>
   rw[qX rfl,A x Ax o,g,List.filter_cons_of_pos o];rfl
  | false=>
   rw[qY AV,g,List.filter_cons_of_neg (by rw[o];exact AV)]
def S7(g:l.length<=1000000)(j:∀x∈l,c x=some (P x))(o:∀x∈l,P x=true->m x=some (f x)):Ff l c m=some ((l.filter P).map f):=by
 unfold Ff;rw[qX g,jv j o]
def JQ(g:l.length<=1000000)(j:∀x∈l,m x=some (f x)):Ff l (λ_=>some true) m=some (l.map f):=by
 rw[S7 (P:=λ_=>true) g (λ_ _=>rfl) λx o _=>j x o,List.filter_eq_self.mpr λ_ _=>rfl]
def Oc(g:l.length<=1000000)(j:∀x∈l,c x=some (P x)):Ff l c (λx=>some x)=some (l.filter P):=by
 rw[S7 (f:=λx=>x) g j λx m _=>rfl,tZ]
def RZ(h:l.length < 1000000):YB l x=some (l++[x]):=qX h
def HU(h:l.length+k.length<=1000000):Js l k=some (l++k):=qX h
def dQ:Kd ([]:List α)=some []:=rfl
def ZX(a:α):Kd [a]=some [a]:=qX (by simp)
def J8(g:-1000000<=j)(l:j<=1000000):P6 j=some (Ga 0 j.toNat):=qX ⟨g,l⟩
def lq(g:-1000000<=i)(l:i<=1000000)(m:-1000000<=j)(o:j<=1000000):lr i j=some (Ga i (j - i).toNat):=qX ⟨g,l,m,o⟩
def EV{lo:Int}{n:Nat}{x:Int}:x∈Ga lo n↔lo<=x/\x < lo+n:=by
 unfold Ga;rw[Aw]
 constructor
 ·rintro⟨k,g,rfl⟩
  have:=UJ.mp g
  lia
 ·rintro⟨j,l⟩
  exact⟨(x - lo).toNat,UJ.mpr (by lia),by lia⟩
def FB(lo:Int)(n:Nat):(Ga lo n).length=n:=by unfold Ga;rw[AG,List.length_range]
def V0(lo:Int)(n:Nat):(Ga lo n).Pairwise (· < ·):=by
 unfold Ga;rw[B2]
 exact Mb.imp λh=>by lia
def Kk(j:0<=i)(m:i < l.length):∃x,atI l i=some x/\l[i.toNat]?=some x:=by
 have g:i.toNat < l.length:=by lia
 exact⟨l[i.toNat],Zg j (Aj g),Aj g⟩
def KF(h:0 < y):SQ x y=some (x % y):=qX h
def NQ(l:List α)(lo hi:Option Int):(EN l lo hi).length<=l.length:=by
 unfold EN;rw[Be,Ca]
 lia
def bF{l:List α}{lo hi:Option Int}{x:α}(h:x∈EN l lo hi):x∈l:=Zv (Zu h)
def O3{lo:Int}{n:Nat}{g:ZLi}{x:Int}(h:g++[x] <+: Ga lo n):x=lo+g.length/\g.length < n:=by
 have j:=h.length_le;rw[AK,Ai,FB]at j;obtain⟨r,l⟩:=h;have:=congrArg (λz=>z[g.length]?) l;simp only[A7,BG (AL _),uF]at this;rw[show([x]++r)[0]?=some x from rfl]at this;unfold Ga at this;rw[Ao,CC (by lia)]at this;simp only[Option.map_some,Option.some.injEq]at this;exact⟨this,by lia⟩
def Ln[DecidableEq α]:∀{l k:List α},l.Nodup->(∀x∈l,x∈k)->l.length<=k.length
 | [],_,_,_=>Ce _
 | x :: l,k,m,h=>by
  have g:=h x Ax;obtain⟨o,s⟩:=Cq.mp m
  have:=Ln (l:=l) (k:=k.erase x) s λy j=>(List.mem_erase_of_ne (λz:y=x=>o (by rw[<-z];exact j))).mpr (h y (AY _ j))
  rw[Wj g]at this;have:=YM g;rw[A1]
  lia
def Ok(p:Option α)(P:α->Prop):Prop:=∃v,p=some v/\P v
def Ok.is(h:Ok p λr=>r=v):p=some v:=by
 obtain⟨_,g,rfl⟩:=h;exact g
def OkF(p:Option (Fw ρ σ))(N:σ->Prop)(R:ρ->Prop):Prop:=(∃s,p=some (.nx s)/\N s)∨∃r,p=some (.rt r)/\R r
def OkF.nx(h:N s):OkF (some (.nx s)) N R:=.inl ⟨s,rfl,h⟩
def OkF.rt(h:R r):OkF (some (.rt r)) N R:=.inr ⟨r,rfl,h⟩
def OkF.seq(h:OkF p N R)(g:∀s,N s->OkF (q s) N' R):OkF (BZ p q) N' R:=by
 rcases h with⟨s,rfl,h⟩ | ⟨r,rfl,h⟩
 ·exact g s h
 ·exact .inr ⟨r,rfl,h⟩
def OkF.map(h:OkF p N R)(j:∀s,N s->N' (g s)):OkF (Ej g p) N' R:=by
 rcases h with⟨s,rfl,h⟩ | ⟨r,rfl,h⟩
 ·exact .inl ⟨_,rfl,j s h⟩
 ·exact .inr ⟨r,rfl,h⟩
def OkF.ite(g:c=true->OkF a N R)(hb:c=false->OkF b N R):OkF (if c=true then a else b) N R:=by
 cases c with
 | true=>exact g rfl
 | false=>exact hb rfl
def OkF.for(I:List α->σ->Prop)(j:I [] s0)(h:∀g x s,x∈l->g++[x] <+: l->I g s->OkF (q s x) (I (g++[x])) R):OkF (Ey l s0 q) (I l) R:=je I R j h
def OkF.out(h:OkF p (λ_=>False) R):Ok (KW p) R:=by
 rcases h with⟨s,rfl,h⟩ | ⟨r,rfl,h⟩
 ·exact h.elim
 ·exact⟨r,rfl,h⟩
def VF.law(h:VF f [.v (eF ns)] (rV D.bl) (some true)):∃S',f [.fro (ns.map D.int)] []=.ok (.bl true) S':=by
 obtain⟨d,S',g,_,rfl⟩:=h true rfl [] [.fro (ns.map D.int)] ⟨rfl,trivial⟩;exact⟨S',g⟩
end
section
variable{ρ σ:Type}
def IV{n:Nat}{b:MS}{as:List Ar}{R:Rk ρ}{p:Option (Fw ρ σ)}{B:σ->List Sl}(h:VS (as.map Ar.sl++Ak (n - as.length) .u) b R p B):VF (FA n b) as R (KW p):=λv j S E m=>by
 cases p with
 | none=>cases j
 | some x=>
  obtain⟨g,o,A,l⟩:=h _ rfl S _ _ S (Vs.start m)
  cases x with
  | rt r=>cases j;obtain⟨d,rfl,l,C⟩:=l;exact⟨d,o,L2.KU A,C,l⟩
  | nx s=>cases j
  | bk s=>cases j
  | ct s=>cases j
def p9{n:Nat}{b:MS}{as:List Ar}{p:Option (Fw Unit σ)}{B:σ->List Sl}(h:VS (as.map Ar.sl++Ak (n - as.length) .u) b (rV eU) p B):VF (FA n b) as (rV eU) (m8 p):=λv l S E C=>by
 cases p with
 | none=>cases l
 | some x=>
  obtain⟨g,m,o,j⟩:=h _ rfl S _ _ S (Vs.start C)
  cases x with
  | rt r=>obtain⟨d,rfl,j,A⟩:=j;exact⟨d,m,L2.KU o,A,j⟩
  | nx s=>obtain⟨G,H,rfl,j,A⟩:=j;exact⟨.non,m,L2.SB o,j.kp,rfl⟩
  | bk s=>cases l
  | ct s=>cases l
end
def hb(bits x:Int):Bool:=Builtin.bitAnd (bits / 2 ^ x.toNat) 1 != 0
abbrev HL:=List ZPi
abbrev QL:=List (Int×Bool)
section
abbrev w0(T:Int->ZLi)(bits g:Int):ZLi:=(T g).filter (hb bits)
def MOn(T:Int->ZLi)(bits:Int)(P:Int->Prop)(H:HL):Prop:=(∀x,P x->∀a,Ei H x=some a->x∈w0 T bits a)/\∀x y a,P x->P y->Ei H x=some a->Ei H y=some a->x=y
abbrev sn(Q:QL)(x:Int):Prop:=(Ei Q x).isSome=true
def Good(T:Int->ZLi)(bits:Int)(H:HL)(g:Int)(Q:QL)(j:HL):Prop:=
 (∀x,sn Q x->Ei j x=Ei H x)/\(MOn T bits (λx=>¬sn Q x) H->(∀x,¬sn Q x->Ei H x≠some g)->MOn T bits (λx=>¬sn Q x) j/\∀a,(∃x,¬sn Q x/\Ei j x=some a)↔a=g∨∃x,¬sn Q x/\Ei H x=some a)
end
section
def Rw(h:e[i]?=some (some d)):AH i e S=.ok d S:=by unfold AH;rw[h]
end
abbrev inG{g:Type}[DecidableEq g](x:g)(l:List g):Bool:=decide (x∈l)
def aj{g:Type}[DecidableEq g]{x:g}{l:List g}:inG x l=true↔x∈l:=decide_eq_true_iff
def nU{g:Type}(l:List g)(i:Int)(x:g):Option (List g):=if 0<=i/\i < 1000000/\l.length < 1000000 then some (l.take i.toNat++[x]++l.drop i.toNat)else none
section
def pz(hi:A[i]?=some (.w i (oL enc l)))(h:VE A mi (rV D.int) J)(L:VE A mx (rV enc) N)(O:((A.set i .u).all (Sl.oth i))=true) :
  VS A (C2 (iw (AH i) mi mx)) R (J.bind λk=>N.bind λv=>(nU l k v).bind λj=>some (.nx j)) (λj=>A.set i (.w i (oL enc j))):=λf P E e F S g=>by
 obtain⟨k,Q,T⟩:=A6 P;obtain⟨v,U,X⟩:=A6 T;obtain⟨j,m,Y⟩:=A6 X;cases Y;unfold nU at m;split at m
 ·rename_i o
  cases m;obtain⟨x,G,n,rfl,Z,s⟩:=g.sl i _ hi;obtain⟨d1,S1,c1,H,rfl⟩:=h k Q E e F S g;obtain⟨d2,B,c2,k2,rfl⟩:=L v U E e _ S1 (g.grow H);have I:=H.trans k2;have hg:=g.grow I
  have a0:atL (.ref n) S=some (n,l.map enc):=by unfold atL;dsimp only;rw[s];rfl
  have a2:atL (.ref n) B=some (n,l.map enc):=by unfold atL;dsimp only;rw[I.at s];rfl
  have C:iw (AH i) mi mx e S=.ok .non (B.set n (oL enc (l.take k.toNat++[v]++l.drop k.toNat))):=by
   unfold iw;rw[Rw G];dsimp only[Res.bind];rw[a0];dsimp only;rw[c1];dsimp only[Res.bind];rw[c2];dsimp only[Res.bind];rw[a2];dsimp only;rw[qX ⟨o.1,o.2.1,by rw[AG];exact Ap (Nat.succ_le_of_lt o.2.2) (by decide)⟩];rw[show(l.map enc).take k.toNat++[enc v]++(l.map enc).drop k.toNat=(l.take k.toNat++[v]++l.drop k.toNat).map enc by simp];rfl
  exact⟨_,_,Gf C,e,_,rfl,hg.put O hi G (by rw[Ev (C4 s)];exact Z),g.fle B⟩
 ·cases m
def UQ(h:VE A a (rV D.int) l):VL A (Nm (AX a BR)) D.int (l.bind P6):=λv m o e F S s=>by
 obtain⟨j,B,g⟩:=A6 m;obtain⟨d,C,E,G,rfl⟩:=h j B o e F S s;unfold P6 at g;split at g
 ·rename_i H
  cases g;refine⟨C,?_,G⟩;unfold Nm;rw[CU E rfl];dsimp only[Res.bind];rw[qX H,Int.sub_zero,ZA]
 ·cases g
def lH(E:VE A a (rV eF) G)(H:VO A mlo I)(J:VO A mhi ph):VE A (KZ a mlo mhi) (rN (oL D.int)) (G.bind λl=>I.bind λx=>ph.bind λy=>some (EN l x y)):=λv g m e F S o=>by
 obtain⟨l,L,g⟩:=A6 g;obtain⟨x,N,g⟩:=A6 g;obtain⟨y,O,P⟩:=A6 g;cases P;obtain⟨d1,Q,R,j,rfl⟩:=E l L m e F S o;obtain⟨T,U,s⟩:=H x N m e _ Q (o.grow j);obtain⟨B,X,C⟩:=J y O m e _ T ((o.grow j).grow s);refine⟨.ref B.length,B++[oL D.int (EN l x y)],?_,((j.trans s).trans C).trans (Keeps.app _ _),_,rfl,((j.trans s).trans C).1,Dh _ _⟩;unfold KZ;rw[R];dsimp only[Res.bind];rw[U];dsimp only;rw[X];show Res.ok _ (B++[Ob.lst (EN (l.map D.int) x y)])=_;rw[Sw];rfl
end
section
variable{S0 S S':Sto}{A:List Sl}{e:Lo}{F:Fz}{α:Type}{enc:α->D}{xH:List (List α)}{i:Nat}
def Nst(enc:α->D)(xH:List (List α))(L:Nat->Option Ob)(d:D):Prop:=∃n g,d=.ref n/\L n=some (oL D.ref g)/\g.length=xH.length/\∀(k:Nat) (j:List α),xH[k]?=some j->∃m,g[k]?=some m/\L m=some (oL enc j)
def lw(enc:α->D):Rk (List (List α)):=λxH S0 d S=>∃n g,d=.ref n/\S0.length<=n/\S[n]?=some (oL D.ref g)/\g.length=xH.length/\∀(k:Nat) (j:List α),xH[k]?=some j->∃m,g[k]?=some m/\S0.length<=m/\S[m]?=some (oL enc j)
def lv:∀(v:List (List α)) (S S1:Sto) (d:D) (S':Sto),S.length<=S1.length->lw enc v S1 d S'->lw enc v S d S':=λv S S1 d S' l ⟨n,g,j,o,s,B,C⟩=>
 ⟨n,g,j,Ap l o,s,B,λk E G=>let ⟨m,H,I,J⟩:=C k E G;⟨m,H,Ap l I,J⟩⟩
def loF(F:Fz):Nat->Option Ob:=λn=>match F n with
 | .fz o=>some o
 | _=>none
def rz(h:F n=.fz o):loF F n=some o:=by unfold loF;rw[h]
def i8(h:loF F n=some o):F n=.fz o:=by
 unfold loF at h;split at h
 ·rename_i j g;cases h;exact g
 ·cases h
def Vs.nst(j:Vs S0 A e F S)(h:A[i]?=some (.q (Nst enc xH))):∃n g,e[i]?=some (some (.ref n))/\F n=.fz (oL D.ref g)/\g.length=xH.length/\∀(k:Nat) (xs:List α),xH[k]?=some xs->∃m,g[k]?=some m/\F m=.fz (oL enc xs):=by
 obtain⟨x,l,d,rfl,s⟩:=j.sl i _ h
 obtain⟨n,g,rfl,B,C,E⟩:=s (loF F) λn o q=>rz q
 exact⟨n,g,l,i8 B,C,λk xs G=>let ⟨m,H,I⟩:=E k xs G;⟨m,H,i8 I⟩⟩
def bK(o:g.length=xH.length)(h:atI xH k=some xs):∃j:Nat,xH[j]?=some xs/\∀m,g[j]?=some m->atI g k=some m:=by
 unfold atI at h ⊢;rw[o]
 cases l:ixN xH.length k with
 | none=>rw[l]at h;cases h
 | some j=>rw[l]at h;exact⟨j,h,λm s=>s⟩
def qC(h:A[i]?=some (.q (Nst enc xH)))(hb:VE A b (rV D.int) s):VE A (m2 ixA (AH i) b) (rO (oL enc)) (s.bind λk=>atI xH k):=λv B S0 e F S g=>by
 obtain⟨k,C,E⟩:=A6 B;obtain⟨n,G,H,I,J,L⟩:=g.nst h;obtain⟨d,N,O,o,rfl⟩:=hb k C S0 e F S g;obtain⟨j,P,Q⟩:=bK J E;obtain⟨m,R,T⟩:=L j v P
 have U:AH i e S=.ok (.ref n) S:=by unfold AH;rw[H]
 exact⟨.ref m,N,EI U O (Se (enc:=D.ref) (l:=G) (Es (o.at (g.fz _ _ I))) (Q m R)),o,m,rfl,o.at (g.fz _ _ T)⟩
def fZ(h:A[i]?=some (.q (Nst enc xH)))(hb:VE A b (rV D.int) B):VI A (Ek (m2 ixA (AH i) b)) enc (B.bind λk=>atI xH k):=λv C S0 e F S g=>by
 obtain⟨k,E,G⟩:=A6 C;obtain⟨n,H,I,J,L,N⟩:=g.nst h;obtain⟨d,O,P,o,rfl⟩:=hb k E S0 e F S g;obtain⟨j,Q,R⟩:=bK L G;obtain⟨m,T,s⟩:=N j v Q
 have U:AH i e S=.ok (.ref n) S:=by unfold AH;rw[I]
 have X:=EI U P (Se (enc:=D.ref) (l:=H) (Es (o.at (g.fz _ _ J))) (R m T));exact⟨_,O,IY X (o.at (g.fz _ _ s)),o,λZ S2 Y h=>FD (h m _ (Y _ _ (by rw[Ev (C4 (g.fz _ _ s))];exact s)))⟩
def qJ(h:A[i]?=some (.q (Nst enc xH)))(l:VA A ml q m):VA A (AX (AH i) ml) (q.bind λy=>some (xH,y)) (λz=>.q (Nst enc z.1) :: m z.2):=λv s S0 e F S g=>by
 obtain⟨y,B,C⟩:=A6 s;cases C;obtain⟨x,E,d,rfl,G⟩:=g.sl i _ h;obtain⟨O,H,I,j,J⟩:=l y B S0 e F S g;exact⟨_,H,CU (show AH i e S=.ok d S by unfold AH;rw[E]) I,j,λL N=>G L λn o q=>N n o (j.at (g.fz _ _ q)),J⟩
def bn(h:VE A m (lw enc) p):VS A (Bn i m) R (p.bind λv=>some (.nx v)) (λv=>A.set i (.q (Nst enc v))):=λf o S0 e F S g=>by
 obtain⟨v,s,B⟩:=A6 o;cases B;obtain⟨d,S',C,E,n,G,rfl,H,I,J,N⟩:=h v s S0 e F S g;refine⟨_,S',KP C,_,_,rfl,(g.grow E).set (a:=.q (Nst enc v)) (x:=some (.ref n)) i ⟨.ref n,rfl,λL l=>⟨n,G,rfl,l n _ (LC H I),J,λk O P=>?_⟩⟩,g.fle S'⟩;obtain⟨m,Q,T,j⟩:=N k O P;exact⟨m,Q,l m _ (LC T j)⟩
def Z6(h:A[i]?=some (.q (Nst enc xH))):VE A (G0 (AH i)) (rV D.int) (some (xH.length:Int)):=λv j S0 e F S g=>by
 cases j;obtain⟨n,l,m,o,s,B⟩:=g.nst h;exact⟨_,S,(WD (ds:=l.map D.ref) (show AH i e S=.ok (.ref n) S by unfold AH;rw[m]) (Es (g.fz _ _ o))).trans (by rw[AG,s]),Keeps.refl S,rfl⟩
end
section
variable{S0 S:Sto}{A:List Sl}{ρ σ:Type}
noncomputable def whF(c:σ->Option Bool)(q:σ->Option (Fw ρ σ)):Nat->σ->Option (Fw ρ σ)
 | 0,_=>none
 | n+1,s=>(c s).bind λt=>if t=true then match q s with
   | some (.nx g)=>whF c q n g
   | some (.ct g)=>whF c q n g
   | some (.bk g)=>some (.nx g)
   | some (.rt r)=>some (.rt r)
   | none=>none
  else some (.nx s)
def bj(U:∀s,VB (B s) t (c s))(hb:∀s,VS (B s) b R (q s) B):∀(n:Nat) (s:σ),VS (B s) (Gk t b n) R (whF c q n s) B:=by
 intro n
 induction n with
 | zero=>intro s f J;cases J
 | succ n T=>
  intro s f J S0 e F S G;unfold whF at J;obtain⟨v,X,l⟩:=A6 J;obtain⟨S1,Y,Z⟩:=U s v X S0 e F S G;have H:=G.grow Z
  have run:Gk t b (n+1) e S=if v=true then(b e S1).bind λf g=>match f with
   | .nx j=>Gk t b n j g
   | .ct j=>Gk t b n j g
   | .bk j=>.ok (.nx j) g
   | .rt d=>.ok (.rt d) g
   | .ex c j=>.ok (.ex c j) g
  else .ok (.nx e) S1:=by
   show(t e S).lift e _=_;rw[Y];rfl
  cases v with
  | false=>
   rw[qY AV]at l;cases l;exact⟨_,S1,run.trans (qY AV),e,_,rfl,H,G.fle S1⟩
  | true=>
   rw[qX rfl]at l;rw[run,qX rfl];split at l
   ·rename_i L m
    obtain⟨h,g,o,j,I,rfl,C,E⟩:=hb s _ m S0 e _ S1 H;rw[o];obtain⟨N,O,P,Q⟩:=T L f l S0 j I g C;exact⟨N,O,P,Q.up ((G.fle S1).trans E)⟩
   ·rename_i L m
    obtain⟨h,g,o,j,I,rfl,C,E⟩:=hb s _ m S0 e _ S1 H;rw[o];obtain⟨N,O,P,Q⟩:=T L f l S0 j I g C;exact⟨N,O,P,Q.up ((G.fle S1).trans E)⟩
   ·rename_i L m
    cases l;obtain⟨h,g,o,j,I,rfl,C,E⟩:=hb s _ m S0 e _ S1 H;rw[o];exact⟨_,g,rfl,j,I,rfl,C,(G.fle S1).trans E⟩
   ·rename_i r m
    cases l;obtain⟨h,g,o,d,rfl,C,E⟩:=hb s _ m S0 e _ S1 H;rw[o];exact⟨_,g,rfl,d,rfl,C,E⟩
   ·cases l
def fS(w0:Wk A (B s0))(g:∀s,VB (B s) t (c s))(hb:∀s,VS (B s) b R (q s) B):VS A (Gk t b n) R (whF c q n s0) B:=λf j S0 e F S l=>
 bj g hb n s0 f j S0 e F S (l.weak w0)
end
section
def UZ(l:ZLi):Option ZLi:=if l.length<=4000 then some (Qx l)else none
end
section
def nM(l:ZLi):Option Int:=TC ltZ l
def nN(l:ZLi):Option Int:=TC gtZ l
def aB(h:VL A ml D.int g):VE A (mQ (U5 f) ml) (rV D.int) (g.bind λl=>TC f l):=λv j m e F S o=>by
 obtain⟨l,s,B⟩:=A6 j;obtain⟨C,E,G⟩:=h l s m e F S o;refine⟨_,C,?_,G,rfl⟩;unfold mQ;rw[E];dsimp only[Res.bind];unfold U5;rw[NB];dsimp only;rw[B];rfl
def lC(h:VL A ml D.int g):VE A (mQ ij ml) (rV D.int) (g.bind nM):=aB h
def lE(h:VL A ml D.int g):VE A (mQ io ml) (rV D.int) (g.bind nN):=aB h
end
section
variable{α ρ:Type}
def Ua(l:List α)(i:Int)(x:α):Option (List α):=if 0<=i/\i < l.length then some (l.set i.toNat x)else none
def sJ{n:Nat}{i:Int}(g:0<=i)(j:i < n):ixN n i=some i.toNat:=by
 unfold ixN;rw[qX g,qX j]
def Z1{mi mx:ME}{R:Rk ρ}{B:Option Int}{C:Option α}{i:Nat}{l:List α}(hi:A[i]?=some (.w i (oL enc l)))(h:VE A mi (rV D.int) B)(O:VE A mx (rV enc) C)(P:((A.set i .u).all (Sl.oth i))=true) :
  VS A (Lh mx (OO (AH i) mi)) R (C.bind λv=>B.bind λk=>(Ua l k v).bind λj=>some (.nx j)) (λj=>A.set i (.w i (oL enc j))):=λf Q E e F S g=>by
 obtain⟨v,T,U⟩:=A6 Q;obtain⟨k,X,Y⟩:=A6 U;obtain⟨j,m,Z⟩:=A6 Y;cases Z;unfold Ua at m;split at m
 ·rename_i G
  cases m;obtain⟨x,H,n,rfl,g2,I⟩:=g.sl i _ hi;obtain⟨d2,J,c2,L,rfl⟩:=O v T E e F S g;obtain⟨d1,o,c1,k2,rfl⟩:=h k X E e _ J (g.grow L);have N:=L.trans k2;have hg:=g.grow N
  have a2:atL (.ref n) o=some (n,l.map enc):=by unfold atL;dsimp only;rw[N.at I];rfl
  have s:Lh mx (OO (AH i) mi) e S=.ok (.nx e) (o.set n (oL enc (l.set k.toNat v))):=by
   unfold Lh;rw[c2];show(OO (AH i) mi (enc v) e J).bind _=_;unfold OO;rw[Rw H];dsimp only[Res.bind];rw[c1];dsimp only[Res.bind];rw[a2];dsimp only;rw[AG,sJ G.1 G.2];dsimp only[Res.bind];rw[show(l.map enc).set k.toNat (enc v)=(l.set k.toNat v).map enc by rw[List.map_set]];rfl
  exact⟨_,_,s,e,_,rfl,hg.put P hi H (by rw[Ev (C4 I)];exact g2),g.fle o⟩
 ·cases m
end
section
def lF(h:VE A a (rO (oDK enc)) g):VE A (aW a) (rV D.int) (g.bind λl=>some (l.length:Int)):=λv j m e F S o=>by
 obtain⟨l,s,B⟩:=A6 j;cases B;obtain⟨d,C,E,G,n,rfl,H⟩:=h l s m e F S o;refine⟨_,C,?_,G,rfl⟩;unfold aW;rw[E];dsimp only[Res.bind];rw[H];unfold oDK;dsimp only;rw[AG]
def ZR(l:ZLi)(k:Int):Option Int:=(QE k l).map λ(j:Nat)=>(j:Int)
end
section
def Z3(g:VE A a (rV (eP D.int D.int)) j):VL A (Ka a) D.int (j.bind λx=>some [x.1,x.2]):=λv l m e F S o=>by
 obtain⟨x,s,B⟩:=A6 l;cases B;obtain⟨d,C,E,G,rfl⟩:=g x s m e F S o;exact⟨C,oz E rfl,G⟩
end
section
variable{S0 S S':Sto}{A:List Sl}{e:Lo}{F:Fz}{a m:ME}
def kx(h:VE A m (rV (eP l o)) p):VS A (Lh m (E9 2 (Bo (tgN i) (Bo (tgN j) FN)))) R (p.bind λv=>some (.nx v)) (λv=>(A.set i (.v (l v.1))).set j (.v (o v.2))):=λf s S0 e F S g=>by
 obtain⟨v,B,C⟩:=A6 s;cases C;obtain⟨d,S',E,G,rfl⟩:=h v B S0 e F S g;refine⟨_,S',?_,_,_,rfl,((g.grow G).set (a:=.v (l v.1)) i rfl).set (a:=.v (o v.2)) j rfl,g.fle S'⟩;unfold Lh;rw[E];rfl
end
end L4
namespace M
open L2
abbrev oN(e:L2.Lo)(S:L2.Sto):L2.Res L2.Fl:=.ok (.nx e) S
abbrev sN:Option L2.D:=some .non
abbrev sR(n:Nat):Option L2.D:=some (.ref n)
abbrev sI(i:Int):Option L2.D:=some (.int i)
abbrev sF(l:ZLi):Option L2.D:=some (.fro (l.map L2.D.int))
def top(i:Nat):EF:=pY.main.body.getD i (.Pass ⟨0,0,0,0⟩)
structure Wd where
 GuardError:AW
 BadPlaces:AW
 NoPlace:AW
 NoCall:AW
 NotWood:AW
 BadColony:AW
 Web:AW
def Wd.excs(W:Wd):List AW:=[W.BadColony]
def CD(W:Wd)(C:AW):Option Bool:=if C∈([]:List AW)then some true else if C∈W.excs then some false else none
def HA(W:Wd)(C:AW):Option Bool:=if C∈[W.BadColony]then some true else if C∈W.excs then some false else none
def GZ(W:Wd)(C:AW):Option Bool:=if C∈[W.BadColony]then some true else if C∈W.excs then some false else none
abbrev Ja:EF:=top 11
abbrev JZ:EF:=top 12
abbrev OT:EF:=nV (top 10) 0
abbrev HD:EF:=top 13
abbrev Y9:EF:=top 14
abbrev LZ:EF:=top 15
abbrev OS:EF:=top 16
abbrev LY:EF:=top 17
abbrev La:EF:=top 19
abbrev Mx:EF:=top 20
abbrev P2:EF:=top 21
abbrev Mw:EF:=top 24
abbrev R9:EF:=top 23
abbrev M0:EF:=top 26
abbrev Lg:EF:=top 27
abbrev Ld:EF:=top 28
abbrev Lc:EF:=top 29
abbrev KS:EF:=top 30
abbrev KR:EF:=top 31
abbrev Mz:EF:=top 32
abbrev Jc:EF:=top 33
abbrev Hu:EF:=top 34
abbrev GC:EF:=top 35
abbrev Lb:EF:=top 36
abbrev KQ:EF:=top 37
abbrev Jb:EF:=top 38
abbrev aK:EF:=top 39
def TJ(W:Wd):MS:=
  (BF (Bn 2 i4)
  (BF (Ex (Ek (AH 1)) (E9 2 (Bo (tgN 3) (Bo (tgN 4) FN)))
  (BF (Bn 5 (Hy (AX (mQ OF (AX (AH 3) (AX (AH 4) BR))) (AX (mQ Ql (AX (AH 3) (AX (AH 4) BR))) BR))))
  (BF (sIf (mB (m2 (eqD false) (m2 ixA (AH 5) (mC (.int 0))) (m2 ixA (AH 5) (mC (.int 1))))) Vy sNx)
  (BF (sIf (mOr (mB (m2 ltD (m2 ixA (AH 5) (mC (.int 0))) (mC (.int 0)))) (mB (m2 geD (m2 ixA (AH 5) (mC (.int 1))) (AH 0)))) Vy sNx)
  (BF (sIf (mB (m2 (inA false) (AH 5) (AH 2))) Vy sNx)
  (Gm (AH 2) (AH 5) (mC (.bl true))))))))
  (Dt (GJ (DM (AH 2))))))
def HR(W:Wd):List D->Sto->Res D:=FA 6 (TJ W)
def NS(W:Wd):MS:=
  (BF (Bn 2 (D4 (Fe 1 (iR1 (AX (AH 0) BR)) (tgN 0) Hk (D4 (Dv BR)))))
  (BF (Ex (Ek (AH 1)) (E9 2 (Bo (tgN 3) (Bo (tgN 4) FN)))
  (BF (C2 (K9 (m2 ixA (AH 2) (AH 3)) (AH 4)))
  (C2 (K9 (m2 ixA (AH 2) (AH 4)) (AH 3)))))
  (Dt (GJ (D4 (Fe 1 (Ek (AH 2)) (tgN 0) Hk (GJ (DM (AH 0)))))))))
def HQ(W:Wd):List D->Sto->Res D:=FA 5 (NS W)
def TK(W:Wd):MS:=
  (BF (sIf (OX (mB (m3 leD leD (mC (.int 1)) (AH 1) (mC (.int 60))))) Vy sNx)
  (BF (Uc W.Web "places" (AH 0) (AH 1))
  (BF (Uc W.Web "ties" (AH 0) (Cd 2 (HR W) (AX (AH 1) (AX (AH 2) BR))))
  (Uc W.Web "near_sets" (AH 0) (Cd 2 (HQ W) (AX (AH 1) (AX (Lr W.Web "ties" (AH 0)) BR)))))))
def Ji(W:Wd):List D->Sto->Res D:=FA 3 (TK W)
def FQ(W:Wd):MS:=
  (sIf (OX (mB (m3 leD ltD (mC (.int 0)) (AH 1) (Lr W.Web "places" (AH 0))))) Vy sNx)
def EY(W:Wd):List D->Sto->Res D:=FA 2 (FQ W)
def WZ(W:Wd):MS:=
  (BF (C2 (Cd 2 (EY W) (AX (AH 0) (AX (AH 1) BR))))
  (Dt (m2 ixA (Lr W.Web "near_sets" (AH 0)) (AH 1))))
def NI(W:Wd):List D->Sto->Res D:=FA 2 (WZ W)
def MA(W:Wd):MS:=
  (BF (Bn 2 (SU (AH 1) (mC (.int 0))))
  (BF (Bn 3 (D4 (Dv (AX (AH 1) BR))))
  (BF (Gk (O9 (AH 3)) (BF (Bn 4 (D4 (Dv BR)))
  (BF (Ex (Ek (AH 3)) (tgN 5)
  (Ex (Ek (Cd 2 (NI W) (AX (AH 0) (AX (AH 5) BR)))) (tgN 6)
  (sIf (mB (m2 (inA true) (AH 6) (AH 2))) (BF (Gm (AH 2) (AH 6) (m2 E5 (m2 ixA (AH 2) (AH 5)) (mC (.int 1))))
  (C2 (K9 (AH 4) (AH 6)))) sNx)))
  (Bn 3 (AH 4)))) wN)
  (Dt (AH 2)))))
def F5(W:Wd):List D->Sto->Res D:=FA 7 (MA W)
def Od(W:Wd):MS:=
  (BF (Bn 1 (D4 (Dv BR)))
  (BF (Bn 2 SV)
  (BF (Ex (iR1 (AX (Lr W.Web "places" (AH 0)) BR)) (tgN 3)
  (sIf (mB (m2 (inA true) (AH 3) (AH 2))) (BF (Bn 4 (Cd 2 (F5 W) (AX (AH 0) (AX (AH 3) BR))))
  (BF (C2 (Um (AH 2) (AH 4)))
  (C2 (K9 (AH 1) (GJ (DM (AH 4))))))) sNx))
  (Dt (AH 1)))))
def Lv(W:Wd):List D->Sto->Res D:=FA 5 (Od W)
def L9(W:Wd):MS:=
  (BF (Bn 2 SV)
  (BF (Ex (PK (AH 1)) (E9 2 (Bo (tgN 3) (Bo (tgN 4) FN)))
  (Gm (AH 2) (AH 4) (AH 3)))
  (BF (Bn 5 (D4 (Fe 2 (Ek (Lr W.Web "ties" (AH 0))) (E9 2 (Bo (tgN 0) (Bo (tgN 1) FN))) (Q7 (mB (m2 (inA false) (AH 0) (AH 4))) (mB (m2 (inA false) (AH 1) (AH 4)))) (Hy (AX (m2 ixA (AH 4) (AH 0)) (AX (m2 ixA (AH 4) (AH 1)) BR))))))
  (Dt (SR W.Web 3 (Ji W) (AX (aW (AH 2)) (AX (AH 5) BR)))))))
def Lu(W:Wd):List D->Sto->Res D:=FA 6 (L9 W)
def MB(W:Wd):MS:=
  (BF (Ex (PK (AH 1)) (E9 2 (Bo (tgN 3) (Bo (tgN 4) FN)))
  (BF (Bn 5 (Cd 2 (NI W) (AX (AH 0) (AX (AH 4) BR))))
  (Ex (Ek (Lq (AH 1) (K5 (m2 E5 (AH 3) (mC (.int 1)))) OE)) (tgN 6)
  (sIf (mB (m2 (eqD false) (m2 (inA false) (AH 6) (AH 5)) (AH 2))) (Dt (Hy (AX (AH 4) (AX (AH 6) BR)))) sNx))))
  (Dt (mC .non)))
def Lw(W:Wd):List D->Sto->Res D:=FA 7 (MB W)
def NU(W:Wd):MS:=
  (Dt (Cd 3 (Lw W) (AX (AH 0) (AX (AH 1) (AX (mC (.bl false)) BR)))))
def NJ(W:Wd):List D->Sto->Res D:=FA 2 (NU W)
def QQ(W:Wd):MS:=
  (Dt (Xm (m2 gtD (G0 (AH 1)) (mC (.int 0))) (m2 (dF false) (Cd 2 (NJ W) (AX (AH 0) (AX (AH 1) BR))) (mC .non))))
def QM(W:Wd):List D->Sto->Res D:=FA 2 (QQ W)
def NT(W:Wd):MS:=
  (BF (sIf (OX (O9 (AH 2))) (Dt (Cd 2 (QM W) (AX (AH 0) (AX (AH 1) BR)))) sNx)
  (BF (sIf (mOr (OX (mB (mQ j9 (Ka (D4 (Fe 1 (Ek (AH 2)) (tgN 0) Hk (m2 (inA false) (AH 0) (AH 2)))))))) (mB (m2 (eqD false) (G0 (AH 2)) (G0 (AH 1))))) (Dt (mC (.bl false))) sNx)
  (BF (sIf (mB (m2 gtD (G0 (Cd 1 (Lv W) (AX (Cd 2 (Lu W) (AX (AH 0) (AX (AH 2) BR))) BR))) (mC (.int 1)))) (Dt (mC (.bl false))) sNx)
  (Dt (mQ j9 (Ka (D4 (Fe 1 (Ek (AH 1)) (tgN 0) Hk (ir (m2 (inA false) (AH 0) (AH 3)) (mQ oO (Ka (D4 (Fe 1 (Ek (Cd 2 (NI W) (AX (AH 1) (AX (AH 0) BR)))) (tgN 0) Hk (m2 (inA false) (AH 0) (AH 4)))))))))))))))
def KI(W:Wd):List D->Sto->Res D:=FA 3 (NT W)
def X9(W:Wd):MS:=
  (BF (Bn 2 (D4 (Dv BR)))
  (BF (Ex (Ek (AH 1)) (E9 2 (Bo (tgN 3) (Bo (tgN 4) FN)))
  (C2 (SS (AH 2) (AH 3))))
  (BF (sIf (mB (m2 (eqD true) (DM (AH 2)) (D4 (Nm (AX (Lr W.Web "places" (AH 0)) BR))))) (P5 W.BadColony (AX (mC (.str "colonies share no place and have all places of the web")) BR)) sNx)
  (Ex (Ek (AH 1)) (E9 2 (Bo (tgN 3) (Bo (tgN 4) FN)))
  (sIf (OX (O9 (Cd 3 (KI W) (AX (AH 0) (AX (AH 3) (AX (AH 4) BR)))))) (P5 W.BadColony (AX (mC (.str "a colony is no club, or its inner places are not as they must be")) BR)) sNx)))))
def LB(W:Wd):List D->Sto->Res D:=FA 5 (X9 W)
def NW(W:Wd):MS:=
  (BF (sIf (mB (m2 ltD (AH 1) (G0 (AH 0)))) (Dt (m2 Im (m2 ixA (AH 0) (AH 1)) (m2 mP (mC (.int 10)) (mC (.int 60))))) sNx)
  (Dt (mC (.int 0))))
def Gs(W:Wd):List D->Sto->Res D:=FA 2 (NW W)
def MF(W:Wd):MS:=
  (BF (Bn 2 (m2 Im (m2 Q6 (m2 E5 (m2 Im (AH 0) (mC (.int 2147483647))) (AH 1)) (mC (.int 48271))) (mC (.int 2147483647))))
  (BF (Bn 2 (m2 Im (m2 Q6 (AH 2) (AH 2)) (mC (.int 2147483629))))
  (Dt (m2 Im (m2 Q6 (m2 E5 (AH 2) (m2 Q6 (mC (.int 7919)) (AH 1))) (mC (.int 69621))) (mC (.int 2147483629))))))
def JI(W:Wd):List D->Sto->Res D:=FA 3 (MF W)
def PX(W:Wd):MS:=
  (BF (Bn 2 (D4 (Fe 1 (iR1 (AX (AH 0) BR)) (tgN 0) Hk (D4 (Dv BR)))))
  (BF (Ex (Ek (AH 1)) (E9 2 (Bo (tgN 3) (Bo (tgN 4) FN)))
  (BF (C2 (K9 (m2 ixA (AH 2) (AH 3)) (AH 4)))
  (C2 (K9 (m2 ixA (AH 2) (AH 4)) (AH 3)))))
  (Dt (D4 (Fe 1 (Ek (AH 2)) (tgN 0) Hk (DM (AH 0)))))))
def JH(W:Wd):List D->Sto->Res D:=FA 5 (PX W)
def MD(W:Wd):MS:=
  (BF (Bn 2 (D4 (Dv BR)))
  (BF (Ex (iR1 (AX (AH 1) BR)) (tgN 3)
  (C2 (iw (AH 2) (m2 Im (m2 Jg (Cd 2 (JI W) (AX (AH 0) (AX (m2 E5 (mC (.int 7000)) (AH 3)) BR))) (mC (.int 8))) (m2 E5 (AH 3) (mC (.int 1)))) (AH 3))))
  (Dt (AH 2))))
def Ly(W:Wd):List D->Sto->Res D:=FA 4 (MD W)
def IQ(W:Wd):MS:=
  (Ex (iR2 (AX (mC (.int 1)) (AX (G0 (AH 2)) BR))) (tgN 5)
  (sIf (mB (m2 (eqD false) (AH 3) (mC (.int 0)))) (C2 (Nn (AH 4) (D4 (Fe 1 (iR1 (AX (AH 5) BR)) (tgN 0) Hk (Hy (AX (m2 ixA (AH 3) (AH 0)) (AX (m2 ixA (AH 3) (AH 6)) BR))))))) (BF (Bn 6 (m2 Im (m2 Jg (Cd 2 (JI W) (AX (AH 0) (AX (m2 E5 (AH 1) (m2 Q6 (mC (.int 64)) (AH 5))) BR))) (mC (.int 8))) (mQ OF (AX (AH 5) (AX (AH 3) BR)))))
  (C2 (K9 (AH 4) (Hy (AX (m2 ixA (AH 2) (AH 6)) (AX (m2 ixA (AH 2) (AH 5)) BR))))))))
def IP(W:Wd):List D->Sto->Res D:=FA 7 (IQ W)
def Kj(W:Wd):MS:=
  (BF (Bn 1 (mC (.int 0)))
  (BF (Bn 2 (D4 (Dv BR)))
  (BF (Ex (iR1 (AX (m2 E5 (mC (.int 1)) (m2 Im (Cd 2 (Gs W) (AX (AH 0) (AX (mC (.int 0)) BR))) (mC (.int 6)))) BR)) (tgN 3)
  (BF (Bn 4 (Cd 2 (Gs W) (AX (AH 0) (AX (m2 E5 (mC (.int 1)) (AH 3)) BR))))
  (BF (Bn 5 (m2 E5 (mC (.int 1)) (m2 Im (AH 4) (mC (.int 6)))))
  (BF (C2 (K9 (AH 2) (Hy (AX (AH 5) (AX (m2 Im (m2 Jg (AH 4) (mC (.int 6))) (AH 5)) BR)))))
  (Bn 1 (m2 E5 (AH 1) (AH 5)))))))
  (BF (Bn 6 (Cd 2 (Ly W) (AX (Cd 2 (Gs W) (AX (AH 0) (AX (mC (.int 7)) BR))) (AX (AH 1) BR))))
  (BF (Bn 7 (D4 (Dv BR)))
  (BF (Bn 8 (D4 (Dv BR)))
  (BF (Bn 9 (mC (.int 0)))
  (BF (Ex (iR1 (AX (G0 (AH 2)) BR)) (tgN 3)
  (BF (Bn 10 (KZ (AH 6) (K5 (AH 9)) (K5 (m2 E5 (AH 9) (m2 ixA (m2 ixA (AH 2) (AH 3)) (mC (.int 0)))))))
  (BF (Bn 11 (m2 ixA (m2 ixA (AH 2) (AH 3)) (mC (.int 1))))
  (BF (C2 (Cd 5 (IP W) (AX (Cd 2 (Gs W) (AX (AH 0) (AX (m2 E5 (mC (.int 1)) (AH 3)) BR))) (AX (m2 E5 (mC (.int 900)) (AH 3)) (AX (AH 10) (AX (AH 11) (AX (AH 7) BR)))))))
  (BF (C2 (K9 (AH 8) (Hy (AX (GJ (DM (AH 10))) (AX (GJ (DM (KZ (AH 10) OE (K5 (AH 11))))) BR)))))
  (Bn 9 (m2 E5 (AH 9) (m2 ixA (m2 ixA (AH 2) (AH 3)) (mC (.int 0))))))))))
  (Dt (Hy (AX (AH 1) (AX (DM (D4 (Fe 1 (Ek (AH 7)) (tgN 0) Hk (Hy (AX (mQ ij (Ka (AH 0))) (AX (mQ io (Ka (AH 0))) BR)))))) (AX (AH 8) BR)))))))))))))
def Kf(W:Wd):List D->Sto->Res D:=FA 12 (Kj W)
def NV(W:Wd):MS:=
  (BF (Bn 3 (D4 (mN SY (Ka (AH 0)))))
  (BF (Ex (Ek (AH 2)) (tgN 4)
  (BF (Bn 5 (m2 Im (AH 4) (AH 1)))
  (BF (Bn 6 (m2 Im (m2 Jg (AH 4) (AH 1)) (AH 1)))
  (BF (Bn 7 (Hy (AX (mQ OF (AX (AH 5) (AX (AH 6) BR))) (AX (mQ Ql (AX (AH 5) (AX (AH 6) BR))) BR))))
  (sIf (Q7 (mB (m2 (eqD true) (AH 5) (AH 6))) (mB (m2 (inA true) (AH 7) (AH 3)))) (C2 (K9 (AH 3) (AH 7))) sNx)))))
  (Dt (DM (AH 3)))))
def NK(W:Wd):List D->Sto->Res D:=FA 8 (NV W)
def Jk(W:Wd):MS:=
  (BF (Bn 2 (D4 (Dv (AX (m2 ixA (AH 1) (mC (.int 0))) BR))))
  (BF (Bn 3 (mC (.int 0)))
  (BF (Gk (mB (m2 ltD (AH 3) (G0 (AH 2)))) (BF (C2 (Nn (AH 2) (D4 (Fe 1 (Ek (m2 ixA (AH 0) (m2 ixA (AH 2) (AH 3)))) (tgN 0) (Q7 (mB (m2 (inA false) (AH 0) (AH 2))) (mB (m2 (inA true) (AH 0) (AH 3)))) (AH 0)))))
  (Bn 3 (m2 E5 (AH 3) (mC (.int 1))))) wN)
  (Dt (m2 (eqD false) (G0 (AH 2)) (G0 (AH 1)))))))
def Jh(W:Wd):List D->Sto->Res D:=FA 4 (Jk W)
def IB(W:Wd):MS:=
  (BF (sIf (mOr (mB (m2 (eqD false) (G0 (AH 1)) (mC (.int 0)))) (mOr (mB (m2 ltD (m2 ixA (AH 1) (mC (.int 0))) (mC (.int 0)))) (mB (m2 geD (m2 ixA (AH 1) (cq (mC (.int 1)))) (G0 (AH 0)))))) (Dt (mC (.bl false))) sNx)
  (BF (sIf (mB (m2 (eqD false) (G0 (AH 2)) (mC (.int 0)))) (BF (Ex (Ek (AH 1)) (tgN 3)
  (Ex (Ek (AH 1)) (tgN 4)
  (sIf (Q7 (mB (m2 (eqD true) (AH 3) (AH 4))) (mB (m2 (inA true) (AH 4) (m2 ixA (AH 0) (AH 3))))) (Dt (mC (.bl false))) sNx)))
  (Dt (mC (.bl true)))) sNx)
  (BF (Bn 5 (D4 (Fe 1 (Ek (AH 2)) (tgN 0) (mB (m2 (inA true) (AH 0) (AH 2))) (AH 0))))
  (BF (sIf (mOr (mB (m2 geD (G0 (AH 2)) (G0 (AH 1)))) (mOr (mB (m2 gtD (G0 (AH 5)) (mC (.int 0)))) (OX (O9 (Cd 2 (Jh W) (AX (AH 0) (AX (AH 2) BR))))))) (Dt (mC (.bl false))) sNx)
  (BF (Ex (Ek (AH 1)) (tgN 6)
  (sIf (Q7 (mB (m2 (inA true) (AH 6) (AH 2))) (mB (m2 (eqD false) (G0 (D4 (Fe 1 (Ek (m2 ixA (AH 0) (AH 6))) (tgN 0) (mB (m2 (inA false) (AH 0) (AH 3))) (AH 0)))) (mC (.int 0))))) (Dt (mC (.bl false))) sNx))
  (Dt (mC (.bl true))))))))
def IA(W:Wd):List D->Sto->Res D:=FA 7 (IB W)
def GM(W:Wd):MS:=
  (BF (Bn 2 (D4 (Dv BR)))
  (BF (Ex (Ek (AH 1)) (E9 2 (Bo (tgN 3) (Bo (tgN 4) FN)))
  (BF (sIf (OX (O9 (Cd 3 (IA W) (AX (AH 0) (AX (AH 3) (AX (AH 4) BR)))))) (Dt (mC (.bl false))) sNx)
  (C2 (SS (AH 2) (AH 3)))))
  (Dt (m2 (eqD false) (DM (AH 2)) (D4 (Nm (AX (G0 (AH 0)) BR)))))))
def GK(W:Wd):List D->Sto->Res D:=FA 5 (GM W)
def MC(W:Wd):MS:=
  (BF (Bn 1 (D4 (Fe 1 (iR1 (AX (mQ OF (AX (G0 (AH 0)) (AX (mC (.int 12)) BR))) BR)) (tgN 0) Hk (mC (.int 0)))))
  (BF (Ex (iR1 (AX (G0 (AH 0)) BR)) (tgN 2)
  (Lh (m2 E5 (m2 ixA (AH 1) (m2 Im (AH 2) (mC (.int 12)))) (m2 ixA (AH 0) (AH 2))) (OO (AH 1) (m2 Im (AH 2) (mC (.int 12))))))
  (Dt (AH 1))))
def Lx(W:Wd):List D->Sto->Res D:=FA 3 (MC W)
def Ki(W:Wd):MS:=
  (BF (Bn 3 (D4 (mN SY (Ka (AH 0)))))
  (BF (Bn 4 (m2 Im (AH 1) (G0 (AH 3))))
  (BF (Lh (m2 ixA (AH 3) (AH 4)) (E9 2 (Bo (tgN 5) (Bo (tgN 6) FN))))
  (BF (Bn 7 (m2 Im (m2 Jg (AH 1) (mC (.int 600))) (AH 2)))
  (BF (Bn 8 (m2 Im (m2 Jg (AH 1) (mC (.int 7))) (mC (.int 9))))
  (BF (Bn 9 (m2 Q6 (m2 Jg (m2 Im (m2 Jg (AH 1) (mC (.int 1800))) (mC (.int 3))) (mC (.int 2))) (m2 mP (mC (.int 10)) (mC (.int 40)))))
  (BF (sIf (mB (m2 (eqD false) (AH 8) (mC (.int 1)))) (Bn 5 (Lq (AH 5) (K5 (mC (.int 1))) OE)) sNx)
  (BF (sIf (mB (m2 (eqD false) (AH 8) (mC (.int 2)))) (Bn 5 (GJ (K8 (m2 E5 (AH 5) (Hy (AX (AH 7) BR)))))) sNx)
  (BF (sIf (mB (m2 (eqD false) (AH 8) (mC (.int 3)))) (Bn 6 (GJ (K8 (m2 E5 (AH 6) (Hy (AX (AH 7) BR)))))) sNx)
  (BF (sIf (mB (m2 (eqD false) (AH 8) (mC (.int 4)))) (Bn 6 (Lq (AH 6) (K5 (mC (.int 1))) OE)) sNx)
  (BF (sIf (mB (m2 (eqD false) (AH 8) (mC (.int 5)))) (Bn 6 (AH 5)) sNx)
  (BF (sIf (mB (m2 (eqD false) (AH 8) (mC (.int 6)))) (Bn 5 (m2 E5 (Lq (AH 5) OE (K5 (cq (mC (.int 1))))) (Hy (AX (m2 E5 (m2 cA (m2 E5 (m2 E5 (m2 ixA (AH 5) (cq (mC (.int 1)))) (AH 2)) (m2 Im (m2 Jg (AH 1) (mC (.int 600))) (mC (.int 3)))) (mC (.int 1))) (AH 9)) BR)))) sNx)
  (BF (sIf (mB (m2 (eqD false) (AH 8) (mC (.int 7)))) (Bn 5 (m2 E5 (Hy (AX (m2 cA (m2 cA (m2 Im (m2 Jg (AH 1) (mC (.int 600))) (mC (.int 3))) (mC (.int 3))) (AH 9)) BR)) (AH 5))) sNx)
  (BF (sIf (mB (m2 (eqD false) (AH 8) (mC (.int 8)))) (Dt (m2 E5 (m2 E5 (KZ (AH 3) OE (K5 (AH 4))) (KZ (AH 3) (K5 (m2 E5 (AH 4) (mC (.int 1)))) OE)) (m2 gu (D4 (Dv (AX (Hy (AX (Hy BR) (AX (Hy BR) BR))) BR))) (m2 Im (m2 Jg (AH 1) (mC (.int 600))) (mC (.int 2)))))) sNx)
  (BF (Lh (Hy (AX (AH 5) (AX (AH 6) BR))) (OO (AH 3) (AH 4)))
  (Dt (AH 3)))))))))))))))))
def Ke(W:Wd):List D->Sto->Res D:=FA 10 (Ki W)
def Fg(W:Wd):MS:=
  (BF (Bn 2 (mC .non))
  (BF (Bn 3 (mC .non))
  (BF (cK W.excs 4 (Bn 3 (Cd 2 (LB W) (AX (AH 0) (AX (AH 1) BR)))) (Bn 2 (AH 4)))
  (BF (sIf (mB (m2 (dF false) (AH 2) (mC .non))) (Dt (Xl (m2 (dF false) (AH 3) (mC .non)))) sNx)
  (BF (sIf (mOr (OX (mB (L2.mIs isV (GZ W) (AH 2)))) (mB (iu (CD W) (AH 2)))) (Dt (mC (.int 0))) sNx)
  (Dt (m2 Q6 (mC (.int 2)) (Xl (L2.mIs isN (HA W) (AH 2))))))))))
def HS(W:Wd):List D->Sto->Res D:=FA 5 (Fg W)
def j6(W:Wd):MS:=
  (BF (Lh (Cd 1 (Kf W) (AX (AH 0) BR)) (E9 3 (Bo (tgN 1) (Bo (tgN 2) (Bo (tgN 3) FN)))))
  (BF (Bn 2 (Cd 3 (NK W) (AX (AH 2) (AX (AH 1) (AX (KZ (AH 0) (K5 (mC (.int 8))) OE) BR)))))
  (BF (Bn 4 (Cd 2 (JH W) (AX (AH 1) (AX (AH 2) BR))))
  (BF (Bn 5 (SR W.Web 3 (Ji W) (AX (AH 1) (AX (AH 2) BR))))
  (BF (sIf (mB (m2 (eqD true) (Cd 2 (HS W) (AX (AH 5) (AX (D4 (mN SY (Ka (AH 3)))) BR))) (mC (.int 1)))) (Dt (mC (.bl false))) sNx)
  (BF (Ex (Ek (m2 E5 (D4 (Dv (AX (mC (.int 0)) BR))) (Cd 1 (Lx W) (AX (AH 0) BR)))) (tgN 6)
  (BF (Bn 7 (Cd 3 (Ke W) (AX (AH 3) (AX (AH 6) (AX (AH 1) BR)))))
  (BF (Bn 8 (D4 (mN SY (Ka (AH 7)))))
  (BF (Bn 9 (m2 cA (mC (.int 2)) (Xl (Cd 2 (GK W) (AX (AH 4) (AX (AH 7) BR))))))
  (sIf (mOr (mB (m2 (eqD true) (Cd 2 (HS W) (AX (AH 5) (AX (AH 8) BR))) (AH 9))) (mB (m2 (eqD true) (AH 8) (AH 7)))) (Dt (mC (.bl false))) sNx)))))
  (Dt (mC (.bl true)))))))))
def a8(W:Wd):List D->Sto->Res D:=FA 10 (j6 W)
set_option genInjectivity false in
structure Txt(K:AJ)(mg:Str->Option AI)(W:Wd) where
 d_checked_ties:Dfn K mg "checked_ties" "checked_ties" Ja ["places", "ties"]
 d_near_sets_of:Dfn K mg "near_sets_of" "near_sets_of" JZ ["places", "ties"]
 d_Web_init:Mtd K "__init__" "Web.__init__" OT ["self", "places", "ties"]
 d_refuse_no_place:Dfn K mg "refuse_no_place" "refuse_no_place" HD ["web", "place"]
 d_near:Dfn K mg "near" "near" Y9 ["web", "place"]
 d_steps_from:Dfn K mg "steps_from" "steps_from" LZ ["web", "start"]
 d_parts_of:Dfn K mg "parts_of" "parts_of" OS ["web"]
 d_web_within:Dfn K mg "web_within" "web_within" LY ["web", "some"]
 d_first_pair:Dfn K mg "first_pair" "first_pair" La ["web", "some", "wanted"]
 d_first_far:Dfn K mg "first_far" "first_far" Mx ["web", "some"]
 d_is_club:Dfn K mg "is_club" "is_club" P2 ["web", "some"]
 d_is_colony:Dfn K mg "is_colony" "is_colony" Mw ["web", "some", "inner"]
 d_looked:Dfn K mg "looked" "looked" R9 ["web", "colonies"]
 d__law_cell:Dfn K mg "_law_cell" "_law_cell" M0 ["script", "k"]
 d__law_mixed:Dfn K mg "_law_mixed" "_law_mixed" Lg ["cell", "salt"]
 d__law_nears:Dfn K mg "_law_nears" "_law_nears" Ld ["many", "ties"]
 d__law_order:Dfn K mg "_law_order" "_law_order" Lc ["cell", "many"]
 d__law_colony:Dfn K mg "_law_colony" "_law_colony" KS ["cell", "salt", "places", "inner", "ties"]
 d__law_ground:Dfn K mg "_law_ground" "_law_ground" KR ["script"]
 d__law_more:Dfn K mg "_law_more" "_law_more" Mz ["ties", "many", "cells"]
 d__law_reached:Dfn K mg "_law_reached" "_law_reached" Jc ["nears", "inner"]
 d__law_is_colony:Dfn K mg "_law_is_colony" "_law_is_colony" Hu ["nears", "some", "inner"]
 d__law_are_colonies:Dfn K mg "_law_are_colonies" "_law_are_colonies" GC ["nears", "colonies"]
 d__law_turns:Dfn K mg "_law_turns" "_law_turns" Lb ["script"]
 d__law_spoilt:Dfn K mg "_law_spoilt" "_law_spoilt" KQ ["colonies", "cell", "many"]
 d__law_refused:Dfn K mg "_law_refused" "_law_refused" Jb ["web", "colonies"]
 d_law:Dfn K mg "law" "law" aK ["script"]
 c_Web:Own K mg "Web" W.Web d_Web_init.f
 n_Web_places:Jm K W.Web "places"
 n_Web_ties:Jm K W.Web "ties"
 n_Web_near_sets:Jm K W.Web "near_sets"
 xm_GuardError:mg "GuardError" = some (.ref W.GuardError)
 xm_BadPlaces:mg "BadPlaces" = some (.ref W.BadPlaces)
 xm_NoPlace:mg "NoPlace" = some (.ref W.NoPlace)
 xm_NoCall:mg "NoCall" = some (.ref W.NoCall)
 xm_NotWood:mg "NotWood" = some (.ref W.NotWood)
 x_BadColony:Xcl K mg "BadColony" W.BadColony
 nd:W.excs.Nodup
 caught_GuardError:∀c∈W.excs,Zo K c W.GuardError
 is_BadColony:∀C b,HA W C=some b->XIs K C/\CS K (.ref C) (.ref W.BadColony)=some b
 i_BadColony:(FC K W.BadColony).isSome=true/\Mg K (.ref W.BadColony)=some (.type "type")
 is_ValueError:∀C b,GZ W C=some b->XIs K C/\CS K (.ref C) (.type "ValueError")=some b
 isT_BadPlaces_NoCall_NoPlace_NotWood:∀C b,CD W C=some b->XIs K C/\Ep K (.ref C) (([W.BadPlaces,W.NoCall,W.NoPlace,W.NotWood]:List AW).map A0)=some b
 b_ValueError:mg "ValueError" = none
 b_all:mg "all" = none
 b_any:mg "any" = none
 b_enumerate:mg "enumerate" = none
 b_int:mg "int" = none
 b_isinstance:mg "isinstance" = none
 b_len:mg "len" = none
 b_list:mg "list" = none
 b_max:mg "max" = none
 b_min:mg "min" = none
 b_range:mg "range" = none
 b_set:mg "set" = none
 b_sorted:mg "sorted" = none
 b_tuple:mg "tuple" = none
 g_MOST_PLACES:∃tk,mg "MOST_PLACES" = some (.int 60 tk)
section
variable{P:Bq}{w:CQ}{K:AJ}{mg:Str->Option AI}{base:CZ}{W:Wd}
def Qz:CI ["places", "ties", "found", "one", "other", "tie"] ["places", "ties"] (BP Ja):=Hx
def Q4(T:Txt K mg W):EZ P w K mg base (CXG P w) 1 T.d_checked_ties.f T.d_checked_ties.fd ["places", "ties"] (spM K 2 (HR W)):=by
 refine Cr (k:=0) T.d_checked_ties.F Qz rfl λ_ _ _ _ _ _ l O g j m o=>?_
 exact(AU (B4 2 j jX)
  (AU (EM (Bb O).own rfl (Dx (AB (pv 1))) (Je rfl (Cm (CW 3 j) (Cm (CW 4 j) HN)))
  (AU (B4 5 j (FL (AS (RU rfl rfl T.b_min (AS (AB (pv 3)) (AS (AB (pv 4)) A5))) (AS (ao rfl rfl T.b_max (AS (AB (pv 3)) (AS (AB (pv 4)) A5))) A5))))
  (AU (Dc (Ct (IX g) (Dd g (AB (pv 5)) ge_int) (Dd g (AB (pv 5)) ge_int) (Ci _)) (Au NF) B9)
  (AU (Dc (Sk (Qp (Ct Xb (Dd g (AB (pv 5)) ge_int) ge_int (Ci _)) (QF (Ct iY (Dd g (AB (pv 5)) ge_int) (AB (pv 0)) (Ci _))))) (Au NF) B9)
  (AU (Dc (Xr g (AB (pv 5)) (AB (pv 2))) (Au NF) B9)
  (Au (WI (B8 (Oq (by decide:1<=64) _) g) (AB (pv 2)) (AB (pv 5)) KH rfl)))))))
  (Au (CL (IZ rfl T.b_tuple (FE rfl rfl T.b_sorted (AB (pv 2))))))))
def Qy:CI ["places", "ties", "rows", "one", "other"] ["places", "ties"] (BP JZ):=Hx
def Q3(T:Txt K mg W):EZ P w K mg base (CXG P w) 1 T.d_near_sets_of.f T.d_near_sets_of.fd ["places", "ties"] (spM K 2 (HQ W)):=by
 refine Cr (k:=0) T.d_near_sets_of.F Qy rfl λ_ _ _ _ _ _ l O j g m o=>?_
 exact(AU (PM (i:=2) (own:=["place"]) (N':=["place", "·1", "·2", "·3", "·4", "·5"]) rfl rfl g rfl (by first | exact QW rfl | exact Oj rfl) (FP (by kernel_rfl)) (F4 rfl T.b_range (AS (AB (pv 0)) A5)) (λ_ _ _ _ _ _=>(CW 0 (by decide +kernel:(["place", "·1", "·2", "·3", "·4", "·5"]:List Str).Nodup))) (λ_ _ _ _ _ _=>Ge) (λ_ _ _ _ _ _=>(DY (HM A5))))
  (AU (EM (Bb O).own rfl (Dx (AB (pv 1))) (Je rfl (Cm (CW 3 g) (Cm (CW 4 g) HN)))
  (AU (EE (FF (Dd j (AB (pv 2)) (AB (pv 3))) (AB (pv 4))))
  (Au (EE (FF (Dd j (AB (pv 2)) (AB (pv 4))) (AB (pv 3)))))))
  (Au (CL (IZ rfl T.b_tuple (DY (JG (own:=["row"]) (N':=["row", "·1", "·2", "·3", "·4", "·5"]) rfl (FP (by kernel_rfl)) (Dx (AB (pv 2))) (λ_ _ _ _ _ _=>(CW 0 (by decide +kernel:(["row", "·1", "·2", "·3", "·4", "·5"]:List Str).Nodup))) (λ_ _ _ _ _ _=>Ge) (λ_ _ _ _ _ _=>(IZ rfl T.b_tuple (FE rfl rfl T.b_sorted (AB (pv 0))))))))))))
def XN:CI ["self", "places", "ties"] ["self", "places", "ties"] (BP OT):=Hx
def Qj(T:Txt K mg W):EZ P w K mg base (CXG P w) 2 T.d_Web_init.f T.d_Web_init.fd ["self", "places", "ties"] (spM K 3 (Ji W)):=by
 refine Cr (k:=1) T.d_Web_init.F XN rfl λ_ _ _ _ _ _ g O j l o s=>?_
 exact(AU (Dc (NE (Xs iW iW ge_int (AB (pv 1)) (jW rfl T.g_MOST_PLACES.choose_spec))) (Au NF) B9)
  (AU (ZU T.c_Web.cl T.n_Web_places (AB (pv 0)) (AB (pv 1)) rfl)
  (AU (ZU T.c_Web.cl T.n_Web_ties (AB (pv 0)) (CG (Q4 T) (Bb O).pass (g.mono (by decide)) rfl T.d_checked_ties.m T.d_checked_ties.kp T.d_checked_ties.b (AS (AB (pv 1)) (AS (AB (pv 2)) A5))) rfl)
  (Au (ZU T.c_Web.cl T.n_Web_near_sets (AB (pv 0)) (CG (Q3 T) (Bb O).pass (g.mono (by decide)) rfl T.d_near_sets_of.m T.d_near_sets_of.kp T.d_near_sets_of.b (AS (AB (pv 1)) (AS (QH T.c_Web.cl T.n_Web_ties (AB (pv 0)) rfl) A5))) rfl)))))
def OR:CI ["web", "place"] ["web", "place"] (BP HD):=Hx
def OU(T:Txt K mg W):EZ P w K mg base (CXG P w) 1 T.d_refuse_no_place.f T.d_refuse_no_place.fd ["web", "place"] (spM K 2 (EY W)):=by
 refine Cr (k:=0) T.d_refuse_no_place.F OR rfl λ_ _ _ _ _ _ g O j l m o=>?_
 exact(Au (Dc (NE (Xs iW Xb ge_int (AB (pv 1)) (QH T.c_Web.cl T.n_Web_places (AB (pv 0)) rfl))) (Au NF) B9))
def lm:CI ["web", "place"] ["web", "place"] (BP Y9):=Hx
def V3(T:Txt K mg W):EZ P w K mg base (CXG P w) 2 T.d_near.f T.d_near.fd ["web", "place"] (spM K 2 (NI W)):=by
 refine Cr (k:=1) T.d_near.F lm rfl λ_ _ _ _ _ _ g O j l o s=>?_
 exact(AU (EE (CG (OU T) (Bb O).pass (g.mono (by decide)) rfl T.d_refuse_no_place.m T.d_refuse_no_place.kp T.d_refuse_no_place.b (AS (AB (pv 0)) (AS (AB (pv 1)) A5))))
  (Au (CL (Dd j (QH T.c_Web.cl T.n_Web_near_sets (AB (pv 0)) rfl) (AB (pv 1))))))
def Ts:CI ["web", "start", "steps", "layer", "further", "place", "beside"] ["web", "start"] (BP LZ):=Hx
def T3(T:Txt K mg W):EZ P w K mg base (CXG P w) 3 T.d_steps_from.f T.d_steps_from.fd ["web", "start"] (spM K 2 (F5 W)):=by
 refine Cr (k:=2) T.d_steps_from.F Ts rfl λ_ _ _ _ _ _ l O j g o s=>?_
 exact(AU (B4 2 g (jY (AB (pv 1)) ge_int))
  (AU (B4 3 g (DY (HM (AS (AB (pv 1)) A5))))
  (AU (Xt wN (Bb O).own (ND (AB (pv 3))) (AU (B4 4 g (DY (HM A5)))
  (AU (EM (Bb O).own rfl (Dx (AB (pv 3))) (CW 5 g)
  (Au (EM (Bb O).own rfl (Dx (CG (V3 T) (Bb O).pass (l.mono (by decide)) rfl T.d_near.m T.d_near.kp T.d_near.b (AS (AB (pv 0)) (AS (AB (pv 5)) A5)))) (CW 6 g)
  (Au (Dc (Jd j (AB (pv 6)) (AB (pv 2))) (AU (WI (B8 (Oq (by decide:1<=64) _) j) (AB (pv 2)) (AB (pv 6)) (BB DK (Dd j (AB (pv 2)) (AB (pv 5))) ge_int) rfl)
  (Au (EE (FF (AB (pv 4)) (AB (pv 6)))))) B9)))))
  (Au (B4 3 g (AB (pv 4)))))))
  (Au (CL (AB (pv 2)))))))
def XM:CI ["web", "parts", "seen", "place", "steps"] ["web"] (BP OS):=Hx
def Xa(T:Txt K mg W):EZ P w K mg base (CXG P w) 4 T.d_parts_of.f T.d_parts_of.fd ["web"] (spM K 1 (Lv W)):=by
 refine Cr (k:=3) T.d_parts_of.F XM rfl λ_ _ _ _ _ _ j O l g o s=>?_
 exact(AU (B4 1 g (DY (HM A5)))
  (AU (B4 2 g Xw)
  (AU (EM (Bb O).own rfl (F4 rfl T.b_range (AS (QH T.c_Web.cl T.n_Web_places (AB (pv 0)) rfl) A5)) (CW 3 g)
  (Au (Dc (Jd l (AB (pv 3)) (AB (pv 2))) (AU (B4 4 g (CG (T3 T) (Bb O).pass (j.mono (by decide)) rfl T.d_steps_from.m T.d_steps_from.kp T.d_steps_from.b (AS (AB (pv 0)) (AS (AB (pv 3)) A5))))
  (AU (EE (nk (AB (pv 2)) (AB (pv 4))))
  (Au (EE (FF (AB (pv 1)) (IZ rfl T.b_tuple (FE rfl rfl T.b_sorted (AB (pv 4))))))))) B9)))
  (Au (CL (AB (pv 1)))))))
def Tr:CI ["web", "some", "numbers", "number", "place", "ties"] ["web", "some"] (BP LY):=Hx
def T1(T:Txt K mg W):EZ P w K mg base (CXG P w) 4 T.d_web_within.f T.d_web_within.fd ["web", "some"] (spM K 2 (Lu W)):=by
 refine Cr (k:=3) T.d_web_within.F Tr rfl λ_ _ _ _ _ _ l O g j o s=>?_
 exact(AU (B4 2 j Xw)
  (AU (EM (Bb O).own rfl (Xv rfl T.b_enumerate (AB (pv 1))) (Je rfl (Cm (CW 3 j) (Cm (CW 4 j) HN)))
  (Au (WI (B8 (Oq (by decide:1<=64) _) g) (AB (pv 2)) (AB (pv 4)) (AB (pv 3)) rfl)))
  (AU (PM (i:=5) (own:=["one", "other"]) (N':=["one", "other", "·2", "·3", "numbers", "·5", "·6", "·7"]) rfl rfl j rfl (by first | exact QW rfl | exact Oj rfl) (FP (by kernel_rfl)) (Dx (QH T.c_Web.cl T.n_Web_ties (AB (pv 0)) rfl)) (λ_ _ _ _ _ _=>(Je rfl (Cm (CW 0 (by decide +kernel:(["one", "other", "·2", "·3", "numbers", "·5", "·6", "·7"]:List Str).Nodup)) (Cm (CW 1 (by decide +kernel:(["one", "other", "·2", "·3", "numbers", "·5", "·6", "·7"]:List Str).Nodup)) HN)))) (λ_ _ _ _ _ _=>(PN (Sk (Sj (Xr g (AB (pv 0)) (AB (pv 4))) (PL (Xr g (AB (pv 1)) (AB (pv 4)))))))) (λ_ _ _ _ _ _=>(FL (AS (Dd g (AB (pv 4)) (AB (pv 0))) (AS (Dd g (AB (pv 4)) (AB (pv 1))) A5)))))
  (Au (CL (aq T.c_Web.mk' (Qj T) (Bb O).pass (l.mono (by decide)) rfl T.c_Web.m T.d_Web_init.b (AS (nj rfl T.b_len (AB (pv 2))) (AS (AB (pv 5)) A5))))))))
def Tt:CI ["web", "some", "wanted", "number", "one", "beside", "other"] ["web", "some", "wanted"] (BP La):=Hx
def T4(T:Txt K mg W):EZ P w K mg base (CXG P w) 3 T.d_first_pair.f T.d_first_pair.fd ["web", "some", "wanted"] (spM K 3 (Lw W)):=by
 refine Cr (k:=2) T.d_first_pair.F Tt rfl λ_ _ _ _ _ _ l O j g o s=>?_
 exact(AU (EM (Bb O).own rfl (Xv rfl T.b_enumerate (AB (pv 1))) (Je rfl (Cm (CW 3 g) (Cm (CW 4 g) HN)))
  (AU (B4 5 g (CG (V3 T) (Bb O).pass (l.mono (by decide)) rfl T.d_near.m T.d_near.kp T.d_near.b (AS (AB (pv 0)) (AS (AB (pv 4)) A5))))
  (Au (EM (Bb O).own rfl (Dx (Np (AB (pv 1)) (IN (BB DK (AB (pv 3)) ge_int)) KG)) (CW 6 g)
  (Au (Dc (Ct (IX j) (au j (AB (pv 6)) (AB (pv 5))) (AB (pv 2)) (Ci _)) (Au (CL (FL (AS (AB (pv 4)) (AS (AB (pv 6)) A5))))) B9))))))
  (Au (CL QG)))
def Vv:CI ["web", "some"] ["web", "some"] (BP Mx):=Hx
def V5(T:Txt K mg W):EZ P w K mg base (CXG P w) 4 T.d_first_far.f T.d_first_far.fd ["web", "some"] (spM K 2 (NJ W)):=by
 refine Cr (k:=3) T.d_first_far.F Vv rfl λ_ _ _ _ _ _ g O j l o s=>?_
 exact(Au (CL (CG (T4 T) (Bb O).pass (g.mono (by decide)) rfl T.d_first_pair.m T.d_first_pair.kp T.d_first_pair.b (AS (AB (pv 0)) (AS (AB (pv 1)) (AS KH A5))))))
def Y8:CI ["web", "some"] ["web", "some"] (BP P2):=Hx
def ZF(T:Txt K mg W):EZ P w K mg base (CXG P w) 5 T.d_is_club.f T.d_is_club.fd ["web", "some"] (spM K 2 (QM W)):=by
 refine Cr (k:=4) T.d_is_club.F Y8 rfl λ_ _ _ _ _ _ g O j l o s=>?_
 exact(Au (CL (L2.sf (QI iX (Ed rfl T.b_len (AB (pv 1))) ge_int (Ci _)) (jV (QI ZG (CG (V5 T) (Bb O).pass (g.mono (by decide)) rfl T.d_first_far.m T.d_first_far.kp T.d_first_far.b (AS (AB (pv 0)) (AS (AB (pv 1)) A5))) QG (Ci _))))))
def Vu:CI ["web", "some", "inner"] ["web", "some", "inner"] (BP Mw):=Hx
def V4(T:Txt K mg W):EZ P w K mg base (CXG P w) 6 T.d_is_colony.f T.d_is_colony.fd ["web", "some", "inner"] (spM K 3 (KI W)):=by
 refine Cr (k:=5) T.d_is_colony.F Vu rfl λ_ _ _ _ _ _ g O j l o s=>?_
 exact(AU (Dc (NE (ND (AB (pv 2)))) (Au (CL (CG (ZF T) (Bb O).pass (g.mono (by decide)) rfl T.d_is_club.m T.d_is_club.kp T.d_is_club.b (AS (AB (pv 0)) (AS (AB (pv 1)) A5))))) B9)
  (AU (Dc (Sk (Qp (NE (ZT (jc rfl rfl T.b_all (DY (JG (own:=["place"]) (N':=["place", "·1", "some", "·3"]) rfl (FP (by kernel_rfl)) (Dx (AB (pv 2))) (λ_ _ _ _ _ _=>(CW 0 (by decide +kernel:(["place", "·1", "some", "·3"]:List Str).Nodup))) (λ_ _ _ _ _ _=>Ge) (λ_ _ _ _ _ _=>(au j (AB (pv 0)) (AB (pv 2))))))))) (QF (Ct (IX j) (Ed rfl T.b_len (AB (pv 2))) (Ed rfl T.b_len (AB (pv 1))) (Ci _))))) (Au (CL KH)) B9)
  (AU (Dc (Ct iX (Ed rfl T.b_len (CG (Xa T) (Bb O).pass (g.mono (by decide)) rfl T.d_parts_of.m T.d_parts_of.kp T.d_parts_of.b (AS (CG (T1 T) (Bb O).pass (g.mono (by decide)) rfl T.d_web_within.m T.d_web_within.kp T.d_web_within.b (AS (AB (pv 0)) (AS (AB (pv 2)) A5))) A5))) ge_int (Ci _)) (Au (CL KH)) B9)
  (Au (CL (jc rfl rfl T.b_all (DY (JG (own:=["place"]) (N':=["place", "web", "·2", "inner"]) rfl (FP (by kernel_rfl)) (Dx (AB (pv 1))) (λ_ _ _ _ _ _=>(CW 0 (by decide +kernel:(["place", "web", "·2", "inner"]:List Str).Nodup))) (λ_ _ _ _ _ _=>Ge) (λ_ _ _ _ _ _=>(L2.vS (au j (AB (pv 0)) (AB (pv 3))) (jV (se rfl rfl T.b_any (DY (JG (own:=["other"]) (N':=["other", "·1", "·2", "·3", "inner"]) rfl (FP (by kernel_rfl)) (Dx (gcl T.d_near (V3 T) g (AS (AB (pv 1)) (AS (AB (pv 0)) A5)))) (λ_ _ _ _ _ _=>(CW 0 (by decide +kernel:(["other", "·1", "·2", "·3", "inner"]:List Str).Nodup))) (λ_ _ _ _ _ _=>Ge) (λ_ _ _ _ _ _=>(au j (AB (pv 0)) (AB (pv 4))))))))))))))))))
def cJ:CI ["web", "colonies", "places", "some", "inner"] ["web", "colonies"] (BP R9):=Hx
def cb(T:Txt K mg W):EZ P w K mg base (CXG P w) 7 T.d_looked.f T.d_looked.fd ["web", "colonies"] (spM K 2 (LB W)):=by
 refine Cr (k:=6) T.d_looked.F cJ rfl λ_ _ _ _ _ _ j O l g o s=>?_
 exact(AU (B4 2 g (DY (HM A5)))
  (AU (EM (Bb O).own rfl (Dx (AB (pv 1))) (Je rfl (Cm (CW 3 g) (Cm (CW 4 g) HN)))
  (Au (EE (av (AB (pv 2)) (AB (pv 3))))))
  (AU (Dc (Ct (Uj l) (FE rfl rfl T.b_sorted (AB (pv 2))) (DY (Uv rfl rfl T.b_list rfl T.b_range (AS (QH T.c_Web.cl T.n_Web_places (AB (pv 0)) rfl) A5))) (Ci _)) (Au (Xu (Bb O) rfl T.x_BadColony.xc rfl T.x_BadColony.m (AS jU A5))) B9)
  (Au (EM (Bb O).own rfl (Dx (AB (pv 1))) (Je rfl (Cm (CW 3 g) (Cm (CW 4 g) HN)))
  (Au (Dc (NE (ND (CG (V4 T) (Bb O).pass (j.mono (by decide)) rfl T.d_is_colony.m T.d_is_colony.kp T.d_is_colony.b (AS (AB (pv 0)) (AS (AB (pv 3)) (AS (AB (pv 4)) A5)))))) (Au (Xu (Bb O) rfl T.x_BadColony.xc rfl T.x_BadColony.m (AS jU A5))) B9)))))))
def Vx:CI ["script", "k"] ["script", "k"] (BP M0):=Hx
def JF(T:Txt K mg W):EZ P w K mg base (CXG P w) 1 T.d__law_cell.f T.d__law_cell.fd ["script", "k"] (spM K 2 (Gs W)):=by
 refine Cr (k:=0) T.d__law_cell.F Vx rfl λ_ _ _ _ _ _ j O g l m o=>?_
 exact(AU (Dc (Ct Xb (AB (pv 1)) (Ed rfl T.b_len (AB (pv 0))) (Ci _)) (Au (CL (BB Ec (Dd g (AB (pv 0)) (AB (pv 1))) (BB iU ge_int ge_int)))) B9)
  (Au (CL ge_int)))
def Tx:CI ["cell", "salt", "mixed"] ["cell", "salt"] (BP Lg):=Hx
def OD(T:Txt K mg W):EZ P w K mg base (CXG P w) 1 T.d__law_mixed.f T.d__law_mixed.fd ["cell", "salt"] (spM K 2 (JI W)):=by
 refine Cr (k:=0) T.d__law_mixed.F Tx rfl λ_ _ _ _ _ _ j O l g m o=>?_
 exact(AU (B4 2 g (BB Ec (BB OV (BB DK (BB Ec (AB (pv 0)) ge_int) (AB (pv 1))) ge_int) ge_int))
  (AU (B4 2 g (BB Ec (BB OV (AB (pv 2)) (AB (pv 2))) ge_int))
  (Au (CL (BB Ec (BB OV (BB DK (AB (pv 2)) (BB OV ge_int (AB (pv 1)))) ge_int) ge_int)))))
def Tw:CI ["many", "ties", "nears", "one", "other"] ["many", "ties"] (BP Ld):=Hx
def T7(T:Txt K mg W):EZ P w K mg base (CXG P w) 1 T.d__law_nears.f T.d__law_nears.fd ["many", "ties"] (spM K 2 (JH W)):=by
 refine Cr (k:=0) T.d__law_nears.F Tw rfl λ_ _ _ _ _ _ l O j g m o=>?_
 exact(AU (PM (i:=2) (own:=["place"]) (N':=["place", "·1", "·2", "·3", "·4", "·5"]) rfl rfl g rfl (by first | exact QW rfl | exact Oj rfl) (FP (by kernel_rfl)) (F4 rfl T.b_range (AS (AB (pv 0)) A5)) (λ_ _ _ _ _ _=>(CW 0 (by decide +kernel:(["place", "·1", "·2", "·3", "·4", "·5"]:List Str).Nodup))) (λ_ _ _ _ _ _=>Ge) (λ_ _ _ _ _ _=>(DY (HM A5))))
  (AU (EM (Bb O).own rfl (Dx (AB (pv 1))) (Je rfl (Cm (CW 3 g) (Cm (CW 4 g) HN)))
  (AU (EE (FF (Dd j (AB (pv 2)) (AB (pv 3))) (AB (pv 4))))
  (Au (EE (FF (Dd j (AB (pv 2)) (AB (pv 4))) (AB (pv 3)))))))
  (Au (CL (DY (JG (own:=["some"]) (N':=["some", "·1", "·2", "·3", "·4", "·5"]) rfl (FP (by kernel_rfl)) (Dx (AB (pv 2))) (λ_ _ _ _ _ _=>(CW 0 (by decide +kernel:(["some", "·1", "·2", "·3", "·4", "·5"]:List Str).Nodup))) (λ_ _ _ _ _ _=>Ge) (λ_ _ _ _ _ _=>(FE rfl rfl T.b_sorted (AB (pv 0))))))))))
def Tv:CI ["cell", "many", "order", "k"] ["cell", "many"] (BP Lc):=Hx
def T6(T:Txt K mg W):EZ P w K mg base (CXG P w) 2 T.d__law_order.f T.d__law_order.fd ["cell", "many"] (spM K 2 (Ly W)):=by
 refine Cr (k:=1) T.d__law_order.F Tv rfl λ_ _ _ _ _ _ j O l g o s=>?_
 exact(AU (B4 2 g (DY (HM A5)))
  (AU (EM (Bb O).own rfl (F4 rfl T.b_range (AS (AB (pv 1)) A5)) (CW 3 g)
  (Au (EE (sZ (AB (pv 2)) (BB Ec (BB HJ (CG (OD T) (Bb O).pass (j.mono (by decide)) rfl T.d__law_mixed.m T.d__law_mixed.kp T.d__law_mixed.b (AS (AB (pv 0)) (AS (BB DK ge_int (AB (pv 3))) A5))) ge_int) (BB DK (AB (pv 3)) ge_int)) (AB (pv 3))))))
  (Au (CL (AB (pv 2))))))
def R8:CI ["cell", "salt", "places", "inner", "ties", "k", "j"] ["cell", "salt", "places", "inner", "ties"] (BP KS):=Hx
def SI(T:Txt K mg W):EZ P w K mg base (CXG P w) 2 T.d__law_colony.f T.d__law_colony.fd ["cell", "salt", "places", "inner", "ties"] (spM K 5 (IP W)):=by
 refine Cr (k:=1) T.d__law_colony.F R8 rfl λ_ _ _ _ _ _ l O g j o s=>?_
 exact(Au (EM (Bb O).own rfl (dN rfl T.b_range (AS ge_int (AS (Ed rfl T.b_len (AB (pv 2))) A5))) (CW 5 j)
  (Au (Dc (Ct (IX g) (AB (pv 3)) ge_int (Ci _)) (Au (EE (Uw (AB (pv 4)) (DY (JG (own:=["j"]) (N':=["j", "·1", "·2", "places", "·4", "·5", "k", "·7"]) rfl (FP (by kernel_rfl)) (F4 rfl T.b_range (AS (AB (pv 5)) A5)) (λ_ _ _ _ _ _=>(CW 0 (by decide +kernel:(["j", "·1", "·2", "places", "·4", "·5", "k", "·7"]:List Str).Nodup))) (λ_ _ _ _ _ _=>Ge) (λ_ _ _ _ _ _=>(FL (AS (Dd g (AB (pv 3)) (AB (pv 0))) (AS (Dd g (AB (pv 3)) (AB (pv 6))) A5))))))))) (AU (B4 6 j (BB Ec (BB HJ (CG (OD T) (Bb O).pass (l.mono (by decide)) rfl T.d__law_mixed.m T.d__law_mixed.kp T.d__law_mixed.b (AS (AB (pv 0)) (AS (BB DK (AB (pv 1)) (BB OV ge_int (AB (pv 5)))) A5))) ge_int) (RU rfl rfl T.b_min (AS (AB (pv 5)) (AS (AB (pv 3)) A5)))))
  (Au (EE (FF (AB (pv 4)) (FL (AS (Dd g (AB (pv 2)) (AB (pv 6))) (AS (Dd g (AB (pv 2)) (AB (pv 5))) A5)))))))))))
def R7:CI ["script", "many", "kinds", "k", "cell", "size", "order", "ties", "colonies", "at", "places", "inner"] ["script"] (BP KR):=Hx
def SH(T:Txt K mg W):EZ P w K mg base (CXG P w) 3 T.d__law_ground.f T.d__law_ground.fd ["script"] (spM K 1 (Kf W)):=by
 refine Cr (k:=2) T.d__law_ground.F R7 rfl λ_ _ _ _ _ _ j O l g o s=>?_
 exact(AU (B4 1 g ge_int)
  (AU (B4 2 g (DY (HM A5)))
  (AU (EM (Bb O).own rfl (F4 rfl T.b_range (AS (BB DK ge_int (BB Ec (CG (JF T) (Bb O).pass (j.mono (by decide)) rfl T.d__law_cell.m T.d__law_cell.kp T.d__law_cell.b (AS (AB (pv 0)) (AS ge_int A5))) ge_int)) A5)) (CW 3 g)
  (AU (B4 4 g (CG (JF T) (Bb O).pass (j.mono (by decide)) rfl T.d__law_cell.m T.d__law_cell.kp T.d__law_cell.b (AS (AB (pv 0)) (AS (BB DK ge_int (AB (pv 3))) A5))))
  (AU (B4 5 g (BB DK ge_int (BB Ec (AB (pv 4)) ge_int)))
  (AU (EE (FF (AB (pv 2)) (FL (AS (AB (pv 5)) (AS (BB Ec (BB HJ (AB (pv 4)) ge_int) (AB (pv 5))) A5)))))
  (Au (B4 1 g (BB DK (AB (pv 1)) (AB (pv 5)))))))))
  (AU (B4 6 g (CG (T6 T) (Bb O).pass (j.mono (by decide)) rfl T.d__law_order.m T.d__law_order.kp T.d__law_order.b (AS (CG (JF T) (Bb O).pass (j.mono (by decide)) rfl T.d__law_cell.m T.d__law_cell.kp T.d__law_cell.b (AS (AB (pv 0)) (AS ge_int A5))) (AS (AB (pv 1)) A5))))
  (AU (B4 7 g (DY (HM A5)))
  (AU (B4 8 g (DY (HM A5)))
  (AU (B4 9 g ge_int)
  (AU (EM (Bb O).own rfl (F4 rfl T.b_range (AS (Ed rfl T.b_len (AB (pv 2))) A5)) (CW 3 g)
  (AU (B4 10 g (NG (AB (pv 6)) (IN (AB (pv 9))) (IN (BB DK (AB (pv 9)) (Dd l (Dd l (AB (pv 2)) (AB (pv 3))) ge_int)))))
  (AU (B4 11 g (Dd l (Dd l (AB (pv 2)) (AB (pv 3))) ge_int))
  (AU (EE (CG (SI T) (Bb O).pass (j.mono (by decide)) rfl T.d__law_colony.m T.d__law_colony.kp T.d__law_colony.b (AS (CG (JF T) (Bb O).pass (j.mono (by decide)) rfl T.d__law_cell.m T.d__law_cell.kp T.d__law_cell.b (AS (AB (pv 0)) (AS (BB DK ge_int (AB (pv 3))) A5))) (AS (BB DK ge_int (AB (pv 3))) (AS (AB (pv 10)) (AS (AB (pv 11)) (AS (AB (pv 7)) A5)))))))
  (AU (EE (FF (AB (pv 8)) (FL (AS (IZ rfl T.b_tuple (FE rfl rfl T.b_sorted (AB (pv 10)))) (AS (IZ rfl T.b_tuple (FE rfl rfl T.b_sorted (NG (AB (pv 10)) KG (IN (AB (pv 11)))))) A5)))))
  (Au (B4 9 g (BB DK (AB (pv 9)) (Dd l (Dd l (AB (pv 2)) (AB (pv 3))) ge_int)))))))))
  (Au (CL (FL (AS (AB (pv 1)) (AS (FE rfl rfl T.b_sorted (DY (JG (own:=["tie"]) (N':=["tie", "·1", "·2", "·3", "·4", "·5", "·6", "·7", "·8", "·9", "·10", "·11", "·12"]) rfl (FP (by kernel_rfl)) (Dx (AB (pv 7))) (λ_ _ _ _ _ _=>(CW 0 (by decide +kernel:(["tie", "·1", "·2", "·3", "·4", "·5", "·6", "·7", "·8", "·9", "·10", "·11", "·12"]:List Str).Nodup))) (λ_ _ _ _ _ _=>Ge) (λ_ _ _ _ _ _=>(FL (AS (ng rfl rfl T.b_min (AB (pv 0))) (AS (nh rfl rfl T.b_max (AB (pv 0))) A5))))))) (AS (AB (pv 8)) A5))))))))))))))
def Vw:CI ["ties", "many", "cells", "found", "cell", "one", "other", "tie"] ["ties", "many", "cells"] (BP Mz):=Hx
def V6(T:Txt K mg W):EZ P w K mg base (CXG P w) 1 T.d__law_more.f T.d__law_more.fd ["ties", "many", "cells"] (spM K 3 (NK W)):=by
 refine Cr (k:=0) T.d__law_more.F Vw rfl λ_ _ _ _ _ _ l O j g m o=>?_
 exact(AU (B4 3 g (RV rfl T.b_list (AB (pv 0))))
  (AU (EM (Bb O).own rfl (Dx (AB (pv 2))) (CW 4 g)
  (AU (B4 5 g (BB Ec (AB (pv 4)) (AB (pv 1))))
  (AU (B4 6 g (BB Ec (BB HJ (AB (pv 4)) (AB (pv 1))) (AB (pv 1))))
  (AU (B4 7 g (FL (AS (RU rfl rfl T.b_min (AS (AB (pv 5)) (AS (AB (pv 6)) A5))) (AS (ao rfl rfl T.b_max (AS (AB (pv 5)) (AS (AB (pv 6)) A5))) A5))))
  (Au (Dc (Sk (Sj (Ct (Uj j) (AB (pv 5)) (AB (pv 6)) (Ci _)) (PL (Jd j (AB (pv 7)) (AB (pv 3)))))) (Au (EE (FF (AB (pv 3)) (AB (pv 7))))) B9))))))
  (Au (CL (FE rfl rfl T.b_sorted (AB (pv 3)))))))
def Q1:CI ["nears", "inner", "found", "at"] ["nears", "inner"] (BP Jc):=Hx
def Q5(T:Txt K mg W):EZ P w K mg base (CXG P w) 1 T.d__law_reached.f T.d__law_reached.fd ["nears", "inner"] (spM K 2 (Jh W)):=by
 refine Cr (k:=0) T.d__law_reached.F Q1 rfl λ_ _ _ _ _ _ l O g j m o=>?_
 exact(AU (B4 2 j (DY (HM (AS (Dd g (AB (pv 1)) ge_int) A5))))
  (AU (B4 3 j ge_int)
  (AU (Xt wN (Bb O).own (Ct Xb (AB (pv 3)) (Ed rfl T.b_len (AB (pv 2))) (Ci _)) (AU (EE (Uw (AB (pv 2)) (DY (JG (own:=["other"]) (N':=["other", "·1", "inner", "found", "·4"]) rfl (FP (by kernel_rfl)) (Dx (Dd g (AB (pv 0)) (Dd g (AB (pv 2)) (AB (pv 3))))) (λ_ _ _ _ _ _=>(CW 0 (by decide +kernel:(["other", "·1", "inner", "found", "·4"]:List Str).Nodup))) (λ_ _ _ _ _ _=>(PN (Sk (Sj (Xr g (AB (pv 0)) (AB (pv 2))) (PL (Jd g (AB (pv 0)) (AB (pv 3)))))))) (λ_ _ _ _ _ _=>(AB (pv 0)))))))
  (Au (B4 3 j (BB DK (AB (pv 3)) ge_int)))))
  (Au (CL (QI (IX g) (Ed rfl T.b_len (AB (pv 2))) (Ed rfl T.b_len (AB (pv 1))) (Ci _)))))))
def O2:CI ["nears", "some", "inner", "one", "other", "beyond", "place"] ["nears", "some", "inner"] (BP Hu):=Hx
def O5(T:Txt K mg W):EZ P w K mg base (CXG P w) 2 T.d__law_is_colony.f T.d__law_is_colony.fd ["nears", "some", "inner"] (spM K 3 (IA W)):=by
 refine Cr (k:=1) T.d__law_is_colony.F O2 rfl λ_ _ _ _ _ _ l O g j o s=>?_
 exact(AU (Dc (Sk (Qp (Ct (IX g) (Ed rfl T.b_len (AB (pv 1))) ge_int (Ci _)) (Qp (Ct Xb (Dd g (AB (pv 1)) ge_int) ge_int (Ci _)) (QF (Ct iY (Dd g (AB (pv 1)) (ZW ge_int)) (Ed rfl T.b_len (AB (pv 0))) (Ci _)))))) (Au (CL KH)) B9)
  (AU (Dc (Ct (IX g) (Ed rfl T.b_len (AB (pv 2))) ge_int (Ci _)) (AU (EM (Bb O).own rfl (Dx (AB (pv 1))) (CW 3 j)
  (Au (EM (Bb O).own rfl (Dx (AB (pv 1))) (CW 4 j)
  (Au (Dc (Sk (Sj (Ct (Uj g) (AB (pv 3)) (AB (pv 4)) (Ci _)) (PL (Jd g (AB (pv 4)) (Dd g (AB (pv 0)) (AB (pv 3))))))) (Au (CL KH)) B9)))))
  (Au (CL KH))) B9)
  (AU (PM (i:=5) (own:=["place"]) (N':=["place", "·1", "some", "·3", "·4", "·5", "·6", "·7"]) rfl rfl j rfl (by first | exact QW rfl | exact Oj rfl) (FP (by kernel_rfl)) (Dx (AB (pv 2))) (λ_ _ _ _ _ _=>(CW 0 (by decide +kernel:(["place", "·1", "some", "·3", "·4", "·5", "·6", "·7"]:List Str).Nodup))) (λ_ _ _ _ _ _=>(PN (Jd g (AB (pv 0)) (AB (pv 2))))) (λ_ _ _ _ _ _=>(AB (pv 0))))
  (AU (Dc (Sk (Qp (Ct iY (Ed rfl T.b_len (AB (pv 2))) (Ed rfl T.b_len (AB (pv 1))) (Ci _)) (Qp (Ct iX (Ed rfl T.b_len (AB (pv 5))) ge_int (Ci _)) (QF (NE (ND (CG (Q5 T) (Bb O).pass (l.mono (by decide)) rfl T.d__law_reached.m T.d__law_reached.kp T.d__law_reached.b (AS (AB (pv 0)) (AS (AB (pv 2)) A5))))))))) (Au (CL KH)) B9)
  (AU (EM (Bb O).own rfl (Dx (AB (pv 1))) (CW 6 j)
  (Au (Dc (Sk (Sj (Jd g (AB (pv 6)) (AB (pv 2))) (PL (Ct (IX g) (Ed rfl T.b_len (DY (JG (own:=["other"]) (N':=["other", "·1", "·2", "inner", "·4", "·5", "·6", "·7"]) rfl (FP (by kernel_rfl)) (Dx (Dd g (AB (pv 0)) (AB (pv 6)))) (λ_ _ _ _ _ _=>(CW 0 (by decide +kernel:(["other", "·1", "·2", "inner", "·4", "·5", "·6", "·7"]:List Str).Nodup))) (λ_ _ _ _ _ _=>(PN (Xr g (AB (pv 0)) (AB (pv 3))))) (λ_ _ _ _ _ _=>(AB (pv 0)))))) ge_int (Ci _))))) (Au (CL KH)) B9)))
  (Au (CL KH)))))))
def Mv:CI ["nears", "colonies", "met", "some", "inner"] ["nears", "colonies"] (BP GC):=Hx
def M7(T:Txt K mg W):EZ P w K mg base (CXG P w) 3 T.d__law_are_colonies.f T.d__law_are_colonies.fd ["nears", "colonies"] (spM K 2 (GK W)):=by
 refine Cr (k:=2) T.d__law_are_colonies.F Mv rfl λ_ _ _ _ _ _ j O l g o s=>?_
 exact(AU (B4 2 g (DY (HM A5)))
  (AU (EM (Bb O).own rfl (Dx (AB (pv 1))) (Je rfl (Cm (CW 3 g) (Cm (CW 4 g) HN)))
  (AU (Dc (NE (ND (CG (O5 T) (Bb O).pass (j.mono (by decide)) rfl T.d__law_is_colony.m T.d__law_is_colony.kp T.d__law_is_colony.b (AS (AB (pv 0)) (AS (AB (pv 3)) (AS (AB (pv 4)) A5)))))) (Au (CL KH)) B9)
  (Au (EE (av (AB (pv 2)) (AB (pv 3)))))))
  (Au (CL (QI (IX l) (FE rfl rfl T.b_sorted (AB (pv 2))) (DY (Uv rfl rfl T.b_list rfl T.b_range (AS (Ed rfl T.b_len (AB (pv 0))) A5))) (Ci _))))))
def Tu:CI ["script", "turns", "k"] ["script"] (BP Lb):=Hx
def T5(T:Txt K mg W):EZ P w K mg base (CXG P w) 1 T.d__law_turns.f T.d__law_turns.fd ["script"] (spM K 1 (Lx W)):=by
 refine Cr (k:=0) T.d__law_turns.F Tu rfl λ_ _ _ _ _ _ l O g j m o=>?_
 exact(AU (PM (i:=1) (own:=["k"]) (N':=["k", "·1", "·2", "·3"]) rfl rfl j rfl (by first | exact QW rfl | exact Oj rfl) (FP (by kernel_rfl)) (F4 rfl T.b_range (AS (RU rfl rfl T.b_min (AS (Ed rfl T.b_len (AB (pv 0))) (AS ge_int A5))) A5)) (λ_ _ _ _ _ _=>(CW 0 (by decide +kernel:(["k", "·1", "·2", "·3"]:List Str).Nodup))) (λ_ _ _ _ _ _=>Ge) (λ_ _ _ _ _ _=>ge_int))
  (AU (EM (Bb O).own rfl (F4 rfl T.b_range (AS (Ed rfl T.b_len (AB (pv 0))) A5)) (CW 2 j)
  (Au (WJ (BB DK (Dd g (AB (pv 1)) (BB Ec (AB (pv 2)) ge_int)) (Dd g (AB (pv 0)) (AB (pv 2)))) (jT (AB (pv 1)) (BB Ec (AB (pv 2)) ge_int)))))
  (Au (CL (AB (pv 1))))))
def R6:CI ["colonies", "cell", "many", "found", "at", "some", "inner", "place", "way", "far"] ["colonies", "cell", "many"] (BP KQ):=Hx
def SG(T:Txt K mg W):EZ P w K mg base (CXG P w) 1 T.d__law_spoilt.f T.d__law_spoilt.fd ["colonies", "cell", "many"] (spM K 3 (Ke W)):=by
 refine Cr (k:=0) T.d__law_spoilt.F R6 rfl λ_ _ _ _ _ _ l O j g m o=>?_
 exact(AU (B4 3 g (RV rfl T.b_list (AB (pv 0))))
  (AU (B4 4 g (BB Ec (AB (pv 1)) (Ed rfl T.b_len (AB (pv 3)))))
  (AU (WJ (Dd j (AB (pv 3)) (AB (pv 4))) (Je rfl (Cm (CW 5 g) (Cm (CW 6 g) HN))))
  (AU (B4 7 g (BB Ec (BB HJ (AB (pv 1)) ge_int) (AB (pv 2))))
  (AU (B4 8 g (BB Ec (BB HJ (AB (pv 1)) ge_int) ge_int))
  (AU (B4 9 g (BB OV (BB HJ (BB Ec (BB HJ (AB (pv 1)) ge_int) ge_int) ge_int) (BB iU ge_int ge_int)))
  (AU (Dc (Ct (IX j) (AB (pv 8)) ge_int (Ci _)) (Au (B4 5 g (Np (AB (pv 5)) (IN ge_int) KG))) B9)
  (AU (Dc (Ct (IX j) (AB (pv 8)) ge_int (Ci _)) (Au (B4 5 g (IZ rfl T.b_tuple (Qq rfl rfl T.b_sorted rfl T.b_set (BB DK (AB (pv 5)) (FL (AS (AB (pv 7)) A5))))))) B9)
  (AU (Dc (Ct (IX j) (AB (pv 8)) ge_int (Ci _)) (Au (B4 6 g (IZ rfl T.b_tuple (Qq rfl rfl T.b_sorted rfl T.b_set (BB DK (AB (pv 6)) (FL (AS (AB (pv 7)) A5))))))) B9)
  (AU (Dc (Ct (IX j) (AB (pv 8)) ge_int (Ci _)) (Au (B4 6 g (Np (AB (pv 6)) (IN ge_int) KG))) B9)
  (AU (Dc (Ct (IX j) (AB (pv 8)) ge_int (Ci _)) (Au (B4 6 g (AB (pv 5)))) B9)
  (AU (Dc (Ct (IX j) (AB (pv 8)) ge_int (Ci _)) (Au (B4 5 g (BB DK (Np (AB (pv 5)) KG (IN (ZW ge_int))) (FL (AS (BB DK (BB V7 (BB DK (BB DK (Dd j (AB (pv 5)) (ZW ge_int)) (AB (pv 2))) (BB Ec (BB HJ (AB (pv 1)) ge_int) ge_int)) ge_int) (AB (pv 9))) A5))))) B9)
  (AU (Dc (Ct (IX j) (AB (pv 8)) ge_int (Ci _)) (Au (B4 5 g (BB DK (FL (AS (BB V7 (BB V7 (BB Ec (BB HJ (AB (pv 1)) ge_int) ge_int) ge_int) (AB (pv 9))) A5)) (AB (pv 5))))) B9)
  (AU (Dc (Ct (IX j) (AB (pv 8)) ge_int (Ci _)) (Au (CL (BB DK (BB DK (NG (AB (pv 3)) KG (IN (AB (pv 4)))) (NG (AB (pv 3)) (IN (BB DK (AB (pv 4)) ge_int)) KG)) (BB re (DY (HM (AS (FL (AS (FL A5) (AS (FL A5) A5))) A5))) (BB Ec (BB HJ (AB (pv 1)) ge_int) ge_int))))) B9)
  (AU (WJ (FL (AS (AB (pv 5)) (AS (AB (pv 6)) A5))) (jT (AB (pv 3)) (AB (pv 4))))
  (Au (CL (AB (pv 3)))))))))))))))))))
def Q0:CI ["web", "colonies", "caught", "found", "e"] ["web", "colonies"] (BP Jb):=Hx
def MP(T:Txt K mg W):EZ P w K mg base (CXG P w) 8 T.d__law_refused.f T.d__law_refused.fd ["web", "colonies"] (spM K 2 (HS W)):=by
 refine Cr (k:=7) T.d__law_refused.F Q0 rfl λ_ _ _ _ _ _ j O s g A l=>?_
 exact(AU (B4 2 g QG)
  (AU (B4 3 g QG)
  (AU (sT (i:=4) O g rfl rfl rfl T.xm_GuardError T.caught_GuardError (λo l=>(Au (B4 3 g (CG (cb T) (Bb O).pass (j.mono (by decide)) rfl T.d_looked.m T.d_looked.kp T.d_looked.b (AS (AB (pv 0)) (AS (AB (pv 1)) A5)))))) (λo B=>(Au (B4 2 g (AB (pv 4))))))
  (AU (Dc (Ct ZG (AB (pv 2)) QG (Ci _)) (Au (CL (WK rfl T.b_int (QI ZG (AB (pv 3)) QG (Ci _))))) B9)
  (AU (Dc (Sk (Qp (NE (ZT (pH (c:=.ty "ValueError") (cv:=.type "ValueError") (λ_ r=>r) sK T.is_ValueError rfl T.b_isinstance (AB (pv 2)) (mq rfl T.b_ValueError PyProof.Rows.Boot.«ValueError» rfl)))) (QF (ZT (sY (Cs:=[W.BadPlaces,W.NoCall,W.NoPlace,W.NotWood]) T.isT_BadPlaces_NoCall_NoPlace_NotWood (Nat.le_of_ble_eq_true rfl) rfl T.b_isinstance (AB (pv 2)) (mw (c:=.ref W.BadPlaces) (Nh rfl T.xm_BadPlaces rfl) (mw (c:=.ref W.NoCall) (Nh rfl T.xm_NoCall rfl) (mw (c:=.ref W.NoPlace) (Nh rfl T.xm_NoPlace rfl) (mw (c:=.ref W.NotWood) (Nh rfl T.xm_NotWood rfl) u0))))))))) (Au (CL ge_int)) B9)
  (Au (CL (BB OV ge_int (WK rfl T.b_int (pH (c:=.ref W.BadColony) (cv:=.ref W.BadColony) (λ_ r=>r) (sM (nS T.i_BadColony.1 T.i_BadColony.2)) T.is_BadColony rfl T.b_isinstance (AB (pv 2)) (Nh rfl T.x_BadColony.m rfl)))))))))))
def qh:CI ["script", "many", "ties", "colonies", "nears", "web", "cell", "spoilt", "handed", "due"] ["script"] (BP aK):=Hx
def rc(T:Txt K mg W):EZ P w K mg base (CXG P w) 9 T.d_law.f T.d_law.fd ["script"] (spM K 1 (a8 W)):=by
 refine Cr (k:=8) T.d_law.F qh rfl λ_ _ _ _ _ _ j O l g o s=>?_
 exact(AU (WJ (CG (SH T) (Bb O).pass (j.mono (by decide)) rfl T.d__law_ground.m T.d__law_ground.kp T.d__law_ground.b (AS (AB (pv 0)) A5)) (Je rfl (Cm (CW 1 g) (Cm (CW 2 g) (Cm (CW 3 g) HN)))))
  (AU (B4 2 g (CG (V6 T) (Bb O).pass (j.mono (by decide)) rfl T.d__law_more.m T.d__law_more.kp T.d__law_more.b (AS (AB (pv 2)) (AS (AB (pv 1)) (AS (NG (AB (pv 0)) (IN ge_int) KG) A5)))))
  (AU (B4 4 g (CG (T7 T) (Bb O).pass (j.mono (by decide)) rfl T.d__law_nears.m T.d__law_nears.kp T.d__law_nears.b (AS (AB (pv 1)) (AS (AB (pv 2)) A5))))
  (AU (B4 5 g (aq T.c_Web.mk' (Qj T) (Bb O).pass (j.mono (by decide)) rfl T.c_Web.m T.d_Web_init.b (AS (AB (pv 1)) (AS (AB (pv 2)) A5))))
  (AU (Dc (Ct (Uj l) (CG (MP T) (Bb O).pass (j.mono (by decide)) rfl T.d__law_refused.m T.d__law_refused.kp T.d__law_refused.b (AS (AB (pv 5)) (AS (RV rfl T.b_list (AB (pv 3))) A5))) ge_int (Ci _)) (Au (CL KH)) B9)
  (AU (EM (Bb O).own rfl (Dx (BB DK (DY (HM (AS ge_int A5))) (CG (T5 T) (Bb O).pass (j.mono (by decide)) rfl T.d__law_turns.m T.d__law_turns.kp T.d__law_turns.b (AS (AB (pv 0)) A5)))) (CW 6 g)
  (AU (B4 7 g (CG (SG T) (Bb O).pass (j.mono (by decide)) rfl T.d__law_spoilt.m T.d__law_spoilt.kp T.d__law_spoilt.b (AS (AB (pv 3)) (AS (AB (pv 6)) (AS (AB (pv 1)) A5)))))
  (AU (B4 8 g (RV rfl T.b_list (AB (pv 7))))
  (AU (B4 9 g (BB V7 ge_int (WK rfl T.b_int (CG (M7 T) (Bb O).pass (j.mono (by decide)) rfl T.d__law_are_colonies.m T.d__law_are_colonies.kp T.d__law_are_colonies.b (AS (AB (pv 4)) (AS (AB (pv 7)) A5))))))
  (Au (Dc (Sk (Qp (Ct (Uj l) (CG (MP T) (Bb O).pass (j.mono (by decide)) rfl T.d__law_refused.m T.d__law_refused.kp T.d__law_refused.b (AS (AB (pv 5)) (AS (AB (pv 8)) A5))) (AB (pv 9)) (Ci _)) (QF (Ct (Uj l) (AB (pv 8)) (AB (pv 7)) (Ci _))))) (Au (CL KH)) B9))))))
  (Au (CL KH))))))))
end
open L2
open Srt (ltL)
def pairD(x:Int×Int):D:=.tup [.int x.1,.int x.2]
noncomputable def nrm(x:Int×Int):Int×Int:=(if x.2 < x.1 then x.2 else x.1,if x.2 > x.1 then x.2 else x.1)
def cL(x:Int×Int):ZLi:=[x.1,x.2]
def PH(x:Int×Int):List Key:=[.inl x.1,.inl x.2]
def Xp{x y:Int×Int}(h:PH x=PH y):x=y:=by
 unfold PH at h;simp at h;exact MK h.1 h.2
def OZ:∀ns:ZLi,Hj (ns.map D.int)=some ns
 | []=>rfl
 | n :: ns=>by
  rw[A4];unfold Hj;rw[OZ ns];rfl
def SC:∀g:List ZLi,(∀r∈g,r≠[])->OC (g.map Ky)=some g
 | [],_=>rfl
 | [] :: g,h=>zX rfl (h [] Ax)
 | (n :: l) :: g,h=>by
  rw[A4];unfold Ky OC;rw[OZ,show N8 (λr:ZLi=>D.tup (r.map D.int)) g=g.map Ky from rfl,SC g λr j=>h r (AY _ j)]
def Y3(g:List ZLi)(h:∀r∈g,r≠[]):Mu (g.map Ky)=some ((Mt g).map Ky):=by
 unfold Mu
 cases g with
 | nil=>simp[Hj,Mt]
 | cons r g=>
  have:Hj ((r :: g).map Ky)=none:=rfl;rw[this,SC _ h]
def OQ(ns:ZLi):Mu (ns.map D.int)=some ((CF ns).map D.int):=by
 unfold Mu;rw[OZ]
def M8(ps:List ZPi):List (List Key×D):=ps.map λx=>(PH (nrm x),.bl true)
def im(ps:List ZPi)(x:Int×Int):(Ei (M8 ps) (PH (nrm x))).isSome=decide (nrm x∈ps.map nrm):=by
 unfold Ei M8
 induction ps with
 | nil=>rfl
 | cons y ps g=>
  rw[A4,Bv]
  by_cases e:PH (nrm y)=PH (nrm x)
  ·rw[wX e]
   simp[Xp e]
  ·rw[wY e]
   have j:nrm x≠nrm y:=λz=>e (by rw[z])
   simp only[A4,A2,j,false_or];exact g
def ik(ps:List ZPi)(x:Int×Int)(h:nrm x∉ps.map nrm):Gz (M8 ps) (PH (nrm x)) (.bl true)=M8 (ps++[x]):=by
 unfold Gz;rw[qY]
 ·simp[M8]
 ·intro z
  obtain⟨y,g,e⟩:=EB.mp z;obtain⟨a,j,rfl⟩:=Aw.mp g;exact h (by rw[<-Xp (of_decide_eq_true e)];exact List.mem_map_of_mem j)
def vN{S:Sto}{n:Nat}{kvs:List (List Key×D)}{x:Int×Int}(h:S[n]?=some (.dT kvs))(neg:Bool):inA neg (pairD x) (.ref n) S=.ok (.bl (if neg then !(Ei kvs (PH x)).isSome else(Ei kvs (PH x)).isSome)) S:=by
 show HI (inD neg (pairD x) (.ref n) S) (L6 neg (pairD x) (.ref n) S)=_
 have e:inD neg (pairD x) (.ref n) S=.bad:=by
  unfold inD Ht;dsimp only;rw[h]
 have g:PV (.ref n) (pairD x) S=some (Ei kvs (PH x)):=by
  unfold PV pairD;dsimp only;rw[h];rfl
 rw[e];show L6 neg (pairD x) (.ref n) S=_;unfold L6;rw[g]
def jo{mo mi mv:ME}{e:Lo}{S:Sto}{d:Nat}{kvs:List (List Key×D)}{x:Int×Int}{v:D}(g:mv e S=.ok v S)(ho:mo e S=.ok (.ref d) S)(hi:mi e S=.ok (pairD x) S)(h:S[d]?=some (.dT kvs))(j:kvs.length < sizeLine) :
  Gm mo mi mv e S=.ok (.nx e) (S.set d (.dT (Gz kvs (PH x) v))):=by
 unfold Gm;rw[g];dsimp only[Res.lift];rw[ho];dsimp only[Res.lift];rw[hi];dsimp only[Res.lift]
 have:X4 (.ref d) (pairD x) v S=some (S.set d (.dT (Gz kvs (PH x) v))):=by
  unfold X4 pairD;dsimp only;rw[h];show(if kvs.length < sizeLine then some (S.set d (.dT (Gz kvs (PH x) v)))else none)=_;rw[qX j]
 rw[this]
def ix0(x:Int×Int)(S:Sto):ixA (pairD x) (.int 0) S=.ok (.int x.1) S:=rfl
def ix1(x:Int×Int)(S:Sto):ixA (pairD x) (.int 1) S=.ok (.int x.2) S:=rfl
def Fit(p:Int)(x:Int×Int):Prop:=(nrm x).1≠(nrm x).2/\0<=(nrm x).1/\(nrm x).2 < p
abbrev tG(W:Wd):MS:=BF (Bn 5 (Hy (AX (mQ OF (AX (AH 3) (AX (AH 4) BR))) (AX (mQ Ql (AX (AH 3) (AX (AH 4) BR))) BR))))
  (BF (sIf (mB (m2 (eqD false) (m2 ixA (AH 5) (mC (.int 0))) (m2 ixA (AH 5) (mC (.int 1))))) Vy sNx)
  (BF (sIf (mOr (mB (m2 ltD (m2 ixA (AH 5) (mC (.int 0))) (mC (.int 0)))) (mB (m2 geD (m2 ixA (AH 5) (mC (.int 1))) (AH 0)))) Vy sNx)
  (BF (sIf (mB (m2 (inA false) (AH 5) (AH 2))) Vy sNx)
  (Gm (AH 2) (AH 5) (mC (.bl true))))))
def RQ{t:MT}{a:MS}{e:Lo}{S:Sto}(h:t e S=.ok false S):sIf t a sNx e S=.ok (.nx e) S:=(Qo (a:=a) (b:=sNx) h).trans rfl
def gC{W:Wd}{p:Int}{t:D}{n:Nat}{S:Sto}{x:Int×Int}{z5:Option D}{ps:List ZPi}(g:S[n]?=some (.dT (M8 ps)))(l:ps.length<=100000)(m:Fit p x)(j:nrm x∉ps.map nrm) :
  tG W [sI p,some t,sR n,sI x.1,sI x.2,z5] S=oN [sI p,some t,sR n,sI x.1,sI x.2,some (pairD (nrm x))] (S.set n (.dT (M8 (ps++[x])))):=by
 have o:Bn 5 (Hy (AX (mQ OF (AX (AH 3) (AX (AH 4) BR))) (AX (mQ Ql (AX (AH 3) (AX (AH 4) BR))) BR))) [sI p,some t,sR n,sI x.1,sI x.2,z5] S =
   oN [sI p,some t,sR n,sI x.1,sI x.2,some (pairD (nrm x))] S:=
  KP (i:=5) (Yw (ds:=[.int (nrm x).1,.int (nrm x).2]) (CU (cO (ds:=[.int x.1,.int x.2]) (S1:=S) rfl rfl) (CU (cO (ds:=[.int x.1,.int x.2]) (S1:=S) rfl rfl) rfl)) (by simp))
 obtain⟨s,A,B⟩:=m;refine(Ch o).trans ((Ch (RQ (TQ (EI (EI rfl rfl (ix0 _ _)) (EI rfl rfl (ix1 _ _)) (sw (wY s)))))).trans ((Ch (RQ ((ZD (TQ (EI (EI rfl rfl (ix0 _ _)) rfl (i7 (wY (by omega)))))).trans (TQ (EI (EI rfl rfl (ix1 _ _)) rfl (sg (wY (by omega)))))))).trans ((Ch (RQ (TQ (EI rfl rfl ?_)))).trans ?_)))
 ·rw[vN g,im,wY j]
  rfl
 ·rw[jo (x:=nrm x) rfl rfl rfl g (by unfold M8;rw[AG];exact B8 l (by decide)),ik _ _ j]
def dH{m:ME}{e:Lo}{S S1:Sto}{d:D}{xs:List D}(h:m e S=.ok d S1)(g:IU d S1=some xs):Ek m e S=.ok (IU d) S1:=by
 unfold Ek;rw[h];dsimp only[Res.bind];rw[g]
def IC(p:Int)(ps:List ZPi):Prop:=(∀x∈ps,Fit p x)/\(ps.map nrm).Nodup
def IC.snoc{p:Int}{ps:List ZPi}{x:Int×Int}:IC p (ps++[x])↔IC p ps/\Fit p x/\nrm x∉ps.map nrm:=by
 unfold IC;rw[BD,Bu]
 constructor
 ·rintro⟨j,l,o,m⟩
  exact⟨⟨λy g=>j y (by simp[g]),l⟩,j x (by simp),λz=>m _ z _ (by simp) rfl⟩
 ·rintro⟨⟨j,l⟩,o,m⟩
  refine⟨λy g=>?_,l,by simp,λa s b hb e=>?_⟩
  ·rcases Aq.mp g with g | g
   ·exact j y g
   ·rw[AN.mp g];exact o
  ·simp at hb
   subst hb;subst e;exact m s
def IC.take{p:Int}{ps:List ZPi}(h:IC p ps)(i:Nat):IC p (ps.take i):=by
 refine⟨λx g=>h.1 x (Zu g),?_⟩;rw[pZ];exact h.2.sublist (Eg _ _)
def take_snoc{g:Type}{l:List g}{i:Nat}{x:g}(h:l[i]?=some x):l.take (i+1)=l.take i++[x]:=by
 rw[Ks,h];rfl
def WS(W:Wd){p:Int}{d:D}{S:Sto}{ps:List ZPi}(A:∀j,Keeps S j->IU d j=some (ps.map pairD))(H:ps.length<=100000)(C:IC p ps) :
  ∃l z4 z5,Ex (Ek (AH 1)) (E9 2 (Bo (tgN 3) (Bo (tgN 4) FN))) (tG W) [sI p,some d,sR S.length,none,none,none] (S++[.dT []])=oN [sI p,some d,sR S.length,l,z4,z5] (S++[.dT (M8 ps)]):=by
 rw[NH (dH (m:=AH 1) (d:=d) (S1:=S++[.dT []]) rfl (A _ (Keeps.app _ _)))]
 obtain⟨f,j,h,l,z4,z5,rfl,rfl⟩:=QJ (v:=IU d) (g:=E9 2 (Bo (tgN 3) (Bo (tgN 4) FN))) (b:=tG W) (xs:=ps.map pairD) (e:=[sI p,some d,sR S.length,none,none,none]) (S:=S++[.dT []]) (λi e j=>(∃l z4 z5,e=[sI p,some d,sR S.length,l,z4,z5])/\j=S++[.dT (M8 (ps.take i))]) (λf j=>∃l z4 z5,f=.nx [sI p,some d,sR S.length,l,z4,z5]/\j=S++[.dT (M8 ps)]) ⟨⟨none,none,none,rfl⟩,by simp[M8]⟩ (by rintro i e j ⟨_,rfl⟩;exact A _ (Keeps.app _ _))
  (by
   rintro i y e j o ⟨⟨l,z4,z5,rfl⟩,rfl⟩;rw[Ao]at o
   cases s:ps[i]? with
   | none=>rw[s]at o;cases o
   | some x=>
    rw[s]at o;cases o;have I:=(AC.mp s).1;have B:=C.take (i+1);rw[take_snoc s]at B;obtain⟨_,E,G⟩:=IC.snoc.mp B;refine⟨[sI p,some d,sR S.length,sI x.1,sI x.2,z5],_,rfl,_,_,gC (W:=W) (p:=p) (t:=d) (z5:=z5) (x:=x) (Dh S (.dT (M8 (ps.take i)))) (by rw[Be];omega) E G,⟨_,_,_,rfl⟩,?_⟩;rw[take_snoc s]
    simp)
  (by
   rintro e j ⟨⟨l,z4,z5,rfl⟩,rfl⟩;rw[AG,GU]
   exact⟨_,_,_,rfl,rfl⟩)
 exact⟨l,z4,z5,h⟩
def Ms(ps:List ZPi):List ZLi:=Mt (ps.map λx=>cL (nrm x))
def WT(W:Wd){p:Int}{d:D}{S:Sto}{ps:List ZPi}(g:∀S',Keeps S S'->IU d S'=some (ps.map pairD))(j:ps.length<=100000)(l:IC p ps) :
  ∃S',HR W [.int p,d] S=.ok (.tup ((Ms ps).map Ky)) S'/\Keeps S S':=by
 obtain⟨o,s,A,B⟩:=WS W g j l
 ·have C:Io (.ref S.length) (S++[.dT (M8 ps)])=some ((ps.map λx=>cL (nrm x)).map Ky):=by
   unfold Io;dsimp only;rw[Dh];dsimp only;unfold M8;rw[BV,BV];rfl
  have E:=JO (m:=AH 2) (e:=[sI p,some d,sR S.length,o,s,A]) (S:=S++[.dT (M8 ps)]) rfl C (Y3 _ (by intro r G;obtain⟨x,_,rfl⟩:=Aw.mp G;simp[cL]));refine⟨S++[.dT (M8 ps)]++[.lst ((Ms ps).map Ky)],L2.KU ?_,(Keeps.app S _).trans (Keeps.app _ _)⟩;refine FU (Ch (e:=[sI p,some d,none,none,none,none]) (e1:=[sI p,some d,sR S.length,none,none,none]) (S:=S) (S1:=S++[.dT []]) rfl) ?_;refine FU (Ch B) ?_;exact Li (Mr E (Es (Dh _ _)))
open L2
noncomputable def Bw(ts:List ZPi)(x:Nat):ZLi:=ts.flatMap λt=>(if t.1=(x:Int)then[t.2]else[])++(if t.2=(x:Int)then[t.1]else[])
def Qk(ts:List ZPi)(t:Int×Int)(x:Nat):Bw (ts++[t]) x=Bw ts x++((if t.1=(x:Int)then[t.2]else[])++(if t.2=(x:Int)then[t.1]else[])):=by
 unfold Bw;rw[bY];simp
def GD(p:Nat)(F:Nat->ZLi):Sto:=(Bs p).map λx=>Ob.lst ((F x).map D.int)
def EA(k p:Nat):List D:=(Bs p).map λx=>D.ref (k+x)
def stN(S:Sto)(p:Nat)(F:Nat->ZLi):Sto:=S++GD p F++[.lst (EA S.length p)]
def Hv(p:Nat)(F:Nat->ZLi):(GD p F).length=p:=by simp[GD]
def Vo(S:Sto)(p:Nat)(F:Nat->ZLi):(stN S p F).length=S.length+p+1:=by simp[stN,Hv];lia
def Go(S:Sto)(p:Nat)(F:Nat->ZLi):Keeps S (stN S p F):=(Keeps.app S _).trans (Keeps.app _ _)
def JX(S:Sto)(p:Nat)(F:Nat->ZLi):(stN S p F)[S.length+p]?=some (.lst (EA S.length p)):=by
 have:S.length+p=(S++GD p F).length:=by simp[Hv]
 unfold stN;rw[this];exact Dh _ _
def Jz(S:Sto){p a:Nat}(F:Nat->ZLi)(h:a < p):(stN S p F)[S.length+a]?=some (.lst ((F a).map D.int)):=by
 unfold stN;rw[A7,BG (by lia),Ab (by rw[Hv];lia),show S.length+a - S.length=a by lia];unfold GD;rw[Ao,CC h];rfl
def aF(S:Sto){p a:Nat}(F:Nat->ZLi)(ys:ZLi)(h:a < p):(stN S p F).set (S.length+a) (.lst (ys.map D.int))=stN S p (λx=>if x=a then ys else F x):=by
 apply Hg
 intro j
 by_cases e:S.length+a=j
 ·subst e
  rw[BL (by rw[Vo];lia),Jz _ _ h,qX rfl]
 ·rw[Az e]
  by_cases g:j < S.length
  ·rw[(Go S p F).2 j g,(Go S p _).2 j g]
  by_cases l:j - S.length < p
  ·have m:j=S.length+(j - S.length):=by lia
   rw[m,Jz S F l,Jz S _ l,qY (by lia)]
  by_cases o:j=S.length+p
  ·subst o
   rw[JX,JX]
  ·rw[CA (by rw[Vo];lia),CA (by rw[Vo];lia)]
def ae{S:Sto}{p a:Nat}(F:Nat->ZLi)(h:a < p):ixA (.ref (S.length+p)) (.int a) (stN S p F)=.ok (.ref (S.length+a)) (stN S p F):=by
 show HI (ixD _ _ _) _=_;have g:Ht (.ref (S.length+p)) (stN S p F)=some (EA S.length p):=Es (JX S p F)
 have j:atI (EA S.length p) (a:Int)=some (.ref (S.length+a)):=by
  unfold atI ixN;rw[show(EA S.length p).length=p by simp[EA],qX (by lia),qX (by lia)];simp only[AD,Ay];unfold EA;rw[Ao,CC h];rfl
 have:ixD (.ref (S.length+p)) (.int a) (stN S p F)=.ok (.ref (S.length+a)) (stN S p F):=by
  unfold ixD;rw[g];dsimp only;rw[j]
 rw[this];rfl
def gN(S:Sto):∀p:Nat,S++GD (p+1) (λ_=>[])=S++GD p (λ_=>[])++[.lst []]:=λp=>by
 unfold GD;rw[TV,BD,A7];rfl
def Ue{p:Nat}(E:p<=60){mp:ME}{e:Lo}{S:Sto}(C:mp e S=.ok (.int p) S) :
  Fe 1 (iR1 (AX mp BR)) (tgN 0) Hk (D4 (Dv BR)) e S=.ok (EA S.length p) (S++GD p λ_=>[]):=by
 have s:iR1 (AX mp BR) e S=.ok (JV (Gb 0 p)) S:=by
  have:=ZS (ml:=AX mp BR) (e:=e) (S:=S) (S1:=S) (j:=p) (CU C rfl) (by lia) (by lia);simpa using this
 obtain⟨r,S1,A,o,⟨z,_⟩,rfl,rfl⟩:=WQ (v:=JV (Gb 0 p)) (g:=tgN 0) (c:=Hk) (m:=D4 (Dv BR)) (xs:=Gb 0 p) (e:=none :: e) (S:=S)
  (λi o B l=>(∃z,o=z :: e)/\B=S++GD i (λ_=>[])/\l=EA S.length i)
  ⟨⟨none,rfl⟩,by simp[GD],rfl⟩ (λ_ _ _ _ _=>rfl)
  (by
   rintro i d o B l hd ⟨⟨z,rfl⟩,rfl,rfl⟩;obtain⟨s,rfl⟩:=XS hd;refine⟨by simp[EA];exact B8 (m:=60) (by lia) (by decide),some (.int (0+i)) :: e,_,rfl,true,_,rfl,.inl ⟨rfl,.ref (S++GD i λ_=>[]).length,_,rfl,⟨_,rfl⟩,(gN S i).symm,?_⟩⟩;unfold EA;rw[TV,BD,AK,Hv]
   rfl)
 rw[Uf]at A;exact(RY s).trans A
abbrev U6:MS:=BF (C2 (K9 (m2 ixA (AH 2) (AH 3)) (AH 4))) (C2 (K9 (m2 ixA (AH 2) (AH 4)) (AH 3)))
def In(p:Nat)(t:Int×Int):Prop:=0<=t.1/\t.1 < p/\0<=t.2/\t.2 < p/\t.1≠t.2
def Ud{p:Nat}{S:Sto}{F:Nat->ZLi}{t:Int×Int}{j d1:D}(l:In p t)(G:∀x,(F x).length < 200000) :
  U6 [some j,some d1,sR (S.length+p),sI t.1,sI t.2] (stN S p F)=.ok (.nx [some j,some d1,sR (S.length+p),sI t.1,sI t.2])
   (stN S p λx=>F x++((if t.1=(x:Int)then[t.2]else[])++(if t.2=(x:Int)then[t.1]else[]))):=by
 obtain⟨a,o⟩:∃a:Nat,t.1=a:=⟨t.1.toNat,by have:=l.1;lia⟩
 obtain⟨b,hb⟩:∃b:Nat,t.2=b:=⟨t.2.toNat,by have:=l.2.2.1;lia⟩
 obtain⟨_,s,_,L,H⟩:=l
 have I:a≠b:=λe=>H (by rw[o,hb,e])
 rw[o,hb]
 have A:∀x,((F x).map D.int).length < sizeLine:=λx=>by rw[AG];exact Ye (G x) (by decide)
 have B:=TM (mo:=m2 ixA (AH 2) (AH 3)) (ma:=AH 4) (e:=[some j,some d1,sR (S.length+p),sI a,sI b]) (S:=stN S p F) (S1:=stN S p F) (S2:=stN S p F) (n:=S.length+a) (y:=.int b) (EI rfl rfl (ae F (by lia))) (Jz S F (by lia)) rfl (Jz S F (by lia)) (A a);rw[show(F a).map D.int++[D.int b]=(F a++[(b:Int)]).map D.int by simp,aF S F _ (by lia)]at B
 have g:(stN S p λx=>if x=a then F a++[(b:Int)]else F x)[S.length+b]?=some (.lst ((F b).map D.int)):=by
  rw[Jz S _ (by lia),qY (CK I)]
 have C:=TM (mo:=m2 ixA (AH 2) (AH 4)) (ma:=AH 3) (e:=[some j,some d1,sR (S.length+p),sI a,sI b]) (S:=stN S p λx=>if x=a then F a++[(b:Int)]else F x) (S1:=stN S p λx=>if x=a then F a++[(b:Int)]else F x) (S2:=stN S p λx=>if x=a then F a++[(b:Int)]else F x) (n:=S.length+b) (y:=.int a) (EI rfl rfl (ae _ (by lia))) g rfl g (A b);rw[show(F b).map D.int++[D.int a]=(F b++[(a:Int)]).map D.int by simp,aF S _ _ (by lia)]at C;unfold U6;rw[Ch (Gf B),Gf C]
 congr 2
 funext x
 by_cases m:x=b
 ·subst m
  have:¬((a:Int)=(x:Int)):=by lia
  simp[this]
 ·by_cases E:x=a
  ·subst E
   have:¬((b:Int)=(x:Int)):=by lia
   simp[m,this]
  ·have J:¬((a:Int)=(x:Int)):=by lia
   have s:¬((b:Int)=(x:Int)):=by lia
   simp[m,E,J,s]
def OW(ts:List ZPi)(x:Nat):(Bw ts x).length<=2 * ts.length:=by
 unfold Bw
 induction ts with
 | nil=>simp
 | cons t ts g=>
  rw[QX,AK,A1]
  have:((if t.1=(x:Int)then[t.2]else[])++(if t.2=(x:Int)then[t.1]else[])).length<=2:=by split <;> split <;> simp
  lia
def HC(p:Nat)(ts:List ZPi):List D:=(Bs p).map λx=>.tup ((CF (Bw ts x)).map D.int)
def nI(W:Wd){p:Nat}(I:p<=60){ts:List ZPi}(J:∀t∈ts,In p t)(L:ts.length<=90000)(S:Sto) :
  ∃S',HQ W [.int p,.tup (ts.map pairD)] S=.ok (.tup (HC p ts)) S'/\Keeps S S':=by
 have E:=KP (i:=2) (SO (Ue I (mp:=AH 0) (e:=[sI p,some (.tup (ts.map pairD)),none,none,none]) (S:=S) rfl));have N:(S++GD p λ_=>[])++[.lst (EA S.length p)]=stN S p (Bw []):=rfl
 have O:(S++GD p λ_=>[]).length=S.length+p:=by simp[Hv]
 rw[N,O]at E
 obtain⟨f,S1,P,⟨j,l,rfl⟩,rfl⟩:=QJ (v:=JV (ts.map pairD)) (g:=E9 2 (Bo (tgN 3) (Bo (tgN 4) FN))) (b:=U6) (xs:=ts.map pairD) (e:=[sI p,some (.tup (ts.map pairD)),sR (S.length+p),none,none]) (S:=stN S p (Bw []))
  (λi e S'=>(∃j l,e=[sI p,some (.tup (ts.map pairD)),sR (S.length+p),j,l])/\S'=stN S p (Bw (ts.take i)))
  (λf S'=>(∃j l,f=.nx [sI p,some (.tup (ts.map pairD)),sR (S.length+p),j,l])/\S'=stN S p (Bw ts))
  ⟨⟨none,none,rfl⟩,rfl⟩ (λ_ _ _ _=>rfl)
  (by
   rintro i y e S' s ⟨⟨j,l,rfl⟩,rfl⟩;rw[Ao]at s
   cases A:ts[i]? with
   | none=>rw[A]at s;cases s
   | some t=>
    rw[A]at s;cases s;refine⟨[sI p,some (.tup (ts.map pairD)),sR (S.length+p),sI t.1,sI t.2],_,rfl,_,_,Ud (J t (Ac A)) (λx=>?_),⟨_,_,rfl⟩,?_⟩
    ·have:=OW (ts.take i) x
     rw[Be]at this;exact B8 (Ap this (eV 2 (Ap (kX _ _) L))) (by decide)
    ·rw[take_snoc A,show Bw (ts.take i++[t])=_ from funext λx=>Qk _ _ x])
  (by
   rintro e S' ⟨⟨j,l,rfl⟩,rfl⟩;rw[AG,GU]
   exact⟨⟨_,_,rfl⟩,rfl⟩)
 have Q:=(NH (g:=E9 2 (Bo (tgN 3) (Bo (tgN 4) FN))) (b:=U6) (Si (m:=AH 1) (e:=[sI p,some (.tup (ts.map pairD)),sR (S.length+p),none,none]) (S:=stN S p (Bw [])) (S1:=stN S p (Bw [])) (xs:=ts.map pairD) rfl)).trans P
 obtain⟨r,R,T,B,⟨z,_⟩,K,rfl⟩:=WQ (v:=IU (.ref (S.length+p))) (g:=tgN 0) (c:=Hk) (m:=GJ (DM (AH 0))) (xs:=EA S.length p) (e:=[none,sI p,some (.tup (ts.map pairD)),sR (S.length+p),j,l]) (S:=stN S p (Bw ts))
  (λi B S' o=>(∃z,B=[z,sI p,some (.tup (ts.map pairD)),sR (S.length+p),j,l])/\Keeps (stN S p (Bw ts)) S'/\o=(Bs i).map λx=>.tup ((CF (Bw ts x)).map D.int))
  ⟨⟨none,rfl⟩,.refl _,rfl⟩ (λi B S' o h=>FD (h.2.1.at (JX S p _)))
  (by
   rintro i d B S' o hd ⟨⟨z,rfl⟩,K,rfl⟩
   have G:i < p:=by
    have:=(AC.mp hd).1;simpa[EA]using this
   unfold EA at hd;rw[Ao,CC G]at hd;cases hd;have C:Io (.ref (S.length+i)) S'=some ((Bw ts i).map D.int):=Ls (K.at (Jz S _ G));have U:=JO (m:=AH 0) (e:=[sR (S.length+i),sI p,some (.tup (ts.map pairD)),sR (S.length+p),j,l]) (S:=S') (S1:=S') rfl C (OQ _);refine⟨by simp;exact B8 (m:=60) (by lia) (by decide),[sR (S.length+i),sI p,some (.tup (ts.map pairD)),sR (S.length+p),j,l],_,rfl,true,_,rfl,.inl ⟨rfl,_,_,Mr U (Es (Dh _ _)),⟨_,rfl⟩,K.trans (Keeps.app _ _),?_⟩⟩;rw[TV,BD]
   rfl)
 have H:=(RY (n:=1) (g:=tgN 0) (c:=Hk) (m:=GJ (DM (AH 0))) (IY (m:=AH 2) (e:=[sI p,some (.tup (ts.map pairD)),sR (S.length+p),j,l]) (S:=stN S p (Bw ts)) (S1:=stN S p (Bw ts)) rfl (JX S p _))).trans T;rw[show(EA S.length p).length=p by simp[EA]]at H;refine⟨R++[.lst (HC p ts)],L2.KU ?_,((Go S p _).trans K).trans (Keeps.app _ _)⟩;unfold NS;refine FU (Ch E) ?_;refine FU (Ch Q) ?_;exact Li (Mr (SO H) (Es (Dh _ _)))
open L2
open Srt (ltL)
def toP(r:ZLi):Int×Int:=(r.getD 0 0,r.getD 1 0)
def Fx(ps:List ZPi):List ZPi:=(Ms ps).map toP
def R0{ps:List ZPi}{r:ZLi}(h:r∈Ms ps):∃x∈ps,r=cL (nrm x):=by
 have:=(JY _).mem_iff.mp h;obtain⟨x,g,rfl⟩:=Aw.mp this;exact⟨x,g,rfl⟩
def bx(ps:List ZPi):(Fx ps).map cL=Ms ps:=by
 unfold Fx;rw[BV]
 conv=>rhs;rw[<-N7 (Ms ps)]
 refine Cy λr g=>?_
 obtain⟨x,_,rfl⟩:=R0 g;rfl
def Yx(ps:List ZPi):(Ms ps).map Ky=(Fx ps).map pairD:=by
 rw[<-bx,BV];rfl
def gB{ps:List ZPi}{t:Int×Int}(h:t∈Fx ps):∃x∈ps,t=nrm x:=by
 obtain⟨r,g,rfl⟩:=Aw.mp h;obtain⟨x,j,rfl⟩:=R0 g;exact⟨x,j,rfl⟩
def JN(ps:List ZPi):(Fx ps).Perm (ps.map nrm):=by
 unfold Fx Ms;have:=(JY (ps.map λx=>cL (nrm x))).map toP;refine this.trans ?_;rw[BV];exact Zx rfl
def rf(x:Int×Int):(nrm x).1<=(nrm x).2:=by
 unfold nrm;dsimp only
 split <;> split <;> lia
def Fit.in{p:Nat}{x:Int×Int}(h:Fit p x):In p (nrm x):=by
 obtain⟨g,j,l⟩:=h;have:=rf x;exact⟨j,by lia,by lia,l,g⟩
structure LD(W:Wd)(S:Sto)(q p:Nat)(ts:List ZPi):Prop where
 at_:∃fs:List (Str×D),S[q]?=some (.ins W.Web fs)/\fs.lookup ("places" : Str)=some (.int p)/\fs.lookup ("ties" : Str)=some (.tup (ts.map pairD))/\fs.lookup ("near_sets" : Str)=some (.tup (HC p ts))
def LD.keeps{W:Wd}{S g:Sto}{q p:Nat}{ts:List ZPi}(h:LD W S q p ts)(k:Keeps S g):LD W g q p ts:=by
 obtain⟨fs,j,l⟩:=h.at_;exact⟨fs,k.at j,l⟩
def LD.places{W:Wd}{S:Sto}{q p:Nat}{ts:List ZPi}(h:LD W S q p ts){m:ME}{e:Lo}{S0:Sto}(g:m e S0=.ok (.ref q) S):Lr W.Web "places" m e S0=.ok (.int p) S:=by
 obtain⟨fs,j,l,_⟩:=h.at_;exact WM g j l
def LD.sets{W:Wd}{S:Sto}{q p:Nat}{ts:List ZPi}(h:LD W S q p ts){m:ME}{e:Lo}{S0:Sto}(g:m e S0=.ok (.ref q) S):Lr W.Web "near_sets" m e S0=.ok (.tup (HC p ts)) S:=by
 obtain⟨fs,j,_,_,l⟩:=h.at_;exact WM g j l
def vD:¬(("places" : Str) = "ties"):=by decide +kernel
def vE:¬(("places" : Str) = "near_sets"):=by decide +kernel
def vC:¬(("ties" : Str) = "near_sets"):=by decide +kernel
def put2(a b:D):Q2 "ties" b [(("places" : Str),a)]=([("places",a),("ties",b)]:List (Str×D)):=by
 show(if ("places" : Str) = "ties" then _ else _)=_;rw[qY vD];rfl
def put3(a b c:D):Q2 "near_sets" c [(("places" : Str),a),("ties",b)]=([("places",a),("ties",b),("near_sets",c)]:List (Str×D)):=by
 show(if ("places" : Str) = "near_sets" then _ else _)=_;rw[qY vE]
 have:Q2 "near_sets" c [(("ties" : Str),b)]=([("ties",b),("near_sets",c)]:List (Str×D)):=by
  show(if ("ties" : Str) = "near_sets" then _ else _)=_;rw[qY vC];rfl
 rw[this]
def pF(a b c:D):([("places",a),("ties",b),("near_sets",c)]:List (Str×D)).lookup ("places" : Str)=some a:=by
 rw[Bd,show(("places" : Str)=="places")=true by decide +kernel]
def pE(a b c:D):([("places",a),("ties",b),("near_sets",c)]:List (Str×D)).lookup ("ties" : Str)=some b:=by
 rw[Bd,show(("ties" : Str)=="places")=false by decide +kernel];dsimp only;rw[Bd,show(("ties" : Str)=="ties")=true by decide +kernel]
def pD(a b c:D):([("places",a),("ties",b),("near_sets",c)]:List (Str×D)).lookup ("near_sets" : Str)=some c:=by
 rw[Bd,show(("near_sets" : Str)=="places")=false by decide +kernel];dsimp only;rw[Bd,show(("near_sets" : Str)=="ties")=false by decide +kernel];dsimp only;rw[Bd,show(("near_sets" : Str)=="near_sets")=true by decide +kernel]
def rq(a b:D):([("places",a),("ties",b)]:List (Str×D)).lookup ("ties" : Str)=some b:=by
 rw[Bd,show(("ties" : Str)=="places")=false by decide +kernel];dsimp only;rw[Bd,show(("ties" : Str)=="ties")=true by decide +kernel]
open L2
def ie{W:Wd}{S:Sto}{q p:Nat}{ts:List ZPi}(hw:LD W S q p ts){x:Int}(h:0<=x/\x < p):EY W [.ref q,.int x] S=.ok .non S:=
 L2.SB (n:=2) (mb:=FQ W) (RQ (WA (b:=true) (TQ (i6 rfl rfl (ZN (wX h.1)) (hw.places rfl) (i7 (wX h.2))))))
def nJ{W:Wd}{S:Sto}{q p:Nat}{ts:List ZPi}(hw:LD W S q p ts){x:Nat}(g:x < p):NI W [.ref q,.int x] S=.ok (.tup ((CF (Bw ts x)).map D.int)) S:=by
 refine L2.KU ?_;unfold WZ
 have c:Cd 2 (EY W) (AX (AH 0) (AX (AH 1) BR)) [sR q,sI x] S=.ok .non S:=by
  refine(JK (ds:=[.ref q,.int x]) (S1:=S) rfl rfl).trans ?_;exact ie hw ⟨by lia,by lia⟩
 refine FU (Ch (e:=[sR q,sI x]) (Gf c)) ?_;refine Li (EI (hw.sets rfl) rfl ?_);show HI (ixD _ _ _) _=_
 have j:atI (HC p ts) (x:Int)=some (.tup ((CF (Bw ts x)).map D.int)):=by
  unfold atI ixN;rw[show(HC p ts).length=p by simp[HC],qX (by lia),qX (by lia)];simp only[AD,Ay];unfold HC;rw[Ao,CC g];rfl
 have:ixD (.tup (HC p ts)) (.int x) S=.ok (.tup ((CF (Bw ts x)).map D.int)) S:=by
  show(match atI (HC p ts) (x:Int)with | some d=>Res.ok d S | none=>.bad)=_;rw[j]
 rw[this];rfl
def ny{s:Type}{f:s->D}{l:List s}{v:N1}{g:MG}{b:MS}{e:Lo}{S:Sto}(I:List s->Lo->Sto->Prop)(B:I [] e S)(C:∀t e S,I t e S->v S=some (l.map f))
  (step:∀t x e S,x∈l->t.length < l.length->I t e S->∃e1 S1,g (f x) e S=.ok e1 S1/\∃e2 S2,b e1 S1=.ok (.nx e2) S2/\I (t++[x]) e2 S2) :
  ∃j S',HP v g b (DR v S) 0 e S=.ok (.nx j) S'/\I l j S':=by
 obtain⟨A,S',E,j,rfl,G⟩:=QJ (v:=v) (g:=g) (b:=b) (xs:=l.map f) (e:=e) (S:=S) (λi e S=>I (l.take i) e S) (λA S'=>∃j,A=.nx j/\I l j S') B (λi e S h=>C _ e S h)
  (by
   intro i d e S hd o;rw[Ao]at hd
   cases m:l[i]? with
   | none=>rw[m]at hd;cases hd
   | some x=>
    rw[m]at hd;cases hd;have N:=(AC.mp m).1;obtain⟨e1,S1,H,e2,S2,J,L⟩:=step (l.take i) x e S (Ac m) (by rw[Be];omega) o;refine⟨e1,S1,H,.nx e2,S2,J,?_⟩;show I (l.take (i+1)) e2 S2;rw[take_snoc m]
    exact L)
  (by
   intro e S o;rw[AG,GU]at o
   exact⟨e,rfl,o⟩)
 exact⟨j,S',E,G⟩
abbrev Met:=List ZPi
def mD(L:Met):List (Key×D):=L.map λa=>(C5 a.1,D.int a.2)
noncomputable def A9(L:Met):ZLi:=L.map (·.1)
noncomputable def stp(L:Met)(z:Int):Int:=((L.find? λa=>decide (a.1=z)).map (·.2)).getD 0
def ER(L N:Met):A9 (L++N)=A9 L++A9 N:=BD
def C0{L:Met}{z:Int}:z∈A9 L↔∃d,(z,d)∈L:=by
 unfold A9
 constructor
 ·intro h
  obtain⟨a,g,rfl⟩:=Aw.mp h;exact⟨a.2,g⟩
 ·rintro⟨d,h⟩
  exact Aw.mpr ⟨_,h,rfl⟩
def iz(L:Met)(z:Int):Ei (mD L) (C5 z)=(L.find? λa=>decide (a.1=z)).map λa=>D.int a.2:=by
 unfold Ei mD
 induction L with
 | nil=>rfl
 | cons a L g=>
  rw[A4,Bv,Bv]
  by_cases e:a.1=z
  ·have:decide ((C5 a.1:Key)=C5 z)=true:=wX (by rw[e])
   rw[this,wX e];rfl
  ·have:decide ((C5 a.1:Key)=C5 z)=false:=wY λq=>e (Ws q)
   rw[this,wY e];exact g
def Xx{L:Met}(j:(A9 L).Nodup){z d:Int}(h:(z,d)∈L):(L.find? λa=>decide (a.1=z))=some (z,d):=by
 induction L with
 | nil=>cases h
 | cons a L l=>
  rw[Bv];obtain⟨m,o⟩:=Cq.mp (show(a.1 :: A9 L).Nodup from j)
  rcases A2.mp h with e | g
  ·subst e
   rw[wX rfl]
  ·have:¬a.1=z:=λe=>m (by rw[e];exact C0.mpr ⟨d,g⟩)
   rw[wY this];exact l o g
def gK{L:Met}(g:(A9 L).Nodup){z d:Int}(h:(z,d)∈L):stp L z=d:=by
 unfold stp;rw[Xx g h];rfl
def lW{L:Met}(g:(A9 L).Nodup){z:Int}(h:z∈A9 L):(z,stp L z)∈L:=by
 obtain⟨d,hd⟩:=C0.mp h;rw[gK g hd];exact hd
def rn(L:Met)(z:Int):(Ei (mD L) (C5 z)).isSome=decide (z∈A9 L):=by
 rw[iz]
 induction L with
 | nil=>rfl
 | cons a L g=>
  rw[Bv]
  by_cases e:a.1=z
  ·rw[wX e]
   exact(wX (show z∈a.1 :: A9 L by rw[e];exact Ax)).symm
  ·rw[wY e]
   refine g.trans (decide_eq_decide.mpr ?_);show z∈A9 L↔z∈a.1 :: A9 L;rw[A2];exact⟨.inr,λh=>h.resolve_left λq=>e q.symm⟩
theorem iy{L:Met}{z:Int}(h:z∉A9 L)(v:Int):Gz (mD L) (C5 z) (.int v)=mD (L++[(z,v)]):=by
 unfold Gz;rw[qY]
 ·unfold mD
  rw[BD];rfl
 ·intro q
  obtain⟨y,g,e⟩:=EB.mp q;obtain⟨a,j,rfl⟩:=Aw.mp g;have e:=Ws (of_decide_eq_true e);exact h (C0.mpr ⟨a.2,by rw[<-e];exact j⟩)
theorem jL{S:Sto}{n:Nat}{L:Met}(h:S[n]?=some (.dK (mD L)))(neg:Bool)(z:Int):inA neg (.int z) (.ref n) S=.ok (.bl (if neg then !decide (z∈A9 L)else decide (z∈A9 L))) S:=by
 show HI (inD neg (.int z) (.ref n) S) (L6 neg (.int z) (.ref n) S)=_
 have e:inD neg (.int z) (.ref n) S=.bad:=by
  unfold inD Ht;dsimp only;rw[h]
 have g:PV (.ref n) (.int z) S=some (Ei (mD L) (C5 z)):=by
  unfold PV;dsimp only;rw[h];rfl
 rw[e];show L6 neg (.int z) (.ref n) S=_;unfold L6;rw[g];dsimp only;rw[rn]
theorem nY{S:Sto}{n:Nat}{L:Met}(h:S[n]?=some (.dK (mD L)))(g:(A9 L).Nodup){z:Int}(hz:z∈A9 L):ixA (.ref n) (.int z) S=.ok (.int (stp L z)) S:=by
 show HI (ixD (.ref n) (.int z) S) (OH (.ref n) (.int z) S)=_
 have e:ixD (.ref n) (.int z) S=.bad:=by
  unfold ixD Ht;dsimp only;rw[h]
 have j:PV (.ref n) (.int z) S=some (some (.int (stp L z))):=by
  unfold PV;dsimp only;rw[h];show some (Ei (mD L) (C5 z))=_;rw[iz,Xx g (lW g hz)];rfl
 rw[e];show OH (.ref n) (.int z) S=_;unfold OH;rw[j]
theorem mG{mo mi mv:ME}{e:Lo}{S:Sto}{d:Nat}{L:Met}{z v:Int}(g:mv e S=.ok (.int v) S)(ho:mo e S=.ok (.ref d) S)(hi:mi e S=.ok (.int z) S)(h:S[d]?=some (.dK (mD L)))(hz:z∉A9 L)(j:L.length<=100000) :
  Gm mo mi mv e S=.ok (.nx e) (S.set d (.dK (mD (L++[(z,v)])))):=by
 unfold Gm;rw[g];dsimp only[Res.lift];rw[ho];dsimp only[Res.lift];rw[hi];dsimp only[Res.lift]
 have:X4 (.ref d) (.int z) (.int v) S=some (S.set d (.dK (mD (L++[(z,v)])))):=by
  unfold X4;dsimp only;rw[h];show(if (mD L).length < sizeLine then some (S.set d (.dK (Gz (mD L) (C5 z) (.int v))))else none)=_;rw[qX (by unfold mD;rw[AG];exact B8 j (by decide)),iy hz]
 rw[this]
theorem n8{mk mv:ME}{e:Lo}{S:Sto}{z v:Int}(g:mk e (S++[.dK []])=.ok (.int z) (S++[.dK []]))(j:mv e (S++[.dK []])=.ok (.int v) (S++[.dK []])):SU mk mv e S=.ok (.ref S.length) (S++[.dK (mD [(z,v)])]):=by
 unfold SU;rw[g];dsimp only[Res.bind];rw[j];dsimp only[Res.bind];rw[Dh];show Res.ok (D.ref S.length) ((S++[Ob.dK []]).set S.length (.dK (Gz [] (C5 z) (.int v))))=_;have l:Gz ([]:List (Key×D)) (C5 z) (.int v)=mD [(z,v)]:=rfl;rw[l];simp
theorem Wy{t:MT}{b:MS}(I:Nat->Lo->Sto->Prop)(R:Lo->Sto->Prop)
  (step:∀k e S,I k e S->(∃S1,t e S=.ok false S1/\R e S1)∨∃S1 e2 S2 g,t e S=.ok true S1/\b e S1=.ok (.nx e2) S2/\g < k/\I g e2 S2) :
  ∀n k e S,I k e S->k < n->∃j l,Gk t b n e S=.ok (.nx j) l/\R j l
 | 0,_,_,_,_,h=>zX h (Dr _)
 | n+1,k,e,S,o,s=>by
  rcases step k e S o with⟨S1,m,hR⟩ | ⟨S1,e2,S2,g,m,A,B,C⟩
  ·refine⟨e,S1,?_,hR⟩
   unfold Gk;rw[m];rfl
  ·obtain⟨j,l,E,G⟩:=Wy I R step n g e2 S2 C (Af B (Nat.le_of_lt_succ s))
   refine⟨j,l,?_,G⟩;unfold Gk;rw[m];dsimp only[Res.lift];rw[qX rfl,A];exact E
def kA(d:Int)(L:Met)(y:Int):Met:=if y∈A9 L then L else L++[(y,d+1)]
def Jl(d:Int)(ys:ZLi)(L:Met):Met:=ys.foldl (kA d) L
theorem Qs(d:Int)(ys:ZLi)(y:Int)(L:Met):Jl d (ys++[y]) L=kA d (Jl d ys L) y:=by
 unfold Jl;rw[fC];rfl
theorem KJ(d:Int):∀(ys:ZLi) (L:Met),∃N,Jl d ys L=L++N/\(∀a∈N,a.2=d+1/\a.1∈ys/\a.1∉A9 L)/\(∀y∈ys,y∈A9 (L++N))/\(A9 N).Nodup
 | [],L=>⟨[],(BI L).symm,λ_ h=>zX h BY,λ_ h=>zX h BY,E0⟩
 | y :: ys,L=>by
  have e:Jl d (y :: ys) L=Jl d ys (kA d L y):=rfl
  by_cases c:y∈A9 L
  ·have m:kA d L y=L:=qX c
   obtain⟨N,o,j,s,A⟩:=KJ d ys L;refine⟨N,by rw[e,m,o],λa g=>⟨(j a g).1,AY _ (j a g).2.1,(j a g).2.2⟩,λz l=>?_,A⟩
   rcases A2.mp l with rfl | l
   ·rw[ER];exact As _ c
   ·exact s z l
  ·have m:kA d L y=L++[(y,d+1)]:=qY c
   obtain⟨N,o,j,s,A⟩:=KJ d ys (L++[(y,d+1)]);refine⟨(y,d+1) :: N,by rw[e,m,o,A7];rfl,λa g=>?_,λz l=>?_,?_⟩
   ·rcases A2.mp g with rfl | g
    ·exact⟨rfl,Ax,c⟩
    ·refine⟨(j a g).1,AY _ (j a g).2.1,λz=>(j a g).2.2 ?_⟩
     rw[ER];exact As _ z
   ·have B:L++(y,d+1) :: N=L++[(y,d+1)]++N:=by simp
    rw[B]
    rcases A2.mp l with rfl | l
    ·rw[ER,ER]
     exact As _ (Av _ (by simp[A9]))
    ·exact s z l
   ·refine Cq.mpr ⟨λz=>?_,A⟩
    obtain⟨a,g,C⟩:=Aw.mp z;refine(j a g).2.2 ?_;rw[ER];exact Av _ (by rw[C];simp[A9])
section
variable(nb:Int->ZLi)(s:Int)
def P8(L:Met)(i:Nat):Met:=match L[i]? with
 | some a=>Jl a.2 (nb a.1) L
 | none=>L
def Rn:Nat->Met
 | 0=>[(s,0)]
 | i+1=>P8 nb (Rn i) i
end
section
variable{nb:Int->ZLi}{s:Int}{p:Nat}
theorem P7{L:Met}{i:Nat}{a:Int×Int}(h:L[i]?=some a):P8 nb L i=Jl a.2 (nb a.1) L:=by unfold P8;rw[h]
theorem iC(L:Met)(i:Nat):∃N,P8 nb L i=L++N:=by
 unfold P8;split
 ·obtain⟨N,h,_⟩:=KJ _ (nb _) L
  exact⟨N,h⟩
 ·exact⟨[],(BI L).symm⟩
theorem We(i:Nat):∀k:Nat,∃N,Rn nb s (i+k)=Rn nb s i++N
 | 0=>⟨[],(BI _).symm⟩
 | k+1=>by
  obtain⟨N,h⟩:=We i k;obtain⟨g,j⟩:=iC (nb:=nb) (Rn nb s (i+k)) (i+k);refine⟨N++g,?_⟩;show P8 nb (Rn nb s (i+k)) (i+k)=_;rw[j,h,A7]
theorem tK{i j k:Nat}(h:i<=k){a:Int×Int}(g:(Rn nb s i)[j]?=some a):(Rn nb s k)[j]?=some a:=by
 obtain⟨N,e⟩:=We (nb:=nb) (s:=s) i (k - i);rw[show i+(k - i)=k by lia]at e;rw[e,Ab (AC.mp g).1];exact g
theorem Wc{i:Nat}(h:(Rn nb s i).length<=i):∀k,Rn nb s (i+k)=Rn nb s i
 | 0=>rfl
 | k+1=>by
  show P8 nb (Rn nb s (i+k)) (i+k)=_;rw[Wc h k];unfold P8;rw[CA (by lia)]
theorem tL{i j:Nat}(hi:(Rn nb s i).length<=i)(g:(Rn nb s j).length<=j):Rn nb s i=Rn nb s j:=by
 rcases Nat.le_total i j with h | h
 ·have:=Wc hi (j - i)
  rw[show i+(j - i)=j by lia]at this;exact this.symm
 ·have:=Wc g (i - j)
  rw[show j+(i - j)=i by lia]at this;exact this
structure Bf(nb:Int->ZLi)(p:Nat)(s:Int)(i:Nat)(L:Met):Prop where
 nd:(A9 L).Nodup
 rng:∀a∈L,0<=a.1/\a.1 < p
 nn:∀a∈L,0<=a.2
 up:(L.map (·.2)).Pairwise (·<=·)
 src:(s,0)∈L
 zero:∀a∈L,a.2=0->a.1=s
 cl:∀j,j < i->∀a,L[j]?=some a->∀y∈nb a.1,∃d,(y,d)∈L/\d<=a.2+1
 par:∀a∈L,0 < a.2->∃b∈L,b.2+1=a.2/\a.1∈nb b.1
 top:∀a,L[i]?=some a->∀b∈L,b.2<=a.2+1
 low:∀(j:Nat) a,L[j]?=some a->a.2<=j
theorem Bf.step(O:∀x:Int,0<=x->x < p->∀y∈nb x,0<=y/\y < p){i:Nat}{L:Met}(h:Bf nb p s i L):Bf nb p s (i+1) (P8 nb L i):=by
 cases l:L[i]? with
 | none=>
  have e:P8 nb L i=L:=by unfold P8;rw[l]
  rw[e];have hl:=DN.mp l;refine⟨h.nd,h.rng,h.nn,h.up,h.src,h.zero,λj P a g=>h.cl j ?_ a g,h.par,λa g=>?_,h.low⟩
  ·have:=(AC.mp g).1;lia
  ·have:=(AC.mp g).1;omega
 | some x=>
  rw[P7 l];have C:=Ac l;obtain⟨N,Q,m,S,T⟩:=KJ x.2 (nb x.1) L;rw[Q];have o:=h.rng x C;refine⟨?_,λa g=>?_,λa g=>?_,?_,As _ h.src,λa g E=>?_,λj P a g y J=>?_,λa g E=>?_,λa g b hb=>?_,λj a g=>?_⟩
  ·rw[ER]
   refine Bu.mpr ⟨h.nd,T,λa g b hb e=>?_⟩;obtain⟨c,G,rfl⟩:=Aw.mp hb;exact(m c G).2.2 (e▸g)
  ·rcases Aq.mp g with g | g
   ·exact h.rng a g
   ·exact O x.1 o.1 o.2 a.1 (m a g).2.1
  ·rcases Aq.mp g with g | g
   ·exact h.nn a g
   ·have:=(m a g).1;have:=h.nn x C;lia
  ·rw[BD]
   refine Bg.mpr ⟨h.up,?_,λa g b hb=>?_⟩
   ·refine B2.mpr (uH (R:=λ_ _=>True) (λ{a b} g hb _=>?_) (List.pairwise_of_forall λ_ _=>DT))
    have:=(m a g).1;have:=(m b hb).1;lia
   ·obtain⟨c,G,rfl⟩:=Aw.mp g
    obtain⟨d,hd,rfl⟩:=Aw.mp hb;have:=h.top x l c G;have:=(m d hd).1;lia
  ·rcases Aq.mp g with g | g
   ·exact h.zero a g E
   ·have:=(m a g).1;have:=h.nn x C;lia
  ·by_cases U:j=i
   ·subst U
    rw[Ab (AC.mp l).1,l]at g;cases g;obtain⟨d,hd⟩:=C0.mp (S y J);refine⟨d,hd,?_⟩
    rcases Aq.mp hd with hd | hd
    ·exact h.top x l _ hd
    ·exact Int.le_of_eq (m _ hd).1
   ·have A:j < L.length:=by have:=(AC.mp l).1;lia
    rw[Ab A]at g;obtain⟨d,hd,H⟩:=h.cl j (by lia) a g y J;exact⟨d,As _ hd,H⟩
  ·rcases Aq.mp g with g | g
   ·obtain⟨b,hb,I⟩:=h.par a g E
    exact⟨b,As _ hb,I⟩
   ·exact⟨x,As _ C,(m a g).1.symm,(m a g).2.1⟩
  ·have X:x.2<=a.2:=by
    by_cases A:i+1 < L.length
    ·rw[Ab A]at g
     have I:(L.map (·.2))[i]?=some x.2:=by rw[Ao,l];rfl
     have Y:(L.map (·.2))[i+1]?=some a.2:=by rw[Ao,g];rfl
     obtain⟨Z,e5⟩:=AC.mp I;obtain⟨l6,e6⟩:=AC.mp Y;have:=CO.mp h.up i (i+1) Z l6 (by lia);rwa [e5,e6]at this
    ·have B:=(AC.mp l).1
     rw[BG (by lia)]at g;have:=(m a (Ac g)).1
     lia
   rcases Aq.mp hb with hb | hb
   ·have:=h.top x l b hb;lia
   ·have:=(m b hb).1;lia
  ·by_cases A:j < L.length
   ·rw[Ab A]at g
    exact h.low j a g
   ·have B:=(AC.mp l).1
    rw[BG (by lia)]at g;have:=(m a (Ac g)).1;have:=h.low i x l
    lia
theorem U8(l:∀x:Int,0<=x->x < p->∀y∈nb x,0<=y/\y < p)(m:0<=s/\s < p):∀i,Bf nb p s i (Rn nb s i)
 | 0=>by
  refine⟨by show[s].Nodup;simp,λa g=>?_,λa g=>?_,Ez _ _,AN.mpr rfl,λa g _=>?_,λj A=>zX A (Dr _),λa g o=>?_,λa g b hb=>?_,λj a g=>?_⟩
  ·rw[AN.mp g];exact m
  ·rw[AN.mp g];exact bd _
  ·rw[AN.mp g]
  ·rw[AN.mp g]at o;exact zX o (Int.lt_irrefl _)
  ·cases g;rw[AN.mp hb];exact Int.le_add_one (bd _)
  ·rw[AN.mp (Ac g)];exact Int.natCast_nonneg j
 | i+1=>(U8 l m i).step l
theorem Xf:∀(p:Nat) (l:ZLi),l.Nodup->(∀z∈l,0<=z/\z < p)->l.length<=p
 | 0,l,_,h=>by
  cases l with
  | nil=>exact AL _
  | cons a l=>have:=h a (by simp);lia
 | p+1,l,j,h=>by
  by_cases c:(p:Int)∈l
  ·have B:=Wj c
   have C:0 < l.length:=YM c
   have o:=Xf p (l.erase (p:Int)) (j.erase _) λz g=>by
    obtain⟨A,m⟩:=j.mem_erase_iff.mp g;have:=h z m
    lia
   lia
  ·have o:=Xf p l j λz g=>by
    have:=h z g
    have:z≠p:=λe=>c (e▸g)
    lia
   lia
theorem Bf.len{i:Nat}{L:Met}(h:Bf nb p s i L):L.length<=p:=by
 have:=Xf p (A9 L) h.nd λz g=>by
  obtain⟨a,j,rfl⟩:=Aw.mp g;exact h.rng a j
 unfold A9 at this;rwa [AG]at this
structure Fd(nb:Int->ZLi)(p:Nat)(s:Int)(L:Met):Prop where
 nd:(A9 L).Nodup
 rng:∀a∈L,0<=a.1/\a.1 < p
 nn:∀a∈L,0<=a.2
 src:(s,0)∈L
 zero:∀a∈L,a.2=0->a.1=s
 cl:∀a∈L,∀y∈nb a.1,∃d,(y,d)∈L/\d<=a.2+1
 par:∀a∈L,0 < a.2->∃b∈L,b.2+1=a.2/\a.1∈nb b.1
 len:L.length<=p
 far:∀a∈L,a.2 < p
theorem Bf.fd{i:Nat}{L:Met}(h:Bf nb p s i L)(o:L.length<=i):Fd nb p s L:=⟨h.nd,h.rng,h.nn,h.src,h.zero,λa g y m=>by
 obtain⟨j,l,e⟩:=bX g
 exact h.cl j (by lia) a (by rw[Aj l,e]) y m,h.par,h.len,λa g=>by
 obtain⟨j,l,e⟩:=bX g;have:=h.low j a (by rw[Aj l,e]);have:=h.len
 lia⟩
def nears(nb:Int->ZLi)(L:Met)(x:Int):ZLi:=(nb x).filter λy=>decide (stp L y < stp L x)
end
theorem XG{l:ZLi}(h:l.Nodup):(CF l).Pairwise (· < ·):=by
 have g:(CF l).Nodup:=(Bp l).nodup_iff.mpr h
 exact((Kw l).and g).imp λ{a b} ⟨j,m⟩=>by omega
abbrev bIn(g v a:Nat)(mval:ME):MS:=sIf (mB (m2 (inA true) (AH v) (AH g))) (BF (Gm (AH g) (AH v) mval) (C2 (K9 (AH a) (AH v)))) sNx
theorem ZH{L:Met}{y d:Int}(h:(A9 L).Nodup)(c:y∉A9 L):(A9 (L++[(y,d)])).Nodup:=by
 rw[ER];refine Bu.mpr ⟨h,by simp[A9],λa g b hb e=>c ?_⟩
 have:b=y:=by simpa[A9]using hb
 rw[<-this,<-e];exact g
theorem jK{g v a:Nat}{mval:ME}{E:Option D->Lo}{dI fI:Nat}{d:Int}{L:Met}{fs:ZLi}{S:Sto}{ys:ZLi}{z:Option D}{vw:N1}
  (I:∀S',(∀j,j≠dI->j≠fI->S'[j]?=S[j]?)->vw S'=some (ys.map D.int))
  (J:∀x S,AH v (E (some x)) S=.ok x S) (s:∀z S,AH g (E z) S=.ok (.ref dI) S) (T:∀z S,AH a (E z) S=.ok (.ref fI) S) (U:∀x z S,tgN v x (E z) S=.ok (E (some x)) S)
  (X:∀x S' N,S'[dI]?=some (.dK (mD (L++N)))->S'[fI]?=some (.lst ((fs++A9 N).map D.int))->(A9 (L++N)).Nodup->mval (E (some x)) S'=.ok (.int (d+1)) S')
  (Y:S[dI]?=some (.dK (mD L))) (Z:S[fI]?=some (.lst (fs.map D.int))) (Q:dI≠fI) (nd:(A9 L).Nodup) (hl:L.length<=1000) (hf:fs.length<=1000) (hy:ys.length<=1000) :
  ∃O S' N,HP vw (tgN v) (bIn g v a mval) (DR vw S) 0 (E z) S=.ok (.nx (E O)) S'/\Jl d ys L=L++N/\S'[dI]?=some (.dK (mD (L++N)))/\S'[fI]?=some (.lst ((fs++A9 N).map D.int))/\S'.length=S.length/\∀j,j≠dI->j≠fI->S'[j]?=S[j]?:=by
 obtain⟨e',S',A,O,N,rfl,B,_,_,m,o,C,G⟩:=ny (f:=D.int) (l:=ys) (v:=vw) (g:=tgN v) (b:=bIn g v a mval) (e:=E z) (S:=S)
  (λt e S'=>∃z N,e=E z/\Jl d t L=L++N/\(A9 (L++N)).Nodup/\N.length<=t.length/\S'[dI]?=some (.dK (mD (L++N)))/\S'[fI]?=some (.lst ((fs++A9 N).map D.int))/\S'.length=S.length/\∀j,j≠dI->j≠fI->S'[j]?=S[j]?)
  ⟨z,[],rfl,(BI L).symm,by rw[BI];exact nd,AL _,by rw[BI];exact Y,by show _=some (Ob.lst ((fs++[]).map D.int));rw[BI];exact Z,rfl,λ_ _ _=>rfl⟩ (by rintro t e S' ⟨_,_,_,_,_,_,_,_,_,h⟩;exact I S' h)
  (by
   rintro t y e S' hyy ht ⟨z,N,rfl,B,P,q3,m,o,C,G⟩;refine⟨E (some (.int y)),S',U _ _ _,?_⟩;have t1:mB (m2 (inA true) (AH v) (AH g)) (E (some (.int y))) S'=.ok (!decide (y∈A9 (L++N))) S':=TQ (EI (J _ _) (s _ _) (jL m true y));have H:=Qo (a:=BF (Gm (AH g) (AH v) mval) (C2 (K9 (AH a) (AH v)))) (b:=sNx) t1
   by_cases c:y∈A9 (L++N)
   ·rw[wX c]at H
    refine⟨E (some (.int y)),S',H.trans rfl,_,N,rfl,?_,P,by rw[AK];lia,m,o,C,G⟩;rw[Qs,B];exact qX c
   ·rw[wY c]at H
    have p1:=mG (mo:=AH g) (mi:=AH v) (mv:=mval) (X (.int y) S' N m o P) (s _ _) (J _ _) m c (by rw[AK];lia);have yZ:dI < S'.length:=(AC.mp m).1;have yN:fI < S'.length:=(AC.mp o).1
    have R:(S'.set dI (.dK (mD (L++N++[(y,d+1)]))))[fI]?=some (.lst ((fs++A9 N).map D.int)):=by rw[Az Q];exact o
    have a1:=TM (mo:=AH a) (ma:=AH v) (e:=E (some (.int y))) (S:=S'.set dI (.dK (mD (L++N++[(y,d+1)])))) (T _ _) R (J _ _) R (by
     rw[AG,AK,show(A9 N).length=N.length from AG _]
     exact B8 (show fs.length+N.length<=2000 by lia) (by decide))
    refine⟨E (some (.int y)),_,H.trans ((qX rfl).trans ((Ch p1).trans (Gf a1))),_,N++[(y,d+1)],rfl,?_,?_,?_,?_,?_,?_,?_⟩
    ·rw[Qs,B]
     exact(qY c).trans (A7 _ _ _)
    ·rw[<-A7]
     exact ZH P c
    ·rw[AK,AK,Ai,Ai];lia
    ·rw[Az (CK Q),BL yZ,A7]
    ·rw[BL (by rw[Do];exact yN),ER]
     simp[A9]
    ·rw[Do,Do];exact C
    ·intro j A s
     rw[Az (CK s),Az (CK A)]
     exact G j A s)
 exact⟨O,S',N,A,B,m,o,C,G⟩
theorem Xq{B S S':Sto}(k:Keeps B S){dI fI:Nat}(m:B.length<=dI)(o:B.length<=fI)(g:S'.length=S.length)(h:∀j,j≠dI->j≠fI->S'[j]?=S[j]?):Keeps B S':=
 ⟨by rw[g];exact k.1,λj l=>(h j (by lia) (by lia)).trans (k.2 j l)⟩
theorem lN{m:ME}{e:Lo}{S:Sto}{n:Nat}{ds:List D}(h:m e S=.ok (.ref n) S)(g:S[n]?=some (.lst ds)):O9 m e S=.ok (!ds.isEmpty) S:=by
 unfold O9;rw[h];dsimp only[Res.bind];unfold Xk;dsimp only;rw[g]
def nbW(ts:List ZPi)(x:Int):ZLi:=CF (Bw ts x.toNat)
abbrev pM(W:Wd):MS:=Ex (Ek (Cd 2 (NI W) (AX (AH 0) (AX (AH 5) BR)))) (tgN 6) (bIn 2 6 4 (m2 E5 (m2 ixA (AH 2) (AH 5)) (mC (.int 1))))
abbrev j7(W:Wd):MS:=BF (Bn 4 (D4 (Dv BR))) (BF (Ex (Ek (AH 3)) (tgN 5) (pM W)) (Bn 3 (AH 4)))
section
variable{W:Wd}{q p:Nat}{ts:List ZPi}{s:Int}
theorem gs{B S:Sto}(hw:LD W B q p ts)(hp:p<=60)(wj:∀x:Int,0<=x->x < p->∀y∈nbW ts x,0<=y/\y < p)(H:∀x,(nbW ts x).length<=1000)(hs:0<=s/\s < p){i dI l:Nat}{d1:D}{z4 z5 z6:Option D}(K:Keeps B S)(R:B.length<=dI)(hly:B.length<=l)(yZ:dI≠l)
  (hD:S[dI]?=some (.dK (mD (Rn (nbW ts) s i)))) (T:S[l]?=some (.lst ((A9 ((Rn (nbW ts) s i).drop i)).map D.int))) (hi:i<=(Rn (nbW ts) s i).length) :
  ∃A o S',j7 W [sR q,some d1,sR dI,sR l,z4,z5,z6] S=oN [sR q,some d1,sR dI,sR S.length,sR S.length,A,o] S'/\Keeps B S'/\S'[dI]?=some (.dK (mD (Rn (nbW ts) s (Rn (nbW ts) s i).length)))/\S'[S.length]?=some (.lst ((A9 ((Rn (nbW ts) s (Rn (nbW ts) s i).length).drop (Rn (nbW ts) s i).length)).map D.int)):=by
 have U:dI < S.length:=(AC.mp hD).1;have X:l < S.length:=(AC.mp T).1;have Y:=U8 wj hs i;have Δ:=Y.len;generalize hn0:(Rn (nbW ts) s i).length=n0 at Δ hi ⊢;have s4:Bn 4 (D4 (Dv BR)) [sR q,some d1,sR dI,sR l,z4,z5,z6] S=oN [sR q,some d1,sR dI,sR l,sR S.length,z5,z6] (S++[.lst []]):=rfl;have J:=Keeps.app S [.lst []]
 obtain⟨f,S1,h1,A,o,rfl,K1,D1,F1⟩:=QJ (v:=IU (.ref l)) (g:=tgN 5) (b:=pM W) (xs:=(A9 ((Rn (nbW ts) s i).drop i)).map D.int) (e:=[sR q,some d1,sR dI,sR l,sR S.length,z5,z6]) (S:=S++[.lst []])
  (λj e S'=>∃A o,e=[sR q,some d1,sR dI,sR l,sR S.length,A,o]/\Keeps B S'/\S'[dI]?=some (.dK (mD (Rn (nbW ts) s (i+j))))/\S'[S.length]?=some (.lst ((A9 ((Rn (nbW ts) s (i+j)).drop n0)).map D.int))/\S'[l]?=some (.lst ((A9 ((Rn (nbW ts) s i).drop i)).map D.int)))
  (λf S'=>∃A o,f=.nx [sR q,some d1,sR dI,sR l,sR S.length,A,o]/\Keeps B S'/\S'[dI]?=some (.dK (mD (Rn (nbW ts) s n0)))/\S'[S.length]?=some (.lst ((A9 ((Rn (nbW ts) s n0).drop n0)).map D.int)))
  ⟨z5,z6,rfl,K.trans J,J.at hD,by
   rw[Yh,Hh (by lia)]
   exact Dh _ _,J.at T⟩ (by rintro j e S' ⟨_,_,_,_,_,_,h⟩;exact FD h)
  (by
   rintro j x e S' C ⟨A,o,rfl,O,P,Q,L'⟩;unfold A9 at C;rw[Ao,Ao,EG]at C
   cases Z:(Rn (nbW ts) s i)[i+j]? with
   | none=>rw[Z]at C;cases C
   | some a=>
    rw[Z]at C;cases C;have I:(Rn (nbW ts) s (i+j))[i+j]?=some a:=tK (by lia) Z;have G:=U8 wj hs (i+j);have har:=G.rng a (Ac I);have hll:=G.len
    obtain⟨x,C⟩:∃x:Nat,a.1=x:=⟨a.1.toNat,by lia⟩
    refine⟨[sR q,some d1,sR dI,sR l,sR S.length,sI a.1,o],S',rfl,?_⟩
    have c1:Cd 2 (NI W) (AX (AH 0) (AX (AH 5) BR)) [sR q,some d1,sR dI,sR l,sR S.length,sI a.1,o] S'=.ok (.tup ((nbW ts a.1).map D.int)) S':=by
     refine(JK (ds:=[.ref q,.int a.1]) (S1:=S') rfl rfl).trans ?_;unfold nbW;rw[C,Ay];exact nJ (hw.keeps O) (by lia)
    have yN:(A9 ((Rn (nbW ts) s (i+j)).drop n0)).length<=1000:=by unfold A9;rw[AG,Ca];lia
    obtain⟨z',S2,N,h2,g1,g2,g3,g4,g5⟩:=jK (g:=2) (v:=6) (a:=4) (mval:=m2 E5 (m2 ixA (AH 2) (AH 5)) (mC (.int 1))) (E:=λz=>[sR q,some d1,sR dI,sR l,sR S.length,sI a.1,z]) (dI:=dI) (fI:=S.length) (d:=a.2) (L:=Rn (nbW ts) s (i+j)) (ys:=nbW ts a.1) (z:=o) (S:=S') (vw:=JV ((nbW ts a.1).map D.int)) (λ_ _=>rfl)
     (λ_ _=>rfl) (λ_ _=>rfl) (λ_ _=>rfl) (λ_ _ _=>rfl)
     (λy S2 N hd hf nd=>by
      refine EI (EI rfl rfl (nY hd nd (C0.mpr ⟨a.2,As _ (Ac I)⟩))) rfl ?_;rw[gK nd (show(a.1,a.2)∈Rn (nbW ts) s (i+j)++N from As _ (Ac I))]
      rfl)
     P Q (Al U) G.nd (by lia) yN (H _)
    refine⟨.nx [sR q,some d1,sR dI,sR l,sR S.length,sI a.1,z'],S2,(NH (Si c1)).trans h2,_,z',rfl,Xq O R (by have:=K.1;omega) g4 g5,?_,?_,?_⟩
    ·rw[g2,<-g1]
     show some (Ob.dK (mD (Jl a.2 (nbW ts a.1) (Rn (nbW ts) s (i+j)))))=some (Ob.dK (mD (P8 (nbW ts) (Rn (nbW ts) s (i+j)) (i+j))));rw[P7 I]
    ·have e1:Rn (nbW ts) s (i+(j+1))=Rn (nbW ts) s (i+j)++N:=by
      show P8 (nbW ts) (Rn (nbW ts) s (i+j)) (i+j)=_;rw[P7 I,g1]
     have hle:n0<=(Rn (nbW ts) s (i+j)).length:=by
      obtain⟨N',e2⟩:=We (nb:=nbW ts) (s:=s) i j;rw[e2,AK]
      lia
     rw[g3,e1,List.drop_append_of_le_length hle,ER]
    ·rw[g5 l (CK yZ) (Al X)]
     exact L')
  (by
   rintro e S' ⟨A,o,rfl,O,P,Q,L'⟩
   have e1:i+((A9 ((Rn (nbW ts) s i).drop i)).map D.int).length=n0:=by
    unfold A9;rw[AG,AG,Ca]
    lia
   rw[e1]at P Q
   exact⟨_,_,rfl,O,P,Q⟩)
 exact⟨A,o,S1,(Ch s4).trans ((Ch ((NH (IY (m:=AH 3) (n:=l) rfl (J.at T))).trans h1)).trans rfl),K1,D1,F1⟩
theorem gM{S:Sto}(hw:LD W S q p ts)(I:p<=60)(B:∀x:Int,0<=x->x < p->∀y∈nbW ts x,0<=y/\y < p)(l:∀x,(nbW ts x).length<=1000)(C:0<=s/\s < p) :
  ∃g i,F5 W [.ref q,.int s] S=.ok (.ref S.length) g/\Keeps S g/\g[S.length]?=some (.dK (mD (Rn (nbW ts) s i)))/\(Rn (nbW ts) s i).length<=i:=by
 have J:Bn 2 (SU (AH 1) (mC (.int 0))) (HB 7 [.ref q,.int s]) S=oN [sR q,sI s,sR S.length,none,none,none,none] (S++[.dK (mD [(s,0)])]):=KP (i:=2) (n8 rfl rfl);have L:Bn 3 (D4 (Dv (AX (AH 1) BR))) [sR q,sI s,sR S.length,none,none,none,none] (S++[.dK (mD [(s,0)])])=.ok (.nx [sR q,sI s,sR S.length,some (.ref (S++[Ob.dK (mD [(s,0)])]).length),none,none,none]) (S++[.dK (mD [(s,0)])]++[.lst [.int s]]):=rfl
 obtain⟨e',g,h,i,E,z4,z5,z6,rfl,K,O,P⟩:=Wy (t:=O9 (AH 3)) (b:=j7 W)
  (λk e g=>∃(i j:Nat) (z4 z5 z6:Option D),e=[sR q,sI s,sR S.length,sR j,z4,z5,z6]/\Keeps S g/\S.length < j/\g[S.length]?=some (.dK (mD (Rn (nbW ts) s i)))/\g[j]?=some (.lst ((A9 ((Rn (nbW ts) s i).drop i)).map D.int))/\i<=(Rn (nbW ts) s i).length/\k+i=p)
  (λe g=>∃(i:Nat) (E z4 z5 z6:Option D),e=[sR q,sI s,sR S.length,E,z4,z5,z6]/\Keeps S g/\g[S.length]?=some (.dK (mD (Rn (nbW ts) s i)))/\(Rn (nbW ts) s i).length<=i)
  (by
   rintro k e g ⟨i,j,z4,z5,z6,rfl,K,o,G,A,Q,hk⟩;have t:=lN (m:=AH 3) (e:=[sR q,sI s,sR S.length,sR j,z4,z5,z6]) rfl A
   by_cases c:i < (Rn (nbW ts) s i).length
   ·refine .inr ?_
    have R:((A9 ((Rn (nbW ts) s i).drop i)).map D.int).isEmpty=false:=by
     cases T:(A9 ((Rn (nbW ts) s i).drop i)).map D.int with
     | nil=>
      have:=congrArg F7 T;unfold A9 at this;rw[AG,AG,Ca]at this;simp at this
      lia
     | cons _ _=>rfl
    rw[R]at t;obtain⟨y5,y6,U,X,Y,Z,g4⟩:=gs (d1:=.int s) (z4:=z4) (z5:=z5) (z6:=z6) hw I B l C K (AL _) (Ml o) (Al o) G A Q;have hb:=(U8 B C i).len;have hlS:j < g.length:=(AC.mp A).1;refine⟨g,_,U,p - (Rn (nbW ts) s i).length,t,X,by lia,(Rn (nbW ts) s i).length,g.length,_,_,_,rfl,Y,by lia,Z,g4,?_,by lia⟩;obtain⟨N,H⟩:=We (nb:=nbW ts) (s:=s) i ((Rn (nbW ts) s i).length - i);rw[show i+((Rn (nbW ts) s i).length - i)=(Rn (nbW ts) s i).length by lia]at H;rw[H,AK]
    lia
   ·refine .inl ⟨g,?_,i,_,_,_,_,rfl,K,G,by lia⟩
    rw[t,Hh (by lia)]
    rfl)
  wN p [sR q,sI s,sR S.length,some (.ref (S++[Ob.dK (mD [(s,0)])]).length),none,none,none] (S++[.dK (mD [(s,0)])]++[.lst [.int s]])
  ⟨0,_,none,none,none,rfl,(Keeps.app _ _).trans (Keeps.app _ _),by simp,(Keeps.app _ _).at (Dh _ _),Dh _ _,Ce _,rfl⟩ (show p < 1000000 by lia)
 refine⟨g,i,L2.KU (n:=7) (mb:=MA W) ?_,K,O,P⟩;unfold MA;exact(Ch J).trans ((Ch L).trans ((Ch h).trans rfl))
end
section
variable{nb:Int->ZLi}{p:Nat}
theorem Fd.back{s:Int}{L:Met}(h:Fd nb p s L)(m:∀x y:Int,0<=x->0<=y->y∈nb x->x∈nb y){C:ZLi}(o:∀x∈C,∀y∈nb x,y∈C):∀(d:Nat) (z:Int),(z,(d:Int))∈L->z∈C->s∈C
 | 0,z,g,j=>by
  have:z=s:=h.zero _ g rfl;rw[<-this];exact j
 | d+1,z,g,j=>by
  obtain⟨b,hb,A,B⟩:=h.par _ g (by dsimp only;lia);have l:b.1∈nb z:=m b.1 z (h.rng _ hb).1 (h.rng _ g).1 B
  have E:b.2=d:=by dsimp only at A;lia
  exact Fd.back h m o d b.1 (by rw[<-E];exact hb) (o z j b.1 l)
theorem Fd.meets{s:Int}{L:Met}(h:Fd nb p s L)(g:∀x y:Int,0<=x->0<=y->y∈nb x->x∈nb y){C:ZLi}(j:∀x∈C,∀y∈nb x,y∈C){z:Int}(hz:z∈A9 L)(l:z∈C):s∈C:=by
 obtain⟨d,hd⟩:=C0.mp hz;have:=h.nn _ hd;exact h.back g j d.toNat z (by dsimp only at this;rw[Cf this];exact hd) l
theorem Fd.closed{s:Int}{L:Met}(h:Fd nb p s L):∀x∈A9 L,∀y∈nb x,y∈A9 L:=λx g y j=>by
 obtain⟨d,hd⟩:=C0.mp g;obtain⟨l,m,_⟩:=h.cl _ hd y j;exact C0.mpr ⟨l,m⟩
end
def cov(nb:Int->ZLi)(p:Nat)(R:List Nat):Met:=(R.map λs:Nat=>Rn nb s p).flatten
theorem Sy(nb:Int->ZLi)(p:Nat)(R:List Nat)(x:Nat):cov nb p (R++[x])=cov nb p R++Rn nb x p:=by
 unfold cov;rw[BD,List.flatten_append];simp
theorem Nt{nb:Int->ZLi}{p:Nat}{R:List Nat}{z:Int}:z∈A9 (cov nb p R)↔∃s∈R,z∈A9 (Rn nb s p):=by
 constructor
 ·intro h
  obtain⟨d,hd⟩:=C0.mp h;obtain⟨l,j,m⟩:=RE.mp hd;obtain⟨s,g,rfl⟩:=Aw.mp j;exact⟨s,g,C0.mpr ⟨d,m⟩⟩
 ·rintro⟨s,g,h⟩
  obtain⟨d,hd⟩:=C0.mp h;exact C0.mpr ⟨d,RE.mpr ⟨_,Aw.mpr ⟨s,g,rfl⟩,hd⟩⟩
def wk(nb:Int->ZLi)(p:Nat):Nat->List Nat
 | 0=>[]
 | x+1=>if (x:Int)∈A9 (cov nb p (wk nb p x))then wk nb p x else wk nb p x++[x]
structure Wk(nb:Int->ZLi)(p x:Nat)(R:List Nat):Prop where
 of:∀s∈R,s < x/\∀a∈A9 (Rn nb s p),(s:Int)<=a
 nd:(A9 (cov nb p R)).Nodup
 all:∀y:Nat,y < x->(y:Int)∈A9 (cov nb p R)
 up:R.Pairwise (· < ·)
section
variable{nb:Int->ZLi}{p:Nat}(wj:∀x:Int,0<=x->x < p->∀y∈nb x,0<=y/\y < p)(wz:∀x y:Int,0<=x->0<=y->y∈nb x->x∈nb y)
include wj in
theorem So{s:Nat}(h:s < p):Fd nb p s (Rn nb s p):=(U8 wj ⟨by lia,by lia⟩ p).fd (U8 wj ⟨by lia,by lia⟩ p).len
include wj wz in
theorem Wk.step{x:Nat}(E:x < p){R:List Nat}(h:Wk nb p x R):Wk nb p (x+1) (if (x:Int)∈A9 (cov nb p R)then R else R++[x])/\((x:Int)∉A9 (cov nb p R)->∀z∈A9 (Rn nb x p),z∉A9 (cov nb p R)):=by
 have o:=So wj E
 have G:∀a∈A9 (cov nb p R),∀y∈nb a,y∈A9 (cov nb p R):=λa j y A=>by
  obtain⟨s,g,j⟩:=Nt.mp j;exact Nt.mpr ⟨s,g,(So wj (show s < p by have:=(h.of s g).1;lia)).closed a j y A⟩
 have m:(x:Int)∉A9 (cov nb p R)->∀z∈A9 (Rn nb x p),z∉A9 (cov nb p R):=λc z H I=>c (o.meets wz G H I)
 refine⟨?_,m⟩
 by_cases c:(x:Int)∈A9 (cov nb p R)
 ·rw[qX c]
  refine⟨λs g=>⟨by have:=(h.of s g).1;lia,(h.of s g).2⟩,h.nd,λy A=>?_,h.up⟩
  by_cases e:y=x
  ·rw[e];exact c
  ·exact h.all y (by lia)
 ·rw[qY c]
  have m:=m c
  have B:∀a∈A9 (Rn nb x p),(x:Int)<=a:=λa j=>by
   by_cases e:(x:Int)<=a
   ·exact e
   ·obtain⟨d,hd⟩:=C0.mp j
    have C:=(o.rng _ hd).1;dsimp only at C;have:=h.all a.toNat (by lia);rw[Cf C]at this;exact zX this (m a j)
  have l:(x:Int)∈A9 (Rn nb x p):=C0.mpr ⟨0,o.src⟩;refine⟨λs g=>?_,?_,λy A=>?_,?_⟩
  ·rcases Aq.mp g with g | g
   ·exact⟨by have:=(h.of s g).1;lia,(h.of s g).2⟩
   ·rw[AN.mp g]
    exact⟨by lia,B⟩
  ·rw[Sy,ER]
   exact Bu.mpr ⟨h.nd,o.nd,λa j b hb e=>m b hb (e▸j)⟩
  ·rw[Sy,ER]
   by_cases e:y=x
   ·rw[e];exact Av _ l
   ·exact As _ (h.all y (by lia))
  ·refine Bg.mpr ⟨h.up,Ez _ _,λs g t J=>?_⟩
   rw[AN.mp J];exact(h.of s g).1
include wj wz in
theorem fN:∀x:Nat,x<=p->Wk nb p x (wk nb p x)
 | 0,_=>⟨λ_ h=>zX h BY,E0,λy h=>zX h (Dr _),GV⟩
 | x+1,h=>((fN x (by lia)).step wj wz (by lia)).1
def XZ(nb:Int->ZLi)(p s:Nat):ZLi:=CF (A9 (Rn nb s p))
include wj in
include wj in
include wj in
end
theorem Ul:∀(L C:Met),(A9 L).Nodup->(∀z∈A9 L,z∉A9 C)->QC (mD C) (mD L)=mD (C++L)
 | [],C,_,_=>by rw[BI];rfl
 | a :: L,C,l,hd=>by
  obtain⟨m,o⟩:=Cq.mp (show(a.1 :: A9 L).Nodup from l);have e:QC (mD C) (mD (a :: L))=QC (Gz (mD C) (C5 a.1) (.int a.2)) (mD L):=rfl;rw[e,iy (hd a.1 Ax),Ul L (C++[(a.1,a.2)]) o (λz j g=>?_),A7]
  ·rfl
  ·rw[ER]at g
   rcases Aq.mp g with g | g
   ·exact hd z (AY _ j) g
   ·have:z=a.1:=by simpa[A9]using g
    exact m (this▸j)
theorem nz{mo ma:ME}{e:Lo}{S:Sto}{n m:Nat}{C L:Met}(ho:mo e S=.ok (.ref n) S)(j:ma e S=.ok (.ref m) S)(g:S[n]?=some (.dK (mD C)))(l:S[m]?=some (.dK (mD L)))(o:n≠m)(s:(A9 L).Nodup)(hd:∀z∈A9 L,z∉A9 C)(A:C.length+L.length<=1000) :
  Um mo ma e S=.ok .non (S.set n (.dK (mD (C++L)))):=by
 unfold Um;rw[ho];dsimp only[Res.bind];rw[g];dsimp only;rw[j];dsimp only;rw[g,l];dsimp only;rw[qX ⟨o,by unfold mD;rw[AG,AG];exact Ap A (by decide)⟩,Ul L C s hd]
theorem dD{S:Sto}{n:Nat}{L:Met}(h:S[n]?=some (.dK (mD L))):Io (.ref n) S=some ((A9 L).map D.int):=by
 unfold Io;dsimp only;rw[h];dsimp only;unfold mD A9;rw[BV,BV];rfl
abbrev vd(W:Wd):MS:=sIf (mB (m2 (inA true) (AH 3) (AH 2))) (BF (Bn 4 (Cd 2 (F5 W) (AX (AH 0) (AX (AH 3) BR))))
  (BF (C2 (Um (AH 2) (AH 4)))
  (C2 (K9 (AH 1) (GJ (DM (AH 4))))))) sNx
section
variable{W:Wd}{q p:Nat}{ts:List ZPi}
theorem iP{S:Sto}(hw:LD W S q p ts)(hp:p<=60)(A:∀x:Int,0<=x->x < p->∀y∈nbW ts x,0<=y/\y < p)(B:∀x,(nbW ts x).length<=1000)(Z:∀x y:Int,0<=x->0<=y->y∈nbW ts x->x∈nbW ts y) :
  ∃S',Lv W [.ref q] S=.ok (.ref S.length) S'/\Keeps S S'/\S'[S.length]?=some (.lst (((wk (nbW ts) p p).map (XZ (nbW ts) p)).map Ky)):=by
 have s1:Bn 1 (D4 (Dv BR)) (HB 5 [.ref q]) S=oN [sR q,sR S.length,none,none,none] (S++[.lst []]):=rfl
 have s2:Bn 2 SV [sR q,sR S.length,none,none,none] (S++[.lst []])=oN [sR q,sR S.length,sR (S.length+1),none,none] (S++[.lst []]++[.dK []]):=by
  show Res.ok (Fl.nx [sR q,sR S.length,some (.ref (S++[Ob.lst []]).length),none,none]) (S++[.lst []]++[.dK []])=_;rw[AK];rfl
 have K0:Keeps S (S++[.lst []]++[.dK []]):=(Keeps.app _ _).trans (Keeps.app _ _)
 have N:iR1 (AX (Lr W.Web "places" (AH 0)) BR) [sR q,sR S.length,sR (S.length+1),none,none] (S++[.lst []]++[.dK []])=.ok (JV (Gb 0 p)) (S++[.lst []]++[.dK []]):=by
  have:=ZS (ml:=AX (Lr W.Web "places" (AH 0)) BR) (e:=[sR q,sR S.length,sR (S.length+1),none,none]) (S:=S++[.lst []]++[.dK []]) (S1:=S++[.lst []]++[.dK []]) (j:=p) (CU ((hw.keeps K0).places rfl) rfl) (by lia) (by lia);simpa using this
 obtain⟨f,S1,O,o,l,rfl,K1,P1⟩:=QJ (v:=JV (Gb 0 p)) (g:=tgN 3) (b:=vd W) (xs:=Gb 0 p) (e:=[sR q,sR S.length,sR (S.length+1),none,none]) (S:=S++[.lst []]++[.dK []])
  (λx e S'=>∃o l,e=[sR q,sR S.length,sR (S.length+1),o,l]/\Keeps S S'/\S'[S.length]?=some (.lst (((wk (nbW ts) p x).map (XZ (nbW ts) p)).map Ky))/\S'[S.length+1]?=some (.dK (mD (cov (nbW ts) p (wk (nbW ts) p x)))))
  (λf S'=>∃o l,f=.nx [sR q,sR S.length,sR (S.length+1),o,l]/\Keeps S S'/\S'[S.length]?=some (.lst (((wk (nbW ts) p p).map (XZ (nbW ts) p)).map Ky)))
  ⟨none,none,rfl,K0,(Keeps.app _ _).at (Dh _ _),by
   have:=Dh (S++[Ob.lst []]) (.dK []);rw[AK]at this
   exact this⟩ (λ_ _ _ _=>rfl)
  (by
   rintro x d e S' hd ⟨o,l,rfl,K,C,E⟩;obtain⟨hx,rfl⟩:=XS hd;rw[Yl];have G:=fN A Z x (by lia);obtain⟨hW',yo⟩:=G.step A Z hx;refine⟨[sR q,sR S.length,sR (S.length+1),sI x,l],S',rfl,?_⟩;have t1:mB (m2 (inA true) (AH 3) (AH 2)) [sR q,sR S.length,sR (S.length+1),sI x,l] S'=.ok (!decide ((x:Int)∈A9 (cov (nbW ts) p (wk (nbW ts) p x)))) S':=TQ (EI rfl rfl (jL E true x));have J:=Qo (a:=BF (Bn 4 (Cd 2 (F5 W) (AX (AH 0) (AX (AH 3) BR)))) (BF (C2 (Um (AH 2) (AH 4))) (C2 (K9 (AH 1) (GJ (DM (AH 4))))))) (b:=sNx) t1
   by_cases c:(x:Int)∈A9 (cov (nbW ts) p (wk (nbW ts) p x))
   ·rw[wX c]at J
    have H:wk (nbW ts) p (x+1)=wk (nbW ts) p x:=qX c;refine⟨_,S',J.trans rfl,_,_,rfl,K,?_,?_⟩
    ·rw[H];exact C
    ·rw[H];exact E
   ·rw[wY c]at J
    have H:wk (nbW ts) p (x+1)=wk (nbW ts) p x++[x]:=qY c;obtain⟨S2,i,c2,L,P,N⟩:=gM (s:=(x:Int)) (hw.keeps K) hp A B ⟨by lia,by lia⟩;have Q:=So A hx;rw[tL N Q.len]at P;have s4:Bn 4 (Cd 2 (F5 W) (AX (AH 0) (AX (AH 3) BR))) [sR q,sR S.length,sR (S.length+1),sI x,l] S'=oN [sR q,sR S.length,sR (S.length+1),sI x,sR S'.length] S2:=KP (i:=4) ((JK (ds:=[.ref q,.int x]) (S1:=S') rfl rfl).trans c2);have hCl:S.length+1 < S'.length:=(AC.mp E).1
    have hcov:(cov (nbW ts) p (wk (nbW ts) p x)).length<=p:=by
     have:=Xf p _ G.nd λz I=>by
      obtain⟨s,R,I⟩:=Nt.mp I;obtain⟨d,hd⟩:=C0.mp I;exact(So A (show s < p by have:=(G.of s R).1;lia)).rng _ hd
     unfold A9 at this;rwa [AG]at this
    have T:=nz (mo:=AH 2) (ma:=AH 4) (e:=[sR q,sR S.length,sR (S.length+1),sI x,sR S'.length]) rfl rfl (L.at E) P (by lia) Q.nd (yo c) (by have:=Q.len;lia);rw[<-Sy,<-H]at T;have U:=(AC.mp (L.at E)).1
    have X:(S2.set (S.length+1) (.dK (mD (cov (nbW ts) p (wk (nbW ts) p (x+1))))))[S.length]?=some (.lst (((wk (nbW ts) p x).map (XZ (nbW ts) p)).map Ky)):=by
     rw[Az (by lia)];exact L.at C
    have D3:(S2.set (S.length+1) (.dK (mD (cov (nbW ts) p (wk (nbW ts) p (x+1))))))[S'.length]?=some (.dK (mD (Rn (nbW ts) x p))):=by
     rw[Az (by lia)];exact P
    have C3:(S2.set (S.length+1) (.dK (mD (cov (nbW ts) p (wk (nbW ts) p (x+1))))))[S.length+1]?=some (.dK (mD (cov (nbW ts) p (wk (nbW ts) p (x+1))))):=BL U;have K3:Keeps S (S2.set (S.length+1) (.dK (mD (cov (nbW ts) p (wk (nbW ts) p (x+1)))))):=(K.trans L).set (F9 _) _;generalize S2.set (S.length+1) (Ob.dK (mD (cov (nbW ts) p (wk (nbW ts) p (x+1)))))=S3 at T X D3 C3 K3;have so:=JO (m:=AH 4) (e:=[sR q,sR S.length,sR (S.length+1),sI x,sR S'.length]) (S:=S3) rfl (dD D3) (OQ (A9 (Rn (nbW ts) x p)));have tu:=Mr so (Es (Dh _ _));have Y:=Keeps.app S3 [.lst ((CF (A9 (Rn (nbW ts) x p))).map D.int)];have P4:=Y.at X
    have hwl:(wk (nbW ts) p x).length<=x:=by
     have O:=Xf x ((wk (nbW ts) p x).map λs:Nat=>(s:Int)) (B2.mpr (G.up.imp λ{a b} h e=>by lia)) λz I=>by
      obtain⟨s,R,rfl⟩:=Aw.mp I;have:=(G.of s R).1
      lia
     rwa [AG]at O
    have a1:=TM (mo:=AH 1) (e:=[sR q,sR S.length,sR (S.length+1),sI x,sR S'.length]) rfl X tu P4 (by rw[AG,AG];exact B8 (show(wk (nbW ts) p x).length<=100 by lia) (by decide));refine⟨_,_,J.trans ((qX rfl).trans ((Ch s4).trans ((Ch (Gf T)).trans (Gf a1)))),_,_,rfl,(K3.trans Y).set (AL _) _,?_,?_⟩
    ·rw[BL (AC.mp P4).1,H,BD,BD]
     rfl
    ·rw[Az (by lia)]
     exact Y.at C3)
  (by
   rintro e S' ⟨o,l,rfl,K,C,_⟩;rw[Uf]at C
   exact⟨_,_,rfl,K,C⟩)
 refine⟨S1,L2.KU (n:=5) (mb:=Od W) ?_,K1,P1⟩;unfold Od;exact(Ch s1).trans ((Ch s2).trans ((Ch ((NH N).trans O)).trans rfl))
end
open L2 L4
def Gc(W:Wd)(w:Nat×List ZPi):Ob:=.ins W.Web [("places",.int w.1),("ties",.tup (w.2.map pairD)),("near_sets",.tup (HC w.1 w.2))]
def QA(p:Nat)(ts:List ZPi):List ZLi:=(Bs p).map λx=>CF (Bw ts x)
theorem ii(p:Nat)(ts:List ZPi):D.tup (HC p ts)=eT (eT D.int) (QA p ts):=by
 unfold HC QA eT;rw[BV];rfl
open Classical in
def Yn(x:Int)(l:List ZPi):Option (Nat×List ZPi):=if 1<=x/\x<=60/\IC x l/\l.length<=90000 then some (x.toNat,Fx l)else none
section
variable{W:Wd}{A:List Sl}{a b m:ME}{p:Option (Nat×List ZPi)}
theorem Vg{j:Type}{f:Str}{enc:j->D}{g:Nat×List ZPi->j}(h:VE A m (rO (Gc W)) p)(l:∀w,([("places",D.int w.1),("ties",.tup (w.2.map pairD)),("near_sets",.tup (HC w.1 w.2))]:List (Str×D)).lookup f=some (enc (g w))):VE A (Lr W.Web f m) (rV enc) (p.bind λw=>some (g w)):=λv o s e F S B=>by
 obtain⟨w,C,E⟩:=A6 o;cases E;obtain⟨d,G,H,I,n,rfl,J⟩:=h w C s e F S B;exact⟨_,G,WM H J (l w),I,rfl⟩
theorem US(h:VE A m (rO (Gc W)) p):VE A (Lr W.Web "places" m) (rV D.int) (p.bind λw=>some (w.1:Int)):=Vg h λw=>pF _ _ _
theorem k8(h:VE A m (rO (Gc W)) p):VE A (Lr W.Web "ties" m) (rV (eT (eP D.int D.int))) (p.bind λw=>some w.2):=Vg h λw=>pE _ _ _
theorem lA(h:VE A m (rO (Gc W)) p):VE A (Lr W.Web "near_sets" m) (rV (eT (eT D.int))) (p.bind λw=>some (QA w.1 w.2)):=Vg h λw=>by rw[<-ii];exact pD _ _ _
theorem pr(W:Wd){p:Nat}(h1:1<=p)(T:p<=60){d:D}{S:Sto}{ps:List ZPi}(U:∀g,Keeps S g->IU d g=some (ps.map pairD))(O:ps.length<=90000)(P:IC p ps){e:Lo}{ml:ML}{S0:Sto}(X:ml e S0=.ok [.int p,d] S) :
  ∃g,SR W.Web 3 (Ji W) ml e S0=.ok (.ref S.length) g/\Keeps S g/\g[S.length]?=some (Gc W (p,Fx ps)):=by
 have Y:OX (mB (m3 leD leD (mC (.int 1)) (AH 1) (mC (.int 60)))) [sR S.length,sI p,some d] (S++[.ins W.Web []])=.ok false (S++[.ins W.Web []]):=
  WA (b:=true) (TQ (i6 (S3:=S++[.ins W.Web []]) rfl rfl (ZN (wX (by lia))) rfl (ZN (wX (by lia)))))
 have Z:(S++[Ob.ins W.Web []])[S.length]?=some (.ins W.Web []):=Dh _ _;have e1:=Vr (C:=W.Web) (f:="places") (mo:=AH 0) (mv:=AH 1) (e:=[sR S.length,sI p,some d]) (S:=S++[.ins W.Web []]) (v:=.int p) rfl rfl Z (by decide);have B:Keeps S ((S++[Ob.ins W.Web []]).set S.length (.ins W.Web (Q2 "places" (.int p) []))):=(Keeps.app S _).set (AL _) _;generalize E:(S++[Ob.ins W.Web []]).set S.length (.ins W.Web (Q2 "places" (.int p) []))=S1 at e1 B
 have l:S1[S.length]?=some (.ins W.Web [("places",.int p)]):=by rw[<-E];exact BL (by simp)
 obtain⟨G,Q,H⟩:=WT W (p:=p) (d:=d) (S:=S1) (ps:=ps) (λg k=>U g (B.trans k)) (Ap O (by decide)) P;rw[Yx]at Q;have I:=Vr (C:=W.Web) (f:="ties") (mo:=AH 0) (mv:=Cd 2 (HR W) (AX (AH 1) (AX (AH 2) BR))) (e:=[sR S.length,sI p,some d]) (S:=S1) ((JK rfl rfl).trans Q) rfl (H.at l) (by simp);have J:Keeps S (G.set S.length (.ins W.Web (Q2 "ties" (.tup ((Fx ps).map pairD)) [("places",.int p)]))):=(B.trans H).set (AL _) _;rw[put2]at I J;have o:S.length < G.length:=(AC.mp (H.at l)).1;generalize L:G.set S.length (.ins W.Web [("places",.int p),("ties",.tup ((Fx ps).map pairD))])=S3 at I J
 have j:S3[S.length]?=some (.ins W.Web [("places",.int p),("ties",.tup ((Fx ps).map pairD))]):=by rw[<-L];exact BL o
 obtain⟨S4,c4,N⟩:=nI W T (ts:=Fx ps) (λt ht=>by
  obtain⟨x,hx,rfl⟩:=gB ht
  exact(P.1 x hx).in) (by rw[(JN ps).length_eq,AG];exact O) S3
 have R:=Vr (C:=W.Web) (f:="near_sets") (mo:=AH 0) (mv:=Cd 2 (HQ W) (AX (AH 1) (AX (Lr W.Web "ties" (AH 0)) BR))) (e:=[sR S.length,sI p,some d]) (S:=S3)
  ((JK (CU (S1:=S3) rfl (CU (WM rfl j (rq _ _)) rfl)) rfl).trans c4) rfl (N.at j) (by simp)
 have s:S.length < S4.length:=(AC.mp (N.at j)).1;rw[put3]at R;refine⟨_,nO X rfl (L2.SB (e:=[sR S.length,sI p,some d]) ?_),(J.trans N).set (AL _) _,BL s⟩;unfold TK;refine FU (Ch (e:=[sR S.length,sI p,some d]) (e1:=[sR S.length,sI p,some d]) (S1:=S++[.ins W.Web []]) (FU (Qo Y) rfl)) ?_;rw[Ch e1,Ch I];exact R
theorem fb{s:Option Int}{B:Option (List ZPi)}(H:VE A a (rV D.int) s)(hb:VE A b (rO (oL (eP D.int D.int))) B):VE A (SR W.Web 3 (Ji W) (AX a (AX b BR))) (rN (Gc W)) (s.bind λx=>B.bind λl=>Yn x l):=λv j S0 e F S C=>by
 obtain⟨x,I,j⟩:=A6 j;obtain⟨l,J,g⟩:=A6 j;obtain⟨d1,L,N,o,rfl⟩:=H x I S0 e F S C;obtain⟨d2,O,P,E,n,rfl,Q⟩:=hb l J S0 e _ L (C.grow o);unfold Yn at g;split at g
 ·rename_i R
  cases g;obtain⟨c1,c2,T,U⟩:=R;have G:((x.toNat:Nat):Int)=x:=Cf (by lia);obtain⟨X,Y,Z,h7⟩:=pr W (p:=x.toNat) (d:=.ref n) (S:=O) (ps:=l) (by lia) (by lia) (λS' k=>FD (k.at Q)) U (by rw[G];exact T) (ml:=AX a (AX b BR)) (e:=e) (S0:=S) (by rw[G];exact CU N (CU P rfl));exact⟨_,X,Y,(o.trans E).trans Z,_,rfl,(o.trans E).1,h7⟩
 ·cases g
end
open L2
def tI(o j:Nat)(ts:List ZPi):Prop:=(∀x∈ts,0<=x.1/\x.1 < x.2/\(x.2 < o∨x.2=o/\x.1 < j))/\ts.Nodup
theorem gX{l l':ZLi}(h:l.Perm l'):CF l=CF l':=
 (((Bp l).trans h).trans (Bp l').symm).eq_of_pairwise (λa b _ _ g j=>Nb g j) (Kw l) (Kw l')
def nr(ts:List ZPi)(x:Nat):ZLi:=CF (Bw ts x)
theorem rh{ts:List ZPi}{x:Nat}{z:Int}:z∈nr ts x↔((x:Int),z)∈ts∨(z,(x:Int))∈ts:=by
 unfold nr;rw[(Bp _).mem_iff];unfold Bw;rw[Ic]
 constructor
 ·rintro⟨t,g,h⟩
  rcases Aq.mp h with h | h
  ·split at h
   ·rename_i e
    rw[AN.mp h,<-e];exact .inl g
   ·cases h
  ·split at h
   ·rename_i e
    rw[AN.mp h,<-e];exact .inr g
   ·cases h
 ·rintro(h | h)
  ·exact⟨_,h,As _ (by simp)⟩
  ·exact⟨_,h,Av _ (by simp)⟩
theorem rj(ts:List ZPi)(x:Nat):(nr ts x).length<=2 * ts.length:=by
 unfold nr;rw[(Bp _).length_eq];exact OW ts x
theorem ig(W:Wd){S:Sto}{t o:Nat}{ts:List ZPi}(N:S[t]?=some (.lst (ts.map pairD)))(Y:tI o 0 ts)(ho:o<=60)(hl:ts.length<=40000) :
  ∃n j,JH W [.int o,.ref t] S=.ok (.ref n) j/\Keeps S j/\S.length<=n/\∃l:List Nat,j[n]?=some (.lst (l.map D.ref))/\l.length=o/\∀x,x < o->∃r,l[x]?=some r/\S.length<=r/\j[r]?=some (.lst ((nr ts x).map D.int)):=by
 have O:=KP (i:=2) (SO (Ue ho (mp:=AH 0) (e:=[sI o,sR t,none,none,none]) (S:=S) rfl));have Z:(S++GD o λ_=>[])++[.lst (EA S.length o)]=stN S o (Bw []):=rfl
 have e2:(S++GD o λ_=>[]).length=S.length+o:=by simp[Hv]
 rw[Z,e2]at O
 obtain⟨f,S1,h1,⟨s,A,rfl⟩,rfl⟩:=QJ (v:=IU (.ref t)) (g:=E9 2 (Bo (tgN 3) (Bo (tgN 4) FN))) (b:=U6) (xs:=ts.map pairD) (e:=[sI o,sR t,sR (S.length+o),none,none]) (S:=stN S o (Bw []))
  (λi e j=>(∃s A,e=[sI o,sR t,sR (S.length+o),s,A])/\j=stN S o (Bw (ts.take i)))
  (λf j=>(∃s A,f=.nx [sI o,sR t,sR (S.length+o),s,A])/\j=stN S o (Bw ts))
  ⟨⟨none,none,rfl⟩,rfl⟩ (by rintro i e j ⟨_,rfl⟩;exact FD ((Go S o _).at N))
  (by
   rintro i y e j E ⟨⟨s,A,rfl⟩,rfl⟩;rw[Ao]at E
   cases B:ts[i]? with
   | none=>rw[B]at E;cases E
   | some x=>
    rw[B]at E;cases E
    have ϛ:In o x:=by
     obtain⟨G,H,g3⟩:=Y.1 x (Ac B);exact⟨by omega,by lia,by lia,by lia,by lia⟩
    refine⟨[sI o,sR t,sR (S.length+o),sI x.1,sI x.2],_,rfl,_,_,Ud ϛ (λz=>?_),⟨_,_,rfl⟩,?_⟩
    ·have:=OW (ts.take i) z
     rw[Be]at this
     lia
    ·rw[take_snoc B,show Bw (ts.take i++[x])=_ from funext λz=>Qk _ _ z])
  (by
   rintro e j ⟨⟨s,A,rfl⟩,rfl⟩;rw[AG,GU]
   exact⟨⟨_,_,rfl⟩,rfl⟩)
 have a2:=(NH (g:=E9 2 (Bo (tgN 3) (Bo (tgN 4) FN))) (b:=U6) (IY (m:=AH 1) (e:=[sI o,sR t,sR (S.length+o),none,none]) (S:=stN S o (Bw [])) (S1:=stN S o (Bw [])) rfl ((Go S o _).at N))).trans h1
 obtain⟨r,S2,q1,I,⟨z,_⟩,K,l,rfl,P,Q⟩:=WQ (v:=IU (.ref (S.length+o))) (g:=tgN 0) (c:=Hk) (m:=DM (AH 0)) (xs:=EA S.length o) (e:=[none,sI o,sR t,sR (S.length+o),s,A]) (S:=stN S o (Bw ts))
  (λi I j C=>(∃z,I=[z,sI o,sR t,sR (S.length+o),s,A])/\Keeps (stN S o (Bw ts)) j/\∃l:List Nat,C=l.map D.ref/\l.length=i/\∀x,x < i->∃r,l[x]?=some r/\S.length<=r/\j[r]?=some (.lst ((nr ts x).map D.int)))
  ⟨⟨none,rfl⟩,.refl _,[],rfl,rfl,λx B=>zX B (Dr _)⟩ (λi I j C h=>FD (h.2.1.at (JX S o _)))
  (by
   rintro i d I j C hd ⟨⟨z,rfl⟩,K,l,rfl,R,k3⟩
   have T:i < o:=by
    have:=(AC.mp hd).1;simpa[EA]using this
   unfold EA at hd;rw[Ao,CC T]at hd;cases hd;have J:Io (.ref (S.length+i)) j=some ((Bw ts i).map D.int):=Ls (K.at (Jz S _ T));have hs:=JO (m:=AH 0) (e:=[sR (S.length+i),sI o,sR t,sR (S.length+o),s,A]) (S:=j) (S1:=j) rfl J (OQ _);have U:=Keeps.app j [.lst ((CF (Bw ts i)).map D.int)];refine⟨by rw[AG];exact B8 (show l.length<=1000 by lia) (by decide),[sR (S.length+i),sI o,sR t,sR (S.length+o),s,A],_,rfl,true,_,rfl,.inl ⟨rfl,_,_,hs,⟨_,rfl⟩,K.trans U,l++[j.length],by simp,by simp[R],λx B=>?_⟩⟩
   by_cases c:x < i
   ·obtain⟨r,G,L,H⟩:=k3 x c
    exact⟨r,by rw[Ab (by lia)];exact G,L,U.at H⟩
   ·have:x=l.length:=by lia
    subst this
    exact⟨j.length,by simp,((Go S o _).trans K).1,by rw[R];exact Dh _ _⟩)
 rw[show(EA S.length o).length=o by simp[EA]]at P Q;have a3:=SO ((RY (n:=1) (g:=tgN 0) (c:=Hk) (m:=DM (AH 0)) (IY (m:=AH 2) (e:=[sI o,sR t,sR (S.length+o),s,A]) (S:=stN S o (Bw ts)) (S1:=stN S o (Bw ts)) rfl (JX S o _))).trans q1);have X:=Keeps.app S2 [.lst (l.map D.ref)];refine⟨_,_,L2.KU ?_,((Go S o _).trans K).trans X,((Go S o _).trans K).1,l,Dh _ _,P,λx B=>?_⟩
 ·unfold PX
  refine FU (Ch O) ?_;refine FU (Ch a2) ?_;exact Li a3
 ·obtain⟨r,G,L,H⟩:=Q x B
  exact⟨r,G,L,X.at H⟩
open L4 in
open Classical in
def JE(o:Int)(ts:List ZPi):Option (List ZLi):=if 0<=o/\o<=60/\tI o.toNat 0 ts/\ts.length<=40000 then some ((Bs o.toNat).map (nr ts))else none
open L4 in
theorem Vm(W:Wd)(o:Int)(ts:List ZPi):VF (JH W) [.v (D.int o),.z (oL (eP D.int D.int) ts)] (lw D.int) (JE o ts):=λv j S s A=>by
 unfold JE at j;split at j
 ·rename_i l
  cases j
  match s,A with
  | [d1,d2],⟨B,⟨t,C,E⟩,_⟩=>
   cases B;cases C;have G:((o.toNat:Nat):Int)=o:=Cf l.1;obtain⟨n,H,m,I,J,L,N,O,P⟩:=ig W (t:=t) (o:=o.toNat) E l.2.2.1 (by lia) l.2.2.2;rw[G]at m;refine⟨_,H,m,I,n,L,rfl,J,N,by simp[O],λk Q g=>?_⟩;rw[Ao]at g
   by_cases c:k < o.toNat
   ·rw[CC c]at g
    cases g;exact P k c
   ·rw[CA (by simp;lia)]at g
    cases g
 ·cases j
end M
namespace L4
open L2
abbrev ad:List (List Int × List Int)->Ob:=oL (eP (eT D.int) (eT D.int))
abbrev a_:List (Int × Int)->Ob:=oL (eP D.int D.int)
abbrev b_:List Int->Ob:=oL D.int
abbrev c_:Int × Int->D:=eP D.int D.int
abbrev dl:List Int->D:=eT D.int
def ls{g:Type}(l:List g)(k:Int):Option (List g):=if 0<=k/\k<=1000/\l.length * k.toNat<=1000000 then some (Ak k.toNat l).flatten else none
def rP3{g j l:Type}(enc:g->D)(s:j->Ob)(A:l->Ob):Rk (g×j×l):=λv o d S=>∃n m,d=.tup [enc v.1,.ref n,.ref m]/\o.length<=n/\S[n]?=some (s v.2.1)/\o.length<=m/\S[m]?=some (A v.2.2)
section
variable{α β γ ρ σ:Type}{A:List Sl}{enc:α->D}{ob:β->Ob}{oc:γ->Ob}
theorem ql:∀(v:α×β×γ) (S S1:Sto) (d:D) (S':Sto),S.length<=S1.length->rP3 enc ob oc v S1 d S'->rP3 enc ob oc v S d S':=λv _ _ _ _ l ⟨n,m,g,j,o,s,B⟩=>⟨n,m,g,Ap l j,o,Ap l s,B⟩
theorem qB{a b:ME}{C:Option (List α)}{E:Option Int}(I:VE A a (rO (oL enc)) C)(hb:VE A b (rV D.int) E):VE A (m2 gu a b) (rN (oL enc)) (C.bind λl=>E.bind λk=>ls l k):=λv j G e F S H=>by
 obtain⟨x,J,j⟩:=A6 j;obtain⟨y,L,g⟩:=A6 j;obtain⟨d1,N,O,m,n,rfl,P⟩:=I x J G e F S H;obtain⟨d2,o,Q,s,rfl⟩:=hb y L G e _ N (H.grow m);unfold ls at g;split at g
 ·rename_i B
  cases g;refine⟨_,_,EI O Q (d:=.ref o.length) (S3:=o++[oL enc (Ak y.toNat x).flatten]) ?_,(m.trans s).trans (Keeps.app _ _),_,rfl,(m.trans s).1,Dh _ _⟩;have R:o[n]?=some (.lst (x.map enc)):=s.at P;unfold gu;dsimp only;rw[R];dsimp only;rw[qX ⟨B.1,B.2.1,by rw[AG];exact B.2.2⟩];unfold oL;rw[List.map_flatten,List.map_replicate]
 ·cases g
theorem Gh{t:MT}{a b:MS}{R:Rk ρ}{pt:Option Bool}{p q:Option (Fw ρ Unit)}(g:VB A t pt)(j:VS A a R p λ_=>A)(hb:VS A b R q λ_=>A):VS A (sIf t a b) R (pt.bind λc=>if c=true then p else q) λ_=>A:=MN g j hb
theorem Nc{mi:MI}{g:MG}{t:α->List Sl->List Sl}{b:MS}{R:Rk ρ}{p:Option (List α)}{q:Unit->α->Option (Fw ρ Unit)}(hi:VI A mi enc p)(j:VT g enc t)(hb:∀x,VS (t x A) b R (q () x) λ_=>A):VS A (Ex mi g b) R (p.bind λl=>Ey l () q) λ_=>A:=JU hi j (Wk.refl _) λ_=>hb
theorem Qe{a:ME}{j:Option ZLi}(s:VE A a (rV dl) j):VE A (K8 a) (rN b_) (j.bind UZ):=λv B C e F S E=>by
 obtain⟨l,G,g⟩:=A6 B;obtain⟨d,m,H,o,rfl⟩:=s l G C e F S E;unfold UZ at g;split at g
 ·rename_i I
  cases g;refine⟨.ref m.length,m++[.lst ((Qx l).map D.int)],?_,o.trans (Keeps.app _ _),_,rfl,o.1,Dh _ _⟩;unfold K8;rw[H];show(match Hj (l.map D.int)with | some J=>_ | none=>_)=_;rw[NB];exact qX I
 ·cases g
theorem UR{a:ME}{g:Option (List α)}(j:VE A a (rV (eT enc)) g):VI A (PK a) (eP D.int enc) (g.bind λl=>some (HV l)):=λv m o e F S s=>by
 obtain⟨l,B,C⟩:=A6 m;cases C;obtain⟨d,E,G,H,rfl⟩:=j l B o e F S s;refine⟨Z5 (IU (eT enc l)),E,?_,H,λI J L h=>?_⟩
 ·unfold PK
  rw[G];rfl
 ·show some (QO (l.map enc))=_
  rw[db]
theorem bo{B:σ->List Sl}{ma mb:ME}{p:Option α}{q:Option β}{i k:Nat}{v:γ}(s:VE A ma (rV enc) p)(hb:VE A mb (rN ob) q)(h:A[i]?=some (.w k (oc v))):VS A (Dt (Hy (AX ma (AX mb (AX (AH i) BR))))) (rP3 enc ob oc) (p.bind λx=>q.bind λy=>some (.rt (x,y,v))) B:=λf C l e F S g=>by
 obtain⟨x,E,G⟩:=A6 C;obtain⟨y,H,I⟩:=A6 G;cases I;obtain⟨d1,J,L,j,rfl⟩:=s x E l e F S g;obtain⟨d2,N,O,o,n,rfl,P,Q⟩:=hb y H l e _ J (g.grow j);obtain⟨z,R,m,rfl,T,U⟩:=g.sl i _ h;exact⟨_,N,Li (Yw (CU L (CU O (CU (Rw R) rfl))) (by simp)),_,rfl,⟨n,m,rfl,Ap (Ap g.kp.1 j.1) P,Q,(g.ow _ _ T).1,(j.trans o).at U⟩,(g.kp.trans j).trans o⟩
theorem fW{R:Rk ρ}{m:ME}{p:Option (α×β×γ)}{i j k:Nat}(h:VE A m (rP3 enc ob oc) p):VS A (Lh m (E9 3 (Bo (tgN i) (Bo (tgN j) (Bo (tgN k) FN))))) R (p.bind λv=>some (.nx v)) (λv=>((A.set i (.v (enc v.1))).set j (.y (ob v.2.1))).set k (.y (oc v.2.2))):=λf E G e F S o=>by
 obtain⟨v,H,I⟩:=A6 E;cases I;obtain⟨d,s,J,L,n,l,rfl,B,hb,C,N⟩:=h v H G e F S o;have g:=o.grow L;have O:=g.set (a:=.v (enc v.1)) (x:=some (enc v.1)) i rfl;have P:=O.set (a:=.y (ob v.2.1)) (x:=some (.ref n)) j ⟨n,rfl,LC B hb,Ap o.kp.1 B⟩;have Q:=P.set (a:=.y (oc v.2.2)) (x:=some (.ref l)) k ⟨l,rfl,LC C N,Ap o.kp.1 C⟩;refine⟨.nx (((e.set i (some (enc v.1))).set j (some (.ref n))).set k (some (.ref l))),s,?_,_,_,rfl,Q,o.fle s⟩;unfold Lh;rw[J];rfl
end
def pI:Fl->Option Lo
 | .nx e=>some e
 | .ct e=>some e
 | .bk e=>some e
 | .ex _ e=>some e
 | .rt _=>none
def Sty(i:Nat)(b:MS):Prop:=∀e S f j,b e S=.ok f j->∀g,pI f=some g->g[i]?=e[i]?
section
variable{i:Nat}{a b:MS}
theorem XC{m:ME}:Sty i (C2 m):=λe S f o h s j=>by
 unfold C2 at h
 cases g:m e S with
 | ok d l=>rw[g]at h;cases h;cases j;rfl
 | err c l=>rw[g]at h;cases h;cases j;rfl
 | bad=>rw[g]at h;cases h
theorem lT{j:Nat}{m:ME}(o:j≠i):Sty i (Bn j m):=λe S f A h B l=>by
 unfold Bn Lh at h
 cases g:m e S with
 | ok d s=>rw[g]at h;cases h;cases l;exact Az o
 | err c s=>rw[g]at h;cases h;cases l;rfl
 | bad=>rw[g]at h;cases h
theorem lU(j:Sty i a)(hb:Sty i b):Sty i (BF a b):=λe S f A h l m=>by
 unfold BF at h
 cases g:a e S with
 | ok B s=>
  rw[g]at h
  cases B with
  | nx o=>exact(hb o s f A h l m).trans (j e S _ s g o rfl)
  | rt d=>cases h;exact j e S _ _ g l m
  | bk o=>cases h;exact j e S _ _ g l m
  | ct o=>cases h;exact j e S _ _ g l m
  | ex c o=>cases h;exact j e S _ _ g l m
 | err c s=>rw[g]at h;cases h
 | bad=>rw[g]at h;cases h
theorem qd{t:MT}(s:Sty i a)(hb:Sty i b):Sty i (sIf t a b):=λe S f m h o g=>by
 unfold sIf at h
 cases j:t e S with
 | ok c l=>
  rw[j]at h
  cases c with
  | true=>exact s e l f m h o g
  | false=>exact hb e l f m h o g
 | err c l=>rw[j]at h;cases h;cases g;rfl
 | bad=>rw[j]at h;cases h
theorem gJ{v:N1}{j:Nat}(H:j≠i)(hb:Sty i b):∀(k n:Nat) (e:Lo) (S:Sto) (f:Fl) (C:Sto),HP v (tgN j) b k n e S=.ok f C->∀l,pI f=some l->l[i]?=e[i]?:=λk=>by
 induction k with
 | zero=>
  intro n e S f C h l g;unfold HP at h
  cases m:v S with
  | none=>rw[m]at h;cases h
  | some E=>
   rw[m]at h;dsimp only at h
   cases hd:E[n]? with
   | none=>rw[hd]at h;cases h;cases g;rfl
   | some d=>rw[hd]at h;cases h
 | succ k G=>
  intro n e S f C h l g;unfold HP at h
  cases m:v S with
  | none=>rw[m]at h;cases h
  | some E=>
   rw[m]at h;dsimp only at h
   cases hd:E[n]? with
   | none=>rw[hd]at h;cases h;cases g;rfl
   | some d=>
    rw[hd]at h;have s:(e.set j (some d))[i]?=e[i]?:=Az H
    cases A:b (e.set j (some d)) S with
    | ok I J=>
     have B:=hb _ _ _ _ A;unfold tgN at h;dsimp only[Res.bind]at h;rw[A]at h
     cases I with
     | nx o=>exact(G _ _ _ _ _ h l g).trans ((B o rfl).trans s)
     | ct o=>exact(G _ _ _ _ _ h l g).trans ((B o rfl).trans s)
     | rt d=>cases h;cases g
     | bk o=>cases h;cases g;exact(B _ rfl).trans s
     | ex c o=>cases h;cases g;exact(B _ rfl).trans s
    | err c J=>unfold tgN at h;dsimp only[Res.bind]at h;rw[A]at h;cases h
    | bad=>unfold tgN at h;dsimp only[Res.bind]at h;rw[A]at h;cases h
theorem lV{mi:MI}{j:Nat}(m:j≠i)(hb:Sty i b):Sty i (Ex mi (tgN j) b):=λe S f A h o l=>by
 unfold Ex at h
 cases g:mi e S with
 | ok v s=>rw[g]at h;exact gJ m hb _ _ _ _ _ _ h o l
 | err c s=>rw[g]at h;cases h;cases l;rfl
 | bad=>rw[g]at h;cases h
end
end L4
namespace M
open L2 L4
def vi(p:Nat)(ts:List ZPi):Prop:=p<=60/\(∀x:Int,0<=x->x < p->∀y∈nbW ts x,0<=y/\y < p)/\(∀x,(nbW ts x).length<=1000)/\∀x y:Int,0<=x->0<=y->y∈nbW ts x->x∈nbW ts y
open Classical in
def Ll(w:Nat×List ZPi):Option (List ZLi):=if vi w.1 w.2 then some ((wk (nbW w.2) w.1 w.1).map (XZ (nbW w.2) w.1))else none
theorem fR{W:Wd}{S:Sto}{q:Nat}{w:Nat×List ZPi}(h:S[q]?=some (Gc W w)):LD W S q w.1 w.2:=⟨_,h,pF _ _ _,pE _ _ _,pD _ _ _⟩
theorem Yr(W:Wd)(w:Nat×List ZPi):VF (Lv W) [.z (Gc W w)] (rN (oL dl)) (Ll w):=λv g S l m=>by
 unfold Ll at g;split at g
 ·rename_i j
  cases g
  match l,m with
  | [d1],⟨⟨n,o,s⟩,_⟩=>
   cases o;obtain⟨A,B,C,E⟩:=iP (fR s) j.1 j.2.1 j.2.2.1 j.2.2.2;exact⟨_,A,B,C,_,rfl,AL _,E⟩
 ·cases g
def FO(j:(Nat×List ZPi))(g:Int):Option (Fw Unit Unit):=
 ((if decide ((0:Int)<=g)=true then some (decide (g < (j.1:Int)))else some false).bind λl=>some (!l)).bind λm=>if m=true then none else some (.nx ())
def HF(g:(Nat×List ZPi))(j:Int):Option Unit:=m8 (FO g j)
theorem Oy(W:Wd)(g:(Nat×List ZPi))(j:Int):VF (EY W) [.z ((Gc W) g),.v (D.int j)] (rV eU) (HF g j):=by
 refine p9 (n:=2) (b:=FQ W) (p:=FO g j) (B:=λ_=>[.z ((Gc W) g),.v (D.int j)]) ?_;show VS [.z ((Gc W) g),.v (D.int j)] _ _ _ _;unfold FQ FO;exact(Gh (Py (E8 (fq vc vb (Ck rfl) (AO rfl) (US (Ds rfl))))) p0 (E6 (.refl _)))
def V1(g:(Nat×List ZPi))(j:Int):Option (Fw ZLi Unit):=
 BZ ((HF g j).bind λ_=>some (.nx ())) λ_=>(atI (QA g.1 g.2) j).bind λl=>some (.rt l)
def M5(g:(Nat×List ZPi))(j:Int):Option ZLi:=KW (V1 g j)
theorem fw(W:Wd)(g:(Nat×List ZPi))(j:Int):VF (NI W) [.z ((Gc W) g),.v (D.int j)] (rV dl) (M5 g j):=by
 refine IV (n:=2) (b:=WZ W) (p:=V1 g j) (B:=λ_=>[]) ?_;show VS [.z ((Gc W) g),.v (D.int j)] _ _ _ _;unfold WZ V1;exact(A8 (kt (Cv (MU (Ds rfl) (GB (AO rfl) DW)) (λl=>Oy W l.1 l.2.1) (λ_=>rfl) Hi)) (λ_=>(DV (Ru (lA (Ds rfl)) (AO rfl)))))
def Iv(s:(Nat×List ZPi))(A:ZLi):Option (Fw (Nat×List ZPi) Unit):=
 BZ (some (.nx [])) λB=>BZ (Ey (HV A) B λ(C:(List ZPi)) o=>Ej (λE=>E) ((cP C o.2 o.1).bind λG=>some (.nx G))) λg=>BZ ((Ff s.2 (λj=>if ((Ei g j.1).isSome)=true then some ((Ei g j.2).isSome)else some false) (λj=>(Ei g j.1).bind λH=>(Ei g j.2).bind λl=>some (H,l))).bind λI=>some (.nx I)) λm=>(Yn (g.length:Int) m).bind λJ=>some (.rt J)
def JA(g:(Nat×List ZPi))(j:ZLi):Option (Nat×List ZPi):=KW (Iv g j)
theorem Vi(W:Wd)(g:(Nat×List ZPi))(j:ZLi):VF (Lu W) [.z ((Gc W) g),.v (dl j)] (rN (Gc W)) (JA g j):=by
 refine IV (n:=6) (b:=L9 W) (p:=Iv g j) (B:=λ_=>[]) ?_;show VS [.z ((Gc W) g),.v (dl j),.u,.u,.u,.u] _ _ _ _;unfold L9 Iv;exact(A8 (G7 fo) (λm=>(A8 (JU (s0:=m) (B:=(λ(l:(List ZPi))=>[.z ((Gc W) g),.v (dl j),.w 2 ((oDK D.int) l),.u,.u,.u])) (UR (AO rfl)) Ow (.refl _) (λA C=>(DE (fV rfl (AO rfl) (AO rfl) rfl) (λE=>(.same (.same (.same (.drop (.drop (.same .nil)))))))))) (λG=>(A8 (Ju (Dg (fY (VI.k (LV (k8 (Ds rfl)))) (λo=>(Rv (E8 (aA (AO rfl) (DF rfl))) (E8 (aA (AO rfl) (DF rfl))))) (λo=>(II (W4 (DF rfl) (AO rfl)) (W4 (DF rfl) (AO rfl))))))) (λs=>(VY (fb (lF (DF rfl)) (EU rfl)))))))))
def Iw(o:(Nat×List ZPi))(l:ZLi)(s:Bool):Option (Fw (Option ZPi) Unit):=
 BZ (Ey (HV l) () λ(_:Unit) g=>BZ ((M5 o g.2).bind λA=>some (.nx A)) λB=>Ej (λ_=>()) (Ey (EN l (some (g.1+(1:Int))) none) () λ(_:Unit) m=>Ej (λ_=>()) (if (decide ((decide (m∈B))=s))=true then((some (g.2,m)).bind λj=>some (some j)).bind λC=>some (.rt C)else some (.nx ())))) λ_=>some (.rt none)
def JB(g:(Nat×List ZPi))(j:ZLi)(l:Bool):Option (Option ZPi):=KW (Iw g j l)
theorem Vj(W:Wd)(g:(Nat×List ZPi))(j:ZLi)(l:Bool):VF (Lw W) [.z ((Gc W) g),.v (dl j),.v (D.bl l)] (rV (eO c_)) (JB g j l):=by
 refine IV (n:=7) (b:=MB W) (p:=Iw g j l) (B:=λ_=>[]) ?_;show VS [.z ((Gc W) g),.v (dl j),.v (D.bl l),.u,.u,.u,.u] _ _ _ _;unfold MB Iw;exact(A8 (Nc (UR (AO rfl)) Ow (λo=>(A8 (DJ (Cv (MU (Ds rfl) (GB (AO rfl) DW)) (λm=>fw W m.1 m.2.1) (λ_=>rfl) Hi)) (λs=>(DE (Nc (LV (RK (AO rfl) (IH (Er (AO rfl) (Ck rfl))) Jv)) G6 (λA=>(DE (Gh (E8 (JW ss vB (Px B7 (AO rfl) (AO rfl)) (AO rfl))) (DV (k9 (II (AO rfl) (AO rfl)))) (E6 (.refl _))) (λ_=>(.same (.same (.same (.same (.same (.same (.drop .nil))))))))))) (λ_=>(.same (.same (.same (.drop (.drop (.drop (.same .nil))))))))))))) (λ_=>(DV lB)))
def KA(g:(Nat×List ZPi))(j:ZLi):Option (Fw (Option ZPi) Unit):=
 (JB g j false).bind λl=>some (.rt l)
def M6(g:(Nat×List ZPi))(j:ZLi):Option (Option ZPi):=KW (KA g j)
theorem W7(W:Wd)(g:(Nat×List ZPi))(j:ZLi):VF (NJ W) [.z ((Gc W) g),.v (dl j)] (rV (eO c_)) (M6 g j):=by
 refine IV (n:=2) (b:=NU W) (p:=KA g j) (B:=λ_=>[]) ?_;show VS [.z ((Gc W) g),.v (dl j)] _ _ _ _;unfold NU KA;exact(DV (Cv (MU (Ds rfl) (GB (AO rfl) (GB (Ck rfl) DW))) (λl=>Vj W l.1 l.2.1 l.2.2.1) (λ_=>rfl) Hi))
def Ng(j:(Nat×List ZPi))(g:ZLi):Option (Fw Bool Unit):=
 (if (decide ((0:Int) < (g.length:Int)))=true then(M6 j g).bind λl=>some l.isNone else some false).bind λm=>some (.rt m)
def Ni(g:(Nat×List ZPi))(j:ZLi):Option Bool:=KW (Ng g j)
theorem bu(W:Wd)(j:(Nat×List ZPi))(l:ZLi):VF (QM W) [.z ((Gc W) j),.v (dl l)] (rV D.bl) (Ni j l):=by
 refine IV (n:=2) (b:=QQ W) (p:=Ng j l) (B:=λ_=>[]) ?_;show VS [.z ((Gc W) j),.v (dl l)] _ _ _ _;unfold QQ Ng;exact(DV (lI (fk (Jw (AO rfl)) (Ck rfl)) (qE nH (Cv (MU (Ds rfl) (GB (AO rfl) DW)) (λg=>W7 W g.1 g.2.1) (λ_=>rfl) Hi))))
def J9(o:(Nat×List ZPi))(m:ZLi)(j:ZLi):Option (Fw Bool Unit):=
 BZ (if (!(!j.isEmpty))=true then(Ni o m).bind λL=>some (.rt L)else some (.nx ())) λ_=>BZ (((((Ff j (λJ=>some true) (λJ=>some (decide (J∈m)))).bind λN=>some (N.all id)).bind λO=>some (!O)).bind λs=>if s=true then some true else some (decide ((j.length:Int)=(m.length:Int)))).bind λP=>if P=true then some (.rt false)else some (.nx ())) λ_=>BZ ((((((JA o j).bind λQ=>some (Q,())).bind λA=>Ll A.1).bind λB=>some (B.length:Int)).bind λR=>some (decide ((1:Int) < R))).bind λC=>if C=true then some (.rt false)else some (.nx ())) λ_=>((Ff m (λg=>some true) (λg=>if (decide (g∈j))=true then some true else((M5 o g).bind λE=>Ff E (λl=>some true) (λl=>some (decide (l∈j)))).bind λG=>some (G.any id))).bind λH=>some (H.all id)).bind λI=>some (.rt I)
def IW(g:(Nat×List ZPi))(j:ZLi)(l:ZLi):Option Bool:=KW (J9 g j l)
theorem W6(W:Wd)(l:(Nat×List ZPi))(m:ZLi)(o:ZLi):VF (KI W) [.z ((Gc W) l),.v (dl m),.v (dl o)] (rV D.bl) (IW l m o):=by
 refine IV (n:=3) (b:=NT W) (p:=J9 l m o) (B:=λ_=>[]) ?_;show VS [.z ((Gc W) l),.v (dl m),.v (dl o)] _ _ _ _;unfold NT J9;exact(A8 (Gh (Py (lJ (AO rfl))) (DV (Cv (MU (Ds rfl) (GB (AO rfl) DW)) (λE=>bu W E.1 E.2.1) (λ_=>rfl) Hi)) (E6 (.refl _))) (λ_=>(A8 (Gh (UT (Py (E8 (ft (LS (E7 (Dg (G9 (VI.k (LV (AO rfl))) (λG=>Nf) (λG=>(Px B7 (AO rfl) (AO rfl)))))))))) (E8 (JW B7 FK (Jw (AO rfl)) (Jw (AO rfl))))) (DV (Ck rfl)) (E6 (.refl _))) (λ_=>(A8 (Gh (E8 (fk (Jx (E7 (Cv (MU (E7 (Cv (MU (Ds rfl) (GB (AO rfl) DW)) (λg=>Vi W g.1 g.2.1) (λ_=>rfl) Uh)) DW) (λs=>Yr W s.1) (λ_=>rfl) Uh))) (Ck rfl))) (DV (Ck rfl)) (E6 (.refl _))) (λ_=>(DV (ft (LS (E7 (Dg (G9 (VI.k (LV (AO rfl))) (λA=>Nf) (λA=>(qD (Px B7 (AO rfl) (AO rfl)) (qI (LS (E7 (Dg (G9 (VI.k (LV (Cv (MU (Ds rfl) (GB (AO rfl) DW)) (λj=>fw W j.1 j.2.1) (λ_=>rfl) Hi))) (λC=>Nf) (λC=>(Px B7 (AO rfl) (AO rfl))))))))))))))))))))))
def KC(g:ZLi)(j:Int):Option (Fw Int Unit):=
 BZ (if (decide (j < (g.length:Int)))=true then((atI g j).bind λl=>(cQ (10:Int) (60:Int)).bind λm=>SQ l m).bind λo=>some (.rt o)else some (.nx ())) λ_=>some (.rt (0:Int))
def Fc(g:ZLi)(j:Int):Option Int:=KW (KC g j)
theorem Jy(W:Wd)(g:ZLi)(j:Int):VF (Gs W) [.v (eF g),.v (D.int j)] (rV D.int) (Fc g j):=by
 refine IV (n:=2) (b:=NW W) (p:=KC g j) (B:=λ_=>[]) ?_;show VS [.v (eF g),.v (D.int j)] _ _ _ _;unfold NW KC;exact(A8 (Gh (E8 (fh (AO rfl) (Vf (AO rfl)))) (DV (Mp (fj (AO rfl) (AO rfl)) (fc (Ck rfl) (Ck rfl)))) (E6 (.refl _))) (λ_=>(DV (Ck rfl))))
def Iz(o:Int)(l:Int):Option (Fw Int Unit):=
 BZ (some (.nx ((((o % 2147483647)+l) * 48271) % 2147483647))) λm=>BZ (((ZI m m).bind λs=>some (s % 2147483629)).bind λA=>some (.nx A)) λB=>((((ZI (7919:Int) l).bind λC=>some (B+C)).bind λg=>some (g * 69621)).bind λj=>some (j % 2147483629)).bind λE=>some (.rt E)
def HH(g:Int)(j:Int):Option Int:=KW (Iz g j)
theorem Oz(W:Wd)(g:Int)(j:Int):VF (JI W) [.v (D.int g),.v (D.int j)] (rV D.int) (HH g j):=by
 refine IV (n:=3) (b:=MF W) (p:=Iz g j) (B:=λ_=>[]) ?_;show VS [.v (D.int g),.v (D.int j),.u] _ _ _ _;unfold MF Iz;exact(A8 (DJ (Fu rfl (Z9 rfl (Er (Fu rfl (AO rfl)) (AO rfl))))) (λl=>(A8 (DJ (Fu rfl (Vd (AO rfl) (AO rfl)))) (λm=>(DV (Fu rfl (Z9 rfl (Er (AO rfl) (Vd (Ck rfl) (AO rfl))))))))))
def Iy(o:Int)(s:Int):Option (Fw ZLi Unit):=
 BZ (((some []).bind Kd).bind λA=>some (.nx A)) λB=>BZ (((some s).bind P6).bind λg=>Ey g B λ(C:ZLi) j=>Ej (λE=>E) ((((HH o ((7000:Int)+j)).bind λG=>some (G / 8)).bind λH=>SQ H (j+(1:Int))).bind λl=>(nU C l j).bind λI=>some (.nx I))) λm=>some (.rt m)
def JD(g:Int)(j:Int):Option ZLi:=KW (Iy g j)
theorem Vl(W:Wd)(g:Int)(j:Int):VF (Ly W) [.v (D.int g),.v (D.int j)] (rN b_) (JD g j):=by
 refine IV (n:=4) (b:=MD W) (p:=Iy g j) (B:=λ_=>[]) ?_;show VS [.v (D.int g),.v (D.int j),.u,.u] _ _ _ _;unfold MD Iy;exact(A8 (G7 (Dg (G8 Gj))) (λo=>(A8 (JU (s0:=o) (B:=(λ(m:ZLi)=>[.v (D.int g),.v (D.int j),.w 2 (b_ m),.u])) (JM (AO rfl)) G6 (.refl _) (λA C=>(DE (pz rfl (Mp (GY rfl (Cv (GB (AO rfl) (GB (Er (Ck rfl) (AO rfl)) DW)) (λl=>Oz W l.1 l.2.1) (λ_=>rfl) Hi)) (Er (AO rfl) (Ck rfl))) (AO rfl) rfl) (λE=>(.same (.same (.same (.drop .nil)))))))) (λs=>(VX rfl)))))
def KB(H:(List ZPi))(l:Int)(I:ZLi):Option (Fw (List ZPi) Unit):=
 BZ (some (.nx H)) λJ=>BZ (Ey I J λ(m:(List ZPi)) E=>BZ ((SQ E l).bind λL=>some (.nx L)) λg=>BZ (((a7 E l).bind λN=>SQ N l).bind λO=>some (.nx O)) λj=>BZ (some (.nx ((if j < g then j else g),(if j > g then j else g)))) λG=>Ej (λo=>o) ((if (!decide (g=j))=true then some (!inG G m)else some false).bind λs=>if s=true then Ej (λA=>A) ((YB m G).bind λB=>some (.nx B))else some (.nx m))) λC=>some (.rt (Qg C))
def KD(g:(List ZPi))(j:Int)(l:ZLi):Option (List ZPi):=KW (KB g j l)
theorem W8(W:Wd)(g:(List ZPi))(j:Int)(l:ZLi):VF (NK W) [.z (a_ g),.v (D.int j),.z (b_ l)] (rN a_) (KD g j l):=by
 refine IV (n:=8) (b:=NV W) (p:=KB g j l) (B:=λ_=>[]) ?_;show VS [.z (a_ g),.v (D.int j),.z (b_ l),.u,.u,.u,.u,.u] _ _ _ _;unfold NV KB;exact(A8 (G7 (Dg (RJ (LS (Ds rfl))))) (λs=>(A8 (JU (s0:=s) (B:=(λ(m:(List ZPi))=>[.z (a_ g),.v (D.int j),.z (b_ l),.w 3 (a_ m),.u,.u,.u,.u])) (Va rfl) G6 (.refl _) (λL A=>(A8 (DJ (Mp (AO rfl) (AO rfl))) (λC=>(A8 (DJ (Mp (lG (AO rfl) (AO rfl)) (AO rfl))) (λE=>(A8 (DJ (II (Ve (AO rfl) (AO rfl)) (lD (AO rfl) (AO rfl)))) (λG=>(DE (MN (B:=(λ(o:(List ZPi))=>[.z (a_ g),.v (D.int j),.z (b_ l),.w 3 (a_ o),.v (D.int A),.v (D.int C),.v (D.int E),.v (c_ G)])) (Rv (E8 (Z8 B7 FK (AO rfl) (AO rfl))) (E8 (Vc (Xz B7 B7) (AO rfl) (DF rfl)))) (DE (VZ rfl (AO rfl) rfl) (λH=>(.refl _))) (E6 (.refl _))) (λI=>(.same (.same (.same (.same (.drop (.drop (.drop (.drop .nil)))))))))))))))))) (λJ=>(VY (W3 (DF rfl)))))))
def HE(B:(List ZLi))(l:ZLi):Option (Fw Bool Unit):=
 BZ ((((atI l (0:Int)).bind λC=>some (C :: [])).bind Kd).bind λE=>some (.nx E)) λG=>BZ (some (.nx (0:Int))) λH=>BZ (whF (λ(g:ZLi×Int)=>some (decide (g.2 < (g.1.length:Int)))) (λ(g:ZLi×Int)=>BZ ((((atI g.1 g.2).bind λI=>atI B I).bind λm=>Ff m (λj=>if (decide (j∈l))=true then some (!decide (j∈g.1))else some false) (λj=>some j)).bind λJ=>(Js g.1 J).bind λo=>some (.nx o)) λs=>Ej (λL=>(s,L)) (some (.nx (g.2+(1:Int))))) wN (G,H)) λA=>some (.rt (decide ((A.1.length:Int)=(l.length:Int))))
def HG(g:(List ZLi))(j:ZLi):Option Bool:=KW (HE g j)
theorem Rz(W:Wd)(g:(List ZLi))(j:ZLi):VF (Jh W) [.q (Nst D.int g),.v (dl j)] (rV D.bl) (HG g j):=by
 refine IV (n:=4) (b:=Jk W) (p:=HE g j) (B:=λ_=>[]) ?_;show VS [.q (Nst D.int g),.v (dl j),.u,.u] _ _ _ _;unfold Jk HE;exact(A8 (G7 (Dg (G8 (LU (Ru (AO rfl) (Ck rfl)) Gj)))) (λm=>(A8 (DJ (Ck rfl)) (λo=>(A8 (fS (s0:=(m,o)) (B:=(λ(l:ZLi×Int)=>[.q (Nst D.int g),.v (dl j),.w 2 (b_ l.1),.v (D.int l.2)])) (.refl _) (λs=>(E8 (fh (AO rfl) (Jx (DF rfl))))) (λs=>(A8 (fU rfl (Dg (G9 (VI.k (fZ rfl (KO (DF rfl) (AO rfl)))) (λA=>(Rv (E8 (Px B7 (AO rfl) (AO rfl))) (E8 (Vc B7 (AO rfl) (DF rfl))))) (λA=>(AO rfl)))) rfl) (λC=>(DE (DJ (Er (AO rfl) (Ck rfl))) (λG=>(.refl _))))))) (λE=>(DV (JW B7 FK (Jx (DF rfl)) (Jw (AO rfl))))))))))
def Fy(A:(List ZLi))(g:ZLi)(m:ZLi):Option (Fw Bool Unit):=
 BZ ((if (decide ((g.length:Int)=(0:Int)))=true then some true else((atI g (0:Int)).bind λO=>some (decide (O < (0:Int)))).bind λB=>if B=true then some true else(atI g (-(1:Int))).bind λP=>some (decide ((A.length:Int)<=P))).bind λQ=>if Q=true then some (.rt false)else some (.nx ())) λ_=>BZ (if (decide ((m.length:Int)=(0:Int)))=true then BZ (Ey g () λ(_:Unit) N=>Ej (λ_=>()) (Ey g () λ(_:Unit) o=>Ej (λ_=>()) ((if (!decide (N=o))=true then(atI A N).bind λR=>some (!decide (o∈R))else some false).bind λS=>if S=true then some (.rt false)else some (.nx ())))) λ_=>some (.rt true)else some (.nx ())) λ_=>BZ ((Ff m (λj=>some (!decide (j∈g))) (λj=>some j)).bind λT=>some (.nx T)) λC=>BZ ((if (decide ((g.length:Int)<=(m.length:Int)))=true then some true else if (decide ((0:Int) < (C.length:Int)))=true then some true else(HG A m).bind λE=>some (!E)).bind λG=>if G=true then some (.rt false)else some (.nx ())) λ_=>BZ (Ey g () λ(_:Unit) s=>Ej (λ_=>()) ((if (!decide (s∈m))=true then(((atI A s).bind λH=>Ff H (λl=>some (decide (l∈m))) (λl=>some l)).bind λI=>some (I.length:Int)).bind λJ=>some (decide (J=(0:Int)))else some false).bind λL=>if L=true then some (.rt false)else some (.nx ()))) λ_=>some (.rt true)
def F0(g:(List ZLi))(j:ZLi)(l:ZLi):Option Bool:=KW (Fy g j l)
theorem Pz(W:Wd)(j:(List ZLi))(l:ZLi)(m:ZLi):VF (IA W) [.q (Nst D.int j),.v (dl l),.v (dl m)] (rV D.bl) (F0 j l m):=by
 refine IV (n:=7) (b:=IB W) (p:=Fy j l m) (B:=λ_=>[]) ?_;show VS [.q (Nst D.int j),.v (dl l),.v (dl m),.u,.u,.u,.u] _ _ _ _;unfold IB Fy;exact(A8 (Gh (UT (E8 (JW B7 FK (Jw (AO rfl)) (Ck rfl))) (UT (E8 (fh (Ru (AO rfl) (Ck rfl)) (Ck rfl))) (E8 (ou (Ru (AO rfl) (Yp (Ck rfl))) (Z6 rfl))))) (DV (Ck rfl)) (E6 (.refl _))) (λ_=>(A8 (Gh (E8 (JW B7 FK (Jw (AO rfl)) (Ck rfl))) (A8 (Nc (LV (AO rfl)) G6 (λG=>(DE (Nc (LV (AO rfl)) G6 (λA=>(DE (Gh (Rv (E8 (Z8 B7 FK (AO rfl) (AO rfl))) (E8 (Vc B7 (AO rfl) (qC rfl (AO rfl))))) (DV (Ck rfl)) (E6 (.refl _))) (λ_=>(.same (.same (.same (.same (.drop (.same (.same .nil))))))))))) (λ_=>(.same (.same (.same (.drop (.same (.same (.same .nil))))))))))) (λ_=>(DV (Ck rfl)))) (E6 (.refl _))) (λ_=>(A8 (Ju (Dg (G9 (VI.k (LV (AO rfl))) (λo=>(E8 (Z7 B7 (AO rfl) (AO rfl)))) (λo=>(AO rfl))))) (λC=>(A8 (Gh (UT (E8 (ou (Jw (AO rfl)) (Jw (AO rfl)))) (UT (E8 (fk (Jx (EU rfl)) (Ck rfl))) (Py (Yq (Cv (qJ rfl (GB (AO rfl) DW)) (λg=>Rz W g.1 g.2.1) (λ_=>rfl) Hi))))) (DV (Ck rfl)) (E6 (.refl _))) (λ_=>(A8 (Nc (LV (AO rfl)) G6 (λE=>(DE (Gh (Rv (E8 (Z7 B7 (AO rfl) (AO rfl))) (E8 (JW B7 FK (Jx (E7 (Dg (G9 (VI.k (fZ rfl (AO rfl))) (λs=>(E8 (Px B7 (AO rfl) (AO rfl)))) (λs=>(AO rfl)))))) (Ck rfl)))) (DV (Ck rfl)) (E6 (.refl _))) (λ_=>(.same (.same (.same (.same (.same (.same (.drop .nil))))))))))) (λ_=>(DV (Ck rfl))))))))))))
def En(o:(List ZLi))(s:(List (ZLi×ZLi))):Option (Fw Bool Unit):=
 BZ (((some []).bind Kd).bind λA=>some (.nx A)) λB=>BZ (Ey s B λ(C:ZLi) g=>BZ (((F0 o g.1 g.2).bind λE=>some (!E)).bind λG=>if G=true then some (.rt false)else some (.nx ())) λ_=>Ej (λj=>j) ((Js C g.1).bind λl=>some (.nx l))) λm=>(((some (o.length:Int)).bind P6).bind λH=>some (decide ((CF m)=H))).bind λI=>some (.rt I)
def Dl(g:(List ZLi))(j:(List (ZLi×ZLi))):Option Bool:=KW (En g j)
theorem Ny(W:Wd)(j:(List ZLi))(l:(List (ZLi×ZLi))):VF (GK W) [.q (Nst D.int j),.z (ad l)] (rV D.bl) (Dl j l):=by
 refine IV (n:=5) (b:=GM W) (p:=En j l) (B:=λ_=>[]) ?_;show VS [.q (Nst D.int j),.z (ad l),.u,.u,.u] _ _ _ _;unfold GM En;exact(A8 (G7 (Dg (G8 Gj))) (λo=>(A8 (JU (s0:=o) (B:=(λ(m:ZLi)=>[.q (Nst D.int j),.z (ad l),.w 2 (b_ m),.u,.u])) (Va rfl) Ow (.refl _) (λC E=>(A8 (Gh (Py (Yq (Cv (qJ rfl (GB (AO rfl) (GB (AO rfl) DW))) (λg=>Pz W g.1 g.2.1 g.2.2.1) (λ_=>rfl) Hi))) (DV (Ck rfl)) (E6 (.refl _))) (λ_=>(DE (Z2 rfl (AO rfl) rfl) (λs=>(.same (.same (.same (.drop (.drop .nil))))))))))) (λA=>(DV (qH B7 (E7 (Ox (DF rfl))) (E7 (Dg (UQ (Z6 rfl))))))))))
def Ix(g:ZLi):Option (Fw ZLi Unit):=
 BZ (((((some (g.length:Int)).bind λC=>some (if (12:Int) < C then(12:Int)else C)).bind P6).bind λG=>Ff G (λH=>some true) (λH=>some (0:Int))).bind λI=>some (.nx I)) λJ=>BZ (((some (g.length:Int)).bind P6).bind λj=>Ey j J λ(E:ZLi) l=>Ej (λL=>L) (((atI E (l % 12)).bind λm=>(atI g l).bind λo=>some (m+o)).bind λs=>(Ua E (l % 12) s).bind λA=>some (.nx A))) λB=>some (.rt B)
def JC(g:ZLi):Option ZLi:=KW (Ix g)
theorem Vk(W:Wd)(g:ZLi):VF (Lx W) [.v (eF g)] (rN b_) (JC g):=by
 refine IV (n:=3) (b:=MC W) (p:=Ix g) (B:=λ_=>[]) ?_;show VS [.v (eF g),.u,.u] _ _ _ _;unfold MC Ix;exact(A8 (G7 (Dg (G9 (VI.k (JM (Ve (Vf (AO rfl)) (Ck rfl)))) (λl=>Nf) (λl=>(Ck rfl))))) (λm=>(A8 (JU (s0:=m) (B:=(λ(j:ZLi)=>[.v (eF g),.w 1 (b_ j),.u])) (JM (Vf (AO rfl))) G6 (.refl _) (λs A=>(DE (Z1 rfl (Fu rfl (AO rfl)) (Er (KO (DF rfl) (Fu rfl (AO rfl))) (fj (AO rfl) (AO rfl))) rfl) (λC=>(.same (.same (.drop .nil))))))) (λo=>(VX rfl)))))
def Dz(Q:Int)(R:Int)(j:ZLi)(m:Int)(S:(List ZPi)):Option (Fw Unit (List ZPi)):=
 Ej (λo=>o) ((lr (1:Int) (j.length:Int)).bind λs=>Ey s S λ(O:(List ZPi)) g=>Ej (λA=>A) (if (decide (m=(0:Int)))=true then Ej (λT=>T) ((((some g).bind P6).bind λB=>Ff B (λP=>some true) (λP=>(atI j P).bind λU=>(atI j g).bind λC=>some (U,C))).bind λX=>(Js O X).bind λE=>some (.nx E))else BZ ((((((((ZI (64:Int) g).bind λY=>some (R+Y)).bind λZ=>some (Z,())).bind λΘ=>some (Q,Θ)).bind λl=>HH l.1 l.2.1).bind λzv=>some (zv / 8)).bind λzt=>SQ zt (if m < g then m else g)).bind λG=>some (.nx G)) λzL=>Ej (λH=>H) (((atI j zL).bind λI=>(atI j g).bind λJ=>some (I,J)).bind λL=>(YB O L).bind λN=>some (.nx N))))
theorem R1(W:Wd)(g:Int)(j:Int)(l:ZLi)(m:Int)(s:(List ZPi)):VS [.v (D.int g),.v (D.int j),.z (b_ l),.v (D.int m),.w 4 (a_ s),.u,.u] (IQ W) (rV eU) (Dz g j l m s) (λ(A:(List ZPi))=>[.v (D.int g),.v (D.int j),.z (b_ l),.v (D.int m),.w 4 (a_ A),.u,.u]):=by
 unfold IQ Dz;exact(DE (JU (s0:=s) (B:=(λ(C:(List ZPi))=>[.v (D.int g),.v (D.int j),.z (b_ l),.v (D.int m),.w 4 (a_ C),.u,.u])) (bq (Ck rfl) (Jx (Ds rfl))) G6 (.refl _) (λN G=>(DE (MN (B:=(λ(E:(List ZPi))=>[.v (D.int g),.v (D.int j),.z (b_ l),.v (D.int m),.w 4 (a_ E),.v (D.int G),.u])) (E8 (JW B7 FK (AO rfl) (Ck rfl))) (DE (fU rfl (Dg (G9 (VI.k (JM (AO rfl))) (λH=>Nf) (λH=>(II (KO (Ds rfl) (AO rfl)) (KO (Ds rfl) (AO rfl)))))) rfl) (λO=>(.refl _))) (A8 (DJ (Mp (GY rfl (Cv (GB (AO rfl) (GB (Er (AO rfl) (Vd (Ck rfl) (AO rfl))) DW)) (λo=>Oz W o.1 o.2.1) (λ_=>rfl) Hi)) (Ve (AO rfl) (AO rfl)))) (λP=>(DE (VZ rfl (II (KO (Ds rfl) (AO rfl)) (KO (Ds rfl) (AO rfl))) rfl) (λI=>(.same (.same (.same (.same (.same (.same (.drop .nil)))))))))))) (λJ=>(.same (.same (.same (.same (.same (.drop (.same .nil))))))))))) (λL=>(.refl _)))
def iS{β:Type}(p:Option (Fw Unit β)):Option β:=match p with
 | some (.nx s)=>some s
 | _=>none
theorem Y1(W:Wd):Sty 4 (IQ W):=lV (by decide) (qd XC (lU (lT (by decide)) XC))
theorem gh{S:Sto}{n:Nat}{o:Ob}(h:S[n]?=some o):S.set n o=S:=by
 obtain⟨g,j⟩:=AC.mp h;rw[<-j];exact List.set_getElem_self g
theorem Zc(W:Wd){c s i:Int}{I:ZLi}{l R:List ZPi}{S:Sto}{E n:Nat}(hp:S[E]?=some (oL D.int I))(N:S[n]?=some (oL c_ l))(ne:E≠n)(h:iS (Dz c s I i l)=some R) :
  ∃G,IP W [.int c,.int s,.ref E,.int i,.ref n] S=.ok .non G/\Keeps S (G.set n (oL c_ l))/\G[n]?=some (oL c_ R):=by
 have T:=C4 N
 cases H:Dz c s I i l with
 | none=>rw[H]at h;cases h
 | some f=>
  cases f with
  | rt r=>rw[H]at h;cases h
  | bk r=>rw[H]at h;cases h
  | ct r=>rw[H]at h;cases h
  | nx r=>
   rw[H]at h;cases h
   let F:Fz:=λk=>if k=n then .ow 4 else match S[k]? with
    | some o=>.fz o
    | none=>.no
   have J:∀k,k≠n->∀o,S[k]?=some o->F k=.fz o:=λk C o ho=>by
    show(if k=n then Cel.ow 4 else _)=_;rw[qY C,ho]
   have L:∀k,k≠n->S[k]?=none->F k=.no:=λk C B=>by
    show(if k=n then Cel.ow 4 else _)=_;rw[qY C,B]
   have U:F n=.ow 4:=qX rfl
   have st:Vs [] [.v (D.int c),.v (D.int s),.z (b_ I),.v (D.int i),.w 4 (a_ l),.u,.u] (HB 7 [.int c,.int s,.ref E,.int i,.ref n]) F S:=by
    refine⟨⟨Ce _,λk C=>zX C (Dr _)⟩,λk o q=>?_,λk j q=>?_,λk C=>?_,λj a A=>?_⟩
    ·by_cases e:k=n
     ·subst e;rw[U]at q;cases q
     ·cases B:S[k]? with
      | none=>rw[L k e B]at q;cases q
      | some O=>rw[J k e O B]at q;cases q;rfl
    ·by_cases e:k=n
     ·subst e;exact⟨Ce _,T⟩
     ·cases B:S[k]? with
      | none=>rw[L k e B]at q;cases q
      | some O=>rw[J k e O B]at q;cases q
    ·have e:k≠n:=λc=>by subst c;exact zX T (G5.mpr C)
     show(if k=n then Cel.ow 4 else _)=_;rw[qY e,CA C]
    ·match j,A with
     | 0,A=>cases A;exact⟨_,rfl,rfl⟩
     | 1,A=>cases A;exact⟨_,rfl,rfl⟩
     | 2,A=>cases A;exact⟨_,rfl,E,rfl,J E ne _ hp⟩
     | 3,A=>cases A;exact⟨_,rfl,rfl⟩
     | 4,A=>cases A;exact⟨_,rfl,n,rfl,U,N⟩
     | 5,A=>cases A;exact⟨_,rfl,trivial⟩
     | 6,A=>cases A;exact⟨_,rfl,trivial⟩
     | k+7,A=>simp at A
   obtain⟨g,G,X,e',F',rfl,P,Y⟩:=R1 W c s I i l _ H _ _ _ _ st;have Z:=Y1 W _ _ _ _ X _ rfl;obtain⟨x,hx,m,rfl,hm,Q⟩:=P.sl 4 _ rfl;rw[hx]at Z;cases Z;refine⟨G,L2.SB X,⟨?_,λk C=>?_⟩,Q⟩
   ·rw[Do]
    refine MR λwb=>?_
    by_cases e:G.length=n
    ·have:=C4 Q;lia
    ·have B:=Aj wb
     have:=P.fz _ _ (Y _ _ (J _ e _ B));have:=C4 this
     lia
   ·by_cases e:k=n
    ·subst e
     rw[BL (C4 Q),N]
    ·rw[Az (CK e)]
     have B:=Aj C;rw[B];exact P.fz _ _ (Y _ _ (J k e _ B))
theorem bp(W:Wd){ρ:Type}{R:Rk ρ}{A:List Sl}{J m2 L:ME}{N O P:Option Int}{i j:Nat}{Q:ZLi}{l:List ZPi}(h1:VE A J (rV D.int) N)(h2:VE A m2 (rV D.int) O)(hj:A[j]?=some (.y (oL D.int Q)))(h4:VE A L (rV D.int) P)(hi:A[i]?=some (.w i (oL c_ l)))(ht:((A.set i .u).all (Sl.oth i))=true) :
  VS A (C2 (Cd 5 (IP W) (AX J (AX m2 (AX (AH j) (AX L (AX (AH i) BR))))))) R (N.bind λB=>O.bind λC=>P.bind λE=>(iS (Dz B C Q E l)).bind λm=>some (.nx m)) (λm=>A.set i (.w i (oL c_ m))):=λf g G e F S o=>by
 obtain⟨B,a1,g⟩:=A6 g;obtain⟨C,a2,g⟩:=A6 g;obtain⟨E,a4,g⟩:=A6 g;obtain⟨m,a5,g⟩:=A6 g;cases g;obtain⟨d1,S1,c1,H,rfl⟩:=h1 B a1 G e F S o;obtain⟨d2,S2,c2,T,rfl⟩:=h2 C a2 G e _ S1 (o.grow H);obtain⟨d4,U,c4,k4,rfl⟩:=h4 E a4 G e _ S2 ((o.grow H).grow T);have kk:=(H.trans T).trans k4;have s:=o.grow kk;obtain⟨y,g1,X,rfl,Y,g3⟩:=s.sl j _ hj;obtain⟨z,Z,n,rfl,I,w3⟩:=s.sl i _ hi
 have ne:X≠n:=λc=>by subst c;rw[Y]at I;cases I
 obtain⟨S',r1,r2,r3⟩:=Zc W (s.fz _ _ Y) w3 ne a5;have hb:=s.grow r2;have hp:=hb.put (o':=oL c_ m) ht hi Z (by rw[Ev (C4 w3)];exact I);rw[List.set_set,gh r3]at hp;exact⟨_,S',Gf ((JK (ds:=[.int B,.int C,.ref X,.int E,.ref n]) (S1:=U) (CU c1 (CU c2 (CU (Rw g1) (CU c4 (CU (Rw Z) rfl))))) rfl).trans r1),e,_,rfl,hp,(o.fle U).trans (s.fle _)⟩
def Exs(C:AW)(b j:MS):Prop:=∀e S f g,j e S=.ok f g->match f with
 | .rt _=>∃l,b e S=.ok (.ex C l) g
 | f=>b e S=.ok f g
section
variable{C:AW}{a a2 b b2:MS}
theorem Xy{s:Str}:Exs C (P5 C (AX (mC (.str s)) BR)) (Dt (mC .non)):=λe S f g h=>by
 cases h;exact⟨e,gy rfl (by simp)⟩
theorem sr{i:Nat}{m:ME}:Exs C (Bn i m) (Bn i m):=λe S f o h=>by
 cases j:m e S with
 | ok d l=>have g:=h;unfold Bn Lh at g;rw[j]at g;cases g;exact h
 | err c l=>have g:=h;unfold Bn Lh at g;rw[j]at g;cases g;exact h
 | bad=>unfold Bn Lh at h;rw[j]at h;cases h
theorem nv{m:ME}:Exs C (C2 m) (C2 m):=λe S f o h=>by
 cases j:m e S with
 | ok d l=>have g:=h;unfold C2 at g;rw[j]at g;cases g;exact h
 | err c l=>have g:=h;unfold C2 at g;rw[j]at g;cases g;exact h
 | bad=>unfold C2 at h;rw[j]at h;cases h
theorem pJ:Exs C sNx sNx:=λe S f g h=>by cases h;rfl
theorem ZY(o:Exs C a a2)(hb:Exs C b b2):Exs C (BF a b) (BF a2 b2):=λe S f s h=>by
 unfold BF at h
 cases l:a2 e S with
 | ok m S1=>
  rw[l]at h;have g:=o e S m S1 l
  cases m with
  | nx j=>
   have A:=hb j S1 f s h;have B:BF a b e S=b j S1:=Ch g;rw[B];exact A
  | rt d=>cases h;obtain⟨E,G⟩:=g;exact⟨E,gq G⟩
  | bk j=>cases h;show BF a b e S=_;unfold BF;rw[show a e S=_ from g];rfl
  | ct j=>cases h;show BF a b e S=_;unfold BF;rw[show a e S=_ from g];rfl
  | ex c j=>cases h;exact gq g
 | err c S1=>rw[l]at h;cases h
 | bad=>rw[l]at h;cases h
theorem pK{t:MT}(l:Exs C a a2)(hb:Exs C b b2):Exs C (sIf t a b) (sIf t a2 b2):=λe S f j h=>by
 unfold sIf at h
 cases g:t e S with
 | ok c S1=>
  rw[g]at h
  have m:sIf t a b e S=if c=true then a e S1 else b e S1:=Qo g
  rw[m]
  cases c with
  | true=>exact l e S1 f j h
  | false=>exact hb e S1 f j h
 | err c S1=>rw[g]at h;cases h;show sIf t a b e S=_;unfold sIf;rw[g];rfl
 | bad=>rw[g]at h;cases h
theorem nu{v:N1}{g:MG}(hb:Exs C b b2):∀(k n:Nat) (e:Lo) (S:Sto) (f:Fl) (S':Sto),HP v g b2 k n e S=.ok f S'->match f with
 | .rt _=>∃A,HP v g b k n e S=.ok (.ex C A) S'
 | f=>HP v g b k n e S=.ok f S':=λk=>by
 induction k with
 | zero=>
  intro n e S f S' h;unfold HP at h ⊢
  cases l:v S with
  | none=>rw[l]at h;cases h
  | some B=>
   rw[l]at h;dsimp only at h ⊢
   cases hd:B[n]? with
   | none=>rw[hd]at h;cases h;rfl
   | some d=>rw[hd]at h;cases h
 | succ k H=>
  intro n e S f S' h;unfold HP at h ⊢
  cases l:v S with
  | none=>rw[l]at h;cases h
  | some B=>
   rw[l]at h;dsimp only at h ⊢
   cases hd:B[n]? with
   | none=>rw[hd]at h;cases h;rfl
   | some d=>
    rw[hd]at h;dsimp only at h ⊢
    cases E:g d e S with
    | ok m j=>
     rw[E]at h;dsimp only[Res.bind]at h ⊢
     cases s:b2 m j with
     | ok I J=>
      rw[s]at h;have o:=hb _ _ _ _ s
      cases I with
      | nx G=>rw[show b m j=_ from o];exact H _ _ _ _ _ h
      | ct G=>rw[show b m j=_ from o];exact H _ _ _ _ _ h
      | rt d=>cases h;obtain⟨A,L⟩:=o;exact⟨A,by rw[L]⟩
      | bk G=>cases h;rw[show b m j=_ from o]
      | ex c G=>cases h;rw[show b m j=_ from o]
     | err c J=>rw[s]at h;cases h
     | bad=>rw[s]at h;cases h
    | err c j=>rw[E]at h;cases h
    | bad=>rw[E]at h;cases h
theorem ji{mi:MI}{g:MG}(hb:Exs C b b2):Exs C (Ex mi g b) (Ex mi g b2):=λe S f m h=>by
 unfold Ex at h
 cases j:mi e S with
 | ok v S1=>
  rw[j]at h;have l:Ex mi g b e S=HP v g b (DR v S1) 0 e S1:=NH j;rw[l];exact nu hb _ _ _ _ _ _ h
 | err c S1=>rw[j]at h;cases h;show Ex mi g b e S=_;unfold Ex;rw[j];rfl
 | bad=>rw[j]at h;cases h
end
def QP(W:Wd):MS:=
  (BF (Bn 2 (D4 (Dv BR)))
  (BF (Ex (Ek (AH 1)) (E9 2 (Bo (tgN 3) (Bo (tgN 4) FN)))
  (C2 (SS (AH 2) (AH 3))))
  (BF (sIf (mB (m2 (eqD true) (DM (AH 2)) (D4 (Nm (AX (Lr W.Web "places" (AH 0)) BR))))) (Dt (mC .non)) sNx)
  (Ex (Ek (AH 1)) (E9 2 (Bo (tgN 3) (Bo (tgN 4) FN)))
  (sIf (OX (O9 (Cd 3 (KI W) (AX (AH 0) (AX (AH 3) (AX (AH 4) BR)))))) (Dt (mC .non)) sNx)))))
def M4(A:(Nat×List ZPi))(B:(List (ZLi×ZLi))):Option (Fw Unit Unit):=
 BZ (((some []).bind Kd).bind λE=>some (.nx E)) λG=>BZ ((some B).bind λH=>Ey H G λ(I:ZLi) J=>Ej (λL=>L) ((some J.1).bind λN=>(Js I N).bind λO=>some (.nx O))) λP=>BZ ((((some P).bind λg=>some (CF g)).bind λQ=>(((some A).bind λR=>some (R.1:Int)).bind P6).bind λS=>some (!decide (Q=S))).bind λT=>if T=true then some (.rt ())else some (.nx ())) λ_=>Ej (λ_=>()) ((some B).bind λj=>Ey j () λ(_:Unit) C=>Ej (λ_=>()) (((((some A).bind λl=>((some C.1).bind λm=>((some C.2).bind λU=>(some ()).bind λX=>some (U,X)).bind λo=>some (m,o)).bind λY=>some (l,Y)).bind λs=>IW s.1 s.2.1 s.2.2.1).bind λZ=>some (!Z)).bind λΗ=>if Η=true then some (.rt ())else some (.nx ())))
theorem br(W:Wd)(g:(Nat×List ZPi))(j:(List (ZLi×ZLi))):VS [.z ((Gc W) g),.z (ad j),.u,.u,.u] (QP W) (rV eU) (M4 g j) (λ_=>[.z ((Gc W) g),.z (ad j),.u,.u,.u]):=by
 unfold QP M4;exact(A8 (G7 (Dg (G8 Gj))) (λA=>(A8 (JU (s0:=A) (B:=(λ(l:ZLi)=>[.z ((Gc W) g),.z (ad j),.w 2 (b_ l),.u,.u])) (Va rfl) Ow (.refl _) (λC E=>(DE (Z2 rfl (AO rfl) rfl) (λG=>(.same (.same (.same (.drop (.drop .nil))))))))) (λm=>(A8 (MN (B:=(λ(_:Unit)=>[.z ((Gc W) g),.z (ad j),.w 2 (b_ m),.u,.u])) (E8 (fg B7 (E7 (Ox (DF rfl))) (E7 (Dg (UQ (US (Ds rfl))))))) (DV (p:=some ()) (Ck (enc:=eU) (v:=()) rfl)) (E6 (.refl _))) (λ_=>(DE (JU (s0:=()) (B:=(λ(_:Unit)=>[.z ((Gc W) g),.z (ad j),.w 2 (b_ m),.u,.u])) (Va rfl) Ow (.refl _) (λ_ s=>(DE (MN (B:=(λ(_:Unit)=>[.z ((Gc W) g),.z (ad j),.w 2 (b_ m),.v (dl s.1),.v (dl s.2)])) (Py (Yq (Cv (MU (Ds rfl) (GB (AO rfl) (GB (AO rfl) DW))) (λo=>W6 W o.1 o.2.1 o.2.2.1) (λ_=>rfl) Hi))) (DV (p:=some ()) (Ck (enc:=eU) (v:=()) rfl)) (E6 (.refl _))) (λ_=>(.same (.same (.same (.drop (.drop .nil))))))))) (λ_=>(.same (.same (.drop (.same (.same .nil)))))))))))))
theorem dX(W:Wd):Exs W.BadColony (X9 W) (QP W):=ZY sr (ZY (ji nv) (ZY (pK Xy pJ) (ji (pK Xy pJ))))
def Et(w:Nat×List ZPi)(cs:List (ZLi×ZLi)):Option Int:=match M4 w cs with
 | some (.rt _)=>some 2
 | some (.nx _)=>some 1
 | _=>none
theorem Mq(W:Wd)(w:Nat×List ZPi)(cs:List (ZLi×ZLi)):VF (HS W) [.z (Gc W w),.z (oL (eP dl dl) cs)] (rV D.int) (Et w cs):=λv j S ds B=>by
 have st:=Vs.start (n:=5) B
 match ds,B with
 | [d1,d2],⟨⟨q,H,T⟩,⟨c,I,U⟩,_⟩=>
  cases H;cases I;unfold Et at j
  cases m:M4 w cs with
  | none=>rw[m]at j;cases j
  | some f=>
   rw[m]at j;obtain⟨g,S1,J,C⟩:=br W w cs f m S _ _ S st;have l:=dX W _ _ _ _ J;have E:Bn 2 (mC .non) (HB 5 [.ref q,.ref c]) S=oN [sR q,sR c,sN,none,none] S:=rfl;have G:Bn 3 (mC .non) [sR q,sR c,sN,none,none] S=oN [sR q,sR c,sN,sN,none] S:=rfl
   cases f with
   | bk r=>cases j
   | ct r=>cases j
   | nx r=>
    cases j;obtain⟨L,X,rfl,o,_⟩:=C;have s:LB W [.ref q,.ref c] S=.ok .non S1:=L2.SB l;have body:Bn 3 (Cd 2 (LB W) (AX (AH 0) (AX (AH 1) BR))) [sR q,sR c,sN,sN,none] S=oN [sR q,sR c,sN,sN,none] S1:=KP ((JK (ds:=[.ref q,.ref c]) (S1:=S) rfl rfl).trans s);have A:=qP (cs:=W.excs) (i:=4) (h:=Bn 2 (AH 4)) body;refine⟨_,S1,L2.KU (n:=5) (mb:=Fg W) ?_,o.kp,rfl⟩;unfold Fg;refine(Ch E).trans ?_;refine(Ch G).trans ?_;refine(Ch A).trans ?_;exact gm rfl
   | rt r=>
    cases j;obtain⟨d,rfl,_,o⟩:=C;obtain⟨L,l⟩:=l;have s:LB W [.ref q,.ref c] S=.err W.BadColony S1:=qk l;have body:Bn 3 (Cd 2 (LB W) (AX (AH 0) (AX (AH 1) BR))) [sR q,sR c,sN,sN,none] S=.ok (.ex W.BadColony [sR q,sR c,sN,sN,none]) S1:=lh ((JK (ds:=[.ref q,.ref c]) (S1:=S) rfl rfl).trans s);have A:=qQ (i:=4) (h:=Bn 2 (AH 4)) (e2:=[sR q,sR c,some (.exc W.BadColony),sN,some (.exc W.BadColony)]) (S2:=S1) body (show W.BadColony∈W.excs by simp[Wd.excs]) rfl
    have N:HA W W.BadColony=some true:=by simp[HA]
    have O:GZ W W.BadColony=some true:=by simp[GZ]
    have P:CD W W.BadColony=some false:=(qY BY).trans (qX (by simp[Wd.excs]))
    have Q:mOr (OX (mB (L2.mIs isV (GZ W) (AH 2)))) (mB (iu (CD W) (AH 2))) [sR q,sR c,some (.exc W.BadColony),sN,none] S1=.ok false S1:=
     (ZD (WA (b:=true) (TQ (jH rfl O)))).trans (TQ (sL rfl P))
    have R:m2 Q6 (mC (.int 2)) (Xl (L2.mIs isN (HA W) (AH 2))) [sR q,sR c,some (.exc W.BadColony),sN,none] S1=.ok (.int 2) S1:=by
     refine EI (x:=.int 2) (y:=.int 1) (S1:=S1) (S2:=S1) rfl ?_ rfl;unfold Xl;rw[jH rfl N];rfl
    refine⟨_,S1,L2.KU (n:=5) (mb:=Fg W) ?_,o,rfl⟩;unfold Fg;refine(Ch E).trans ?_;refine(Ch G).trans ?_;refine(Ch A).trans ?_;refine(Ch (e1:=[sR q,sR c,some (.exc W.BadColony),sN,none]) rfl).trans ?_;refine(Ch (e1:=[sR q,sR c,some (.exc W.BadColony),sN,none]) ((Qo Q).trans rfl)).trans ?_;exact Li R
def IJ(BE:(List (ZLi×ZLi)))(l:Int)(CM:Int):Option (Fw (List (ZLi×ZLi)) Unit):=
 BZ (some (.nx BE)) λm=>BZ ((SQ l (m.length:Int)).bind λx7=>some (.nx x7)) λU=>BZ ((atI m U).bind λy7=>some (.nx y7)) λg=>BZ ((SQ (l / 600) CM).bind λzu=>some (.nx zu)) λzd=>BZ (some (.nx ((l / 7) % 9))) λj=>BZ (((cQ (10:Int) (40:Int)).bind λzv=>ZI (((l / 1800) % 3) / 2) zv).bind λY=>some (.nx Y)) λze=>BZ (if (decide (j=(1:Int)))=true then Ej (λZ=>Z) (some (.nx (EN g.1 (some (1:Int)) none)))else some (.nx g.1)) λΛ=>BZ (if (decide (j=(2:Int)))=true then Ej (λο=>ο) (((((some (zd :: [])).bind Kd).bind λξ=>Js Λ ξ).bind UZ).bind λx49=>some (.nx x49))else some (.nx Λ)) λX=>BZ (if (decide (j=(3:Int)))=true then Ej (λv55=>v55) (((((some (zd :: [])).bind Kd).bind λx59=>Js g.2 x59).bind UZ).bind λx60=>some (.nx x60))else some (.nx g.2)) λo=>BZ (if (decide (j=(4:Int)))=true then Ej (λv66=>v66) (some (.nx (EN o (some (1:Int)) none)))else some (.nx o)) λs73=>BZ (if (decide (j=(5:Int)))=true then Ej (λς=>ς) (some (.nx X))else some (.nx s73)) λzM=>BZ (if (decide (j=(6:Int)))=true then Ej (λv84=>v84) (((((((((atI X (-(1:Int))).bind λx93=>some (x93+CM)).bind λx97=>some (x97+((l / 600) % 3))).bind λs=>some (s - (1:Int))).bind λA=>some (A+ze)).bind λB=>some (B :: [])).bind Kd).bind λC=>Js (EN X none (some (-(1:Int)))) C).bind λE=>some (.nx E))else some (.nx X)) λzx=>BZ (if (decide (j=(7:Int)))=true then Ej (λG=>G) ((((some (((((l / 600) % 3) - (3:Int)) - ze) :: [])).bind Kd).bind λH=>Js H zx).bind λI=>some (.nx I))else some (.nx zx)) λyB=>BZ (if (decide (j=(8:Int)))=true then((Js (EN m none (some U)) (EN m (some (U+(1:Int))) none)).bind λJ=>((((((some []).bind Kd).bind λL=>((some []).bind Kd).bind λN=>some (L,N)).bind λO=>some (O :: [])).bind Kd).bind λP=>ls P ((l / 600) % 2)).bind λQ=>Js J Q).bind λR=>some (.rt R)else some (.nx ())) λ_=>BZ ((Ua m U (yB,zM)).bind λS=>some (.nx S)) λT=>some (.rt T)
def IL(g:(List (ZLi×ZLi)))(j:Int)(l:Int):Option (List (ZLi×ZLi)):=KW (IJ g j l)
theorem To(W:Wd)(g:(List (ZLi×ZLi)))(j:Int)(l:Int):VF (Ke W) [.z (ad g),.v (D.int j),.v (D.int l)] (rN ad) (IL g j l):=by
 refine IV (n:=10) (b:=Ki W) (p:=IJ g j l) (B:=λ_=>[]) ?_;show VS [.z (ad g),.v (D.int j),.v (D.int l),.u,.u,.u,.u,.u,.u,.u] _ _ _ _;unfold Ki IJ;exact(A8 (G7 (Dg (RJ (LS (Ds rfl))))) (λm=>(A8 (DJ (Mp (AO rfl) (Jx (DF rfl)))) (λo=>(A8 (kx (KO (DF rfl) (AO rfl))) (λE=>(A8 (DJ (Mp (GY rfl (AO rfl)) (AO rfl))) (λs=>(A8 (DJ (Fu rfl (GY rfl (AO rfl)))) (λA=>(A8 (DJ (Vd (GY rfl (Fu rfl (GY rfl (AO rfl)))) (fc (Ck rfl) (Ck rfl)))) (λC=>(A8 (MN (B:=(λ(I:ZLi)=>[.z (ad g),.v (D.int j),.v (D.int l),.w 3 (ad m),.v (D.int o),.v (dl I),.v (dl E.2),.v (D.int s),.v (D.int A),.v (D.int C)])) (E8 (JW B7 FK (AO rfl) (Ck rfl))) (DE (DJ (RK (AO rfl) (IH (Ck rfl)) Jv)) (λS=>(.refl _))) (E6 (.refl _))) (λΛ=>(A8 (MN (B:=(λ(J:ZLi)=>[.z (ad g),.v (D.int j),.v (D.int l),.w 3 (ad m),.v (D.int o),.v (dl J),.v (dl E.2),.v (D.int s),.v (D.int A),.v (D.int C)])) (E8 (JW B7 FK (AO rfl) (Ck rfl))) (DE (DJ (Nd (E7 (Qe (RM (AO rfl) (Pw (LU (AO rfl) Gj))))))) (λο=>(.refl _))) (E6 (.refl _))) (λL=>(A8 (MN (B:=(λ(T:ZLi)=>[.z (ad g),.v (D.int j),.v (D.int l),.w 3 (ad m),.v (D.int o),.v (dl L),.v (dl T),.v (D.int s),.v (D.int A),.v (D.int C)])) (E8 (JW B7 FK (AO rfl) (Ck rfl))) (DE (DJ (Nd (E7 (Qe (RM (AO rfl) (Pw (LU (AO rfl) Gj))))))) (λU=>(.refl _))) (E6 (.refl _))) (λX=>(A8 (MN (B:=(λ(N:ZLi)=>[.z (ad g),.v (D.int j),.v (D.int l),.w 3 (ad m),.v (D.int o),.v (dl L),.v (dl N),.v (D.int s),.v (D.int A),.v (D.int C)])) (E8 (JW B7 FK (AO rfl) (Ck rfl))) (DE (DJ (RK (AO rfl) (IH (Ck rfl)) Jv)) (λY=>(.refl _))) (E6 (.refl _))) (λZ=>(A8 (MN (B:=(λ(O:ZLi)=>[.z (ad g),.v (D.int j),.v (D.int l),.w 3 (ad m),.v (D.int o),.v (dl L),.v (dl O),.v (D.int s),.v (D.int A),.v (D.int C)])) (E8 (JW B7 FK (AO rfl) (Ck rfl))) (DE (DJ (AO rfl)) (λς=>(.refl _))) (E6 (.refl _))) (λP=>(A8 (MN (B:=(λ(G:ZLi)=>[.z (ad g),.v (D.int j),.v (D.int l),.w 3 (ad m),.v (D.int o),.v (dl G),.v (dl P),.v (D.int s),.v (D.int A),.v (D.int C)])) (E8 (JW B7 FK (AO rfl) (Ck rfl))) (DE (DJ (RM (RK (AO rfl) Jv (IH (Yp (Ck rfl)))) (Pw (LU (Er (Vb (Er (Er (Ru (AO rfl) (Yp (Ck rfl))) (AO rfl)) (Fu rfl (GY rfl (AO rfl)))) (Ck rfl)) (AO rfl)) Gj)))) (λv84=>(.refl _))) (E6 (.refl _))) (λzx=>(A8 (MN (B:=(λ(H:ZLi)=>[.z (ad g),.v (D.int j),.v (D.int l),.w 3 (ad m),.v (D.int o),.v (dl H),.v (dl P),.v (D.int s),.v (D.int A),.v (D.int C)])) (E8 (JW B7 FK (AO rfl) (Ck rfl))) (DE (DJ (RM (Pw (LU (Vb (Vb (Fu rfl (GY rfl (AO rfl))) (Ck rfl)) (AO rfl)) Gj)) (AO rfl))) (λQ=>(.refl _))) (E6 (.refl _))) (λyB=>(A8 (Gh (E8 (JW B7 FK (AO rfl) (Ck rfl))) (VY (Vh (E7 (Vh (E7 (RL (DF rfl) Jv (IH (AO rfl)))) (E7 (RL (DF rfl) (IH (Er (AO rfl) (Ck rfl))) Jv)))) (E7 (qB (E7 (Dg (G8 (LU (II (Pw Gj) (Pw Gj)) Gj)))) (Fu rfl (GY rfl (AO rfl))))))) (E6 (.refl _))) (λ_=>(A8 (Z1 rfl (AO rfl) (II (AO rfl) (AO rfl)) rfl) (λR=>(VX rfl)))))))))))))))))))))))))))))))
def IK(P:ZLi):Option (Fw (Int×(List ZPi)×(List (ZLi×ZLi))) Unit):=
 BZ (some (.nx (0:Int))) λv1=>BZ (((some []).bind Kd).bind λx4=>some (.nx x4)) λv3=>BZ (((((Fc P (0:Int)).bind λzc=>some (zc % 6)).bind λyU=>some ((1:Int)+yU)).bind P6).bind λQ=>Ey Q (v3,v1) λ(m:(List ZPi)×Int) zJ=>BZ ((Fc P ((1:Int)+zJ)).bind λyF=>some (.nx yF)) λzK=>BZ (some (.nx ((1:Int)+(zK % 6)))) λg=>BZ (((SQ (zK / 6) g).bind λR=>some (g,R)).bind λS=>(YB m.1 S).bind λT=>some (.nx T)) λΙ=>Ej (λU=>(Ι,U)) (some (.nx (m.2+g)))) λl=>BZ ((((Fc P (7:Int)).bind λΜ=>some (Μ,(l.2,()))).bind λo=>JD o.1 o.2.1).bind λX=>some (.nx X)) λο=>BZ (((some []).bind Kd).bind λY=>some (.nx Y)) λZ=>BZ (((some []).bind Kd).bind λx59=>some (.nx x59)) λΝ=>BZ (some (.nx (0:Int))) λυ=>BZ (((some (l.1.length:Int)).bind P6).bind λs=>Ey s (Z,Ν,υ) λ(A:(List ZPi)×(List (ZLi×ZLi))×Int) B=>BZ ((((((atI l.1 B).bind λx69=>some x69.1).bind λx71=>some (A.2.2+x71)).bind λx72=>some (some x72)).bind λx75=>some (EN ο (some A.2.2) x75)).bind λx76=>some (.nx x76)) λj=>BZ (((atI l.1 B).bind λx80=>some x80.2).bind λx81=>some (.nx x81)) λς=>BZ ((Fc P ((1:Int)+B)).bind λx91=>(iS (Dz x91 ((900:Int)+B) j ς A.1)).bind λl94=>some (.nx l94)) λv95=>BZ ((YB A.2.1 ((CF j),(CF (EN j none (some ς))))).bind λl98=>some (.nx l98)) λv96=>Ej (λC=>(v95,v96,C)) ((((atI l.1 B).bind λE=>some E.1).bind λG=>some (A.2.2+G)).bind λH=>some (.nx H))) λΞ=>((Ff Ξ.1 (λI=>some true) (λI=>((some [I.1,I.2]).bind nM).bind λJ=>((some [I.1,I.2]).bind nN).bind λL=>some (J,L))).bind λN=>some (Qg N)).bind λO=>some (.rt (l.2,O,Ξ.2.1))
def IM(g:ZLi):Option (Int×(List ZPi)×(List (ZLi×ZLi))):=KW (IK g)
theorem Tp(W:Wd)(g:ZLi):VF (Kf W) [.v (eF g)] (rP3 D.int a_ ad) (IM g):=by
 refine IV (n:=12) (b:=Kj W) (p:=IK g) (B:=λ_=>[]) ?_;show VS [.v (eF g),.u,.u,.u,.u,.u,.u,.u,.u,.u,.u,.u] _ _ _ _;unfold Kj IK;exact(A8 (DJ (Ck rfl)) (λJ=>(A8 (G7 (Dg (G8 Gj))) (λL=>(A8 (JU (s0:=(L,J)) (B:=(λ(l:(List ZPi)×Int)=>[.v (eF g),.v (D.int l.2),.w 2 (a_ l.1),.u,.u,.u,.u,.u,.u,.u,.u,.u])) (JM (Er (Ck rfl) (Fu rfl (Cv (GB (AO rfl) (GB (Ck rfl) DW)) (λG=>Jy W G.1 G.2.1) (λ_=>rfl) Hi)))) G6 (.refl _) (λN Z=>(A8 (DJ (Cv (GB (AO rfl) (GB (Er (Ck rfl) (AO rfl)) DW)) (λm=>Jy W m.1 m.2.1) (λ_=>rfl) Hi)) (λzK=>(A8 (DJ (Er (Ck rfl) (Fu rfl (AO rfl)))) (λO=>(A8 (VZ rfl (II (AO rfl) (Mp (GY rfl (AO rfl)) (AO rfl))) rfl) (λΙ=>(DE (DJ (Er (AO rfl) (AO rfl))) (λP=>(.same (.same (.same (.drop (.drop (.drop (.same (.same (.same (.same (.same (.same .nil)))))))))))))))))))))) (λH=>(A8 (Ju (Cv (GB (Cv (GB (AO rfl) (GB (Ck rfl) DW)) (λo=>Jy W o.1 o.2.1) (λ_=>rfl) Hi) (GB (AO rfl) DW)) (λs=>Vl W s.1 s.2.1) (λ_=>rfl) Uh)) (λQ=>(A8 (G7 (Dg (G8 Gj))) (λC=>(A8 (G7 (Dg (G8 Gj))) (λR=>(A8 (DJ (Ck rfl)) (λS=>(A8 (JU (s0:=(C,R,S)) (B:=(λ(E:(List ZPi)×(List (ZLi×ZLi))×Int)=>[.v (eF g),.v (D.int H.2),.w 2 (a_ H.1),.u,.u,.u,.y (b_ Q),.w 7 (a_ E.1),.w 8 (ad E.2.1),.v (D.int E.2.2),.u,.u])) (JM (Jx (DF rfl))) G6 (.refl _) (λzN χ=>(A8 (Ju (RL (EU rfl) (IH (AO rfl)) (IH (Er (AO rfl) (fm (KO (DF rfl) (AO rfl))))))) (λT=>(A8 (DJ (qA (KO (DF rfl) (AO rfl)))) (λς=>(A8 (bp W (Cv (GB (AO rfl) (GB (Er (Ck rfl) (AO rfl)) DW)) (λA=>Jy W A.1 A.2.1) (λ_=>rfl) Hi) (Er (Ck rfl) (AO rfl)) (j:=10) rfl (AO rfl) (i:=7) rfl rfl) (λU=>(A8 (VZ rfl (II (Nd (E7 (Ox (EU rfl)))) (Nd (E7 (Ox (E7 (RL (EU rfl) Jv (IH (AO rfl)))))))) rfl) (λX=>(DE (DJ (Er (AO rfl) (fm (KO (DF rfl) (AO rfl))))) (λI=>(.same (.same (.same (.drop (.same (.same (.same (.same (.same (.same (.drop (.drop .nil)))))))))))))))))))))))) (λΞ=>(bo (AO rfl) (W3 (E7 (Dg (G9 (p7 (DF rfl)) (λY=>Nf) (λY=>(II (lC (Z3 (AO rfl))) (lE (Z3 (AO rfl))))))))) rfl)))))))))))))))))
def aO(m:ZLi):Option (Fw Bool Unit):=
 BZ ((IM m).bind λS=>some (.nx S)) λg=>BZ (((some (g.2.1,(g.1,((EN m (some (8:Int)) none),())))).bind λo=>KD o.1 o.2.1 o.2.2.1).bind λs=>some (.nx s)) λQ=>BZ ((JE g.1 Q).bind λT=>some (.nx T)) λU=>BZ ((Yn g.1 Q).bind λX=>some (.nx X)) λl=>BZ (((Et l g.2.2).bind λA=>some (!decide (A=(1:Int)))).bind λB=>if B=true then some (.rt false)else some (.nx ())) λ_=>BZ ((((some ((0:Int) :: [])).bind Kd).bind λC=>(JC m).bind λE=>Js C E).bind λG=>Ey G () λ(_:Unit) Y=>BZ ((IL g.2.2 Y g.1).bind λH=>some (.nx H)) λj=>BZ (some (.nx j)) λR=>BZ ((((Dl U j).bind λI=>some (if I=true then 1 else 0)).bind λJ=>some ((2:Int) - J)).bind λL=>some (.nx L)) λZ=>Ej (λ_=>()) ((((Et l R).bind λN=>some (!decide (N=Z))).bind λO=>if O=true then some true else some (!decide (R=j))).bind λP=>if P=true then some (.rt false)else some (.nx ()))) λ_=>some (.rt true)
def iR(g:ZLi):Option Bool:=KW (aO g)
theorem uR(W:Wd)(s:ZLi):VF (a8 W) [.v (eF s)] (rV D.bl) (iR s):=by
 refine IV (n:=10) (b:=j6 W) (p:=aO s) (B:=λ_=>[]) ?_;show VS [.v (eF s),.u,.u,.u,.u,.u,.u,.u,.u,.u] _ _ _ _;unfold j6 aO;exact(A8 (fW (Cv (GB (AO rfl) DW) (λE=>Tp W E.1) (λ_=>rfl) ql)) (λI=>(A8 (Ju (Cv (MU (EU rfl) (GB (AO rfl) (MU (E7 (lH (AO rfl) (IH (Ck rfl)) Jv)) DW))) (λA=>W8 W A.1 A.2.1 A.2.2.1) (λ_=>rfl) Uh)) (λJ=>(A8 (bn (Cv (GB (AO rfl) (MU (EU rfl) DW)) (λj=>Vm W j.1 j.2.1) (λ_=>rfl) lv)) (λL=>(A8 (Ju (fb (AO rfl) (EU rfl))) (λG=>(A8 (Gh (E8 (Z8 B7 FK (Cv (MU (EU rfl) (MU (E7 (Dg (RJ (LS (EU rfl))))) DW)) (λl=>Mq W l.1 l.2.1) (λ_=>rfl) Hi) (Ck rfl))) (DV (Ck rfl)) (E6 (.refl _))) (λ_=>(A8 (Nc (p8 (Vh (E7 (Dg (G8 (LU (Ck rfl) Gj)))) (E7 (Cv (GB (AO rfl) DW) (λC=>Vk W C.1) (λ_=>rfl) Uh)))) G6 (λN=>(A8 (Ju (Cv (MU (EU rfl) (GB (AO rfl) (GB (AO rfl) DW))) (λg=>To W g.1 g.2.1 g.2.2.1) (λ_=>rfl) Uh)) (λH=>(A8 (Ju (Dg (RJ (LS (EU rfl))))) (λO=>(A8 (DJ (Vb (Ck rfl) (qF (Cv (qJ rfl (MU (EU rfl) DW)) (λm=>Ny W m.1 m.2.1) (λ_=>rfl) Hi)))) (λP=>(DE (Gh (UT (E8 (Z8 B7 FK (Cv (MU (EU rfl) (MU (EU rfl) DW)) (λo=>Mq W o.1 o.2.1) (λ_=>rfl) Hi) (AO rfl))) (E8 (fg (Xz (bC B7) (bC B7)) (EU rfl) (EU rfl)))) (DV (Ck rfl)) (E6 (.refl _))) (λ_=>(.same (.same (.same (.same (.same (.same (.drop (.drop (.drop (.drop .nil)))))))))))))))))))) (λ_=>(DV (Ck rfl))))))))))))))
theorem Sh{k:Int}:∀{l:ZLi},k∈l->∃j,QE k l=some j
 | [],h=>zX h BY
 | x :: l,h=>by
  unfold QE
  by_cases c:x=k
  ·rw[qX c];exact⟨0,rfl⟩
  ·rw[qY c]
   rcases A2.mp h with e | h
   ·exact zX e.symm c
   ·obtain⟨j,e⟩:=Sh h
    exact⟨j+1,by rw[e];rfl⟩
theorem am{k:Int}:∀{l:ZLi},k∉l->QE k l=none
 | [],_=>rfl
 | x :: l,h=>by
  unfold QE;rw[qY λe=>h (by rw[e];exact Ax),am λg=>h (AY _ g)];rfl
def rk(l:ZLi)(x:Int):Int:=(ZR l x).getD 0
theorem WG{l:ZLi}{x:Int}(h:x∈l):ZR l x=some (rk l x):=by
 obtain⟨j,e⟩:=Sh h;unfold rk ZR;rw[e];rfl
theorem M3{l:ZLi}{x:Int}(h:x∈l):∃j:Nat,rk l x=j/\l[j]?=some x:=by
 obtain⟨j,e⟩:=Sh h;obtain⟨g,m,_⟩:=ak e;refine⟨j,?_,?_⟩
 ·unfold rk ZR;rw[e];rfl
 ·rw[Aj g,m]
theorem UW{l:ZLi}(g:l.Pairwise (· < ·)){i j:Nat}{x y:Int}(hi:l[i]?=some x)(m:l[j]?=some y)(h:i < j):x < y:=by
 obtain⟨o,s⟩:=AC.mp hi;obtain⟨A,B⟩:=AC.mp m;have:=CO.mp g i j o A h;rwa [s,B]at this
theorem qL{l:ZLi}(g:l.Pairwise (· < ·)){i j:Nat}{x:Int}(hi:l[i]?=some x)(m:l[j]?=some x):i=j:=by
 rcases Ho i j with h | h | h
 ·have:=UW g hi m h;lia
 ·exact h
 ·have:=UW g m hi h;lia
theorem aL{l:ZLi}(g:l.Pairwise (· < ·)){j:Nat}{x:Int}(h:l[j]?=some x):rk l x=j:=by
 obtain⟨i,m,o⟩:=M3 (Ac h);rw[m,qL g o h]
theorem o0{l:ZLi}{x:Int}(h:x∈l):0<=rk l x/\rk l x < l.length:=by
 obtain⟨j,m,g⟩:=M3 h;have:=(AC.mp g).1
 lia
theorem ui{l:ZLi}(o:l.Pairwise (· < ·)){x y:Int}(s:x∈l)(A:y∈l)(h:x < y):rk l x < rk l y:=by
 obtain⟨i,B,m⟩:=M3 s;obtain⟨j,C,g⟩:=M3 A
 rcases Ho i j with c | c | c
 ·lia
 ·subst c;rw[m]at g;cases g;lia
 ·have:=UW o g m c;lia
theorem gt{l:ZLi}{x y:Int}(m:x∈l)(o:y∈l)(h:rk l x=rk l y):x=y:=by
 obtain⟨i,A,s⟩:=M3 m;obtain⟨j,B,g⟩:=M3 o
 have:i=j:=by lia
 subst this;rw[s]at g;exact Cw g
def inB(l:ZLi)(t:Int×Int):Bool:=decide (t.1∈l)&&decide (t.2∈l)
def wt(ts:List ZPi)(l:ZLi):List ZPi:=(ts.filter (inB l)).map λt=>(rk l t.1,rk l t.2)
theorem No{l:ZLi}{t:Int×Int}:inB l t=true↔t.1∈l/\t.2∈l:=by
 unfold inB;rw[DU,decide_eq_true_iff,decide_eq_true_iff]
def Tz(p:Int)(ts:List ZPi):Prop:=(∀t∈ts,0<=t.1/\t.1 < t.2/\t.2 < p)/\ts.Nodup
theorem aR{x:Int×Int}(h:x.1 < x.2):nrm x=x:=by
 unfold nrm;rw[qY (by lia),qX (by omega)]
theorem Tz.nrm{p:Int}{ts:List ZPi}(h:Tz p ts):ts.map M.nrm=ts:=by
 conv=>rhs;rw[<-N7 ts]
 exact Cy λt g=>aR (h.1 t g).2.1
theorem Tz.fit{p:Nat}{ts:List ZPi}(h:Tz p ts):IC p ts:=by
 refine⟨λt g=>?_,by rw[h.nrm];exact h.2⟩;have:=h.1 t g;unfold Fit;rw[aR this.2.1];omega
theorem Tz.perm{p:Int}{ts us:List ZPi}(h:Tz p ts)(g:us.Perm ts):Tz p us:=⟨λt j=>h.1 t (g.mem_iff.mp j),g.nodup_iff.mpr h.2⟩
theorem fJ{p:Int}{ts:List ZPi}(h:Tz p ts){l:ZLi}(s:l.Pairwise (· < ·)):Tz l.length (wt ts l):=by
 refine⟨λt o=>?_,?_⟩
 ·obtain⟨u,g,rfl⟩:=Aw.mp o
  obtain⟨A,B⟩:=BU.mp g;obtain⟨j,m⟩:=No.mp B;have:=ui s j m (h.1 u A).2.1;have:=o0 j;have:=o0 m;dsimp only
  lia
 ·refine B2.mpr ((h.2.filter (inB l)).imp_of_mem λ{t u} o g C e=>C ?_)
  obtain⟨j,m⟩:=No.mp (BU.mp o).2;obtain⟨E,G⟩:=No.mp (BU.mp g).2;have H:=congrArg UH e;have I:=congrArg oi e;exact MK (gt j E H) (gt m G I)
theorem dZ(l:ZLi):(HV l).map (·.2)=l:=by
 unfold HV;rw[BV];exact List.zipIdx_map_fst 0 l
theorem da{l:ZLi}{i:Nat}{x:Int}(h:l[i]?=some x):(HV l)[i]?=some ((i:Int),x):=by
 unfold HV;rw[Ao,Zw,h];simp
theorem g7{l:List ZPi}{k v:Int}(h:k∉l.map (·.1)):Gz l k v=l++[(k,v)]:=by
 unfold Gz;rw[qY];intro c;obtain⟨x,g,e⟩:=EB.mp c;exact h (Aw.mpr ⟨x,g,of_decide_eq_true e⟩)
def cf(l:ZLi):List ZPi:=(HV l).map λx=>(x.2,x.1)
theorem iZ(l:ZLi):(cf l).length=l.length:=by
 unfold cf HV;simp
theorem SL{l:ZLi}(x:Int):Ei (cf l) x=ZR l x:=by
 have g:∀(l:ZLi) (k:Nat),Ei ((l.zipIdx k).map λy=>(y.1,(y.2:Int))) x=(QE x l).map λj=>((j+k:Nat):Int):=by
  intro l
  induction l with
  | nil=>intro k;rfl
  | cons y l m=>
   intro k;rw[kG,A4];unfold Ei QE;rw[Bv]
   by_cases c:y=x
   ·rw[wX c,qX c]
    simp
   ·rw[wY c,qY c]
    have:=m (k+1);unfold Ei at this;dsimp only;rw[this]
    cases QE x l with
    | none=>rfl
    | some j=>simp;lia
 have:=g l 0;unfold cf HV;rw[BV];unfold ZR;exact this
theorem fO{w:Nat×List ZPi}(h:Tz w.1 w.2)(G:w.2.length<=1000){l:ZLi}(A:l.Pairwise (· < ·))(T:1<=l.length)(U:l.length<=60):JA w l=some (l.length,Fx (wt w.2 l)):=by
 unfold JA Iv;simp only[AD,BJ]
 have m:l.Nodup:=A.imp λh=>by lia
 obtain⟨s,e,rfl⟩:=WL (ρ:=Nat×List ZPi) (l:=HV l) (s0:=([]:List ZPi)) (q:=λ(H:(List ZPi)) B=>Ej (λI=>I) ((cP H B.2 B.1).bind λJ=>some (.nx J))) (λg s=>s=g.map λx=>(x.2,x.1)) rfl (by
  rintro g x s X ⟨t,o⟩ rfl
  have C:(g++[x]).map (·.2)++t.map (·.2)=l:=by rw[<-BD,o,dZ]
  rw[<-C,BD]at m
  have L:x.2∉(g.map λx=>(x.2,x.1)).map (·.1):=by
   rw[BV];intro c;have N:=(Bu.mp (Bu.mp m).1).2.2;exact N x.2 c x.2 (by simp) rfl
  have j:g.length < 1000000:=by
   have:=congrArg F7 C;simp at this
   lia
  refine⟨(g.map λx=>(x.2,x.1))++[(x.2,x.1)],?_,?_⟩
  ·unfold cP
   rw[qX (by rw[AG];exact j),g7 L];rfl
  ·rw[BD];rfl)
 rw[e,BJ];have O:((HV l).map λx=>(x.2,x.1))=cf l:=rfl;rw[O]
 have E:∀x,(Ei (cf l) x).isSome=decide (x∈l):=λx=>by
  rw[SL]
  by_cases c:x∈l
  ·rw[WG c,wX c];rfl
  ·unfold ZR
   rw[am c,wY c];rfl
 rw[S7 (P:=inB l) (f:=λt=>(rk l t.1,rk l t.2)) (by lia) (λt _=>by
  rw[E,E];unfold inB
  cases decide (t.1∈l) <;> rfl) (λt _ o=>by
  obtain⟨Q,R⟩:=No.mp o;rw[SL,SL,WG Q,WG R]
  rfl)]
 simp only[AD,BJ];rw[iZ];have o:=fJ h A
 have j:(wt w.2 l).length<=1000:=by
  unfold wt;rw[AG];exact Ap (Na _ _) G
 show KW ((Yn (l.length:Int) (wt w.2 l)).bind λS=>some (.rt S))=_;unfold Yn;rw[qX ⟨by lia,by lia,Tz.fit o,by lia⟩,Ay];rfl
theorem rl{o:Nat}{j:List ZPi}{g:Int}(l:0<=g)(m:g < o):M5 (o,j) g=some (nbW j g):=by
 unfold M5 V1 HF FO;simp only[AD];rw[wX l,qX rfl,wX m];simp only[AD];show KW (BZ (((m8 (some (Fw.nx ()))).bind λ_=>some (.nx ()))) λ_=>_)=_;simp only[mz,AD,BJ]
 have:atI (QA o j) g=some (nbW j g):=by
  refine Zg l ?_;unfold QA;rw[Ao,CC (by lia)];rfl
 rw[this];rfl
theorem aT{x y:Int}(h:(-1000000000000<=x/\x<=1000000000000)∨(-1000000000000<=y/\y<=1000000000000)):ZI x y=some (x * y):=qX (h.imp (λh=>⟨Pt (by decide) h.1,KN h.2 (by decide)⟩) λh=>⟨Pt (by decide) h.1,KN h.2 (by decide)⟩)
theorem sk{x y:Int}(h:0 < y)(g:y<=1000000):a7 x y=some (x / y):=qX ⟨h,by lia⟩
theorem aV(c s:Int):∃v,HH c s=some v/\0<=v:=by
 have g:=By ((c % 2147483647+s) * 48271) (show(2147483647:Int)≠0 by decide);have j:=Bj ((c % 2147483647+s) * 48271) (show(0:Int) < 2147483647 by decide);unfold HH Iz;simp only[AD,BJ];generalize (c % 2147483647+s) * 48271 % 2147483647=m at g j;rw[aT (.inl ⟨by lia,by lia⟩)];simp only[AD,BJ];rw[aT (.inl ⟨by decide,by decide⟩)];exact⟨_,rfl,By _ (by decide)⟩
theorem jJ{l:ZLi}(i:Nat)(x:Int):(l.take i++[x]++l.drop i).Perm (x :: l):=by
 rw[A7,EL];exact List.perm_middle.trans (by rw[EK])
theorem m9(c:Int){p:Nat}(J:p<=60):Ok (JD c p) λl=>l.length=p/\l.Nodup/\∀x∈l,0<=x/\x < p:=by
 unfold JD Iy;simp only[AD,BJ,dQ];rw[J8 (by lia) (by lia),Ay];simp only[AD];refine OkF.out (OkF.seq (OkF.for (λg (s:ZLi)=>s.length=g.length/\s.Nodup/\∀x:Int,x∈s->0<=x/\x < (g.length:Int)) ⟨rfl,E0,λx m=>(nomatch m)⟩ ?_) λs o=>?_)
 ·rintro g x s m B ⟨C,E,A⟩
  obtain⟨e,lt⟩:=O3 B;rw[Yl]at e;subst e;obtain⟨v,G,L⟩:=aV c (7000+(g.length:Int));rw[G];simp only[AD];rw[KF (by lia)];simp only[AD];have H:=By (v / 8) (show(g.length:Int)+1≠0 by lia);have N:=Bj (v / 8) (show(0:Int) < (g.length:Int)+1 by lia);rw[show nU s (v / 8 % ((g.length:Int)+1)) (g.length:Int)=some _ from qX ⟨H,by lia,by lia⟩];have j:=jJ (l:=s) (v / 8 % ((g.length:Int)+1)).toNat (g.length:Int);refine .nx ⟨by rw[j.length_eq,A1,AK,C];rfl,j.nodup_iff.mpr (Cq.mpr ⟨λz=>?_,E⟩),λy I=>?_⟩
  ·have:=(A _ z).2
   lia
  ·rw[AK,Ai]
   rcases A2.mp (j.mem_iff.mp I)with q | q
   ·lia
   ·have:=A y q
    lia
 ·rw[FB]at o
  exact .rt o
def nrP(x y:Int):Int×Int:=(if y < x then y else x,if y > x then y else x)
theorem O0(l:List ZPi):(Qg l).Perm l:=by
 have:=(JY (l.map λx=>[x.1,x.2])).map qS;rw[BV]at this
 have e:l.map (qS∘λx=>[x.1,x.2])=l:=by
  conv=>rhs;rw[<-N7 l]
  exact Cy λ_ _=>rfl
 rw[e]at this;exact this
theorem Tz.add{p:Nat}{ts:List ZPi}(h:Tz p ts){x y:Int}(m:0<=x/\x < p)(o:0<=y/\y < p)(s:x≠y)(g:nrP x y∉ts):Tz p (ts++[nrP x y]):=by
 refine⟨λt j=>?_,?_⟩
 ·rcases Aq.mp j with q | q
  ·exact h.1 t q
  ·rw[AN.mp q]
   unfold nrP;dsimp only
   split <;> split <;> lia
 ·rw[Bu]
  exact⟨h.2,by simp,λa l b hb e=>g (by rw[AN.mp hb]at e;rw[<-e];exact l)⟩
theorem rm{p:Nat}(P:1<=p)(Q:p<=60){ts:List ZPi}(h:Tz p ts)(R:ts.length<=1000){cs:ZLi}(S:cs.length<=1000):Ok (KD ts p cs) λr=>(Tz p r/\∀t∈ts,t∈r)/\r.length<=ts.length+cs.length:=by
 unfold KD KB;simp only[AD,BJ];refine OkF.out (OkF.seq (OkF.for (λg s=>(Tz p s/\∀t∈ts,t∈s)/\s.length<=ts.length+g.length) ⟨⟨h,λ_ q=>q⟩,AL _⟩ ?_) λs l=>?_)
 ·rintro g c s T L ⟨j,U⟩
  have O:=L.length_le;rw[AK,Ai]at O;rw[KF (by lia),sk (by lia) (by lia)];simp only[AD,BJ];rw[KF (by lia)];simp only[AD,BJ];have G:=By c (show(p:Int)≠0 by lia);have H:=Bj c (show(0:Int) < p by lia);have I:=By (c / p) (show(p:Int)≠0 by lia);have J:=Bj (c / p) (show(0:Int) < p by lia);generalize c % (p:Int)=x at G H;generalize c / (p:Int) % (p:Int)=y at I J;show OkF (Ej (λm=>m) ((if (!decide (x=y))=true then some (!inG (nrP x y) s)else some false).bind λo=>if o=true then Ej (λA=>A) ((YB s (nrP x y)).bind λB=>some (.nx B))else some (.nx s))) _ _
  refine OkF.map (N:=λC=>(Tz p C/\∀t∈ts,t∈C)/\C.length<=ts.length+(g++[c]).length) ?_ λ_ q=>q
  rw[AK,Ai]
  by_cases e:x=y
  ·rw[wX e]
   exact .nx ⟨j,by lia⟩
  ·rw[wY e]
   by_cases q:nrP x y∈s
   ·rw[aj.mpr q]
    exact .nx ⟨j,by lia⟩
   ·rw[show inG (nrP x y) s=false from by rw[<-kM,aj];exact q]
    simp only[UO,if_true,AD];rw[RZ (by lia)];exact .nx ⟨⟨j.1.add ⟨G,H⟩ ⟨I,J⟩ e q,λt E=>As _ (j.2 t E)⟩,by rw[AK,Ai];lia⟩
 ·refine .rt ⟨⟨l.1.1.perm (O0 s),λt E=>(O0 s).mem_iff.mpr (l.1.2 t E)⟩,?_⟩
  rw[(O0 s).length_eq];exact l.2
theorem cg{us:List ZPi}{x:Nat}{z:Int}:z∈Bw us x↔((x:Int),z)∈us∨(z,(x:Int))∈us:=by
 unfold Bw;rw[Ic]
 constructor
 ·rintro⟨t,g,j⟩
  rcases Aq.mp j with q | q
  ·split at q
   ·rename_i e
    rw[AN]at q
    left;rw[q,<-e];exact g
   ·cases q
  ·split at q
   ·rename_i e
    rw[AN]at q
    right;rw[q,<-e];exact g
   ·cases q
 ·rintro(q | q)
  ·exact⟨_,q,As _ (by rw[qX rfl];simp)⟩
  ·exact⟨_,q,Av _ (by rw[qX rfl];simp)⟩
theorem QB(x:Nat):∀g:List ZPi,(Bw g x).length<=2 * g.length
 | []=>AL _
 | t :: g=>by
  have:=QB x g;unfold Bw at this ⊢;rw[QX,AK,AK,A1]
  have j:(if t.1=(x:Int)then[t.2]else[]).length<=1:=by split <;> simp
  have l:(if t.2=(x:Int)then[t.1]else[]).length<=1:=by split <;> simp
  lia
theorem Tz.nb{p:Nat}{ts:List ZPi}(h:Tz p ts){x y:Int}(j:0<=x):y∈nbW (Fx ts) x↔(x,y)∈ts∨(y,x)∈ts:=by
 have g:=JN ts;rw[h.nrm]at g;unfold nbW;rw[(Bp _).mem_iff,cg,Cf j,g.mem_iff,g.mem_iff]
theorem Tz.ok{p:Nat}{ts:List ZPi}(h:Tz p ts)(l:p<=60)(s:ts.length<=400):vi p (Fx ts):=by
 have j:=JN ts;rw[h.nrm]at j;refine⟨l,λx g A y m=>?_,λx=>?_,λx y g o q=>?_⟩
 ·rcases(h.nb g).mp m with q | q <;> (have:=h.1 _ q;lia)
 ·unfold nbW
  rw[(Bp _).length_eq];have:=QB x.toNat (Fx ts);rw[j.length_eq]at this
  lia
 ·exact(h.nb o).mpr ((h.nb g).mp q).symm
def Ad(ts:List ZPi)(x y:Int):Prop:=(x,y)∈ts∨(y,x)∈ts
def Cn(ts:List ZPi)(l:ZLi):Prop:=∀C:ZLi,(∀a,l[0]?=some a->a∈C)->(∀x∈l,x∈C->∀y∈l,Ad ts x y->y∈C)->∀z∈l,z∈C
def Gv(ts:List ZPi)(j g:ZLi):Prop:=if g=[]then j≠[]/\∀x∈j,∀y∈j,x≠y->Ad ts x y else(∀x∈g,x∈j)/\g.length≠j.length/\Cn ts g/\∀x∈j,x∈g∨∃y∈g,Ad ts x y
section
variable{nb:Int->ZLi}{p:Nat}(wj:∀x:Int,0<=x->x < p->∀y∈nb x,0<=y/\y < p)(wz:∀x y:Int,0<=x->0<=y->y∈nb x->x∈nb y)
include wj wz in
theorem cX(hp:1<=p):(wk nb p p).length<=1↔∀C:ZLi,(0:Int)∈C->(∀x∈C,∀y∈nb x,y∈C)->∀z:Int,0<=z->z < p->z∈C:=by
 have g:=So wj (s:=0) (by lia)
 constructor
 ·intro A C O P z Q z1
  have B:=fN wj wz p (AL _)
  have I:z∈A9 (Rn nb ((0:Nat):Int) p):=by
   have l:=B.all 0 (by lia);have m:=B.all z.toNat (by lia);rw[Cf Q]at m;obtain⟨s,o,E⟩:=Nt.mp l;obtain⟨t,G,J⟩:=Nt.mp m;have e0:(s:Int)<=0:=(B.of s o).2 _ E
   have R:s=0:=by lia
   have S:t=s:=by
    match hR:wk nb p p,o,G,A with
    | [a],o,G,_=>rw[AN.mp o,AN.mp G]
    | _ :: _ :: _,_,_,A=>simp at A
   rw[S,R]at J;exact J
  refine JT λT=>?_
  have U:=g.meets wz (C:=(A9 (Rn nb ((0:Nat):Int) p)).filter λx=>!decide (x∈C)) (λx L y N=>?_) I (BU.mpr ⟨I,by simp[T]⟩)
  ·have:=(BU.mp U).2
   simp at this;exact this O
  ·obtain⟨l,m⟩:=BU.mp L
   have j:=g.closed x l y N;obtain⟨d1,X⟩:=C0.mp l;obtain⟨d2,Y⟩:=C0.mp j;refine BU.mpr ⟨j,?_⟩
   have E:x∉C:=by simpa using m
   have:y∉C:=λc=>E (P y c x (wz x y (g.rng _ X).1 (g.rng _ Y).1 N))
   simp[this]
 ·intro h
  have Z:=h (A9 (Rn nb ((0:Nat):Int) p)) (C0.mpr ⟨0,g.src⟩) g.closed
  have H:∀x:Nat,x+1<=p->wk nb p (x+1)=[0]:=λx=>by
   induction x with
   | zero=>intro _;rfl
   | succ x ih=>
    intro L;have e:=ih (by lia);show(if ((x+1:Nat):Int)∈A9 (cov nb p (wk nb p (x+1)))then wk nb p (x+1)else wk nb p (x+1)++[x+1])=[0];rw[e,qX (Nt.mpr ⟨0,by simp,Z _ (by lia) (by lia)⟩)]
  obtain⟨x,rfl⟩:∃x,p=x+1:=⟨p - 1,by lia⟩
  rw[H x (AL _)];simp
end
section
variable{p:Nat}{ts:List ZPi}{l:ZLi}
theorem fL(m:l.Pairwise (· < ·)){i j:Nat}{x y:Int}(hi:l[i]?=some x)(g:l[j]?=some y):((i:Int),(j:Int))∈wt ts l↔(x,y)∈ts:=by
 constructor
 ·intro h
  obtain⟨u,A,e⟩:=Aw.mp h;obtain⟨B,C⟩:=BU.mp A;obtain⟨E,G⟩:=No.mp C;obtain⟨a,H,o⟩:=M3 E;obtain⟨b,I,s⟩:=M3 G;have J:(i:Int)=rk l u.1:=(congrArg UH e).symm;have L:(j:Int)=rk l u.2:=(congrArg oi e).symm
  have:i=a:=by lia
  have:j=b:=by lia
  subst i j;rw[hi]at o;rw[g]at s;cases o;cases s;exact B
 ·intro h
  refine Aw.mpr ⟨(x,y),BU.mpr ⟨h,No.mpr ⟨Ac hi,Ac g⟩⟩,?_⟩;rw[aL m hi,aL m g]
theorem ot(h:Tz p ts)(g:l.Pairwise (· < ·)){i j:Nat}{x y:Int}(hi:l[i]?=some x)(m:l[j]?=some y):(j:Int)∈nbW (Fx (wt ts l)) i↔Ad ts x y:=by
 rw[(fJ h g).nb (by lia),fL g hi m,fL g m hi];exact uK
theorem pq:(wt ts l).length<=ts.length:=by
 unfold wt;rw[AG];exact Na _ _
theorem iQ(h:Tz p ts)(X:ts.length<=400)(s:l.Pairwise (· < ·))(Y:1<=l.length)(Z:l.length<=60):∃P,Ll (l.length,Fx (wt ts l))=some P/\(P.length<=1↔Cn ts l):=by
 have ok:=(fJ h s).ok Z (Ap pq X);refine⟨_,qX ok,?_⟩;rw[AG];rw[cX ok.2.1 ok.2.2.2 Y]
 have m:∀z:Int,0<=z->z < l.length->∃x,l[z.toNat]?=some x:=λz E Q=>⟨_,Aj (by lia)⟩
 constructor
 ·intro G C H I z hz
  obtain⟨i,R,A⟩:=M3 hz;have hi:=(AC.mp A).1
  have:=G ((Ga 0 l.length).filter λi=>decide (∃x,l[i.toNat]?=some x/\x∈C)) (BU.mpr ⟨EV.mpr (by lia),by
   obtain⟨a,o⟩:=m 0 (by lia) (by lia)
   exact wX ⟨a,o,H a o⟩⟩) (λx B y S=>by
   obtain⟨J,g2⟩:=BU.mp B;have J:=EV.mp J;obtain⟨a,T,L⟩:=of_decide_eq_true g2;have N:=ok.2.1 x (by lia) (by lia) y S;obtain⟨b,O⟩:=m y N.1 N.2;refine BU.mpr ⟨EV.mpr (by lia),wX ⟨b,O,I a (Ac T) L b (Ac O) ?_⟩⟩;refine(ot h s T O).mp ?_;rw[Cf N.1,Cf J.1]
   exact S) (i:Int) (by lia) (by lia)
  obtain⟨x,U,L⟩:=of_decide_eq_true (BU.mp this).2;rw[Ay,A]at U;cases U;exact L
 ·intro G C H I z E Q
  obtain⟨x,B⟩:=m z E Q
  have:=G (l.filter λx=>decide (rk l x∈C)) (λa o=>BU.mpr ⟨Ac o,wX (by rw[aL s o];exact H)⟩) (λa o ca b hb yc=>by
   have g:=of_decide_eq_true (BU.mp ca).2;obtain⟨i,R,A⟩:=M3 o;obtain⟨j,ej,lj⟩:=M3 hb;refine BU.mpr ⟨hb,wX ?_⟩;rw[ej]
   refine I i (by rw[<-R];exact g) j ((ot h s A lj).mpr yc)) x (Ac B)
  have:=of_decide_eq_true (BU.mp this).2;rw[aL s B,Cf E]at this;exact this
end
theorem oC{g:Type}(l:List g){k:Int}(j:0<=k):EN l (some k) none=l.drop k.toNat:=by
 unfold EN;rw[show(k:Int)=((k.toNat:Nat):Int) by lia,HT.RO,HT.SA,Ay]
 by_cases c:k.toNat<=l.length
 ·rw[JS c,Br (by simp)]
 ·rw[Ri (by lia),Hh (AL _),Hh (by lia)]
  simp
theorem oA{g:Type}(l:List g){k:Int}(j:0<=k):EN l none (some k)=l.take k.toNat:=by
 unfold EN;rw[show(k:Int)=((k.toNat:Nat):Int) by lia,HT.RO,HT.SA,Ay,UL,uE]
 by_cases c:k.toNat<=l.length
 ·rw[JS c]
 ·rw[Ri (by lia),Br (AL _),Br (by lia)]
section
variable{p:Nat}{ts:List ZPi}{so inn:ZLi}
theorem aS(h:Tz p ts){x y:Int}(g:0<=x)(m:x < p):∃l,M5 (p,Fx ts) x=some l/\(∀y,y∈l↔Ad ts x y)/\l.length<=2 * ts.length:=by
 refine⟨_,rl g m,λy=>h.nb g,?_⟩;have j:=JN ts;rw[h.nrm]at j;unfold nbW;rw[(Bp _).length_eq];have:=QB x.toNat (Fx ts);rw[j.length_eq]at this;exact this
theorem jm{l:ZLi}{g:List ZPi}{x:Int×Int}(h:g++[x] <+: HV l):x.1=g.length/\l[g.length]?=some x.2:=by
 obtain⟨t,j⟩:=h
 have e:(HV l)[g.length]?=some x:=by rw[<-j];simp
 have m:g.length < l.length:=by
  have:=congrArg F7 j
  have o:(HV l).length=l.length:=by unfold HV;simp
  simp at this
  lia
 rw[da (Aj m)]at e;cases e;exact⟨rfl,Aj m⟩
theorem jr{l:ZLi}{k:Nat}:EN l (some (k:Int)) none=l.drop k:=oC l (by lia)
theorem tE(h:Tz p ts)(hl:ts.length<=400)(L:∀x∈so,0<=x/\x < p)(hs:so.length<=1000):∃b:Bool,Ni (p,Fx ts) so=some b/\(b=true↔so≠[]/\so.Pairwise (Ad ts)):=by
 have O:Ok (JB (p,Fx ts) so false) λr=>r.isNone=true↔so.Pairwise (Ad ts):=by
  unfold JB Iw;simp only[AD];refine OkF.out (OkF.seq (OkF.for (λ(g:List ZPi) (_:Unit)=>∀(i j:Nat) (x y:Int),i < g.length->i < j->so[i]?=some x->so[j]?=some y->Ad ts x y) (λi j x y l=>zX l (Dr _)) ?_) λ_ o=>?_)
  ·rintro g x _ hx P o
   obtain⟨Q,s⟩:=jm P;have I:=L _ (Ac s);obtain⟨R,S,J,_⟩:=aS h (y:=0) I.1 I.2;rw[S];simp only[AD,BJ];rw[Q,show((g.length:Int)+1)=((g.length+1:Nat):Int) by lia,jr]
   refine OkF.map (N:=λ_=>∀y∈so.drop (g.length+1),Ad ts x.2 y) ?_ λ_ T=>?_
   ·refine(OkF.for (λ(A:ZLi) (_:Unit)=>∀y∈A,Ad ts x.2 y) (λy B=>zX B BY) ?_)
    rintro A y _ B _ C
    refine OkF.map (N:=λ_=>∀z∈A++[y],Ad ts x.2 z) ?_ λ_ q=>q
    by_cases c:y∈R
    ·rw[wX c]
     refine .nx λz U=>?_
     rcases Aq.mp U with q | q
     ·exact C z q
     ·rw[AN.mp q];exact(J y).mp c
    ·rw[wY c]
     refine .rt ⟨λq=>by simp at q,λq=>zX ((J y).mpr ?_) c⟩;obtain⟨j,m⟩:=CN B;rw[EG]at m;obtain⟨X,Y⟩:=AC.mp s;obtain⟨Z,b2⟩:=AC.mp m;have:=CO.mp q _ _ X Z (by lia);rwa [Y,b2]at this
   ·intro i j a b l E G hb
    rw[AK,Ai]at l
    by_cases c:i < g.length
    ·exact o i j a b c E G hb
    ·have:i=g.length:=by lia
     subst this;rw[s]at G;cases G;refine T b (Ac (i:=j - (g.length+1)) ?_);rw[EG,show g.length+1+(j - (g.length+1))=j by lia];exact hb
  ·refine .rt ⟨λ_=>CO.mpr λi j l m E=>o i j _ _ ?_ E (Aj l) (Aj m),λ_=>rfl⟩
   unfold HV;simp;exact l
 obtain⟨r,er,H⟩:=O;unfold Ni Ng M6 KA;rw[er];simp only[AD]
 by_cases c:so=[]
 ·subst c
  exact⟨false,rfl,⟨λq=>(nomatch q),λq=>zX rfl q.1⟩⟩
 ·have:(0:Int) < so.length:=by have:=DI.mpr c;lia
  rw[wX this];exact⟨r.isNone,rfl,by rw[H];exact⟨λq=>⟨c,q⟩,λq=>q.2⟩⟩
theorem qp(B:so.Pairwise (· < ·)):so.Pairwise (Ad ts)↔∀x∈so,∀y∈so,x≠y->Ad ts x y:=by
 constructor
 ·intro h x C y E G
  obtain⟨i,l⟩:=CN C;obtain⟨j,g⟩:=CN E;obtain⟨m,o⟩:=AC.mp l;obtain⟨s,A⟩:=AC.mp g
  rcases Ho i j with c | c | c
  ·have:=CO.mp h _ _ m s c
   rwa [o,A]at this
  ·subst c;rw[l]at g;cases g;exact zX rfl G
  ·have:=CO.mp h _ _ s m c
   rw[o,A]at this;exact this.symm
 ·exact λh=>B.imp_of_mem λ{a b} H hb I=>h a H b hb (by lia)
theorem jx(h:Tz p ts)(S:ts.length<=400)(hp:p<=60)(C:∀x∈so,0<=x/\x < p)(T:so.Pairwise (· < ·))(E:inn.Pairwise (· < ·))(hs:so.length<=60)(hi:inn.length<=100):∃b:Bool,IW (p,Fx ts) so inn=some b/\(b=true↔Gv ts so inn):=by
 unfold IW J9 Gv
 by_cases c:inn=[]
 ·obtain⟨b,e,hb⟩:=tE h S C (by lia)
  subst c;rw[e,qX rfl];exact⟨b,rfl,by rw[hb,qp T]⟩
 ·rw[qY c]
  have:inn.isEmpty=false:=by cases inn with | nil=>exact zX rfl c | cons=>rfl
  rw[this];simp only[UO,Em,BA,if_false,BJ];rw[JQ (f:=λx=>decide (x∈so)) (by lia) λ_ _=>rfl];simp only[AD]
  by_cases s:∀x∈inn,x∈so
  ·rw[show(inn.map λx=>decide (x∈so)).all id=true by
    rw[DA];intro b hb;obtain⟨x,g,rfl⟩:=Aw.mp hb
    exact wX (s x g)]
   simp only[Em,BA,if_false,AD];have len:inn.length<=so.length:=Ln (E.imp λq=>by lia) s
   by_cases L:inn.length=so.length
   ·rw[wX (show(inn.length:Int)=so.length by lia)]
    exact⟨false,rfl,⟨λq=>(nomatch q),λq=>zX L q.2.1⟩⟩
   ·rw[wY (show ¬(inn.length:Int)=so.length by lia)]
    simp only[BA,if_false,BJ];have N:1<=inn.length:=DI.mpr c
    have tl:(Fx ts).length=ts.length:=by
     have o:=JN ts;rw[h.nrm]at o;exact o.length_eq
    have o:(Fx ts).Perm ts:=by have:=JN ts;rwa [h.nrm]at this
    have A:Tz (p:Int) (Fx ts):=h.perm o;rw[fO (w:=(p,Fx ts)) A (by dsimp only;lia) E N (by lia)];simp only[AD];obtain⟨P,eP,G⟩:=iQ A (by lia) E N (by lia);rw[eP];simp only[AD]
    have U:Cn (Fx ts) inn↔Cn ts inn:=by
     have:Ad (Fx ts)=Ad ts:=by
      funext x y
      unfold Ad;rw[o.mem_iff,o.mem_iff]
     unfold Cn;rw[this]
    rw[U]at G
    by_cases O:P.length<=1
    ·rw[wY (show ¬(1:Int) < P.length by lia)]
     simp only[BA,if_false,BJ]
     have hw:∀x∈so,∃b:Bool,((if decide (x∈inn)=true then some true else((M5 (p,Fx ts) x).bind λj=>Ff j (λB=>some true) λB=>some (decide (B∈inn))).bind λl=>some (l.any id))=some b)/\(b=true↔x∈inn∨∃y∈inn,Ad ts x y):=λx g=>by
      by_cases d:x∈inn
      ·rw[wX d]
       exact⟨true,rfl,⟨λ_=>.inl d,λ_=>rfl⟩⟩
      ·rw[wY d,qY AV]
       obtain⟨nl,X,Q,R⟩:=aS h (y:=0) (C x g).1 (C x g).2;rw[X];simp only[AD];rw[JQ (f:=λy=>decide (y∈inn)) (by lia) λ_ _=>rfl];refine⟨_,rfl,?_⟩;rw[EB]
       constructor
       ·rintro⟨b,hb,Y⟩
        obtain⟨y,H,rfl⟩:=Aw.mp hb;exact .inr ⟨y,of_decide_eq_true Y,(Q y).mp H⟩
       ·rintro(q | ⟨y,H,Z⟩)
        ·exact zX q d
        ·exact⟨_,Aw.mpr ⟨y,(Q y).mpr Z,rfl⟩,wX H⟩
     have cm:∃bs:List Bool,(Ff so (λm=>some true) λm=>if decide (m∈inn)=true then some true else((M5 (p,Fx ts) m).bind λj=>Ff j (λB=>some true) λB=>some (decide (B∈inn))).bind λl=>some (l.any id))=some bs/\(bs.all id=true↔∀x∈so,x∈inn∨∃y∈inn,Ad ts x y):=by
      refine⟨_,JQ (f:=λx=>open Classical in decide (x∈inn∨∃y∈inn,Ad ts x y)) (by lia) λx g=>?_,?_⟩
      ·obtain⟨b,I,J⟩:=hw x g
       rw[I]
       congr 1
       rw[Mo,J];simp
      ·simp
     obtain⟨bs,I,J⟩:=cm;rw[I];refine⟨bs.all id,rfl,?_⟩;rw[J];exact⟨λq=>⟨s,L,G.mp O,q⟩,λq=>q.2.2.2⟩
    ·rw[wX (show(1:Int) < P.length by lia)]
     exact⟨false,rfl,⟨λq=>(nomatch q),λq=>zX (G.mpr q.2.2.1) O⟩⟩
  ·have:(inn.map λx=>decide (x∈so)).all id=false:=by
    rw[<-kM,DA];intro q
    exact s λx g=>of_decide_eq_true (q _ (Aw.mpr ⟨x,g,rfl⟩))
   rw[this];exact⟨false,rfl,⟨λq=>(nomatch q),λq=>zX q.1 s⟩⟩
end
end M
namespace L4
open L2
theorem fQ{ρ g:Type}{c:g->Option Bool}{q:g->Option (Fw ρ g)}(I:g->Prop)(j:g->Nat)(h:∀s,I s->c s=some false∨(c s=some true/\∃s',q s=some (.nx s')/\I s'/\j s' < j s)) :
  ∀(n:Nat) (s:g),I s->j s < n->∃s',whF c q n s=some (.nx s')/\I s'/\c s'=some false
 | 0,s,_,m=>zX m (Dr _)
 | n+1,s,o,m=>by
  unfold whF
  rcases h s o with l | ⟨l,s',A,B,C⟩
  ·rw[l]
   exact⟨s,rfl,o,l⟩
  ·rw[l]
   simp only[AD,if_true];rw[A];exact fQ I j h n s' B (by lia)
end L4
namespace M
open L2 L4
section
variable{p:Nat}{ts:List ZPi}{inn:ZLi}
structure Nl(p:Nat)(ts:List ZPi)(ns:List ZLi):Prop where
 len:ns.length=p
 at':∀x:Int,0<=x->x < p->∃l,atI ns x=some l/\(∀y,y∈l↔Ad ts x y)/\l.Nodup/\l.length<=1000
theorem cM{ns:List ZLi}(N:Nl p ts ns)(hv:inn.Pairwise (· < ·))(Y:∀x∈inn,0<=x/\x < p)(h1:1<=inn.length)(hi:inn.length<=100):∃b:Bool,HG ns inn=some b/\(b=true↔Cn ts inn):=by
 obtain⟨a,e0,G⟩:=Kk (l:=inn) (i:=0) (by lia) (by lia)
 have O:inn.Nodup:=hv.imp λq=>by lia
 have ha:a∈inn:=Ac G;unfold HG HE;rw[e0];simp only[AD];rw[ZX];simp only[AD,BJ]
 let I:ZLi×Int->Prop:=λs=>s.1.Nodup/\(∀x∈s.1,x∈inn)/\a∈s.1/\(0<=s.2/\s.2<=s.1.length)/\(∀(i:Nat) (z:Int),(i:Int) < s.2->s.1[i]?=some z->∀y∈inn,Ad ts z y->y∈s.1)/\∀C:ZLi,a∈C->(∀x∈inn,x∈C->∀y∈inn,Ad ts x y->y∈C)->∀z∈s.1,z∈C
 have i0:I ([a],0):=⟨by simp,λx j=>by rw[AN.mp j];exact ha,by simp,⟨by simp,by simp⟩,λi z hi=>zX hi (by dsimp only;lia),λC H _ z B=>by rw[AN.mp B];exact H⟩
 obtain⟨E,w1,⟨Z,b2,b3,b4,b5,b6⟩,w3⟩:=fQ (ρ:=Bool) (c:=λo:ZLi×Int=>some (decide (o.2 < (o.1.length:Int))))
  (q:=λo:ZLi×Int=>BZ ((((atI o.1 o.2).bind λxN=>atI ns xN).bind λQ=>Ff Q (λJ=>if decide (J∈inn)=true then some (!decide (J∈o.1))else some false) λJ=>some J).bind λy3=>(Js o.1 y3).bind λR=>some (.nx R)) λS=>Ej (λΙ=>(S,Ι)) (some (.nx (o.2+1)))) I (λs=>200 - s.2.toNat) (by
  rintro s hI;have hI':=hI;obtain⟨a1,T,a3,a4,a5,a6⟩:=hI
  by_cases c:s.2 < (s.1.length:Int)
  ·refine .inr ⟨by simp[c],?_⟩
   obtain⟨z,g1,g2⟩:=Kk (l:=s.1) (i:=s.2) a4.1 c;have B:z∈s.1:=Ac g2;have A:=T z B;obtain⟨l,n1,n2,n3,n4⟩:=N.at' z (Y z A).1 (Y z A).2;have hl:s.1.length<=inn.length:=Ln a1 T
   have L:∀y,y∈l.filter (λy=>decide (y∈inn)&&!decide (y∈s.1))↔y∈inn/\Ad ts z y/\y∉s.1:=λy=>by
    rw[BU,n2];simp;exact⟨λ⟨u,v,w⟩=>⟨v,u,w⟩,λ⟨u,v,w⟩=>⟨v,u,w⟩⟩
   refine⟨(s.1++l.filter (λy=>decide (y∈inn)&&!decide (y∈s.1)),s.2+1),?_,⟨?_,?_,?_,?_,?_,?_⟩,?_⟩
   ·rw[g1]
    simp only[AD];rw[n1];simp only[AD]
    rw[Oc (P:=λy=>decide (y∈inn)&&!decide (y∈s.1)) (by lia) (λy _=>by
     cases decide (y∈inn) <;> rfl)]
    simp only[AD];have:=Na (λy=>decide (y∈inn)&&!decide (y∈s.1)) l;rw[HU (by lia)];rfl
   ·refine Bu.mpr ⟨a1,n3.filter _,λx j y g e=>?_⟩
    subst e;exact((L x).mp g).2.2 j
   ·intro x j
    rcases Aq.mp j with q | q
    ·exact T x q
    ·exact((L x).mp q).1
   ·exact As _ a3
   ·dsimp only
    rw[AK]
    lia
   ·intro i y hi g u hu m
    dsimp only at hi g
    by_cases ci:(i:Int) < s.2
    ·rw[Ab (by lia)]at g
     exact As _ (a5 i y ci g u hu m)
    ·have:i=s.2.toNat:=by lia
     subst this;rw[Ab (by lia),g2]at g;cases g
     by_cases cu:u∈s.1
     ·exact As _ cu
     ·exact Av _ ((L u).mpr ⟨hu,m,cu⟩)
   ·intro C H U y g
    rcases Aq.mp g with q | q
    ·exact a6 C H U y q
    ·obtain⟨q1,q2,q3⟩:=(L y).mp q
     exact U z A (a6 C H U z B) y q1 q2
   ·dsimp only
    lia
  ·exact .inl (by simp[c])) wN ([a],0) i0 (by dsimp only;decide)
 rw[w1];simp only[BJ]
 have w4:¬E.2 < (E.1.length:Int):=by simpa using w3
 refine⟨_,rfl,?_⟩;rw[decide_eq_true_iff]
 constructor
 ·intro e C c1 c2 z B
  have all:∀y∈inn,y∈E.1:=λy g=>JT λhn=>by
   have:(y :: E.1).length<=inn.length:=Ln (Cq.mpr ⟨hn,Z⟩) λx j=>by
    rcases A2.mp j with q | q
    ·rw[q];exact g
    ·exact b2 x q
   rw[A1]at this
   lia
  exact b6 C (c1 a G) c2 z (all z B)
 ·intro h
  have all:=h E.1 (λx j=>by rw[show(0:Int).toNat=0 from rfl]at G;rw[G]at j;cases j;exact b3) (λx j X y g m=>by
   obtain⟨i,hi⟩:=CN X;have:=(AC.mp hi).1
   exact b5 i x (by lia) hi y g m)
  have l1:=Ln O all;have l2:=Ln Z b2
  lia
theorem aa{l:ZLi}(h:l≠[]):∃x,atI l (-1)=some x/\l[l.length - 1]?=some x:=by
 have:=DI.mpr h;refine⟨l[l.length - 1],?_,Aj (by lia)⟩;unfold atI ixN;rw[qY (by decide),qX (by lia)];show l[((-1:Int)+(l.length:Int)).toNat]?=_;rw[show((-1:Int)+(l.length:Int)).toNat=l.length - 1 by lia];exact Aj (by lia)
theorem qK{l:ZLi}(m:l.Pairwise (· < ·)){a b:Int}(j:l[0]?=some a)(hb:l[l.length - 1]?=some b):(∀x∈l,0<=x/\x < p)↔¬a < 0/\¬(p:Int)<=b:=by
 constructor
 ·intro h
  have:=h a (Ac j);have:=h b (Ac hb)
  lia
 ·rintro⟨s,A⟩ x o
  obtain⟨i,g⟩:=CN o;have B:=(AC.mp g).1
  have C:a<=x:=by
   by_cases c:i=0
   ·subst c;rw[g]at j;cases j;lia
   ·have:=UW m j g (by lia);lia
  have E:x<=b:=by
   by_cases c:i=l.length - 1
   ·subst c;rw[g]at hb;cases hb;lia
   ·have:=UW m g hb (by lia);lia
  lia
end
section
variable{p:Nat}{ts:List ZPi}{so inn:ZLi}
open Classical in
theorem jA{ns:List ZLi}(N:Nl p ts ns)(hu:so.Pairwise (· < ·))(hv:inn.Pairwise (· < ·))(hs:so.length<=100)(hi:inn.length<=100):∃b:Bool,F0 ns so inn=some b/\(b=true↔(∀x∈so,0<=x/\x < p)/\Gv ts so inn):=by
 unfold F0 Fy
 by_cases J:so=[]
 ·subst J
  refine⟨false,rfl,⟨λq=>(nomatch q),λq=>?_⟩⟩;have:=q.2;unfold Gv at this;split at this
  ·exact zX rfl this.1
  ·rename_i c
   obtain⟨x,j⟩:=List.exists_mem_of_ne_nil _ c;exact zX (this.1 x j) BY
 ·have hlen:=DI.mpr J
  rw[wY (show ¬(so.length:Int)=0 by lia),qY AV];obtain⟨a,ea,la⟩:=Kk (l:=so) (i:=0) (by lia) (by lia);obtain⟨b,eb,lb⟩:=aa J;rw[ea];simp only[AD];rw[eb];simp only[AD];rw[N.len];have rg:=qK (p:=p) hu (a:=a) la lb
  by_cases o:∀x∈so,0<=x/\x < p
  ·obtain⟨E,L⟩:=rg.mp o
   rw[wY E,qY AV,wY L,AD,qY AV];simp only[BJ];unfold Gv
   by_cases Q:inn=[]
   ·subst Q
    rw[qX rfl];rw[wX (show((([]:ZLi).length:Nat):Int)=0 from rfl),qX rfl]
    have R:∀x∈so,∃P:Int->Bool,(∀y,P y=true↔(x≠y->Ad ts x y))/\∀y∈so,(Ej (λ_:Unit=>()) ((if (!decide (x=y))=true then(atI ns x).bind λS=>some (!decide (y∈S))else some false).bind λA=>if A=true then some (.rt false)else some (.nx ())):Option (Fw Bool Unit))=some (if P y=true then .nx ()else .rt false):=λx j=>by
     obtain⟨l,T,G,_⟩:=N.at' x (o x j).1 (o x j).2;refine⟨λy=>decide (x≠y->Ad ts x y),λy=>decide_eq_true_iff,λy s=>?_⟩;rw[T]
     by_cases e:x=y
     ·rw[wX e]
      refine FU ?_ (congrArg some (qX (wX (show x≠y->Ad ts x y from λq=>zX e q))).symm);rfl
     ·rw[wY e]
      by_cases m:y∈l
      ·refine FU ?_ (congrArg some (qX (wX (show x≠y->Ad ts x y from λ_=>(G y).mp m))).symm)
       simp only[AD];rw[wX m];rfl
      ·refine FU ?_ (congrArg some (qY (λq=>m ((G y).mpr ((of_decide_eq_true (p:=x≠y->Ad ts x y) q) e)))).symm)
       simp only[AD];rw[wY m];rfl
    have all:Ey so () (λ(_:Unit) yF=>Ej (λ_:Unit=>()) (Ey so () λ(_:Unit) yy=>Ej (λ_:Unit=>()) ((if (!decide (yF=yy))=true then(atI ns yF).bind λS=>some (!decide (yy∈S))else some false).bind λA=>if A=true then some (.rt false)else some (.nx ()))))=some (if so.all (λx=>decide (∀y∈so,x≠y->Ad ts x y))=true then(.nx ():Fw Bool Unit)else .rt false):=by
     refine PU λx j=>?_
     obtain⟨P,h1,O⟩:=R x j;rw[PU O]
     have:so.all P=decide (∀y∈so,x≠y->Ad ts x y):=by
      rw[Mo,DA,decide_eq_true_iff];exact⟨λq y s=>(h1 y).mp (q y s),λq y s=>(h1 y).mpr (q y s)⟩
     rw[this]
     by_cases d:∀y∈so,x≠y->Ad ts x y
     ·rw[wX d];rfl
     ·rw[wY d];rfl
    rw[all]
    have e:so.all (λx=>decide (∀y∈so,x≠y->Ad ts x y))=true↔∀x∈so,∀y∈so,x≠y->Ad ts x y:=by
     rw[DA];exact⟨λq x j=>of_decide_eq_true (q x j),λq x j=>wX (q x j)⟩
    cases d:so.all (λx=>decide (∀y∈so,x≠y->Ad ts x y))with
    | true=>exact⟨true,rfl,⟨λ_=>⟨o,J,e.mp d⟩,λ_=>rfl⟩⟩
    | false=>exact⟨false,rfl,⟨λq=>(nomatch q),λq=>by rw[e.mpr q.2.2]at d;cases d⟩⟩
   ·rw[qY Q]
    have il:=DI.mpr Q;rw[wY (show ¬(inn.length:Int)=0 by lia),qY AV];simp only[BJ];rw[Oc (P:=λx=>!decide (x∈so)) (by lia) λ_ _=>rfl];simp only[AD,BJ]
    by_cases C:∀x∈inn,x∈so
    ·have fe:inn.filter (λx=>!decide (x∈so))=[]:=by
      rw[Md];intro x j;simp[C x j]
     rw[fe];have len:inn.length<=so.length:=Ln (hv.imp λq=>by lia) C
     by_cases c3:inn.length=so.length
     ·rw[wX (show(so.length:Int)<=inn.length by lia),qX rfl]
      exact⟨false,rfl,⟨λq=>(nomatch q),λq=>zX c3 q.2.2.1⟩⟩
     ·rw[wY (show ¬(so.length:Int)<=inn.length by lia),qY AV,wY (show ¬(0:Int) < ((([]:ZLi).length:Nat):Int) by simp),qY AV]
      obtain⟨b2,e2,O⟩:=cM N hv (λx j=>o x (C x j)) (by lia) hi;rw[e2];simp only[AD]
      cases b2 with
      | false=>exact⟨false,rfl,⟨λq=>(nomatch q),λq=>by have:=O.mpr q.2.2.2.1;cases this⟩⟩
      | true=>
       simp only[Em,BA,if_false,BJ]
       have all:Ey so () (λ(_:Unit) H=>Ej (λ_:Unit=>()) ((if (!decide (H∈inn))=true then(((atI ns H).bind λU=>Ff U (λB=>some (decide (B∈inn))) (λB=>some B)).bind λX=>some (X.length:Int)).bind λY=>some (decide (Y=0))else some false).bind λZ=>if Z=true then some (.rt false)else some (.nx ())))=some (if so.all (λx=>decide (x∈inn∨∃y∈inn,Ad ts x y))=true then(.nx ():Fw Bool Unit)else .rt false):=by
        refine PU λx j=>?_
        by_cases d:x∈inn
        ·rw[wX d,wX (show x∈inn∨∃y∈inn,Ad ts x y from .inl d)]
         rfl
        ·rw[wY d]
         obtain⟨l,T,G,n3,n4⟩:=N.at' x (o x j).1 (o x j).2;simp only[UO,if_true];rw[T];simp only[AD];rw[Oc (P:=λy=>decide (y∈inn)) (by lia) λ_ _=>rfl];simp only[AD]
         by_cases g:∃y∈inn,Ad ts x y
         ·obtain⟨y,s,I⟩:=g
          have:0 < (l.filter λy=>decide (y∈inn)).length:=DI.mpr (List.ne_nil_of_mem (BU.mpr ⟨(G y).mpr I,wX s⟩));rw[wY (show ¬((l.filter λy=>decide (y∈inn)).length:Int)=0 by lia),wX (show x∈inn∨∃y∈inn,Ad ts x y from .inr ⟨y,s,I⟩)];rfl
         ·have:l.filter (λy=>decide (y∈inn))=[]:=by
           rw[Md];intro y s q;exact g ⟨y,of_decide_eq_true q,(G y).mp s⟩
          rw[this,wX (show((([]:ZLi).length:Nat):Int)=0 from rfl),wY (show ¬(x∈inn∨∃y∈inn,Ad ts x y)from λq=>q.elim d g)];rfl
       rw[all]
       have e:so.all (λx=>decide (x∈inn∨∃y∈inn,Ad ts x y))=true↔∀x∈so,x∈inn∨∃y∈inn,Ad ts x y:=by
        rw[DA];exact⟨λq x j=>of_decide_eq_true (q x j),λq x j=>wX (q x j)⟩
       cases d:so.all (λx=>decide (x∈inn∨∃y∈inn,Ad ts x y))with
       | true=>exact⟨true,rfl,⟨λ_=>⟨o,C,c3,O.mp rfl,e.mp d⟩,λ_=>rfl⟩⟩
       | false=>exact⟨false,rfl,⟨λq=>(nomatch q),λq=>by rw[e.mpr q.2.2.2.2]at d;cases d⟩⟩
    ·have:0 < (inn.filter λx=>!decide (x∈so)).length:=by
      refine DI.mpr λq=>C λx j=>?_
      have:=Md.mp q x j;simpa using this
     refine⟨false,?_,⟨λq=>(nomatch q),λq=>zX q.2.1 C⟩⟩;rw[wX (show(0:Int) < ((inn.filter λx=>!decide (x∈so)).length:Int) by lia)]
     cases decide ((so.length:Int)<=inn.length) <;> rfl
  ·refine⟨false,?_,⟨λq=>(nomatch q),λq=>zX q.1 o⟩⟩
   by_cases E:a < 0
   ·rw[wX E];rfl
   ·rw[wY E]
    by_cases L:(p:Int)<=b
    ·rw[wX L];rfl
    ·exact zX (rg.mpr ⟨E,L⟩) o
end
def fl(cs:List (ZLi×ZLi)):ZLi:=cs.flatMap (·.1)
theorem WN(cs:List (ZLi×ZLi))(c:ZLi×ZLi):fl (cs++[c])=fl cs++c.1:=by
 unfold fl;rw[bY];simp
theorem jg{k:Nat}:∀{cs:List (ZLi×ZLi)},(∀c∈cs,c.1.length<=k)->(fl cs).length<=k * cs.length
 | [],_=>by simp[fl]
 | c :: cs,h=>by
  have g:=jg (cs:=cs) λd hd=>h d (AY _ hd)
  have j:=h c Ax
  have e:fl (c :: cs)=c.1++fl cs:=by unfold fl;rw[QX]
  rw[e,AK,A1,Nat.mul_succ]
  lia
structure Cs(cs:List (ZLi×ZLi)):Prop where
 up:∀c∈cs,c.1.Pairwise (· < ·)/\c.2.Pairwise (· < ·)
 len:∀c∈cs,c.1.length<=100/\c.2.length<=100
 few:cs.length<=100
section
variable{p:Nat}{ts:List ZPi}{cs:List (ZLi×ZLi)}
theorem iD{j:Type}{g l:List j}{x:j}(h:g++[x] <+: l):∀y∈g,y∈l:=λy m=>by
 obtain⟨t,rfl⟩:=h;simp[m]
open Classical in
theorem j4(h:Tz p ts)(Q:ts.length<=400)(R:p<=60){ns:List ZLi}(N:Nl p ts ns)(H:Cs cs) :
  ∃b:Bool,Dl ns cs=some b/\Et (p,Fx ts) cs=some (if b=true then 1 else 2)/\(b=true↔CF (fl cs)=Ga 0 p/\∀c∈cs,Gv ts c.1 c.2):=by
 have m:∀g,(∀c∈g,c∈cs)->g.length<=cs.length->(fl g).length<=10000:=λg S A=>by
  have:=jg (k:=100) (cs:=g) λc j=>(H.len c (S c j)).1
  have:=H.few;have:100 * g.length<=100 * 100:=eV _ (by lia)
  lia
 have rng:CF (fl cs)=Ga 0 p->∀c∈cs,∀x∈c.1,0<=x/\x < p:=λe c j x C=>by
  have:x∈CF (fl cs):=(Bp _).mem_iff.mpr (Ic.mpr ⟨c,j,C⟩);rw[e]at this;have:=EV.mp this
  lia
 have law:Ok (Dl ns cs) λb=>b=true↔CF (fl cs)=Ga 0 p/\∀c∈cs,(∀x∈c.1,0<=x/\x < p)/\Gv ts c.1 c.2:=by
  unfold Dl En;simp only[AD,dQ,BJ];refine OkF.out (OkF.seq (OkF.for (λ(g:List (ZLi×ZLi)) s=>s=fl g/\∀c∈g,(∀x∈c.1,0<=x/\x < p)/\Gv ts c.1 c.2) ⟨rfl,λc j=>zX j BY⟩ ?_) λs J=>?_)
  ·rintro g c s j o ⟨rfl,T⟩
   obtain⟨B,E⟩:=H.up c j;obtain⟨L,G⟩:=H.len c j;obtain⟨b,e,hb⟩:=jA N B E L G;have A:=o.length_le;rw[AK,Ai]at A;rw[e];simp only[AD]
   cases b with
   | false=>exact .rt ⟨λq=>(nomatch q),λq=>by have:=hb.mpr (q.2 c j);cases this⟩
   | true=>
    simp only[Em,BA,if_false,BJ];have:=m g (iD o) (by lia);rw[HU (by lia)];refine .nx ⟨(WN g c).symm,λd hd=>?_⟩
    rcases Aq.mp hd with q | q
    ·exact T d q
    ·rw[AN.mp q];exact hb.mp rfl
  ·rw[N.len,J8 (by lia) (by lia),Ay]
   simp only[AD];refine .rt ?_;rw[decide_eq_true_iff,J.1];exact⟨λq=>⟨q,J.2⟩,λq=>q.1⟩
 obtain⟨b,e,hb⟩:=law
 have I:b=true↔CF (fl cs)=Ga 0 p/\∀c∈cs,Gv ts c.1 c.2:=hb.trans ⟨λq=>⟨q.1,λc j=>(q.2 c j).2⟩,λq=>⟨q.1,λc j=>⟨rng q.1 c j,q.2 c j⟩⟩⟩
 refine⟨b,e,?_,I⟩;unfold Et M4;simp only[AD,dQ,BJ]
 obtain⟨s,U,rfl⟩:=WL (ρ:=Unit) (l:=cs) (s0:=([]:ZLi)) (q:=λ(X:ZLi) Y=>Ej (λZ=>Z) ((Js X Y.1).bind λl7=>some (.nx l7))) (λg s=>s=fl g) rfl (by
  rintro g c s j o rfl;have A:=o.length_le;rw[AK,Ai]at A;have:=m g (iD o) (by lia);have:=(H.len c j).1;refine⟨fl g++c.1,?_,(WN g c).symm⟩;rw[HU (by lia)]
  rfl)
 rw[U];simp only[BJ];rw[J8 (by lia) (by lia),Ay];simp only[AD]
 by_cases c:CF (fl cs)=Ga 0 p
 ·rw[wX c]
  simp only[Em,BA,if_false,BJ]
  have all:Ey cs () (λ(_:Unit) O=>Ej (λ_:Unit=>()) (((IW (p,Fx ts) O.1 O.2).bind λΘ=>some (!Θ)).bind λΗ=>if Η=true then some (.rt ())else some (.nx ())))=some (if cs.all (λc=>decide (Gv ts c.1 c.2))=true then(.nx ():Fw Unit Unit)else .rt ()):=by
   refine PU λd hd=>?_
   obtain⟨B,E⟩:=H.up d hd;obtain⟨L,G⟩:=H.len d hd;have r:=rng c d hd
   have sl:d.1.length<=p:=by
    have:=Ln (l:=d.1) (k:=Ga 0 p) (B.imp λq=>by lia) λx C=>EV.mpr (by have:=r x C;lia)
    rwa [FB]at this
   obtain⟨b',e',P⟩:=jx h Q R r B E (by lia) G;rw[e']
   cases b' with
   | true=>
    refine FU ?_ (congrArg some (qX (wX (P.mp rfl))).symm);rfl
   | false=>
    refine FU ?_ (congrArg some (qY λq=>by have:=P.mpr (of_decide_eq_true q);cases this).symm);rfl
  rw[all]
  have e2:cs.all (λc=>decide (Gv ts c.1 c.2))=b:=by
   rw[Mo,I,DA];exact⟨λq=>⟨c,λd hd=>of_decide_eq_true (q d hd)⟩,λq d hd=>wX (q.2 d hd)⟩
  rw[e2]
  cases b <;> rfl
 ·have:b=false:=by
   cases b with
   | false=>rfl
   | true=>exact zX (I.mp rfl).1 c
  subst this;rw[wY c];rfl
end
theorem V8{x y:Int×Int}(h:nrm x=nrm y):x=y∨x=(y.2,y.1):=by
 unfold nrm at h;have g:=congrArg UH h;have j:=congrArg oi h;dsimp only at g j
 by_cases c:x.1=y.1/\x.2=y.2
 ·exact .inl (MK c.1 c.2)
 ·refine .inr (MK ?_ ?_) <;> dsimp only <;> split at g <;> split at g <;> split at j <;> split at j <;> omega
theorem Xe{ts:List ZPi}{x:Nat}{z:Int}:z∈Bw ts x↔∃t∈ts,(t.1=x/\z=t.2)∨(t.2=x/\z=t.1):=by
 unfold Bw;rw[Ic]
 constructor
 ·rintro⟨t,g,m⟩
  refine⟨t,g,?_⟩
  rcases Aq.mp m with h | h
  ·split at h
   ·rename_i e;exact .inl ⟨e,AN.mp h⟩
   ·cases h
  ·split at h
   ·rename_i e;exact .inr ⟨e,AN.mp h⟩
   ·cases h
 ·rintro⟨t,g,⟨j,l⟩ | ⟨j,l⟩⟩
  ·exact⟨t,g,by rw[qX j];simp[l]⟩
  ·exact⟨t,g,by rw[qX j];simp[l]⟩
theorem O8{x:Nat}:∀{ts:List ZPi},ts.Nodup->(∀t∈ts,t.1 < t.2)->(Bw ts x).Nodup
 | [],_,_=>E0
 | t :: ts,h,j=>by
  obtain⟨A,B⟩:=Cq.mp h
  have C:=O8 (x:=x) B λu g=>j u (AY _ g)
  have I:=j t Ax;show(((if t.1=(x:Int)then[t.2]else[])++(if t.2=(x:Int)then[t.1]else[]))++Bw ts x).Nodup;rw[Bu];refine⟨?_,C,λa E b hb e=>?_⟩
  ·by_cases o:t.1=(x:Int)
   ·rw[qX o,qY (by lia)];simp
   ·rw[qY o];split <;> simp
  ·subst e
   obtain⟨u,g,s⟩:=Xe.mp hb;have G:=j u (AY _ g)
   have:t=u:=by
    rcases Aq.mp E with q | q
    ·split at q
     ·rename_i H
      have:=AN.mp q
      rcases s with⟨l,m⟩ | ⟨l,m⟩
      ·exact MK (by lia) (by lia)
      ·lia
     ·cases q
    ·split at q
     ·rename_i H
      have:=AN.mp q
      rcases s with⟨l,m⟩ | ⟨l,m⟩
      ·lia
      ·exact MK (by lia) (by lia)
     ·cases q
   exact A (this▸g)
theorem Nl.mk'{p:Nat}{ts:List ZPi}(h:Tz p ts)(A:ts.length<=400):Nl p ts ((Bs p).map (nr ts)):=by
 refine⟨by simp,λx g m=>?_⟩;obtain⟨l,o,j⟩:=Kk (l:=(Bs p).map (nr ts)) (i:=x) g (by simp;exact m);rw[Ao,CC (by lia)]at j;cases j;refine⟨_,o,λy=>?_,?_,?_⟩
 ·rw[rh,Cf g];exact uK
 ·unfold nr
  rw[(Bp _).nodup_iff]
  exact O8 h.2 λt s=>(h.1 t s).2.1
 ·have:=rj ts x.toNat
  lia
theorem Xg{l:ZLi}(h:l.Nodup){i j:Nat}{x:Int}(hi:l[i]?=some x)(g:l[j]?=some x):i=j:=by
 obtain⟨s,m⟩:=AC.mp hi;obtain⟨A,o⟩:=AC.mp g;exact(kJ h).mp (by rw[m,o])
def Sub(g:ZLi)(k:Nat)(t:Int×Int):Prop:=∃i j:Nat,i < j/\j<=k/\g[i]?=some t.1/\g[j]?=some t.2
theorem Sub.up{g:ZLi}{k m:Nat}{t:Int×Int}(h:Sub g k t)(s:k<=m):Sub g m t:=by
 obtain⟨i,j,l,A,o⟩:=h;exact⟨i,j,l,by lia,o⟩
theorem gH{g:ZLi}(l:g.Nodup){k j:Nat}{t:Int×Int}(h:Sub g k t){x y:Int}(A:g[j]?=some x)(m:g[k+1]?=some y)(B:j<=k):nrm t≠nrm (x,y):=λe=>by
 obtain⟨a,b,C,E,o,s⟩:=h
 rcases V8 e with q | q
 ·rw[q]at s
  have:=Xg l s m
  lia
 ·rw[q]at o
  have:=Xg l o m
  lia
structure Lk(pl:ZLi)(inner:Int)(m:Nat)(L:List ZPi):Prop where
 sub:∀t∈L,Sub pl m t
 nd:(L.map nrm).Nodup
 c0:inner=0->∀(i j:Nat) (x y:Int),i < j->j<=m->pl[i]?=some x->pl[j]?=some y->(x,y)∈L
 c1:0 < inner->∀(j:Nat) (y:Int),1<=j->j<=m->pl[j]?=some y->∃(i:Nat) (x:Int),i < j/\(i:Int) < inner/\pl[i]?=some x/\(x,y)∈L
theorem jw(c s:Int){o:ZLi}(J:o.Nodup)(h1:1<=o.length)(h6:o.length<=6){g:Int}(i0:0<=g)(i1:g < o.length){T:List ZPi}(hT:T.length<=1000) :
  ∃L,iS (Dz c s o g T)=some (T++L)/\L.length<=36/\Lk o g (o.length - 1) L:=by
 unfold Dz;simp only[AD];rw[lq (by decide) (by decide) (by lia) (by lia)];simp only[AD]
 have at':∀k:Int,0<=k->k < o.length->∃x,atI o k=some x/\o[k.toNat]?=some x:=λk k0 k1=>Kk k0 k1
 have O:=λq h=>WL (ρ:=Unit) (l:=Ga 1 ((o.length:Int) - 1).toNat) (s0:=T) (q:=q) (λm s=>∃L,s=T++L/\L.length<=6 * m.length/\Lk o g m.length L) ⟨[],by simp,by simp,λt A=>zX A BY,E0,λ_ i j x y h1 P=>zX P (by simp;lia),λ_ j y h1 P=>zX P (by simp;lia)⟩ h
 have fin:∀r:Option (Fw Unit (List ZPi)),(∃s,r=some (.nx s)/\∃L,s=T++L/\L.length<=6 * (Ga 1 ((o.length:Int) - 1).toNat).length/\Lk o g (Ga 1 ((o.length:Int) - 1).toNat).length L)->∃L,iS (Ej (λQ=>Q) r)=some (T++L)/\L.length<=36/\Lk o g (o.length - 1) L:=by
  rintro r ⟨s,rfl,L,rfl,a1,C⟩;rw[FB,show((o.length:Int) - 1).toNat=o.length - 1 by lia]at a1 C;exact⟨L,rfl,by lia,C⟩
 refine fin _ (O _ ?_);rintro m k s hk xD ⟨L,rfl,a1,C,a3,a4,a5⟩;obtain⟨ek,lt⟩:=O3 xD
 have R:k=((m.length+1:Nat):Int):=by lia
 subst R;obtain⟨y,ey,B⟩:=at' ((m.length+1:Nat):Int) (by lia) (by lia);rw[Ay]at B
 have G:(m++[((m.length+1:Nat):Int)]).length=m.length+1:=by simp
 by_cases z:g=0
 ·rw[wX z,qX rfl]
  rw[J8 (by lia) (by lia),Ay];simp only[AD]
  rw[JQ (f:=λx=>(o.getD x.toNat 0,y)) (by rw[FB];lia) λx S=>by
   have:=EV.mp S;obtain⟨u,e1,E⟩:=at' x (by lia) (by lia);rw[e1,ey];simp only[AD];rw[Bz,E]
   rfl]
  simp only[AD];rw[HU (by rw[AK,AG,FB];lia)]
  have nm:∀t∈(Ga 0 (m.length+1)).map (λx=>(o.getD x.toNat 0,y)),∃i:Nat,i<=m.length/\o[i]?=some t.1/\t.2=y:=λt A=>by
   obtain⟨x,S,rfl⟩:=Aw.mp A;have:=EV.mp S;obtain⟨u,e1,E⟩:=at' x (by lia) (by lia);refine⟨x.toNat,by lia,?_,rfl⟩;dsimp only;rw[Bz,E];rfl
  refine⟨T++L++(Ga 0 (m.length+1)).map (λx=>(o.getD x.toNat 0,y)),rfl,L++(Ga 0 (m.length+1)).map (λx=>(o.getD x.toNat 0,y)),by rw[A7],?_,λt A=>?_,?_,λ_ i j a b yQ hj ha hb=>?_,λN=>zX z (by lia)⟩
  ·rw[G,AK,AG,FB];lia
  ·rw[G]
   rcases Aq.mp A with q | q
   ·exact(C t q).up (by lia)
   ·obtain⟨i,h3,U,X⟩:=nm t q
    exact⟨i,m.length+1,by lia,AL _,U,by rw[X];exact B⟩
  ·rw[BD]
   refine Bu.mpr ⟨a3,?_,λu I v H e=>?_⟩
   ·rw[BV]
    refine B2.mpr ((V0 0 (m.length+1)).imp_of_mem λ{u v} I H huv e=>?_);have b1:=EV.mp I;have b2:=EV.mp H;obtain⟨xu,_,E⟩:=at' u (by lia) (by lia);obtain⟨xv,_,e4⟩:=at' v (by lia) (by lia)
    have Y:o.getD u.toNat 0=xu:=by rw[Bz,E];rfl
    have Z:o.getD v.toNat 0=xv:=by rw[Bz,e4];rfl
    simp only[Function.comp]at e;rw[Y,Z]at e
    rcases V8 e with q | q
    ·have:xu=xv:=congrArg UH q
     subst this;have:=Xg J E e4
     lia
    ·have:xu=y:=congrArg UH q
     subst this;have:=Xg J E B
     lia
   ·obtain⟨t,A,rfl⟩:=Aw.mp I
    obtain⟨t2,ht2,rfl⟩:=Aw.mp H;obtain⟨i,h3,U,X⟩:=nm t2 ht2;exact gH J (C t A) U B h3 (by rw[<-X];exact e)
  ·rw[G]at hj
   by_cases cj:j<=m.length
   ·exact As _ (a4 z i j a b yQ cj ha hb)
   ·have:j=m.length+1:=by lia
    subst this;rw[B]at hb;cases hb;refine Av _ (Aw.mpr ⟨(i:Int),EV.mpr (by lia),?_⟩);rw[Ay,Bz,ha];rfl
 ·rw[wY z,qY AV]
  rw[aT (.inl ⟨by decide,by decide⟩)];simp only[AD];obtain⟨v,ev,v0⟩:=aV c (s+64 * ((m.length+1:Nat):Int));rw[ev];simp only[AD]
  have hm:(0:Int) < if g < ((m.length+1:Nat):Int)then g else((m.length+1:Nat):Int):=by split <;> lia
  rw[KF hm];simp only[AD,BJ];have d0:=By (v / 8) (show(if g < ((m.length+1:Nat):Int)then g else((m.length+1:Nat):Int))≠0 by lia);have d1:=Bj (v / 8) hm;generalize v / 8 % (if g < ((m.length+1:Nat):Int)then g else((m.length+1:Nat):Int))=j at d0 d1
  have dj:j < g/\j < ((m.length+1:Nat):Int):=by split at d1 <;> lia
  obtain⟨x,ex,lx⟩:=at' j d0 (by lia);rw[ex,ey];simp only[AD];rw[RZ (by rw[AK];lia)];refine⟨T++L++[(x,y)],rfl,L++[(x,y)],by rw[A7],?_,λt A=>?_,?_,λN=>zX N z,λN i b hi hib hb=>?_⟩
  ·rw[G,AK,Ai];lia
  ·rw[G]
   rcases Aq.mp A with q | q
   ·exact(C t q).up (by lia)
   ·rw[AN.mp q]
    exact⟨j.toNat,m.length+1,by lia,AL _,lx,B⟩
  ·rw[BD]
   refine Bu.mpr ⟨a3,by simp,λu I v H e=>?_⟩;obtain⟨t,A,rfl⟩:=Aw.mp I;rw[List.map_singleton,AN]at H;subst H;exact gH J (C t A) lx B (by lia) e
  ·rw[G]at hib
   by_cases ci:i<=m.length
   ·obtain⟨i',x',Y,Z,g3,g4⟩:=a5 N i b hi ci hb
    exact⟨i',x',Y,Z,g3,As _ g4⟩
   ·have:i=m.length+1:=by lia
    subst this;rw[B]at hb;cases hb;exact⟨j.toNat,x,by lia,by lia,lx,Av _ (by simp)⟩
theorem Gv.mono{ts s:List ZPi}{A inn:ZLi}(h:Gv ts A inn)(m:∀x y,Ad ts x y->Ad s x y):Gv s A inn:=by
 unfold Gv at h ⊢;split
 ·rename_i c
  rw[qX c]at h;exact⟨h.1,λx j y l B=>m x y (h.2 x j y l B)⟩
 ·rename_i c
  rw[qY c]at h;refine⟨h.1,h.2.1,λC E G=>h.2.2.1 C E λx j o y l g=>G x j o y l (m x y g),λx j=>?_⟩
  rcases h.2.2.2 x j with q | ⟨y,l,g⟩
  ·exact .inl q
  ·exact .inr ⟨y,l,m x y g⟩
theorem aG{l:ZLi}(h:l.Nodup):(CF l).Pairwise (· < ·):=XG h
theorem iq{pl:ZLi}(hn:pl.Nodup)(h1:1<=pl.length){inner:Int}(i0:0<=inner)(i1:inner < pl.length){L:List ZPi}(H:Lk pl inner (pl.length - 1) L) :
  Gv L (CF pl) (CF (pl.take inner.toNat)):=by
 have lt:∀{j:Nat} {y:Int},pl[j]?=some y->j<=pl.length - 1:=λh=>by have:=(AC.mp h).1;lia
 have G:∀x,x∈CF pl↔x∈pl:=λx=>(Bp _).mem_iff
 have s:∀x,x∈CF (pl.take inner.toNat)↔∃i:Nat,(i:Int) < inner/\pl[i]?=some x:=λx=>by
  rw[(Bp _).mem_iff]
  constructor
  ·intro h
   obtain⟨i,o⟩:=CN h;have X:=(AC.mp o).1;rw[Be]at X;rw[El (by lia)]at o;exact⟨i,by lia,o⟩
  ·rintro⟨i,I,m⟩
   refine Ac (i:=i) ?_;rw[El (by lia)];exact m
 unfold Gv
 by_cases z:inner=0
 ·subst z
  have e:CF (pl.take (0:Int).toNat)=[]:=List.perm_nil.mp (Bp []);rw[qX e];refine⟨λq=>?_,λx E y g Y=>?_⟩
  ·have:=(Bp pl).length_eq
   rw[q]at this;simp at this
   lia
  ·obtain⟨i,o⟩:=CN ((G x).mp E)
   obtain⟨j,l⟩:=CN ((G y).mp g)
   rcases Ho i j with c | c | c
   ·exact .inl (H.c0 rfl i j x y c (lt l) o l)
   ·subst c;rw[o]at l;cases l;exact zX rfl Y
   ·exact .inr (H.c0 rfl j i y x c (lt o) l o)
 ·have Q:0 < inner:=by lia
  have N:(CF (pl.take inner.toNat)).length=inner.toNat:=by
   rw[(Bp _).length_eq,Be]
   lia
  rw[qY λq=>by rw[q]at N;simp at N;lia];refine⟨λx E=>?_,?_,λC d1 d2=>?_,λx E=>?_⟩
  ·obtain⟨i,_,m⟩:=(s x).mp E
   exact(G x).mpr (Ac m)
  ·rw[N,(Bp pl).length_eq]
   lia
  ·-- down to the first place,and up again
   have at':∀i:Nat,(i:Int) < inner->∃x,pl[i]?=some x:=λi o=>⟨_,Aj (by lia)⟩
   have step:∀(j:Nat) (y:Int),1<=j->(j:Int) < inner->pl[j]?=some y->∃(i:Nat) (x:Int),i < j/\(i:Int) < inner/\pl[i]?=some x/\(x∈C↔y∈C):=λj y l J g=>by
    obtain⟨i,x,I,m,A,B⟩:=H.c1 Q j y l (lt g) g;have R:=(s x).mpr ⟨i,m,A⟩;have S:=(s y).mpr ⟨j,J,g⟩;exact⟨i,x,I,m,A,λq=>d2 x R q y S (.inl B),λq=>d2 y S q x R (.inr B)⟩
   obtain⟨Z,O⟩:=at' 0 (by lia)
   have same:∀(n j:Nat) (y:Int),j<=n->(j:Int) < inner->pl[j]?=some y->(Z∈C↔y∈C):=λn=>by
    induction n with
    | zero=>
     intro j y l _ g
     have:j=0:=by lia
     subst this;rw[O]at g;cases g;exact uK
    | succ n T=>
     intro j y l J g
     by_cases c:j=0
     ·exact T j y (by lia) J g
     ·obtain⟨i,x,I,m,A,B⟩:=step j y (by lia) J g
      exact(T i x (by lia) m A).trans B
   obtain⟨a,U⟩:∃a,(CF (pl.take inner.toNat))[0]?=some a:=⟨_,Aj (by lia)⟩
   obtain⟨k,k1,k2⟩:=(s a).mp (Ac U);have P:=(same k k a (AL _) k1 k2).mpr (d1 a U);intro y g;obtain⟨j,j1,j2⟩:=(s y).mp g;exact(same j j y (AL _) j1 j2).mp P
  ·obtain⟨j,l⟩:=CN ((G x).mp E)
   by_cases c:(j:Int) < inner
   ·exact .inl ((s x).mpr ⟨j,c,l⟩)
   ·obtain⟨i,y,I,m,A,B⟩:=H.c1 Q j x (by lia) (lt l) l
    exact .inr ⟨y,(s y).mpr ⟨i,m,A⟩,.inr B⟩
theorem oB{g:Type}(l:List g){a b:Nat}(h:a<=b)(hb:b<=l.length):EN l (some (a:Int)) (some (b:Int))=(l.drop a).take (b - a):=by
 unfold EN;rw[HT.RO,HT.RO,JS hb,JS (by lia)]
theorem WU(ns:ZLi){k:Int}(g:0<=k):∃c,Fc ns k=some c/\0<=c:=by
 unfold Fc KC
 by_cases c:k < ns.length
 ·obtain⟨x,j,_⟩:=Kk g c
  rw[wX c,qX rfl,j];rw[show cQ 10 60=some (10 ^ 60)from qX (by decide)];simp only[AD];rw[KF (by decide)];exact⟨_,rfl,By _ (by decide)⟩
 ·rw[wY c,qY AV]
  exact⟨0,rfl,bd _⟩
def sm(K:List ZPi):Int:=(K.map (·.1)).sum
theorem aH(K:List ZPi)(x:Int×Int):sm (K++[x])=sm K+x.1:=by
 unfold sm;simp
theorem gZ{m:Int}(g:0<=m):∀{K:List ZPi},(∀k∈K,1<=k.1/\k.1<=m)->K.length<=sm K/\sm K<=m * K.length
 | [],_=>by simp[sm]
 | k :: K,h=>by
  have j:=gZ g (K:=K) λd hd=>h d (AY _ hd)
  have l:=h k Ax
  have e:sm (k :: K)=k.1+sm K:=by unfold sm;simp
  rw[e,A1]
  have:m * ((K.length+1:Nat):Int)=m * (K.length:Int)+m:=by rw[show((K.length+1:Nat):Int)=(K.length:Int)+1 by lia,Int.mul_add,wG]
  lia
structure Gi(od:ZLi)(i a:Nat)(T:List ZPi)(cs:List (ZLi×ZLi)):Prop where
 ne:∀t∈T,t.1≠t.2/\t.1∈od.take a/\t.2∈od.take a
 nd:(T.map nrm).Nodup
 tl:T.length<=36 * i
 cl:cs.length=i
 cu:∀c∈cs,c.1≠[]/\c.1.Pairwise (· < ·)/\c.2.Pairwise (· < ·)/\c.1.length<=6/\c.2.length<=6
 co:∀c∈cs,Gv T c.1 c.2
 fp:(fl cs).Perm (od.take a)
theorem Gi.next{m:ZLi}(S:m.Nodup){i a n:Nat}{T L:List ZPi}{cs:List (ZLi×ZLi)}(h:Gi m i a T cs)(ha:a+n<=m.length)(n1:1<=n)(n6:n<=6){l:Int}(U:0<=l)(i1:l < n)
  (l1:L.length<=36) (B:Lk ((m.drop a).take n) l (((m.drop a).take n).length - 1) L) :
  Gi m (i+1) (a+n) (T++L) (cs++[(CF ((m.drop a).take n),CF (((m.drop a).take n).take l.toNat))]):=by
 have C:m.take (a+n)=m.take a++(m.drop a).take n:=by rw[List.take_add]
 have E:(m.take a++(m.drop a).take n).Nodup:=by rw[<-C];exact S.sublist (Eg _ _)
 obtain⟨ϥ,A,O⟩:=Bu.mp E
 have X:((m.drop a).take n).length=n:=by rw[Be,Ca];lia
 generalize (m.drop a).take n=pl at *
 have o:∀t∈L,t.1≠t.2/\t.1∈pl/\t.2∈pl:=λt s=>by
  obtain⟨i,j,h1,h2,P,G⟩:=B.sub t s;refine⟨λe=>?_,Ac P,Ac G⟩;rw[<-e]at G;have:=Xg A P G
  lia
 refine⟨λt s=>?_,?_,?_,?_,λc H=>?_,λc H=>?_,?_⟩
 ·rw[C]
  rcases Aq.mp s with q | q
  ·obtain⟨I,J,N⟩:=h.ne t q
   exact⟨I,As _ J,As _ N⟩
  ·obtain⟨I,J,N⟩:=o t q
   exact⟨I,Av _ J,Av _ N⟩
 ·rw[BD]
  refine Bu.mpr ⟨h.nd,B.nd,λu Y v Z e=>?_⟩;obtain⟨t,s,rfl⟩:=Aw.mp Y;obtain⟨w,hw,rfl⟩:=Aw.mp Z;have g:=(h.ne t s).2.1;have Q:=o w hw
  rcases V8 e with q | q
  ·rw[q]at g
   exact O _ g _ Q.2.1 rfl
  ·rw[q]at g
   exact O _ g _ Q.2.2 rfl
 ·rw[AK]
  have:=h.tl
  lia
 ·rw[AK,h.cl]
  rfl
 ·rcases Aq.mp H with q | q
  ·exact h.cu c q
  ·rw[AN.mp q]
   have R:=(Bp pl).length_eq;have e2:=(Bp (pl.take l.toNat)).length_eq;rw[Be]at e2;refine⟨λz=>?_,aG A,aG (A.sublist (Eg _ _)),by dsimp only;lia,by dsimp only;lia⟩;dsimp only at z;rw[z]at R;simp at R
   lia
 ·have m1:∀x y,Ad T x y->Ad (T++L) x y:=λx y q=>q.imp (As _) (As _)
  have m2:∀x y,Ad L x y->Ad (T++L) x y:=λx y q=>q.imp (Av _) (Av _)
  rcases Aq.mp H with q | q
  ·exact(h.co c q).mono m1
  ·rw[AN.mp q]
   exact(iq A (by lia) U (by lia) B).mono m2
 ·rw[WN,C]
  exact h.fp.append (Bp pl)
theorem iK{g:ZLi}{p:Nat}(j:g.Nodup)(A:g.length=p)(m:∀x∈g,0<=x/\x < p):g.Perm (Ga 0 p):=by
 refine(List.perm_ext_iff_of_nodup j ((V0 0 p).imp λq=>by lia)).mpr λx=>⟨λh=>EV.mpr (by have:=m x h;lia),λh=>JT λo=>?_⟩
 have:=Ln (l:=x :: g) (k:=Ga 0 p) (Cq.mpr ⟨o,j⟩) λy s=>by
  rcases A2.mp s with q | q
  ·rw[q];exact h
  ·exact EV.mpr (by have:=m y q;lia)
 rw[FB,A1]at this
 lia
theorem gV(p:Nat):CF (Ga 0 p)=Ga 0 p:=(Bp _).eq_of_pairwise (λa b _ _ g j=>Nb g j) (Kw _) ((V0 0 p).imp λq=>by lia)
structure Gr(p:Nat)(ts:List ZPi)(cs:List (ZLi×ZLi)):Prop where
 p1:1<=p
 p2:p<=36
 tz:Tz p ts
 tl:ts.length<=216
 c1:1<=cs.length
 c2:cs.length<=6
 cu:∀c∈cs,c.1≠[]/\c.1.Pairwise (· < ·)/\c.2.Pairwise (· < ·)/\c.1.length<=6/\c.2.length<=6
 co:∀c∈cs,Gv ts c.1 c.2
 fp:CF (fl cs)=Ga 0 p
theorem X7(x:Int×Int):nM [x.1,x.2]=some (nrm x).1/\nN [x.1,x.2]=some (nrm x).2:=by
 unfold nM nN TC nrm;simp only[ka,List.foldl_nil];unfold ltZ gtZ;simp
theorem jR(ns:ZLi):Ok (IM ns) λv=>∃p:Nat,v.1=p/\Gr p v.2.1 v.2.2:=by
 unfold IM IK;simp only[AD,dQ,BJ];obtain⟨Y,e0,c0n⟩:=WU ns (k:=0) (by decide);rw[e0];simp only[AD];have m0:=By Y (show(6:Int)≠0 by decide);have m1:=Bj Y (show(0:Int) < 6 by decide);rw[J8 (by lia) (by lia)];simp only[AD];refine OkF.out (OkF.seq (OkF.for (λ(g:ZLi) (s:List ZPi×Int)=>s.1.length=g.length/\(∀k∈s.1,(1<=k.1/\k.1<=6)/\0<=k.2/\k.2 < k.1)/\s.2=sm s.1) ⟨rfl,λk o=>zX o BY,rfl⟩ ?_) ?_)
 ·rintro g x s hx I ⟨s1,s2,s3⟩
  obtain⟨ex,lt⟩:=O3 I;obtain⟨c,J,cn⟩:=WU ns (k:=1+x) (by lia);rw[J];simp only[AD,BJ];have a0:=By c (show(6:Int)≠0 by decide);have a1:=Bj c (show(0:Int) < 6 by decide);generalize c % 6=m at a0 a1;rw[KF (by lia)];have b0:=By (c / 6) (show 1+m≠0 by lia);have b1:=Bj (c / 6) (show(0:Int) < 1+m by lia);generalize c / 6 % (1+m)=j at b0 b1;simp only[AD];rw[RZ (by lia)];refine .nx ⟨?_,λk o=>?_,?_⟩
  ·dsimp only;rw[AK,AK,s1];rfl
  ·rcases Aq.mp o with q | q
   ·exact s2 k q
   ·rw[AN.mp q]
    dsimp only
    lia
  ·dsimp only;rw[aH,s3]
 ·rintro⟨K,Z⟩ ⟨k1,E,k3⟩
  dsimp only at k1 E k3;subst k3;rw[FB]at k1
  have sl:=gZ (m:=6) (by decide) (K:=K) λk o=>(E k o).1
  obtain⟨p,ep⟩:∃p:Nat,sm K=p:=⟨(sm K).toNat,by lia⟩
  have Kl:1<=K.length/\K.length<=6:=by lia
  have N:p<=36:=by lia
  have p1:1<=p:=by lia
  dsimp only;obtain⟨c7,e7,_⟩:=WU ns (k:=7) (by decide);rw[e7];simp only[AD];rw[ep];obtain⟨od,eo,o1,O,P⟩:=m9 c7 (p:=p) (by lia);rw[eo];simp only[AD,dQ,BJ];rw[J8 (by lia) (by lia),Ay];simp only[AD];refine OkF.seq (OkF.for (λ(g:ZLi) (s:List ZPi×List (ZLi×ZLi)×Int)=>∃a:Nat,s.2.2=a/\s.2.2=sm (K.take g.length)/\Gi od g.length a s.1 s.2.1) ⟨0,rfl,rfl,⟨λt A=>zX A BY,E0,AL _,rfl,λc B=>zX B BY,λc B=>zX B BY,Dk.refl _⟩⟩ ?_) ?_
  ·rintro g x ⟨T,cs,at'⟩ hx I ⟨a,H,C,G⟩
   dsimp only at H C G;obtain⟨ex,lt⟩:=O3 I;rw[Yl]at ex;subst ex;obtain⟨k,ek,Q⟩:=Kk (l:=K) (i:=(g.length:Int)) (by lia) (by lia);rw[Ay]at Q;obtain⟨⟨q1,q2⟩,R,q4⟩:=E k (Ac Q)
   obtain⟨n,en⟩:∃n:Nat,k.1=n:=⟨k.1.toNat,by lia⟩
   have tk:K.take (g.length+1)=K.take g.length++[k]:=take_snoc Q
   have nx:sm (K.take (g.length+1))=sm (K.take g.length)+k.1:=by rw[tk,aH]
   have le:a+n<=od.length:=by
    have h1:sm K=sm (K.take (g.length+1))+sm (K.drop (g.length+1)):=by
     conv=>lhs;rw[<-EK (g.length+1) K]
     unfold sm;rw[BD,List.sum_append]
    have h2:=gZ (m:=6) (by decide) (K:=K.drop (g.length+1)) λk o=>(E k (Zv o)).1
    lia
   simp only[AD];rw[ek];simp only[AD,BJ];rw[H,en,show(a:Int)+(n:Int)=((a+n:Nat):Int) by lia,oB od (by lia) le,show a+n - a=n by lia];obtain⟨c,J,_⟩:=WU ns (k:=1+(g.length:Int)) (by lia);rw[J];simp only[AD,BJ]
   have pll:((od.drop a).take n).length=n:=by rw[Be,Ca];lia
   have S:((od.drop a).take n).Nodup:=O.sublist ((Eg _ _).trans (QZ _ _));have tl:=G.tl;obtain⟨L,eL,g1,g2⟩:=jw c (900+(g.length:Int)) S (by lia) (by lia) R (by lia) (T:=T) (by lia);rw[eL];simp only[AD,BJ];rw[oA _ R];rw[RZ (by rw[G.cl];lia)];simp only[AD,BJ];refine .nx ⟨a+n,rfl,?_,?_⟩
   ·rw[AK,Ai]
    dsimp only
    lia
   ·rw[AK,Ai]
    exact G.next O le (by lia) (by lia) R (by lia) g1 g2
  ·rintro⟨T,cs,at'⟩ ⟨a,H,C,G⟩
   dsimp only at H C G;rw[FB]at C G;rw[GU]at C
   have ap:a=p:=by lia
   subst ap;have tk:od.take a=od:=Br (by lia);have ne:=G.ne;have fp:=G.fp;rw[tk]at ne fp;dsimp only;have tl:=G.tl
   rw[JQ (f:=nrm) (by lia) λx _=>by
    rw[(X7 x).1,(X7 x).2]
    rfl]
   simp only[AD]
   have U:Tz (a:Int) (T.map nrm):=by
    refine⟨λt A=>?_,G.nd⟩;obtain⟨u,hu,rfl⟩:=Aw.mp A;obtain⟨h1,h2,h3⟩:=ne u hu;have r1:=P _ h2;have r2:=P _ h3;unfold nrm;dsimp only
    split <;> split <;> lia
   have X:=O0 (T.map nrm);refine .rt ⟨a,rfl,⟨p1,N,U.perm X,?_,?_,?_,G.cu,λc B=>(G.co c B).mono λx y q=>?_,?_⟩⟩
   ·dsimp only
    rw[X.length_eq,AG]
    lia
   ·dsimp only;rw[G.cl];lia
   ·dsimp only;rw[G.cl];lia
   ·have mm:∀t∈T,nrm t∈Qg (T.map nrm):=λt A=>X.mem_iff.mpr (Aw.mpr ⟨t,A,rfl⟩)
    have tw:∀u v:Int,nrm (u,v)=(u,v)∨nrm (u,v)=(v,u):=λu v=>by
     unfold nrm;dsimp only
     split <;> split
     ·lia
     ·exact .inr rfl
     ·exact .inl rfl
     ·exact .inl (MK rfl (by dsimp only;lia))
    rcases q with q | q
    ·have:=mm _ q
     rcases tw x y with e | e
     ·rw[e]at this;exact .inl this
     ·rw[e]at this;exact .inr this
    ·have:=mm _ q
     rcases tw y x with e | e
     ·rw[e]at this;exact .inr this
     ·rw[e]at this;exact .inl this
   ·dsimp only
    rw[gX (fp.trans (iK O o1 P)),gV]
theorem jf(v:Nat->Int):∀i:Nat,(Gy v i).Nodup/\(Gy v i).length<=i
 | 0=>⟨E0,AL _⟩
 | i+1=>by
  obtain⟨g,l⟩:=jf v i;rw[vy];unfold vx;split
  ·exact⟨g,by lia⟩
  ·rename_i h
   refine⟨Bu.mpr ⟨g,Ez _ _,λa j b hb e=>h (EB.mpr ⟨a,j,?_⟩)⟩,by rw[AK,Ai];lia⟩;rw[AN.mp hb]at e;simp[e]
theorem aJ(l:ZLi):(Qx l).Pairwise (· < ·)/\(Qx l).length<=l.length:=by
 unfold Qx;exact⟨XG (jf _ _).1,by rw[(Bp _).length_eq];exact(jf _ _).2⟩
theorem jp{l:ZLi}(h:l.Pairwise (· < ·))(lo hi:Option Int):(EN l lo hi).Pairwise (· < ·):=h.sublist ((Eg _ _).trans (QZ _ _))
theorem jq(l:ZLi)(h:l≠[]):EN l none (some (-1))=l.take (l.length - 1):=by
 have:=DI.mpr h;unfold EN;rw[HT.SA,UL,uE]
 congr 1
 show(if (-1:Int) < 0 then((-1:Int)+(l.length:Int)).toNat else min (-1:Int).toNat l.length)=_;rw[qX (by decide)]
 lia
def Rs(k:Nat)(l:ZLi):Prop:=l.Pairwise (· < ·)/\l.length<=k
theorem gP{p:Nat}{ts:List ZPi}{cs:List (ZLi×ZLi)}(G:Gr p ts cs)(cell:Int):Ok (IL cs cell p) Cs:=by
 have c1:=G.c1;have c2:=G.c2;have p1:=G.p1
 have old:∀c∈cs,Rs 100 c.1/\Rs 100 c.2:=λc O=>by
  obtain⟨_,h1,h2,h3,h4⟩:=G.cu c O;exact⟨⟨h1,by lia⟩,h2,by lia⟩
 unfold IL IJ;simp only[AD,BJ];rw[KF (by lia)];simp only[AD,BJ];have P:=By cell (show(cs.length:Int)≠0 by lia);have Q:=Bj cell (show(0:Int) < cs.length by lia);generalize cell % (cs.length:Int)=at' at P Q;obtain⟨c,ec,lc⟩:=Kk (l:=cs) P Q;have O:=Ac lc;rw[ec];simp only[AD,BJ];rw[KF (by lia)];simp only[AD,BJ];rw[show cQ 10 40=some (10 ^ 40)from qX (by decide)];simp only[AD];have f0:=By (cell / 1800) (show(3:Int)≠0 by decide);have f1:=Bj (cell / 1800) (show(0:Int) < 3 by decide)
 have f2:0<=cell / 1800 % 3 / 2/\cell / 1800 % 3 / 2<=1:=by lia
 generalize cell / 1800 % 3 / 2=fr at f2;rw[aT (.inl ⟨by lia,by lia⟩)];simp only[AD,BJ];have f3:0<=fr * 10 ^ 40:=Int.mul_nonneg f2.1 (by decide);generalize fr * 10 ^ 40=far at f3;generalize cell / 7 % 9=way;have b0:=By (cell / 600) (show(p:Int)≠0 by lia);have b1:=Bj (cell / 600) (show(0:Int) < p by lia);generalize cell / 600 % (p:Int)=place at b0 b1;obtain⟨n0,C,u2,u3,u4⟩:=G.cu c O
 have R:∀x∈c.1,0<=x:=λx E=>by
  have:x∈CF (fl cs):=(Bp _).mem_iff.mpr (Ic.mpr ⟨c,O,E⟩);rw[G.fp]at this;exact(EV.mp this).1
 have g0:=By (cell / 600) (show(3:Int)≠0 by decide);have g1:=Bj (cell / 600) (show(0:Int) < 3 by decide);generalize cell / 600 % 3=m3 at g0 g1;refine OkF.out ?_;refine OkF.seq (N:=λm=>Rs 6 m/\(way≠1->m=c.1)) (OkF.ite (λ_=>.nx ⟨⟨jp C _ _,Ap (NQ _ _ _) u3⟩,λq=>zX (of_decide_eq_true (by assumption)) q⟩) λ_=>.nx ⟨⟨C,u3⟩,λ_=>rfl⟩) ?_;rintro S ⟨s,T⟩;refine OkF.seq (N:=λm=>Rs 7 m/\(way≠1->way≠2->m=c.1)) (OkF.ite (λq=>?_) λ_=>.nx ⟨⟨s.1,by have:=s.2;lia⟩,λq _=>T q⟩) ?_
 ·rw[ZX]
  simp only[AD];have:=s.2;rw[HU (by rw[Ai];lia)];simp only[AD];have H:=aJ (S++[place]);rw[AK,Ai]at H;rw[show UZ (S++[place])=some (Qx (S++[place]))from qX (by rw[AK,Ai];lia)];exact .nx ⟨⟨H.1,by lia⟩,λ_ z=>zX (of_decide_eq_true q) z⟩
 rintro zw ⟨A,I⟩;refine OkF.seq (N:=λg=>Rs 7 g) (OkF.ite (λq=>?_) λ_=>.nx ⟨u2,by lia⟩) ?_
 ·rw[ZX]
  simp only[AD];rw[HU (by rw[Ai];lia)];simp only[AD];have H:=aJ (c.2++[place]);rw[AK,Ai]at H;rw[show UZ (c.2++[place])=some (Qx (c.2++[place]))from qX (by rw[AK,Ai];lia)];exact .nx ⟨H.1,by lia⟩
 rintro s62 B;refine OkF.seq (N:=λg=>Rs 7 g) (OkF.ite (λq=>.nx ⟨jp B.1 _ _,Ap (NQ _ _ _) B.2⟩) λ_=>.nx B) ?_;rintro s73 U;refine OkF.seq (N:=λg=>Rs 7 g) (OkF.ite (λq=>.nx A) λ_=>.nx U) ?_;rintro X J;refine OkF.seq (N:=λm=>Rs 8 m/\(way=7->m=c.1)) (OkF.ite (λq=>?_) λq=>.nx ⟨⟨A.1,by have:=A.2;lia⟩,λz=>I (by lia) (by lia)⟩) ?_
 ·have w6:way=6:=of_decide_eq_true q
  have e:=I (by lia) (by lia);subst e;obtain⟨b,eb,lb⟩:=aa n0;rw[show(-(1:Int)) = -1 from rfl,jq _ n0,eb];simp only[AD];rw[ZX];simp only[AD];rw[HU (by rw[Ai,Be];lia)];refine .nx ⟨⟨Bg.mpr ⟨C.sublist (Eg _ _),Ez _ _,λx E y hy=>?_⟩,by rw[AK,Ai,Be];lia⟩,λz=>by lia⟩;rw[AN.mp hy];obtain⟨i,Y⟩:=CN E;have Z:=(AC.mp Y).1;rw[Be]at Z;rw[El (by lia)]at Y;have:=UW C Y lb (by lia)
  lia
 rintro zx ⟨j,L⟩;refine OkF.seq (N:=λm=>Rs 9 m) (OkF.ite (λq=>?_) λq=>.nx ⟨j.1,by have:=j.2;lia⟩) ?_
 ·have w7:way=7:=of_decide_eq_true q
  have e:=L w7;subst e;rw[ZX];simp only[AD];rw[HU (by rw[Ai];lia)];refine .nx ⟨?_,by rw[AK,Ai];have:=j.2;lia⟩;rw[EL];refine Ph.mpr ⟨λx E=>?_,C⟩;have:=R x E
  lia
 rintro yB o;refine OkF.seq (N:=λ_=>True) (OkF.ite (λq=>?_) λq=>.nx trivial) ?_
 ·have l1:=NQ cs none (some at')
  have l2:=NQ cs (some (at'+1)) none;rw[HU (by lia)];simp only[AD,dQ,ZX];have k0:=By (cell / 600) (show(2:Int)≠0 by decide);have k1:=Bj (cell / 600) (show(0:Int) < 2 by decide);generalize cell / 600 % 2=k at k0 k1;rw[show ls [(([]:ZLi),([]:ZLi))] k=some (Ak k.toNat [(([]:ZLi),([]:ZLi))]).flatten from qX ⟨k0,by lia,by rw[Ai];lia⟩];simp only[AD]
  have fl2:(Ak k.toNat [(([]:ZLi),([]:ZLi))]).flatten.length<=1:=by
   have:k.toNat=0∨k.toNat=1:=by lia
   rcases this with z | z <;> rw[z] <;> simp
  rw[HU (by rw[AK];lia)];refine .rt ?_
  have mem:∀d∈EN cs none (some at')++EN cs (some (at'+1)) none++(Ak k.toNat [(([]:ZLi),([]:ZLi))]).flatten,Rs 100 d.1/\Rs 100 d.2:=λd hd=>by
   rcases Aq.mp hd with q | q
   ·rcases Aq.mp q with q | q
    ·exact old d (bF q)
    ·exact old d (bF q)
   ·obtain⟨l,hl,hd⟩:=RE.mp q
    rw[(List.mem_replicate.mp hl).2]at hd;rw[AN.mp hd];exact⟨⟨GV,by simp⟩,GV,by simp⟩
  exact⟨λd hd=>⟨(mem d hd).1.1,(mem d hd).2.1⟩,λd hd=>⟨(mem d hd).1.2,(mem d hd).2.2⟩,by rw[AK,AK];lia⟩
 ·rintro _ _
  rw[show Ua cs at' (yB,X)=some (cs.set at'.toNat (yB,X))from qX ⟨P,Q⟩];refine .rt ?_
  have mem:∀d∈cs.set at'.toNat (yB,X),Rs 100 d.1/\Rs 100 d.2:=λd hd=>by
   rcases List.mem_or_eq_of_mem_set hd with q | q
   ·exact old d q
   ·rw[q]
    exact⟨⟨o.1,by have:=o.2;dsimp only;lia⟩,J.1,by have:=J.2;dsimp only;lia⟩
  exact⟨λd hd=>⟨(mem d hd).1.1,(mem d hd).2.1⟩,λd hd=>⟨(mem d hd).1.2,(mem d hd).2.2⟩,by rw[Do];lia⟩
theorem lL{ns:ZLi}(E:ns.length<=63):Ok (JC ns) λl=>l.length<=12:=by
 unfold JC Ix;simp only[AD]
 obtain⟨m,em,G,m2⟩:∃m:Nat,(if (12:Int) < (ns.length:Int)then(12:Int)else(ns.length:Int))=m/\m<=12/\(m=12∨m=ns.length):=by
  by_cases c:(12:Int) < (ns.length:Int)
  ·rw[qX c];exact⟨12,rfl,by lia,.inl rfl⟩
  ·rw[qY c];exact⟨ns.length,rfl,by lia,.inr rfl⟩
 rw[em,J8 (by lia) (by lia),Ay];simp only[AD];rw[JQ (f:=λ_=>(0:Int)) (by rw[FB];lia) λ_ _=>rfl];simp only[AD,BJ];rw[J8 (by lia) (by lia),Ay];simp only[AD];refine OkF.out (OkF.seq (OkF.for (λ(_:ZLi) (s:ZLi)=>s.length=m) (by simp[FB]) ?_) λs g=>.rt (by lia));rintro o x s A H g;have:=EV.mp A;have j:=By x (show(12:Int)≠0 by decide);have d1:=Bj x (show(0:Int) < 12 by decide)
 have d2:x % 12 < (m:Int):=by lia
 obtain⟨u,B,_⟩:=Kk (l:=s) (i:=x % 12) j (by lia);obtain⟨v,C,_⟩:=Kk (l:=ns) (i:=x) (by lia) (by lia);rw[B,C];simp only[AD];rw[show Ua s (x % 12) (u+v)=some (s.set (x % 12).toNat (u+v))from qX ⟨j,by lia⟩];exact .nx (by rw[Do];exact g)
theorem vM(ns:ZLi)(B:ns.length<=63):iR ns=some true:=by
 refine Ok.is (v:=true) ?_;unfold iR aO;simp only[AD];obtain⟨⟨T,U,cs⟩,C,p,s,G⟩:=jR ns;dsimp only at s G;subst s;rw[C];simp only[AD,BJ];have E:=G.p1;have X:=G.p2;have Y:=G.tl;have Z:=NQ ns (some 8) none;obtain⟨us,H,⟨g,sub⟩,ul⟩:=rm (p:=p) E (by lia) G.tz (by lia) (cs:=EN ns (some 8) none) (by lia);rw[H];simp only[AD,BJ];have m:tI p 0 us:=⟨λx A=>by have:=g.1 x A;exact⟨this.1,this.2.1,.inl this.2.2⟩,g.2⟩;rw[show JE (p:Int) us=some ((Bs p).map (nr us))from(qX ⟨by lia,by lia,by rw[Ay];exact m,by lia⟩).trans (by rw[Ay])];simp only[AD,BJ];rw[show Yn (p:Int) us=some (p,Fx us)from(qX ⟨by lia,by lia,g.fit,by lia⟩).trans (by rw[Ay])];simp only[AD,BJ];have N:=Nl.mk' g (by lia);have I:Cs cs:=⟨λc j=>⟨(G.cu c j).2.1,(G.cu c j).2.2.1⟩,λc j=>by have:=(G.cu c j).2.2.2;lia,by have:=G.c2;lia⟩
 have good:∀c∈cs,Gv us c.1 c.2:=λc j=>(G.co c j).mono λx y q=>q.imp (sub _) (sub _)
 obtain⟨b,_,o,J⟩:=j4 g (by lia) (by lia) N I;have L:b=true:=J.mpr ⟨G.fp,good⟩;subst L;rw[o];simp only[AD,if_true,decide_true,Em,BA,if_false,BJ];obtain⟨l,O,ll⟩:=lL B;rw[O,ZX];simp only[AD];rw[HU (by rw[Ai];lia)];simp only[AD];refine OkF.out (OkF.seq (OkF.for (λ(_:ZLi) (_:Unit)=>True) trivial ?_) λ_ _=>.rt rfl);rintro P x _ A _ _;obtain⟨sp,Q,R⟩:=gP G x;rw[Q];simp only[AD,BJ];obtain⟨b,S,o,_⟩:=j4 g (by lia) (by lia) N R;rw[S];simp only[AD,BJ];rw[o]
 cases b <;> exact .nx trivial
theorem good:∀(W:Wd),W.excs.Nodup->∀ns:ZLi,ns.length<=63->∃S',a8 W [.fro (ns.map D.int)] []=.ok (.bl true) S':=λW _ ns h=>VF.law (by rw[<-vM ns h];exact uR W ns)
end M
structure PySem.W.Fast:Prop where(tw17181684357691129644 tw17942383225082129610 tw3392472183142086588 tw17137390445997033286 tw8660107227973464591 tw9718674817823063016 tw2210114993003692913 tw11452054973096816056 tw12099010826868982213 tw4656498755273675924 tw4048844809946511134 tw7983350592150266969 tw7269704677528723684 tw16908548284138723830 tw15826810577083566847 tw14359924971593992705 tw16324361510692930370 tw9241818210959827367 tw12500331068110276057 tw13231943765257856333 tw7534699851396216410 tw18151561275407401911 tw7610962589241410041 tw1992282327178241721 tw2140236486548540626 tw813926162936585139 tw2107522876113354437 tw7461292712064703353 tw7597411028419422987 tw10928472557810183007 tw17671882892056739059 tw12148884502854206819 tw10082593560128344200 tw17868763976020706524 tw11148416691063397157 tw8890335991628844278 tw3708621521426959600 tw15786044515583053606 tw2853476296006580814 tw8388246016317104080 tw7115294222508326928 tw17803254102678901856 tw6727050488524387279 tw10141549411299940006 tw10486767751868795744 tw5437156021636707315 tw4406321530914995796 tw7749826761793338598 tw13081958257522675010 tw2715581484261220305 tw5961476801820286190 tw17560826550845406637 tw4909070181018982632 tw9228253832162734204 tw13295114102600811220 tw4011840291246414961 tw4057452666763273722 tw10696908715500778574 tw7172851163465956717 tw4747252786935019863 tw13170799693864115757 tw13205143913591932318 tw14317432856844747911 tw15664673924994406771 tw4471645431436269081 tw7891954995282804550 tw10649448994223555993 tw5961048790202430197 tw12809885524154844654 tw5716962864103678718 tw7478701624393989989 tw7566879593292981617 tw1978172773731881939 tw10427900013530029070 tw4839336336896054447 tw7934943057509285101 tw5012332125677730046 tw8539672314486063023 tw5571988163957568640 tw434552495739179888 tw1556513396473044935 tw7220547780872367315 tw14587744230104779448 tw271861752209186825 tw172869414095382079 tw203033105009635331 tw6616714613075390975 tw11128296326145554324 tw10055316976714668493 tw7954667645685463717 tw14258582279433911686 tw16880896588772533444 tw15468223007411966828 tw15570337068260470515:True)
namespace M
open L2 PySem.W
theorem tH{l:OpenLaw}{w:CQ}{K:Frag}{h:CZ}{o:Str->Option AI}{fa:AW}(X:K.In h)(G:h.Ns BC o)(A:o "law" = some (.ref fa))
  {f1 f2 f3 f4 f5 f6 f7 f8 f9 B C E H I J L N O P Q R S U Y Z f26 m g wU xy xQ xA vp j:AW} {wI:Tok}
  (o_Web:ClsAt K "Web" j)
  (a_GuardError:nsIn K BC "GuardError" = some (some (.ref g)))
  (a_BadPlaces:nsIn K BC "BadPlaces" = some (some (.ref wU)))
  (a_NoPlace:nsIn K BC "NoPlace" = some (some (.ref xy)))
  (a_NoCall:nsIn K BC "NoCall" = some (some (.ref xQ)))
  (a_NotWood:nsIn K BC "NotWood" = some (some (.ref xA)))
  (a_BadColony:nsIn K BC "BadColony" = some (some (.ref vp)))
  (d1:Ew K "checked_ties" Ja f1)
  (d2:Ew K "near_sets_of" JZ f2)
  (d4:Ew K "refuse_no_place" HD f4)
  (d5:Ew K "near" Y9 f5)
  (d6:Ew K "steps_from" LZ f6)
  (d7:Ew K "parts_of" OS f7)
  (d8:Ew K "web_within" LY f8)
  (d9:Ew K "first_pair" La f9)
  (d10:Ew K "first_far" Mx B)
  (d11:Ew K "is_club" P2 C)
  (d12:Ew K "is_colony" Mw E)
  (d13:Ew K "looked" R9 H)
  (d14:Ew K "_law_cell" M0 I)
  (d15:Ew K "_law_mixed" Lg J)
  (d16:Ew K "_law_nears" Ld L)
  (d17:Ew K "_law_order" Lc N)
  (d18:Ew K "_law_colony" KS O)
  (d19:Ew K "_law_ground" KR P)
  (d20:Ew K "_law_more" Mz Q)
  (d21:Ew K "_law_reached" Jc R)
  (d22:Ew K "_law_is_colony" Hu S)
  (d23:Ew K "_law_are_colonies" GC U)
  (d24:Ew K "_law_turns" Lb Y)
  (d25:Ew K "_law_spoilt" KQ Z)
  (d26:Ew K "_law_refused" Jb f26)
  (d27:Ew K "law" aK m)
  (d3:kB K j "__init__" "Web.__init__" OT f3)
  (n_Web_places:findIn K (.ref j) "places" = some none)
  (n_Web_ties:findIn K (.ref j) "ties" = some none)
  (n_Web_near_sets:findIn K (.ref j) "near_sets" = some none)
  (sp:specialIn K (.builtin "object.__class__") "__get__" = some (some (.builtin "getset_descriptor.__get__")))
  (tk:takesIn K (.builtin "object.__class__")=some true)
  (xnd:([vp]:List AW).Nodup)
  (xo_GuardError:mroIn K g (.type "object")=some true)
  (xb_GuardError:mroIn K g (.type "BaseException")=some true)
  (xt_GuardError:typeIn K (.ref g)=some (.type "type"))
  (xo_BadColony:mroIn K vp (.type "object")=some true)
  (xb_BadColony:mroIn K vp (.type "BaseException")=some true)
  (xt_BadColony:typeIn K (.ref vp)=some (.type "type"))
  (xe_BadColony:excIn K vp bI "ValueError.__new__" = true)
  (xg_BadColony:findIn K (.ref vp) "__getattribute__" = some (some (.builtin "BaseException.__getattribute__")))
  (xn_BadColony:findIn K (.ref vp) "__getattr__" = some none)
  (xa_BadColony:findIn K (.ref vp) "__class__" = some (some (.builtin "object.__class__")))
  (xs_BadColony_GuardError:subIn K (.ref vp) (.ref g)=some true)
  (xi_BadColony_BadColony:kitOne K (.ref vp) (.ref vp)=some true)
  (xi_BadColony_ValueError:kitOne K (.ref vp) (.type "ValueError")=some true)
  (xi_BadColony_BadPlaces:kitOne K (.ref vp) (.ref wU)=some false)
  (xi_BadColony_NoCall:kitOne K (.ref vp) (.ref xQ)=some false)
  (xi_BadColony_NoPlace:kitOne K (.ref vp) (.ref xy)=some false)
  (xi_BadColony_NotWood:kitOne K (.ref vp) (.ref xA)=some false)
  (z_ValueError:nsIn K BC "ValueError" = some none)
  (z_all:nsIn K BC "all" = some none)
  (z_any:nsIn K BC "any" = some none)
  (z_enumerate:nsIn K BC "enumerate" = some none)
  (z_int:nsIn K BC "int" = some none)
  (z_isinstance:nsIn K BC "isinstance" = some none)
  (z_len:nsIn K BC "len" = some none)
  (z_list:nsIn K BC "list" = some none)
  (z_max:nsIn K BC "max" = some none)
  (z_min:nsIn K BC "min" = some none)
  (z_range:nsIn K BC "range" = some none)
  (z_set:nsIn K BC "set" = some none)
  (z_sorted:nsIn K BC "sorted" = some none)
  (z_tuple:nsIn K BC "tuple" = some none)
  (g_MOST_PLACES:nsIn K BC "MOST_PLACES" = some (some (.int 60 wI)))
  : ∃(W:Wd) (T:Txt K o W),fa=T.d_law.f/\W.excs.Nodup/\∀(s:AM) (v:AI),YQ s T.d_law.fd ⟨[v],[]⟩ [("script",v)]:=by
 obtain⟨zl,_,_,_,_,_,_,_,_,_,l,c,k⟩:=d27;have F:=jd (st:=aK) l c k
 let W:Wd:=⟨g,wU,xy,xQ,xA,vp,j⟩
 have xI:(clsIn K g).isSome=true:=S8 xo_GuardError;have xa:(clsIn K vp).isSome=true:=S8 xo_BadColony;have wJ:XIs K vp:=⟨xa,xg_BadColony,xn_BadColony,xa_BadColony,sp,tk,xo_BadColony,xb_BadColony⟩
 let T:Txt K o W:={
  d_checked_ties:=mkD X G d1 (bd2 λ_ _ _ _ _ _ _ _ _ _=>rfl)
  d_near_sets_of:=mkD X G d2 (bd2 λ_ _ _ _ _ _ _ _ _ _=>rfl)
  d_Web_init:=mkM d3 (bd3 λ_ _ _ _ _ _ _ _ _ _ _=>rfl)
  d_refuse_no_place:=mkD X G d4 (bd2 λ_ _ _ _ _ _ _ _ _ _=>rfl)
  d_near:=mkD X G d5 (bd2 λ_ _ _ _ _ _ _ _ _ _=>rfl)
  d_steps_from:=mkD X G d6 (bd2 λ_ _ _ _ _ _ _ _ _ _=>rfl)
  d_parts_of:=mkD X G d7 (bd1 λ_ _ _ _ _ _ _ _ _=>rfl)
  d_web_within:=mkD X G d8 (bd2 λ_ _ _ _ _ _ _ _ _ _=>rfl)
  d_first_pair:=mkD X G d9 (bd3 λ_ _ _ _ _ _ _ _ _ _ _=>rfl)
  d_first_far:=mkD X G d10 (bd2 λ_ _ _ _ _ _ _ _ _ _=>rfl)
  d_is_club:=mkD X G d11 (bd2 λ_ _ _ _ _ _ _ _ _ _=>rfl)
  d_is_colony:=mkD X G d12 (bd3 λ_ _ _ _ _ _ _ _ _ _ _=>rfl)
  d_looked:=mkD X G d13 (bd2 λ_ _ _ _ _ _ _ _ _ _=>rfl)
  d__law_cell:=mkD X G d14 (bd2 λ_ _ _ _ _ _ _ _ _ _=>rfl)
  d__law_mixed:=mkD X G d15 (bd2 λ_ _ _ _ _ _ _ _ _ _=>rfl)
  d__law_nears:=mkD X G d16 (bd2 λ_ _ _ _ _ _ _ _ _ _=>rfl)
  d__law_order:=mkD X G d17 (bd2 λ_ _ _ _ _ _ _ _ _ _=>rfl)
  d__law_colony:=mkD X G d18 (bd5 λ_ _ _ _ _ _ _ _ _ _ _ _ _=>rfl)
  d__law_ground:=mkD X G d19 (bd1 λ_ _ _ _ _ _ _ _ _=>rfl)
  d__law_more:=mkD X G d20 (bd3 λ_ _ _ _ _ _ _ _ _ _ _=>rfl)
  d__law_reached:=mkD X G d21 (bd2 λ_ _ _ _ _ _ _ _ _ _=>rfl)
  d__law_is_colony:=mkD X G d22 (bd3 λ_ _ _ _ _ _ _ _ _ _ _=>rfl)
  d__law_are_colonies:=mkD X G d23 (bd2 λ_ _ _ _ _ _ _ _ _ _=>rfl)
  d__law_turns:=mkD X G d24 (bd1 λ_ _ _ _ _ _ _ _ _=>rfl)
  d__law_spoilt:=mkD X G d25 (bd3 λ_ _ _ _ _ _ _ _ _ _ _=>rfl)
  d__law_refused:=mkD X G d26 (bd2 λ_ _ _ _ _ _ _ _ _ _=>rfl)
  d_law:=⟨m,_,F,F.binds ((bd1 λ_ _ _ _ _ _ _ _ _=>rfl) _ _),Tb X G zl⟩
  c_Web:=mkO X G o_Web d3
  n_Web_places:=n_Web_places
  n_Web_ties:=n_Web_ties
  n_Web_near_sets:=n_Web_near_sets
  xm_GuardError:=Tb X G a_GuardError
  xm_BadPlaces:=Tb X G a_BadPlaces
  xm_NoPlace:=Tb X G a_NoPlace
  xm_NoCall:=Tb X G a_NoCall
  xm_NotWood:=Tb X G a_NotWood
  x_BadColony:=⟨⟨xe_BadColony⟩,Tb X G a_BadColony⟩
  nd:=xnd
  caught_GuardError:=(all_cons ⟨xt_GuardError,xI,xb_GuardError,xs_BadColony_GuardError⟩ MH)
  is_BadColony:=Yy (al:=[vp]) (ex:=[vp]) (all_cons ⟨wJ,xi_BadColony_BadColony⟩ MH) (all_cons (λn=>zX (by simp) n) MH)
  i_BadColony:=⟨xa,xt_BadColony⟩
  is_ValueError:=Yy (al:=[vp]) (ex:=[vp]) (all_cons ⟨wJ,xi_BadColony_ValueError⟩ MH) (all_cons (λn=>zX (by simp) n) MH)
  isT_BadPlaces_NoCall_NoPlace_NotWood:=Yy (al:=[]) (ex:=[vp]) MH (all_cons (λ_=>⟨wJ,((Wa xi_BadColony_BadPlaces).trans ((Wa xi_BadColony_NoCall).trans ((Wa xi_BadColony_NoPlace).trans ((Wa xi_BadColony_NotWood).trans j8))))⟩) MH)
  b_ValueError:=D8 X G z_ValueError
  b_all:=D8 X G z_all
  b_any:=D8 X G z_any
  b_enumerate:=D8 X G z_enumerate
  b_int:=D8 X G z_int
  b_isinstance:=D8 X G z_isinstance
  b_len:=D8 X G z_len
  b_list:=D8 X G z_list
  b_max:=D8 X G z_max
  b_min:=D8 X G z_min
  b_range:=D8 X G z_range
  b_set:=D8 X G z_set
  b_sorted:=D8 X G z_sorted
  b_tuple:=D8 X G z_tuple
  g_MOST_PLACES:=⟨wI,Tb X G g_MOST_PLACES⟩ }
 refine⟨W,T,?_,xnd,λs v=>.of_eq rfl⟩;have e:=A.symm.trans (Tb X G zl);cases e;rfl
theorem walk{l:OpenLaw}{q:Bq}{g:List Str}{B:(Str->Option AI)->CZ->Prop}{o:CQ->CZ->Prop}{d:DefRec}{K:Params->Frag}(C:l.most=some 63)(E:d.params.defaults=[])
  (I:∀(w:CQ) (h:CZ),o w h->(K w.params).In h)
  (F:∀(w:CQ) (j:Str->Option AI) (m:AW) (h:CZ),(K w.params).In h->h.Ns BC j->j d.name=some (.ref m) ->
   ∃(W:Wd) (T:Txt (K w.params) j W),m=T.d_law.f/\W.excs.Nodup/\∀(s:AM) (v:AI),YQ s T.d_law.fd ⟨[v],[]⟩ [("script",v)])
  (good:∀(W:Wd),W.excs.Nodup->∀ns:ZLi,ns.length<=63->∃J,a8 W [.fro (ns.map D.int)] []=.ok (.bl true) J) :
  WalkO q g B o l.row.toRowW d [] (λf L=>bU f L):=
 L2.ko (n:=63) (k:=9) (x:="script") (CX:=λw=>CXG l.prog w) (sp:=λw=>gR (K w.params)) C (by decide) E ⟨rfl,by decide,by decide⟩ I
  (λw j m h N G O=>by
   obtain⟨W,T,e,P,hb⟩:=F w j m h N G O;subst e
   exact⟨T.d_law.fd,hb,λA _ _=>jB (rc T) (good W P)⟩)
  (λ_ _ a ns Q R S=>⟨a,ns,rfl,sh R S,Q,λ_=>rfl⟩) (λw H s e U z=>tD z)
end M
open PySem.W
set_option maxRecDepth 100000 in
set_option maxHeartbeats 0 in
theorem PySem.Challenge.cw_guardround_k46_colonies_looked_at_holds : PySem.Challenge.rw_guardround_k46_colonies_looked_at.Holds := by
 w_on;o_law;k_head;(case hw=>w_witness2)
 k_fill
 refine M.walk (l:=Hc) rfl rfl (λw h Y=>by first | exact kIn_of Y | exact km_in_of Y) ?F M.good
 case F=>
  intro w mg fa h KX G zQ;refine' M.tH (l:=Hc) (w:=w) KX G zQ ?o_Web ?a_GuardError ?a_BadPlaces ?a_NoPlace ?a_NoCall ?a_NotWood ?a_BadColony ?d1 ?d2 ?d4 ?d5 ?d6 ?d7 ?d8 ?d9 ?d10 ?d11 ?d12 ?d13 ?d14 ?d15 ?d16 ?d17 ?d18 ?d19 ?d20 ?d21 ?d22 ?d23 ?d24 ?d25 ?d26 ?d27 ?d3 ?n_Web_places ?n_Web_ties ?n_Web_near_sets ?sp ?tk ?xnd ?xo_GuardError ?xb_GuardError ?xt_GuardError ?xo_BadColony ?xb_BadColony ?xt_BadColony ?xe_BadColony ?xg_BadColony ?xn_BadColony ?xa_BadColony ?xs_BadColony_GuardError ?xi_BadColony_BadColony ?xi_BadColony_ValueError ?xi_BadColony_BadPlaces ?xi_BadColony_NoCall ?xi_BadColony_NoPlace ?xi_BadColony_NotWood ?z_ValueError ?z_all ?z_any ?z_enumerate ?z_int ?z_isinstance ?z_len ?z_list ?z_max ?z_min ?z_range ?z_set ?z_sorted ?z_tuple ?g_MOST_PLACES
  (case o_Web=>exact⟨by k_is,by k_is,by k_is,by k_is,by k_is,by k_is,by k_is⟩)
  (case a_GuardError | a_BadPlaces | a_NoPlace | a_NoCall | a_NotWood | a_BadColony=>k_is)
  (case d1 | d2 | d4 | d5 | d6 | d7 | d8 | d9 | d10 | d11 | d12 | d13 | d14 | d15 | d16 | d17 | d18 | d19 | d20 | d21 | d22 | d23 | d24 | d25 | d26 | d27=>exact⟨by k_is,_,_,_,_,_,_,_,_,_,by k_is,by k_is,by k_is⟩)
  (case d3=>exact⟨by k_is,by k_is,_,_,_,_,_,_,_,_,_,by k_is,by k_is,by k_is⟩)
  (case n_Web_places | n_Web_ties | n_Web_near_sets | sp | tk=>k_is)
  (case xnd=>decide)
  (case xo_GuardError | xb_GuardError | xt_GuardError | xo_BadColony | xb_BadColony | xt_BadColony=>k_is)
  (case xe_BadColony=>k_exc)
  (case xg_BadColony | xn_BadColony | xa_BadColony | xs_BadColony_GuardError=>k_is)
  (case xi_BadColony_BadColony | xi_BadColony_ValueError | xi_BadColony_BadPlaces | xi_BadColony_NoCall | xi_BadColony_NoPlace | xi_BadColony_NotWood=>kit_is)
  (case z_ValueError | z_all | z_any | z_enumerate | z_int | z_isinstance | z_len | z_list | z_max | z_min | z_range | z_set | z_sorted | z_tuple | g_MOST_PLACES=>k_is)
#print axioms PySem.Challenge.cw_guardround_k46_colonies_looked_at_holds
