import PyProof.Rows.All
import Wide.All
import OpenK.AllK
import Wide.FinOn
import Lean
import PyProof.EqAt
import PyProof.EqKinds
import PyProof.TupleCall
import PyProof.ExcBaseAll.ValueError
import PyProof.NsDelKeeps
import PyProof.NeKinds
import PyProof.Rows.SortShell
import PyProof.Rows.FStr
import PyProof.FString
import PyProof.ExcAttrAll.ValueError
import PyProof.ExcArgsOwn
import PyProof.Rows.SortRuns
import PyProof.TupleIter
import PyProof.Dict
import KE.KDictSum
import PyProof.Rows.SetFrom
import PyProof.SetRoads
import PyProof.Rows.Range3
import PyProof.WalksMore
import PyProof.Rows.SortRev
import PyProof.Rows.RuleB_bool
import PyProof.TupleKey
import PyProof.SetKind
import PyProof.TupleOfSeq
import PyProof.EnumMake
import PyProof.SliceList
import PyProof.MinMaxWalk
import PyProof.Rows.EnumRows
import PyProof.WalkInts
import PyProof.Rows.SeqCalls
import KE.KRevIter
import PyProof.CollectIter
import PyProof.TupleOfGen
import PyProof.Rows.FactsT2
import PyProof.ListRange
import PyProof.Rows.CallKwBuiltin
import PyProof.ZipIter
import PyProof.Rows.ZipGen
import PyProof.Rows.RuleM_int
import PyProof.Rows.AssignMoreSeq
import KE.KIntText
import PyProof.Rows.StrKeys3
import PyProof.StrBlock
import PyProof.StrCalls2
import PyProof.StrWalks
import PySem.Challenge.RW_guardround_k21_whole_closed_lists_last
set_option Elab.async false
set_option linter.all false
set_option compiler.extract_closed false
set_option bootstrap.genMatcherCode false
set_option genSizeOf false
set_option maxRecDepth 100000
set_option maxHeartbeats 8000000
abbrev ZLi:=List Int
abbrev ZPi:=Int×Int
def qX{c:Prop}{h:Decidable c}(l:c){m:Sort u}{t e:m}:ite c t e=t:=if_pos l
def qY{c:Prop}{h:Decidable c}(l:Not c){m:Sort u}{t e:m}:ite c t e=e:=if_neg l
def wX{p:Prop}[i:Decidable p](h:p):decide p=true:=decide_eq_true h
def wY{p:Prop}[i:Decidable p](h:Not p):decide p=false:=decide_eq_false h
def zX{a b:Prop}(h:a)(n:Not a):b:=absurd h n
local macro_rules|`(tactic|ext)=>`(tactic|simp_all)
noncomputable section
open Array renaming forIn_toList->eC,getD->VQ,getD_eq_getD_getElem?->DG,getElem?_eq_getElem->Bv,getElem?_eq_none->L5,getElem?_toList->Bt,length_toList->Aj,mem_extract_iff_getElem->R9,mem_of_getElem?->Cv,mem_toList_iff->BU,perm_iff_toList_perm->Fu,replicate->mJ,size_map->nF,toList->sG,toList_append->FB,toList_map->IY,toList_modify->cA,toList_push->Hn,toList_setIfInBounds->VP
open Array.Perm renaming refl->QA
open Bool renaming and_eq_true->DZ,and_false->qv,false_eq_true->Eb,false_ne_true->Ab,false_or->sE,not_true->sD,or_eq_true->MU
open Classical renaming byContradiction->EY,choose->Hm,choose_spec->LH
open Eq renaming trans->IM
open False renaming elim->VM
open ForInStep renaming yield->IX
open Int renaming emod_lt_of_pos->iI,emod_nonneg->qu,fdiv_eq_ediv_of_nonneg->Wv,le_refl->yq,lt_of_le_of_lt->iH,one_mul->yp,toNat_natCast->As,toNat_of_nonneg->BY
open List renaming Nodup->Jv,Perm->FC,all_cons->sC,all_eq_true->Im,all_map->wB,any_cons->O3,any_eq_false->iF,any_eq_true->Lz,any_map->Zs,any_toArray->Ly,append_assoc->Bc,append_nil->Bp,drop_drop->Vx,drop_eq_getElem_cons->DS,drop_of_length_le->MM,eq_nil_of_length_eq_zero->Sj,ext_getElem?->Dt,extract->Zr,filterMap_cons->JS,filterMap_cons_some->Ez,filterMap_map->hV,filter_sublist->dv,find?_cons->Dv,find?_cons_of_neg->MK,find?_eq_none->P9,find?_some->mq,flatMap_cons->Kn,foldl_append->Hq,foldl_cons->mj,foldl_nil->Vw,forIn_cons->mf,forIn_nil->Vv,getD_eq_getElem?_getD->Ea,getElem?_append_left->AV,getElem?_append_right->BA,getElem?_cons_zero->YN,getElem?_drop->Ju,getElem?_eq_getElem->AM,getElem?_eq_none->IW,getElem?_eq_none_iff->Wt,getElem?_eq_some_iff->AB,getElem?_map->AX,getElem?_of_mem->Ew,getElem?_range->D8,getElem?_replicate->Ds,getElem?_set->Dr,getElem?_set_ne->AZ,getElem?_set_self->Ao,getElem?_take_of_lt->YD,getElem?_zipIdx->N1,getElem?_zip_eq_some->Kf,getElem_inj->R8,getElem_mem->CD,getElem_of_mem->CW,getElem_zip->Lx,length->Ev,length_append->AY,length_cons->Az,length_drop->ES,length_eraseIdx_of_lt->Vu,length_erase_of_mem->LA,length_filter_le->Ca,length_map->AH,length_nil->me,length_pos_iff->du,length_pos_of_mem->MJ,length_range->Km,length_replicate->aB,length_set->DB,length_singleton->Aq,length_take->By,length_zip->JM,lookup_cons->GV,map->bz,mapM_toArray->iE,map_append->BX,map_congr_left->D7,map_cons->Ap,map_drop->rq,map_filterMap->g9,map_id->Si,map_id'->Q0,map_map->BF,map_nil->Qz,map_snd_zip->mI,map_take->YC,mem_append->Ax,mem_append_left->Cm,mem_append_right->Bh,mem_cons->Aw,mem_cons_of_mem->AT,mem_cons_self->Ae,mem_erase_of_ne->bx,mem_filter->BH,mem_filterMap->P8,mem_iff_getElem->GF,mem_map->A9,mem_map_of_mem->dr,mem_of_find?_eq_some->Ws,mem_of_getElem?->A0,mem_of_mem_drop->JD,mem_of_mem_take->GD,mem_range->CU,mem_reverse->mH,mem_singleton->Ay,mem_singleton_self->YM,mergeSort_perm->dq,nil_append->md,nodup_append->Ff,nodup_cons->Ba,nodup_iff_pairwise_ne->Vt,nodup_nil->EZ,nodup_range->R7,not_mem_nil->Il,of_mem_zip->MQ,pairwise_append->BV,pairwise_cons->G9,pairwise_iff_getElem->Ke,pairwise_lt_range->MH,pairwise_map->Bb,pairwise_mergeSort->YL,perm_append_comm->aA,range->BO,range_succ->JL,range_succ_eq_map->Zq,replicate->Bs,reverse_cons->iD,set_set->wA,singleton_append->FZ,size_toArray->BR,sublist_append_left->YB,take_add_one->Fe,take_append_drop->DW,take_of_length_le->Cn,take_sublist->Qy,take_succ->Vr,take_zero->qt,zipIdx_nil->mZ,zip_append->Uu,zip_cons_cons->Jt
open List.Pairwise renaming and->Vz,drop->wS,filterMap->Q2,nil->Vy,take->wR
open List.Perm renaming append_left->Hi,append_right->VJ,swap->dw
open List.Sublist renaming filter->yo
open List.cons renaming injEq->QI
open Nat renaming add_zero->wQ,and_div_two->VH,and_mod_two_pow->O2,le_of_eq->wP,le_of_lt->Jr,le_of_lt_succ->Rh,le_of_not_lt->Sg,le_of_succ_le->Rg,le_refl->AJ,le_succ->Ut,le_trans->Al,lt_irrefl->FY,lt_of_le_of_lt->Bd,lt_of_lt_of_le->AR,lt_of_not_le->mY,lt_or_ge->IB,lt_succ_of_le->mG,lt_succ_of_lt->Ey,lt_succ_self->Da,lt_trans->Rf,lt_trichotomy->mF,min_eq_left->qr,min_le_right->Sf,mod_lt->QG,mod_two_eq_zero_or_one->KI,ne_of_gt->EM,ne_of_lt->Au,not_lt->QF,not_lt_zero->NQ,pow_le_pow_right->JG,pow_succ->MP,strongRecOn->qq,sub_self->IA,succ_ne_self->mX,succ_pos->Z8,testBit->yn,testBit_lt_two_pow->Z7,testBit_or->rp,testBit_succ->Is,testBit_two_pow->O0,two_pow_pos->qp,zero_add->Z6,zero_le->Bu
open Nat.succ renaming inj->Ow
open Ne renaming symm->Bw
open Option renaming bind_some->AF,getD_some->gz,isSome_iff_exists->DY,isSome_map->KG,isSome_some->bv,map->v4,map_eq_some_iff->D6,map_some->R6
open Option.some renaming inj->CK
open Or renaming inl->NP,inr->Kd
open Prod.mk renaming inj->qo
open PyProof.Rows renaming AllBare->Ko,IntsAre->G5,IsTup->mw,Keyed->BP,SortKind->QE,SortSt->BL,Subscript_->Z5,args_tuple_getitem->rm,arrOf->Af,boot_all->ym,boot_any->yk,boot_int->yj,boot_list->yi,boot_max->yh,boot_min->yg,boot_set->yf,boot_sorted->ye,boot_sum->yd,boot_tuple->yc,callWith_builtin1->N0,callWith_type1->Cy,elem'_eq->mU,entry_list_sort->yY,entry_tuple_getitem->ql,envOfC->JR,failedOf->Jq,firstOfTuple'->dj,general'->Z1,listItems_at->U2,listUpdate_at->R5,ltAt'->vw,mirror->Sd,mirror_perm->X8,pairsOf->OP,pendingOf->Ag,reverseSlice'->R4,reverseSlice'_eq->Ni,seqEpoch_at->mR,seqObj->JQ,slot_tuple_getitem->CV,sortedHeap->Zw,subscriptTail->dh,subscriptTail_builtinR->iA,tuples'->vk,wpS_bind->Ah,wpS_forRange->Do,wpS_get->Io,wpS_modify->EI,wpS_mono->Hj,wpS_pure->Ai
open PyProof.Rows.F renaming entry_set_update_loop->b9,plain_set_update_loop->MR
open PyProof.Rows.IsTup renaming new->iG
open PyProof.Rows.SortSt renaming mk'->Jp
open PySem renaming Addr->AU,Around->Bg,BindsTo->Zt,DictEntry->Q4,FuncData->LG,GenState->mz,Heap->B0,IsEnum->Wu,IsPart->QJ,Keyword->Q3,Model->Z9,NameKind->QH,Paired->Gn,PassesOwn->Wr,Program->BN,Result->iC,Scope->VD,SetTable->Es,Shared->AK,Stmt->C2,Value->AG,Within->YK,World->Bo,assignEach->Hz,atKey->Z3,attributeBase->FE,backTo->E1,backToKw->U9,behindInMarks->CN,binaryOp->Cw,bindArgs->mW,bindC->gw,bindL->gu,bootBuiltins->G3,builtinsNs->Z2,cLine->DE,call->dk,callerA->U6,cellsFrom->CT,codeAny->Ho,codeAny_builtin->FA,codeAny_call_builtin->mV,codeAny_mono->Ir,codeAny_of_tree->yZ,compareOp->Cd,concat_meets->iB,drawOrder->wK,entryFor->mT,entryFor_of_tree->wJ,eval->CO,firstArgMember->QD,fits_of_scanBound->vx,foldedSetIterable->EE,getItem->Ki,getMethod->gt,hashByValue->mS,holding->MD,intKind->Zn,isSubtype_stop->QC,isTrue->Z0,keywordEach->MC,letOwnedTupleGo->Ou,mainGlobals->BQ,mem_of_lookup->Dw,model->Ac,newFunctionEnv->Zz,noFill_tuple_add->Wn,ofAClassStatement->MB,pickOrder->gr,plainId_quiet->Hl,preSum->Sb,pushCells->G2,pushCells_keeps->YI,putSet_of->Qx,pyIter->Sa,pyNext->HB,rawInt->OO,relabel->Kh,searchCouldBeSeen->vq,seqIndex_of->mP,seq_tuple_add->di,setItem->vn,setSearchFrom->R3,setsByText->Zy,sizeLine_eq->X7,sliceBounds->mO,slotArgs->Zx,slot_list_getitem->vm,standAt->Zm,starEach->AW,storeName->wI,subscripted->X6,swapsWith->G1,sysModules->EJ,truthy->rk,tupleKind->Wm,tupleKind_room_in1->LC,valueAt->Uz,wpAny->Ak,wpAny_Call_Name_kw->Fb,wpAny_Dict_empty->wH,wpAny_Name->rj,wpAny_askSetting->G0,wpAny_assign_Name->vj,wpAny_attempt->GC,wpAny_bind->AA,wpAny_call->Zu,wpAny_callSpecial?_slot->Bn,wpAny_call_entry->Bl,wpAny_comprehension_free->df,wpAny_dictEntries->Uy,wpAny_dictEpoch->YH,wpAny_eqBool_int->wG,wpAny_eqBool_tuple->SZ,wpAny_eqIsQuiet_tuple->mD,wpAny_execs_cons->wF,wpAny_execs_nil->Ot,wpAny_field->IL,wpAny_fieldsOf->FO,wpAny_forIn_list->Wl,wpAny_handled->Rz,wpAny_holding->Dp,wpAny_isInstance->JP,wpAny_isOneOf_keyiter->Ox,wpAny_isTrue_Compare1->l8,wpAny_ite_split->YG,wpAny_load->rh,wpAny_loadName_cell->qk,wpAny_loadName_local->mM,wpAny_mono->Gk,wpAny_newList->de,wpAny_newObj_type->BW,wpAny_of_eq->MA,wpAny_passesOwn->Ft,wpAny_pure->AD,wpAny_pyIter_enum->L9,wpAny_pyIter_keyiter->mL,wpAny_pyIter_list->Ux,wpAny_pyIter_revIter->mK,wpAny_pyIter_slot->Uw,wpAny_pyIter_tuple->Hy,wpAny_rule->SY,wpAny_seqItems->Iq,wpAny_sequenceKey->vi,wpAny_setEntries_of->HA,wpAny_setField->Ip,wpAny_setField_rec->LB,wpAny_setState_of->DR,wpAny_specialOf->YF,wpAny_storeSet_of->vh,wpAny_throw->X5,wpAny_truthy_bool->DA,wpAny_typeNameOfWhole_keyiter->FX,wpAny_typeNameOf_keyiter->Hk,wpAny_typeOf->Kg,wpAny_updateSeq->yX
open PySem.Around renaming under_plainId->Dg
open PySem.AutoSeq1 renaming wpAny_loadPart'->GX
open PySem.Builtin renaming bitAnd->Bq,bitNot->iJ,bitOr->Ck,bitXor->E3
open PySem.Builtin.Dict renaming dictSlotNone->yr,showsAll->Sk
open PySem.Builtin.Frozenset renaming addrOf->nE,newClass->nD,sizeOf->nC,slot0->nB,updateFrom->nA
open PySem.Builtin.Int renaming intBits->Dh
open PySem.Builtin.List renaming listExtendWith->O8,listItems->Jw,listLengthHint->O7,listSameRef->Q5,listTooLong->JN
open PySem.Builtin.Range renaming rangeSize->wZ
open PySem.Builtin.Slice renaming sliceAdjust->Iu,sliceApplied->O5,sliceFields->wW,slicePartIndex->wV,slicePlaces->FT
open PySem.Builtin.SmallTypes renaming nextOf->FF
open PySem.Builtin.Tuple renaming tupleExact->Fg,tupleIsExact->wT,tupleItemsOf->O4
open PySem.Calls renaming Name_function_global->VN,callWith_builtin->YO,call_function_entry->V0,spliced_cons->dz,spliced_nil->hX
open PySem.Challenge renaming pw_guardround_k21_whole_closed_lists_last->rn,rw_guardround_k21_whole_closed_lists_last->Gq
open PySem.F renaming args_dict_keyiterator_next_1->Nl,args_tuple_add_2->KF,args_tuple_iterator_next_1->Wx,called_set->Go,entry_dict_keyiterator_next->Nz,entry_tuple_add->Kl,entry_tuple_iterator_next->YE,plainAttrs_list->Kk,plain_extend_loop->Us,plain_list_iadd->Vq,plain_set_new->wD,slot_dict_iter->Wq,slot_dict_keyiterator_next->C9,slot_enumerate_next->hW,slot_list_remove->m9,slot_set_iter->wC,slot_tuple_add->LF,slot_tuple_iterator_next->GY
open PySem.Heap renaming ExtBut->N2,SameBut->EG,get?_push_of_some->AE,get?_push_size->AS,get?_update_ne->dy,get?_update_other->EF,get?_update_self->Cz,lt_size->Aa,size_push->DJ
open PySem.Heap.IsSliceOf renaming new->Uv
open PySem.Heap.SameBut renaming refl->Ww,update->CM
open PySem.NameKind renaming cell->DV,free->GU
open PySem.Obj renaming cls_mapFields->mE,data_mapFields->KH,isFreed_of_fields->bw,mapSeq->E2,putSet->Dx
open PySem.Paired renaming length->FP,snoc->Zp
open PySem.SeqAt.RcAt renaming tuples->wM
open PySem.SetTable renaming Probe->YA,below->GR,fill->Ur,fits->Uq,grown->G8,insertAt->Ov,leap->YJ,runEnd->Gm,sizeAbove->Ny,turns->Zv
open PySem.SetTable.layClean renaming free->Js
open PySem.SetTable.probe renaming go->Nj
open PySem.Source renaming order->P7
open PySem.Value renaming bool->VC,bytes->v0,float->vz,int->LD,isInt->vy,isInt_shape->gx,isStrOf->qm,none->Dq,ref->BB,str->X9,type->G4
open PySem.W renaming Frag->AI,callWith_K->OQ,cellsFrom_some->Wp,codeIn->Se,emptyDict->DH,findIn->EL,fnOf->JF,handedIn->dn,hasDictIn->Oz,instObj->Ei,isFn->Wo,kdu_collect->Zo,keepIn->Fd,lookIn->MN,makesIn->gy,methodObj->Oy,mg_none_of->EK,mg_of->vt,nsIn->QB,plainGet->Kj,plainGet_of->Nk,plainOver->bu,takerIn->Re
open PySem.W.Looks renaming here->wO
open PySem.W.WData renaming int->ya
open PySem.Walks renaming list->wL
open PySem.Within renaming cons->yb
open PySem.pickOrder renaming go->U0
open Sum renaming inl->Du,inr->Z4
open True renaming intro->MF
open PySem PySem.Spec PyProof.Rows
namespace L2
abbrev Key:=Sum Int Str
noncomputable def WO:Key->AG->Bool
 | .inl k,v=>vy k v
 | .inr x,v=>qm x v
noncomputable def keyH(w:Bo):Key->Int
 | .inl k=>hashInt k
 | .inr x=>hashStr w x
def De:∀{k:Key} {v:AG},WO k v=true->(∃i t,k=Du i/\v=LD i t)∨(∃x t,k=Z4 x/\v=X9 x t)
 | .inl i,v,h=>by
  obtain⟨t,e⟩:=gx (k:=i) (v:=v) h;exact .inl ⟨i,t,rfl,e⟩
 | .inr x,v,h=>by
  obtain⟨t,e⟩:=AG.isStrOf_shape (x:=x) (v:=v) h;exact .inr ⟨x,t,rfl,e⟩
def fv(i:Int)(t:Tok):WO (.inl i) (.int i t)=true:=by simp[WO,vy]
def fq(x:Str)(t:Tok):WO (.inr x) (.str x t)=true:=by simp[WO,qm]
def uj(a b:Int):decide ((Du a:Key)=Du b)=(a==b):=by
 lia
def ug(a b:Str):decide ((Z4 a:Key)=Z4 b)=decide (a=b):=by
 ext
def ui(a:Int)(b:Str):decide ((Du a:Key)=Z4 b)=false:=wY (λq=>nomatch q)
def uh(a:Str)(b:Int):decide ((Z4 a:Key)=Du b)=false:=wY (λq=>nomatch q)
noncomputable def E0(prog:BN)(w:Bo):PySem.KeyKind prog w Key where
 is:=WO
 hash:=keyH w
 inj:=λv a b o hb=>by
  rcases De o with⟨i,t,rfl,rfl⟩ | ⟨x,t,rfl,rfl⟩
  ·rcases De hb with⟨j,u,rfl,e⟩ | ⟨y,u,rfl,e⟩
   ·injection e with m _;rw[m]
   ext
  ·rcases De hb with⟨j,u,rfl,e⟩ | ⟨y,u,rfl,e⟩
   ·exact nomatch e
   ext
 byValue:=λk v h=>by
  rcases De h with⟨i,t,rfl,rfl⟩ | ⟨x,t,rfl,rfl⟩ <;> rfl
 pyHash:=λl h=>by
  rcases De l with⟨i,t,rfl,rfl⟩ | ⟨x,t,rfl,rfl⟩
  ·exact wpAny_pyHash_int h
  ·exact wpAny_pyHash_str h
 eqBool:=λA l h=>by
  rcases De A with⟨i,t,rfl,rfl⟩ | ⟨x,t,rfl,rfl⟩
  ·rcases De l with⟨j,u,rfl,rfl⟩ | ⟨y,u,rfl,rfl⟩
   ·rw[uj]at h;exact wG h
   ·rw[ui]at h;exact SeqAt.EqAt.int_str i t y u _ _ _ _ h
  ·rcases De l with⟨j,u,rfl,rfl⟩ | ⟨y,u,rfl,rfl⟩
   ·rw[uh]at h;exact SeqAt.EqAt.str_int x t j u _ _ _ _ h
   ·rw[ug]at h;exact wpAny_eqBool_str h
 «strs»:=λk x t v h=>by
  rcases De h with⟨i,u,rfl,e⟩ | ⟨y,u,rfl,e⟩
  ·ext
  ·injection e with m _
   subst m
   cases v <;> rfl
def ZD(prog:BN)(w:Bo)(i:Int)(t:Tok):(E0 prog w).is (.inl i) (.int i t)=true:=fv i t
def ZC(prog:BN)(w:Bo)(x:Str)(t:Tok):(E0 prog w).is (.inr x) (.str x t)=true:=fq x t
inductive V where
 | non | bl (b:Bool) | int (i:Int) | str (x:Str) | byt (b:Array UInt8) | flt (b:UInt64) | ref (a:AU) | ty (n:String)
 deriving DecidableEq
def RelV:V->AG->Prop
 | .non,u=>u=Dq
 | .bl b,u=>u=VC b
 | .int i,u=>∃t,u=LD i t
 | .str x,u=>∃t,u=X9 x t
 | .byt b,u=>∃t,u=v0 b t
 | .flt b,u=>∃t,u=vz b t
 | .ref a,u=>u=BB a
 | .ty n,u=>u=G4 n
abbrev Bk:List V->List AG->Prop:=Gn RelV
def Bk.length(r:Bk xs us):xs.length=us.length:=FP r
theorem Bk.get:∀{xs:List V} {us:List AG} {i:Nat} {x:V},Bk xs us->xs[i]?=some x->∃u,us[i]?=some u/\RelV x u
 | _,_,_,_,.nil,e=>by simp at e
 | _,_,0,_,.cons r _,e=>by ext
 | _,_,i+1,x,.cons _ t,e=>by
  obtain⟨u,l,m⟩:=Bk.get (i:=i) (x:=x) t (by simpa using e);ext
theorem Bk.set(r:RelV x u):∀{xs:List V} {us:List AG} (i:Nat),Bk xs us->Bk (xs.set i x) (us.set i u)
 | _,_,_,.nil=>.nil
 | _,_,0,.cons _ t=>.cons r t
 | _,_,i+1,.cons q t=>.cons q (Bk.set r i t)
def Bk.append{xs l:List V}{us m:List AG}(h:Bk xs us)(s:Bk l m):Bk (xs++l) (us++m):=by
 induction h with
 | nil=>exact s
 | cons r _ I=>exact .cons r I
theorem Bk.take:∀{xs:List V} {us:List AG} (n:Nat),Bk xs us->Bk (xs.take n) (us.take n)
 | _,_,0,_=>.nil
 | _,_,_+1,.nil=>.nil
 | _,_,n+1,.cons r t=>.cons r (Bk.take n t)
theorem Bk.drop:∀{xs:List V} {us:List AG} (n:Nat),Bk xs us->Bk (xs.drop n) (us.drop n)
 | _,_,0,r=>r
 | _,_,_+1,.nil=>.nil
 | _,_,n+1,.cons _ t=>Bk.drop n t
def Nv:Option V->Option AG->Prop
 | some v,some u=>RelV v u
 | none,none=>True
 | _,_=>False
def KV{l:Type}:List (l×V)->List (l×AG)->Prop:=Gn λ(p:l×V) (q:l×AG)=>p.1=q.1/\RelV p.2 q.2
noncomputable def kV:Key->V
 | .inl i=>.int i
 | .inr x=>.str x
inductive HO where
 | lst (xs:List V)
 | tup (xs:List V)
 | dK (f':List (Key×V)) | dT (f':List (List Key×V))
 | set (S:Int->Bool) (n:Nat)
 | ins (C dx:AU) (fs:List (Str×V))
 | own (x:AU)
 | xd (fs:List (Str×V))
 | met (f x:AU)
 | rng (lo hi:Int)
 | frz (o:Obj) (u:HO)
 | tbl (ps:Array AG)
 | ext (φ:B0->Prop)
abbrev Hp:=AU->Option HO
noncomputable def upd(H:Hp)(a:AU)(o:HO):Hp:=λb=>if b=a then some o else H b
def Bz:upd H a o a=some o:=by unfold upd;ext
def Bi(h:b≠a):upd H a o b=H b:=by unfold upd;rw[qY h]
def xf{H:Hp}{a b:AU}{o u:HO}(h:H a=some o)(h':H b=some u)(d:o≠u):a≠b:=by
 lia
def DU{H:Hp}{a b:AU}{o:HO}(h:H a=some o)(h':H b=none):a≠b:=by
 lia
section
variable(P:BN)(w:Bo)
def E9(H:Hp)(h:B0)(a:AU):HO->Prop
 | .lst l=>l.length<=sizeLine/\∃(A:List AG) (n:Nat),Bk l A/\h.get? a=some { cls:=.type "list",data:=.seq A.toArray n }
 | .tup l=>(l.length<=sizeLine/\∃o,h.get? a=some o/\o.dict=none)/\∃A:List AG,Bk l A/\mw h a A.toArray
 | .dK B=>B.length<=sizeLine/\(a==EJ)=false/\∃I,KV B I/\h.DictOf (E0 P w) a I
 | .dT B=>B.length<=sizeLine/\(a==EJ)=false/\∃l:List (List Key×AU×AG),
   Gn (λ(p:List Key×V) (q:List Key×AU×AG)=>p.1=q.1/\H q.2.1=some (.tup (p.1.map kV))/\RelV p.2 q.2.2) B l /\
   ∃o J O,h.get? a=some o/\o.ExactDict/\o.data=.dict J O/\J.toList=l.map (entryOfKey (Wm (E0 P w)))/\(l.map (·.1)).Nodup
 | .set S n=>h.SetOf (Zn P w) a S n
 | .ins C E fs=>H E=some (.own a)/\fs.length<=1000/\E≠a/\h.get? a=some (Ei C E) /\
   ∃m,h.Ns1 E m/\(∀f,Nv (fs.lookup f) (m f))/\YK m (fs.map (·.1))
 | .own _=>∃o,h.get? a=some o
 | .xd fs=>∃m,h.Ns1 a m/\∀f,Nv (fs.lookup f) (m f)
 | .rng lo Q=>∃t u v,h.get? a=some { cls:=.type "range",data:=.fields #[.int lo t,.int Q u,.int 1 v] }
 | .frz o u=>h.get? a=some o/\E9 H h a u
 | .tbl R=>h.get? a=some { cls:=.none,data:=.fields R }
 | .met f x=>h.get? a=some (Oy (.ref f) (.ref x))
 | .ext G=>G h/\(∃o,h.get? a=some o)/\∀L N:B0,G L->(∀o,L.get? a=some o->N.get? a=some o)->G N
def HOk(H:Hp)(h:B0):Prop:=∀a o,H a=some o->E9 P w H h a o
end
section
variable{P:BN}{w:Bo}{H H':Hp}{h h':B0}{a:AU}{o:HO}
theorem E9.lt(x:E9 P w H h a o):a < h.objs.size:=by
 cases o with
 | lst l=>obtain⟨_,_,_,_,e⟩:=x;exact Aa e
 | tup l=>obtain⟨_,_,_,p⟩:=x;exact p.lt
 | dK m=>obtain⟨_,_,_,_,o,_,_,e,_⟩:=x;exact Aa e
 | dT m=>obtain⟨_,_,_,_,o,_,_,e,_⟩:=x;exact Aa e
 | set S n=>obtain⟨o,_,_,_,e,_⟩:=x;exact Aa e
 | ins C A fs=>obtain⟨_,_,_,e,_⟩:=x;exact Aa e
 | own y=>obtain⟨_,e⟩:=x;exact Aa e
 | xd fs=>obtain⟨_,⟨_,_,_,e,_⟩,_⟩:=x;exact Aa e
 | rng lo B=>obtain⟨_,_,_,e⟩:=x;exact Aa e
 | frz E u=>obtain⟨e,_⟩:=x;exact Aa e
 | tbl G=>exact Aa (show h.get? a=some _ from x)
 | met f y=>exact Aa (show h.get? a=some _ from x)
 | ext I=>obtain⟨_,⟨_,e⟩,_⟩:=x;exact Aa e
def Gn.mapP{A B:Type}{F G:A->B->Prop}{l:List A}{m:List B}(h:Gn F l m)(f:∀a b,F a b->G a b):Gn G l m:=by
 induction h with
 | nil=>exact .nil
 | cons r _ I=>exact .cons (f _ _ r) I
def E9.stay(x:E9 P w H h a o)(k:∀b u,(b=a∨H b=some (.own a))->h.get? b=some u->h'.get? b=some u)
  (ho:∀b,H b=some (.own a)->H' b=some (.own a)) (L:∀b xs,H b=some (.tup xs)->H' b=some (.tup xs)):E9 P w H' h' a o:=by
 induction o with
 | lst xs=>obtain⟨z,B,n,r,e⟩:=x;exact⟨z,B,n,r,k _ _ (.inl rfl) e⟩
 | tup xs=>obtain⟨⟨z,N,E,O⟩,B,r,l,e,c⟩:=x;exact⟨⟨z,N,k _ _ (.inl rfl) E,O⟩,B,r,l,k _ _ (.inl rfl) e,c⟩
 | dK Q=>obtain⟨z,y,R,r,l,m,A,e,c⟩:=x;exact⟨z,y,R,r,l,m,A,k _ _ (.inl rfl) e,c⟩
 | dT Q=>
  obtain⟨z,y,xs,r,l,m,A,e,c⟩:=x;exact⟨z,y,xs,Gn.mapP r λp q z=>⟨z.1,L _ _ z.2.1,z.2.2⟩,l,m,A,k _ _ (.inl rfl) e,c⟩
 | set S n=>obtain⟨l,m,A,t,e,c⟩:=x;exact⟨l,m,A,t,k _ _ (.inl rfl) e,c⟩
 | ins C U fs=>
  obtain⟨d,z,ne,e,G,⟨I,m,A,E,c⟩,r⟩:=x;exact⟨ho _ d,z,ne,k _ _ (.inl rfl) e,G,⟨I,m,A,k _ _ (.inr d) E,c⟩,r⟩
 | own y=>obtain⟨l,e⟩:=x;exact⟨l,k _ _ (.inl rfl) e⟩
 | xd fs=>obtain⟨G,⟨I,m,A,e,c⟩,r⟩:=x;exact⟨G,⟨I,m,A,k _ _ (.inl rfl) e,c⟩,r⟩
 | rng lo X=>obtain⟨t,u,v,e⟩:=x;exact⟨t,u,v,k _ _ (.inl rfl) e⟩
 | frz l u T=>obtain⟨e,q⟩:=x;exact⟨k _ _ (.inl rfl) e,T q⟩
 | tbl J=>
  have e:h.get? a=some { cls:=.none,data:=.fields J }:=x;show h'.get? a=some { cls:=.none,data:=.fields J };exact k a _ (.inl rfl) e
 | met f y=>
  have e:h.get? a=some (Oy (.ref f) (.ref y)):=x;show h'.get? a=some (Oy (.ref f) (.ref y));exact k a _ (.inl rfl) e
 | ext Y=>obtain⟨p,⟨o,e⟩,st⟩:=x;exact⟨st _ _ p λo q=>k _ _ (.inl rfl) q,⟨o,k _ _ (.inl rfl) e⟩,st⟩
def HOk.lt(x:HOk P w H h)(e:H a=some o):a < h.objs.size:=(x a o e).lt
def HOk.fresh(x:HOk P w H h)(e:h.objs.size<=a):H a=none:=by
 cases q:H a with
 | none=>rfl
 | some u=>exact zX (AR (x.lt q) e) (FY _)
def HOk.kept(x:HOk P w H h)(k:∀b u,h.get? b=some u->h'.get? b=some u):HOk P w H h':=λa o e=>
 (x a o e).stay (λb u _ q=>k b u q) (λ_ q=>q) λ_ _ q=>q
def HOk.laid(x:HOk P w H h)(k:∀b u,h.get? b=some u->h'.get? b=some u)(m:h.objs.size<=a)(new:E9 P w (upd H a o) h' a o):HOk P w (upd H a o) h':=λb u e=>by
 have l:=x.fresh m
 by_cases hb:b=a
 ·subst hb;rw[Bz]at e;ext
 ·rw[Bi hb]at e
  exact(x b u e).stay (λc v _ q=>k c v q) (λc q=>by rw[Bi (DU q l)];exact q) λc A q=>by rw[Bi (DU q l)];exact q
end
def Rd(H:Hp)(a:AU)(u:HO):Prop:=H a=some u∨∃o,H a=some (.frz o u)
def Rd.ok(r:Rd H a u)(x:HOk P w H h):E9 P w H h a u:=by
 rcases r with r | ⟨o,r⟩
 ·exact x a u r
 ·obtain⟨_,q⟩:=x a _ r
  exact q
def Mut:Option HO->Prop
 | some (.lst _)=>True
 | some (.dK _)=>True
 | some (.dT _)=>True
 | some (.set _ _)=>True
 | some (.ins _ _ _)=>True
 | some (.ext _)=>True
 | _=>False
section
variable{P:BN}{w:Bo}{H:Hp}{h h':B0}{x e:AU}
def HOk.write(ok:HOk P w H h)(o:Mut (H x))(E:e=x∨H e=some (.own x))(k:∀b u,b≠e->h.get? b=some u->h'.get? b=some u)(B:∃u,h'.get? e=some u)
  (new:E9 P w (upd H x o') h' x o'):HOk P w (upd H x o') h':=λb u q=>by
 have l:∀c y,H c=some (.own y)->c≠x:=λc y r z=>by subst z;rw[r]at o;exact o
 have m:∀c A,H c=some (.tup A)->c≠x:=λc A r z=>by subst z;rw[r]at o;exact o
 by_cases hb:b=x
 ·subst hb;rw[Bz]at q;lia
 ·rw[Bi hb]at q
  by_cases G:b=e
  ·have C:H b=some (.own x):=by
    rcases E with z | z
    ·ext
    ·ext
   rw[q]at C;cases C;obtain⟨v,I⟩:=B;exact⟨v,by ext⟩
  ·refine(ok b u q).stay (λc v J r=>k c v ?_ r) (λc r=>by rw[Bi (l c b r)];exact r) λc A r=>by rw[Bi (m c A r)];exact r
   grind
end
structure Un(fs ex:List AU)(H H':Hp)(h h':B0):Prop where
 keep:∀b o,h.get? b=some o->H b=none->b∉fs->b∉ex->h'.get? b=some o
 slot:∀b o,h.get? b=some o->H b=none->b∈fs->b∉ex->∃sl,h'.get? b=some { o with slots:=sl }
 free:∀b o,h.get? b=some o->H b=none->b∉ex->H' b=none
 there:∀b o,h.get? b=some o->b∉ex->∃o',h'.get? b=some o'
 tups:∀b xs,H b=some (.tup xs)->H' b=some (.tup xs)
 frzs:∀b o u,H b=some (.frz o u)->H' b=some (.frz o u)
 tbls:∀b ps,H b=some (.tbl ps)->∃more,H' b=some (.tbl (ps++more))
section
variable{fs ex:List AU}{H H1:Hp}{h h1 h':B0}{a x e:AU}{o:HO}
def Un.any(u:Un fs ex H H1 h h1)(q:h.get? b=some l)(n:H b=none)(m:b∉ex):∃sl,h1.get? b=some { l with slots:=sl }:=by
 by_cases hb:b∈fs
 ·exact u.slot b l q n hb m
 ·exact⟨l.slots,u.keep b l q n hb m⟩
def Un.kept(k:∀b u,h.get? b=some u->h'.get? b=some u):Un fs ex H H h h':=
 ⟨λb l q _ _ _=>k b l q,λb l q _ _ _=>⟨l.slots,k b l q⟩,λ_ _ _ n _=>n,λb l q _=>⟨l,k b l q⟩,λ_ _ q=>q,λ_ _ _ q=>q,λ_ m q=>⟨#[],by rw[q];simp⟩⟩
def Un.refl:Un fs ex H H h h:=Un.kept λ_ _ q=>q
def Un.laid(k:∀b u,h.get? b=some u->h'.get? b=some u)(m:h.objs.size<=a)(l:H a=none):Un fs ex H (upd H a o) h h' where
 keep:=λb u q _ _ _=>k b u q
 slot:=λb u q _ _ _=>⟨u.slots,k b u q⟩
 free:=λb u q n _=>by rw[Bi (Au (AR (Aa q) m))];exact n
 there:=λb u q _=>⟨u,k b u q⟩
 tups:=λb A q=>by rw[Bi (DU q l)];exact q
 frzs:=λb u A q=>by rw[Bi (DU q l)];exact q
 tbls:=λb B q=>⟨#[],by rw[Bi (DU q l),q];simp⟩
def Un.write(l:Mut (H x))(B:e=x∨H e=some (.own x))(k:∀b u,b≠e->h.get? b=some u->h'.get? b=some u)(C:∃u,h'.get? e=some u):Un fs ex H (upd H x o) h h':=by
 have A:∀b,H b=none->b≠x:=λb n z=>by subst z;rw[n]at l;exact l
 have hb:∀b,H b=none->b≠e:=λb n z=>by
  subst z
  rcases B with r | r
  ·exact A b n r
  ·rw[n]at r;cases r
 have m:∀b u,H b=some u->¬Mut (some u)->b≠x:=λb u q E z=>by subst z;rw[q]at l;exact E l
 refine⟨λb u q n _ _=>k b u (hb b n) q,λb u q n _ _=>⟨u.slots,k b u (hb b n) q⟩,λb u q n _=>by rw[Bi (A b n)];exact n,λb u q _=>?_,
  λb G q=>by rw[Bi (m b _ q λz=>z)];exact q,λb u G q=>by rw[Bi (m b _ q λz=>z)];exact q,λb I q=>⟨#[],by rw[Bi (m b _ q λz=>z),q];simp⟩⟩
 grind
end
noncomputable def trk(h:B0)(H:Hp):List AU:=(BO h.objs.size).filter λa=>(H a).isSome
noncomputable def Xe(h:B0)(H:Hp):B0:=PySem.W.hideAll h (trk h H)
def gD(h:B0)(H:Hp):(Xe h H).objs.size=h.objs.size:=PySem.W.hideAll_size _ _
def kg(e:h.get? b=some o)(n:H b=none):(Xe h H).get? b=some o:=
 PySem.W.hideAll_get _ e λl=>by
  have q:(H b).isSome=true:=(BH.mp l).2
  ext
def pO(e:(Xe h H).get? b=some o):h.get? b=some o/\H b=none:=by
 have l:h.get? b=some o:=PySem.W.of_hideAll (trk h H) e;refine⟨l,?_⟩
 cases q:H b with
 | none=>rfl
 | some x=>
  have m:b∈trk h H:=BH.mpr ⟨CU.mpr (Aa l),by simp[q]⟩;have z:(Xe h H).get? b=none:=PySem.W.hideAll_none (trk h H) m
  ext
structure Mod(K:AI)(mg:Str->Option AG)(base:B0):Prop where
 kin:K.In base
 glob:base.Ns BQ mg
 blt:∃mb,base.Ns Z2 mb/\∀x:Str,x≠"__name__"->mb x=G3 x
 nolimit:base.NoLimit
structure Cx where
 prog:BN
 w:Bo
 K:AI
 mg:Str->Option AG
 base:B0
 A:Bg
 N:List Str
 s₀:AK
 H₀:Hp
 env:Env
 outer:List Env
 stack:List Env
 ex:List AU
 fn:Str->Bool
 calm:Bool
 pn:List (AU×Obj)
 xe:AG->AK->Prop
noncomputable def frs(l:List Env):List AU:=l.filterMap (·.frame)
abbrev Cx.fs(X:Cx):List AU:=frs X.outer
def Vis(l:VD)(x:Str):Prop:=l.names.lookup x=some .local∨l.names.lookup x=some .cell∨l.names.lookup x=some .free
def Loc(l:VD)(x:Str):Prop:=l.names.lookup x=some .local∨l.names.lookup x=some .cell
def Look(l:Env)(h:B0)(m:Str->Option AG)(x:Str)(u:AG):Prop:=
 (l.kindOf x=some .local/\m x=some u)∨((l.kindOf x=some .cell∨l.kindOf x=some .free)/\∃c,l.cells.lookup x=some c/\h.IsCell c (some u))
structure Cx.Ok(X:Cx):Prop where
 mod:Mod X.K X.mg X.base
 kind:X.env.scope.kind=.function
 glob:X.env.globals=BQ
 blt:X.env.builtins=Z2
 above:X.s₀.heap.objs.size<=X.env.locals
 inj:∀x y c,X.env.cells.lookup x=some c->X.env.cells.lookup y=some c->x=y
 has:∀x,(X.env.kindOf x=some .cell∨X.env.kindOf x=some .free)->∃c,X.env.cells.lookup x=some c
 cab:∀x c,X.fn x=true->X.env.cells.lookup x=some c->X.s₀.heap.objs.size<=c
 hd:X.calm=true->X.A.handled=none
 frames:X.A.frames=some X.stack
 stk:X.stack=X.outer∨(X.stack=X.env :: X.outer/\X.env.frame=some X.env.locals)
 exf:∀b∈X.ex,b≠X.env.locals/\∀x c,X.env.cells.lookup x=some c->c≠b
 bs:∀b o,X.base.get? b=some o->X.s₀.heap.get? b=some o/\X.H₀ b=none
 bsz:X.base.objs.size<=X.s₀.heap.objs.size
 noex:∀b o,X.base.get? b=some o->b∉X.ex
 exfs:∀b∈X.ex,b∉X.fs
 funs:X.s₀.heap.FunFrames X.base X.outer
 frf:∀b∈X.fs,X.H₀ b=none
structure Inv(X:Cx)(ζ:List (AU×Obj))(σ:List (Option V))(H:Hp)(s:AK):Prop where
 ok:X.Ok
 os:s.os=X.s₀.os
 bare:Ko s.gens
 base:Un X.fs X.ex X.H₀ H X.s₀.heap s.heap
 loc:∃m,s.heap.Ns X.env.locals m/\∀(i:Nat) (x:Str) (v:V),X.N[i]?=some x->σ[i]?=some (some v)->Vis X.env.scope x->∃u,RelV v u/\Look X.env s.heap m x u
 cell:∀x c,X.env.cells.lookup x=some c->∃v,s.heap.IsCell c v
 free:H X.env.locals=none
 freeC:∀x c,X.env.cells.lookup x=some c->H c=none
 pin:∀p∈X.pn++ζ,s.heap.get? p.1=some p.2/\H p.1=none/\p.1≠X.env.locals/\p.1∉X.fs/\∀v,p.2.data≠.cell v
 hok:HOk X.prog X.w H s.heap
 len:σ.length=X.N.length
section
variable{X:Cx}{ζ:List (AU×Obj)}{σ:List (Option V)}{H H':Hp}{s:AK}{h':B0}
def Cx.Ok.nofr(ok:X.Ok)(e:X.base.get? b=some o):b∉X.fs:=λhb=>by
 have:=(ok.funs.mem hb).1
 ext
def Inv.bs(I:Inv X ζ σ H s):∀b o,X.base.get? b=some o->s.heap.get? b=some o/\H b=none:=λb o e=>
 ⟨I.base.keep b o (I.ok.bs b o e).1 (I.ok.bs b o e).2 (I.ok.nofr e) (I.ok.noex b o e),I.base.free b o (I.ok.bs b o e).1 (I.ok.bs b o e).2 (I.ok.noex b o e)⟩
def Inv.bk(I:Inv X ζ σ H s):∀b o,X.base.get? b=some o->s.heap.get? b=some o:=λb o e=>(I.bs b o e).1
def Inv.mod(I:Inv X ζ σ H s):Mod X.K X.mg X.base:=I.ok.mod
def Inv.kIn(I:Inv X ζ σ H s):X.K.In s.heap:=I.ok.mod.kin.keeps I.bk
def Inv.lt(I:Inv X ζ σ H s):X.env.locals < s.heap.objs.size:=let ⟨_,l,_⟩:=I.loc;l.lt
def Inv.sz(I:Inv X ζ σ H s):X.s₀.heap.objs.size<=s.heap.objs.size:=Al I.ok.above (Jr I.lt)
def Inv.nofs(I:Inv X ζ σ H s)(h:s.heap.objs.size<=a):a∉X.fs:=λhb=>by
 obtain⟨_,o,l,_⟩:=I.ok.funs.mem hb;exact zX (AR (Aa l) (Al I.sz h)) (FY _)
def Inv.cne(I:Inv X ζ σ H s):∀x c,X.env.cells.lookup x=some c->c≠X.env.locals:=λx c e z=>by
 obtain⟨v,o,l,A⟩:=I.cell x c e;obtain⟨m,⟨B,C,E,G,J,_⟩,_⟩:=I.loc
 ext
theorem Inv.funs(I:Inv X ζ σ H s):s.heap.FunFrames X.base X.outer:=by
 have all:∀(l:List Env),(∀b∈frs l,b∈X.fs)->X.s₀.heap.FunFrames X.base l->s.heap.FunFrames X.base l:=by
  intro l
  induction l with
  | nil=>intro _ _;trivial
  | cons C r E=>
   intro A G;obtain⟨J,⟨L,o,B,N,O,P⟩,Q⟩:=G;have m:L∈X.fs:=A L (by unfold frs;ext)
   obtain⟨sl,e⟩:=I.base.slot L o O (I.ok.frf L m) m λz=>I.ok.exfs L z m
   exact⟨J,⟨L,_,B,N,e,P⟩,E (λb hb=>A b (by unfold frs;rw[JS,B];exact AT _ hb)) Q⟩
 exact all X.outer (λ_ hb=>hb) I.ok.funs
theorem Inv.stack(I:Inv X ζ σ H s):s.heap.FunFrames X.base X.stack:=by
 rcases I.ok.stk with e | ⟨e,l⟩
 ·rw[e];exact I.funs
 ·rw[e]
  obtain⟨m,o,_⟩:=I.loc;refine .cons (by rw[I.ok.kind];decide) l o ?_ I.funs;exact B0.get?_none_of_le (Al I.ok.bsz I.ok.above)
def Inv.stkSub(I:Inv X ζ σ H s):∀b∈frs X.stack,b∈X.env.locals :: X.fs:=λb hb=>by
 rcases I.ok.stk with e | ⟨e,l⟩
 ·ext
 ·rw[e]at hb
  unfold frs at hb;rw[JS,l]at hb;exact hb
def Inv.stkFree(I:Inv X ζ σ H s):∀b∈frs X.stack,H b=none:=λb hb=>by
 rcases Aw.mp (I.stkSub b hb)with e | hb
 ·rw[e];exact I.free
 ·obtain⟨_,o,l,_⟩:=I.ok.funs.mem hb
  exact I.base.free b o l (I.ok.frf b hb) λz=>I.ok.exfs b z hb
def Inv.step{g':Array mz}{t':Nat}{d':Drawn}{ch:List AU}(I:Inv X ζ σ H s)
  (L:∀b∈ch,(b∈X.ex∨X.s₀.heap.objs.size<=b)/\b≠X.env.locals/\(∀x c,X.env.cells.lookup x=some c->c≠b)/\∀p∈X.pn++ζ,p.1≠b)
  (keep:∀b o,b≠X.env.locals->b∉X.fs->b∉ch->s.heap.get? b=some o->H b=none->h'.get? b=some o)
  (slot:∀b o,b≠X.env.locals->b∈X.fs->b∉ch->s.heap.get? b=some o->H b=none->∃sl,h'.get? b=some { o with slots:=sl }) (free:∀b o,b∉ch->s.heap.get? b=some o->H b=none->H' b=none)
  (there:∀b o,b∉ch->s.heap.get? b=some o->∃o',h'.get? b=some o')
  (N:∀b xs,H b=some (.tup xs)->H' b=some (.tup xs)) (O:∀b o u,H b=some (.frz o u)->H' b=some (.frz o u)) (Y:∀b Q,H b=some (.tbl Q)->∃more,H' b=some (.tbl (Q++more)))
  (ns:∀m,s.heap.Ns X.env.locals m->h'.Ns X.env.locals m) (R:HOk X.prog X.w H' h') (hg:Ko g') :
  Inv X ζ σ H' { s with heap:=h',gens:=g',drawn:=d',toks:=t' }:=by
 have P:∀b o,X.s₀.heap.get? b=some o->b≠X.env.locals:=λb o e=>Au (AR (Aa e) I.ok.above)
 have E:∀b o,X.s₀.heap.get? b=some o->b∉X.ex->b∉ch:=λb o e A hb=>by
  rcases(L b hb).1 with z | z
  ·exact A z
  ·exact zX (AR (Aa e) z) (FY _)
 have B:∀x c,X.env.cells.lookup x=some c->∀v,s.heap.IsCell c v->h'.IsCell c v:=by
  rintro x c e v ⟨o,J,S⟩
  have C:c∉ch:=λz=>(L c z).2.2.1 x c e rfl
  by_cases Z:c∈X.fs
  ·obtain⟨sl,q⟩:=slot c o (I.cne x c e) Z C J (I.freeC x c e)
   exact⟨_,q,S⟩
  ·exact⟨o,keep c o (I.cne x c e) Z C J (I.freeC x c e),S⟩
 refine⟨I.ok,I.os,hg,⟨λb o e n hb A=>?_,λb o e n hb A=>?_,λb o e n A=>?_,λb o e A=>?_,λb xs e=>N b xs (I.base.tups b xs e),λb o xs e=>O b o xs (I.base.frzs b o xs e),λb Q e=>?_⟩,?_,λx c e=>?_,?_,λx c e=>?_,λp hp=>?_,R,I.len⟩
 ·exact keep b o (P b o e) hb (E b o e A) (I.base.keep b o e n hb A) (I.base.free b o e n A)
 ·obtain⟨sl,G⟩:=I.base.slot b o e n hb A
  obtain⟨T,U⟩:=slot b _ (P b o e) hb (E b o e A) G (I.base.free b o e n A);exact⟨T,U⟩
 ·obtain⟨o',G⟩:=I.base.there b o e A
  exact free b o' (E b o e A) G (I.base.free b o e n A)
 ·obtain⟨o',G⟩:=I.base.there b o e A
  exact there b o' (E b o e A) G
 ·obtain⟨m1,G⟩:=I.base.tbls b Q e
  grind
 ·obtain⟨m,hn,hl⟩:=I.loc
  refine⟨m,ns m hn,λi x v G U e3=>?_⟩;obtain⟨u,r,l⟩:=hl i x v G U e3;refine⟨u,r,?_⟩
  rcases l with l | ⟨k,c,e,z⟩
  ·exact .inl l
  ·exact .inr ⟨k,c,e,B x c e _ z⟩
 ·obtain⟨v,z⟩:=I.cell x c e
  exact⟨v,B x c e v z⟩
 ·obtain⟨m,⟨o,_,_,J,_⟩,_⟩:=I.loc
  exact free _ o (λz=>(L _ z).2.1 rfl) J I.free
 ·obtain⟨v,o,J,S⟩:=I.cell x c e
  exact free c o (λz=>(L c z).2.2.1 x c e rfl) J (I.freeC x c e)
 ·obtain⟨e,n,ne,nf,d⟩:=I.pin p hp
  have C:p.1∉ch:=λz=>(L p.1 z).2.2.2 p hp rfl
  exact⟨keep p.1 p.2 ne nf C e n,free p.1 p.2 C e n,ne,nf,d⟩
def Inv.un{t':Nat}(I:Inv X ζ σ H s)(u:Un X.fs [] H H' s.heap h')(l:HOk X.prog X.w H' h'):Inv X ζ σ H' { s with heap:=h',toks:=t' }:=by
 obtain⟨m,⟨o,N,O,C,r⟩,_⟩:=id I.loc;obtain⟨sl,G⟩:=u.any C I.free (by simp)
 exact I.step (g':=s.gens) (d':=s.drawn) (ch:=[]) (λ_ z=>nomatch z) (λb o _ hb _ e n=>u.keep b o e n hb (by simp)) (λb o _ hb _ e n=>u.slot b o e n hb (by simp)) (λb o _ e n=>u.free b o e n (by simp)) (λb o _ e=>u.there b o e (by simp)) u.tups u.frzs u.tbls (λP J=>by
  obtain⟨Q,A,B,E,L⟩:=J;rw[C]at E;cases E
  exact⟨_,A,B,G,L⟩) l I.bare
def Inv.call{g':Array mz}{t':Nat}{d':Drawn}{ch:List AU}(I:Inv X ζ σ H s)(u:Un (frs X.stack) ch H H' s.heap h')(A:HOk X.prog X.w H' h')(N:Ko g')
  (G:∀b∈ch,(b∈X.ex∨X.s₀.heap.objs.size<=b)/\b≠X.env.locals/\(∀x c,X.env.cells.lookup x=some c->c≠b)/\∀p∈X.pn++ζ,p.1≠b) :
  Inv X ζ σ H' { s with heap:=h',gens:=g',drawn:=d',toks:=t' }:=by
 obtain⟨m,⟨o,Q,R,J,r⟩,_⟩:=id I.loc
 obtain⟨sl,B⟩:=u.any J I.free λz=>(G _ z).2.1 rfl
 exact I.step (ch:=ch) G (λb o B hb l e n=>u.keep b o e n (λz=>(Aw.mp (I.stkSub b z)).elim B hb) l) (λb o _ _ l e n=>u.any e n l) (λb o l e n=>u.free b o e n l) (λb o l e=>u.there b o e l) u.tups u.frzs u.tbls (λS O=>by
  obtain⟨T,C,E,L,P⟩:=O;rw[J]at L;cases L
  exact⟨_,C,E,B,P⟩) A N
def Inv.turned{t':Nat}{it:AU}(I:Inv X ζ σ H s)(k:∀b o,b≠it->s.heap.get? b=some o->h'.get? b=some o)(P:H it=none)(A:it≠X.env.locals)
  (B:it∈X.ex∨X.s₀.heap.objs.size<=it) (C:∀x c,X.env.cells.lookup x=some c->c≠it) (E:∀p∈X.pn++ζ,p.1≠it):Inv X ζ σ H { s with heap:=h',toks:=t' }:=by
 have G:∀b u,H b=some u->b≠it:=λb u e z=>by ext
 refine I.step (g':=s.gens) (d':=s.drawn) (ch:=[it]) (λb hb=>?_) (λb o _ _ l e _=>k b o (λz=>l (by simp[z])) e) (λb o _ _ l e _=>⟨o.slots,k b o (λz=>l (by simp[z])) e⟩) (λ_ _ _ _ n=>n)
  (λb o l e=>⟨o,k b o (λz=>l (by simp[z])) e⟩) (λ_ _ e=>e) (λ_ _ _ e=>e) (λb Q e=>⟨#[],by rw[e];simp⟩) (λm J=>?_) (λb u e=>?_) I.bare
 ·have e:b=it:=by simpa using hb
  subst e;exact⟨B,A,C,E⟩
 ·obtain⟨o,L,N,O,r⟩:=J
  exact⟨o,L,N,k _ o (Bw A) O,r⟩
 ·refine(I.hok b u e).stay (λc v l q=>k c v ?_ q) (λ_ q=>q) λ_ _ q=>q
  lia
def Inv.tok(I:Inv X ζ σ H s)(t:Nat):Inv X ζ σ H { s with toks:=t }:=I.un (h':=s.heap) (t':=t) Un.refl I.hok
def Inv.kept(I:Inv X ζ σ H s)(k:∀b u,s.heap.get? b=some u->h'.get? b=some u):Inv X ζ σ H { s with heap:=h',toks:=t' }:=I.un (Un.kept k) (I.hok.kept k)
def Inv.laid(I:Inv X ζ σ H s)(k:∀b u,s.heap.get? b=some u->h'.get? b=some u)(l:s.heap.objs.size<=a)(new:E9 X.prog X.w (upd H a o) h' a o) :
  Inv X ζ σ (upd H a o) { s with heap:=h',toks:=t' }:=I.un (Un.laid k l (I.hok.fresh l)) (I.hok.laid k l new)
def Inv.write(I:Inv X ζ σ H s)(m:Mut (H x))(A:e=x∨H e=some (.own x))(k:∀b u,b≠e->s.heap.get? b=some u->h'.get? b=some u)(l:∃u,h'.get? e=some u)
  (new:E9 X.prog X.w (upd H x o) h' x o):Inv X ζ σ (upd H x o) { s with heap:=h',toks:=t' }:=I.un (Un.write m A k l) (I.hok.write m A k l new)
def Inv.pins_of(I:Inv X ζ σ H s)(h:∀p∈pins',s.heap.get? p.1=some p.2/\H p.1=none/\p.1≠X.env.locals/\p.1∉X.fs/\∀v,p.2.data≠.cell v):Inv X pins' σ H s:=
 ⟨I.ok,I.os,I.bare,I.base,I.loc,I.cell,I.free,I.freeC,λp l=>(Ax.mp l).elim (λz=>I.pin p (Cm _ z)) (h p),I.hok,I.len⟩
def ZA{N:List Str}(hN:N.Nodup){i j:Nat}{x:Str}(a:N[i]?=some x)(b:N[j]?=some x):i=j:=by
 obtain⟨o,l⟩:=AB.mp a;obtain⟨A,m⟩:=AB.mp b;exact(R8 hN).mp (l.trans m.symm)
def V3{M:Z9}{A:Bg}{E:AG->AK->Prop}{i:Nat}{x:Str}{v:V}{u:AG}{Q:Unit->AK->Prop}(I:Inv X ζ σ H s)(hN:X.N.Nodup)(hi:X.N[i]?=some x)(G:Loc X.env.scope x)(r:RelV v u)
  (h:∀s',Inv X ζ (σ.set i (some v)) H s'->(∃a,EG a s.heap s'.heap/\(a=X.env.locals∨X.env.cells.lookup x=some a))->Q () s') (hf:X.fn x=true∨X.env.scope.names.lookup x=some .local:=by first | exact .inl rfl | exact .inr rfl | assumption):Ak M A (wI X.env x u) Q E s:=by
 obtain⟨m,Y,hl⟩:=id I.loc
 have T:(X.env.scope.kind==.class||(X.env.scope.kind==.module&&X.env.locals != X.env.globals))=false:=by rw[I.ok.kind];rfl
 have O:i < σ.length:=by rw[I.len];exact(AB.mp hi).1
 have cne:=I.cne
 have B:∀{a:AU} {h':B0},(∃o,s.heap.get? a=some o/\H a=none)->EG a s.heap h'->HOk X.prog X.w H h':=λ{a h'} ha l b ob e=>by
  obtain⟨_,_,Z⟩:=ha
  refine(I.hok b ob e).stay (λc w' J q=>(l.2 c ?_).trans q) (λ_ q=>q) λ_ _ q=>q
  lia
 rcases G with S | S
 ·refine wpAny_storeName_local S Y (λh' zR l=>?_) T
  obtain⟨oL,_,_,hoL,_⟩:=id Y;refine h _ ⟨I.ok,I.os,I.bare,⟨λb o e n hb G=>?_,λb o e n hb G=>?_,I.base.free,λb o e G=>?_,I.base.tups,I.base.frzs,I.base.tbls⟩,⟨_,zR,λj y v' C L e3=>?_⟩,λy c e=>?_,I.free,I.freeC,λp hp=>?_,B ⟨oL,hoL,I.free⟩ l,by simpa using I.len⟩ ⟨_,l,.inl rfl⟩
  ·exact(l.2 b (Au (AR (Aa e) I.ok.above))).trans (I.base.keep b o e n hb G)
  ·obtain⟨sl,C⟩:=I.base.slot b o e n hb G
   exact⟨sl,(l.2 b (Au (AR (Aa e) I.ok.above))).trans C⟩
  ·obtain⟨o',C⟩:=I.base.there b o e G
   exact⟨o',(l.2 b (Au (AR (Aa e) I.ok.above))).trans C⟩
  ·by_cases P:j=i
   ·subst P
    rw[hi]at C;cases C;rw[Ao O]at L;cases L;exact⟨u,r,.inl ⟨S,by simp⟩⟩
   ·rw[AZ (Bw P)]at L
    obtain⟨u',r',q⟩:=hl j y v' C L e3;refine⟨u',r',?_⟩
    rcases q with⟨k,e⟩ | ⟨k,c,e,z⟩
    ·refine .inl ⟨k,?_⟩
     have:y≠x:=λe=>P (ZA hN C (e▸hi))
     ext
    ·exact .inr ⟨k,c,e,z.sameBut l (cne y c e)⟩
  ·obtain⟨w',z⟩:=I.cell y c e
   exact⟨w',z.sameBut l (cne y c e)⟩
  ·obtain⟨e,n,ne,nf,d⟩:=I.pin p hp
   exact⟨(l.2 p.1 ne).trans e,n,ne,nf,d⟩
 ·have R:X.fn x=true:=by
   rcases hf with z | z
   ·exact z
   ·ext
  obtain⟨c,J⟩:=I.ok.has x (.inl S);obtain⟨w',z⟩:=I.cell x c J;refine wpAny_storeName_cell I.ok.kind S J z (λh' zI l=>?_);obtain⟨oc,hoc,hocd⟩:=id z;refine h { s with heap:=h' } ⟨I.ok,I.os,I.bare,⟨λb o e n hb G=>?_,λb o e n hb G=>?_,I.base.free,λb o e G=>?_,I.base.tups,I.base.frzs,I.base.tbls⟩,⟨m,Y.sameBut l (Bw (cne x c J)),λj y v' C L e3=>?_⟩,λy U e=>?_,I.free,I.freeC,λp hp=>?_,B ⟨oc,hoc,I.freeC x c J⟩ l,by simpa using I.len⟩ ⟨c,l,.inr J⟩
  ·exact(l.2 b (Au (AR (Aa e) (I.ok.cab x c R J)))).trans (I.base.keep b o e n hb G)
  ·obtain⟨sl,C⟩:=I.base.slot b o e n hb G
   exact⟨sl,(l.2 b (Au (AR (Aa e) (I.ok.cab x c R J)))).trans C⟩
  ·obtain⟨o',C⟩:=I.base.there b o e G
   exact⟨o',(l.2 b (Au (AR (Aa e) (I.ok.cab x c R J)))).trans C⟩
  ·by_cases P:j=i
   ·subst P
    rw[hi]at C;cases C;rw[Ao O]at L;cases L;exact⟨u,r,.inr ⟨.inl S,c,J,zI⟩⟩
   ·rw[AZ (Bw P)]at L
    obtain⟨u',r',q⟩:=hl j y v' C L e3;refine⟨u',r',?_⟩
    rcases q with q | ⟨k,U,e,z'⟩
    ·exact .inl q
    ·refine .inr ⟨k,U,e,z'.sameBut l ?_⟩
     rintro rfl;exact P (ZA hN C (I.ok.inj _ _ _ e J▸hi))
  ·by_cases hcc:U=c
   ·grind
   ·obtain⟨w2,z2⟩:=I.cell y U e
    exact⟨w2,z2.sameBut l hcc⟩
  ·obtain⟨e,n,ne,nf,d⟩:=I.pin p hp
   refine⟨(l.2 p.1 ?_).trans e,n,ne,nf,d⟩
   grind
def TK(I:Inv X ζ σ H s)(hN:X.N.Nodup)(hi:X.N[i]?=some x)(l:Loc X.env.scope x)(r:RelV v u)
  (h:∀s',Inv X ζ (σ.set i (some v)) H s'->Q () s') (hf:X.fn x=true∨X.env.scope.names.lookup x=some .local:=by first | exact .inl rfl | exact .inr rfl | assumption):Ak M A (wI X.env x u) Q E s:=
 V3 I hN hi l r (λs' m _=>h s' m) hf
def Inv.call'(I:Inv X ζ σ H s)(ho:s'.os=s.os)(u:Un (frs X.stack) ch H H' s.heap s'.heap)(l:HOk X.prog X.w H' s'.heap)(m:Ko s'.gens)
  (o:∀b∈ch,(b∈X.ex∨X.s₀.heap.objs.size<=b)/\b≠X.env.locals/\(∀x c,X.env.cells.lookup x=some c->c≠b)/\∀p∈X.pn++ζ,p.1≠b):Inv X ζ σ H' s':=by
 obtain⟨h',g',d',t',A⟩:=s';have e:A=s.os:=ho;subst e;exact I.call (g':=g') (t':=t') (d':=d') u l m o
end
abbrev XK:=AG->Option AU->Hp->Prop
abbrev St:=List (Option V)
abbrev VK:=V->Hp->Prop
abbrev TE:=St->Hp->VK->Prop
abbrev TT:=St->Hp->(Bool->Hp->Prop)->Prop
abbrev TA:=St->Hp->(List V->Hp->Prop)->Prop
structure gq where
 nx:St->Hp->Prop
 rt:VK
 bk:St->Hp->Prop:=λ_ _=>False
 ct:St->Hp->Prop:=λ_ _=>False
abbrev TS:=gq->St->Hp->Prop
def EP(X:Cx)(m:List (AU×Obj))(o:St)(Q:VK)(u:AG)(s':AK):Prop:=∃v l,Inv X m o l s'/\RelV v u/\Q v l
def TP(X:Cx)(m:List (AU×Obj))(o:St)(Q:Bool->Hp->Prop)(b:Bool)(s':AK):Prop:=∃l,Inv X m o l s'/\Q b l
def AP(X:Cx)(o:List (AU×Obj))(A:St)(Q:List V->Hp->Prop)(us:List AG)(s':AK):Prop:=∃l m,Inv X o A m s'/\Bk l us/\Q l m
def SP(X:Cx)(o:List (AU×Obj))(D:gq)(f:Flow)(s':AK):Prop:=
 match f with
 | .next=>∃l m,Inv X o l m s'/\D.nx l m
 | .brk=>∃l m,Inv X o l m s'/\D.bk l m
 | .cont=>∃l m,Inv X o l m s'/\D.ct l m
 | .ret u=>∃v l m,Inv X o l m s'/\RelV v u/\D.rt v m
def PE(X:Cx)(e:Expr)(t:TE):Prop:=
 ∀(m:List (AU×Obj)) (s:AK) (l:St) (H:Hp) (Q:VK),Inv X m l H s->t l H Q->Ak (Ac X.prog X.w) X.A (CO e X.env) (EP X m l Q) X.xe s
def PT(X:Cx)(e:Expr)(t:TT):Prop:=
 ∀(m:List (AU×Obj)) (s:AK) (l:St) (H:Hp) (Q:Bool->Hp->Prop),Inv X m l H s->t l H Q->Ak (Ac X.prog X.w) X.A (Z0 e X.env (CO e X.env)) (TP X m l Q) X.xe s
def PW(X:Cx)(e:Expr)(t:TT):Prop:=
 ∀(l:Sem AG) (o:List (AU×Obj)) (s:AK) (m:St) (H:Hp) (Q:Bool->Hp->Prop),Inv X o m H s->t m H Q->Ak (Ac X.prog X.w) X.A (Z0 e X.env l) (TP X o m Q) X.xe s
def PW.pt(h:PW X e t):PT X e t:=h _
def PA(X:Cx)(es:List Expr)(t:TA):Prop:=
 ∀(l:Pos) (o:List (AU×Obj)) (s:AK) (m:St) (H:Hp) (Q:List V->Hp->Prop),Inv X o m H s->t m H Q->Ak (Ac X.prog X.w) X.A (spliced (E1 l (AW es X.env))) (AP X o m Q) X.xe s
def PS(X:Cx)(st:C2)(t:TS):Prop:=
 ∀(l:List (AU×Obj)) (s:AK) (m:St) (H:Hp) (D:gq),Inv X l m H s->t D m H->Ak (Ac X.prog X.w) X.A (exec st X.env) (SP X l D) X.xe s
def PSs(X:Cx)(st:List C2)(t:TS):Prop:=
 ∀(l:List (AU×Obj)) (s:AK) (m:St) (H:Hp) (D:gq),Inv X l m H s->t D m H->Ak (Ac X.prog X.w) X.A (execs st X.env) (SP X l D) X.xe s
def thn{l:Type}{t:Sem l}{Q m:l->AK->Prop}{M:Z9}{A:Bg}{E:AG->AK->Prop}{s:AK}(h:Ak M A t Q E s)(o:∀a s,Q a s->m a s):Ak M A t m E s:=Gk h o λ_ _ x=>x
section
variable{X:Cx}
def sr(i:Nat):TE:=λl H Q=>∃v,l[i]?=some (some v)/\Q v H
def tC(v:V):TE:=λ_ H Q=>Q v H
def tu(hN:X.N[i]?=some x)(E:Vis X.env.scope x)(A:(x==("__debug__" : Str))=false:=by decide) (G:(x==("__classdict__" : Str))=false:=by decide):PE X (.Name x J) (sr i):=by
 intro L s O H Q I h;obtain⟨v,e,h⟩:=h;obtain⟨m,P,R⟩:=I.loc;obtain⟨u,r,l⟩:=R i x v hN e E;have fin:EP X L O Q u s:=⟨v,H,I,r,h⟩
 rcases l with⟨o,S⟩ | ⟨o,c,B,C⟩
 ·exact rj (mM I.ok.kind o P S fin) A
 ·rcases o with o | o
  ·exact rj (qk I.ok.kind o B C fin) A
  ·exact rj (wpAny_loadName_free I.ok.kind o B C fin G) A
def t7{i j l}:PE X (.Constant (.int i) j l) (tC (.int i)):=λ_ _ _ H _ I h=>wpAny_Constant_int ⟨.int i,H,I.tok _,⟨_,rfl⟩,h⟩
def xT{b j l}:PE X (.Constant (.bool b) j l) (tC (.bl b)):=λ_ _ _ H _ I h=>Constant_bool ⟨.bl b,H,I,rfl,h⟩
def tz{x j l}:PE X (.Constant (.str x) j l) (tC (.str x)):=λ_ _ _ H _ I h=>Calls.Constant_str ⟨.str x,H,I.tok _,⟨_,rfl⟩,h⟩
def Gl(X:Cx)(x:Str):Prop:=X.env.kindOf x=some .globalImplicit
def XY(I:Inv X C G H s)(l:Gl X x)(m:X.mg x=some u)(h:Q u s)
  (o:(x==("__debug__" : Str))=false:=by decide):Ak (Ac X.prog X.w) X.A (CO (.Name x B) X.env) Q E s:=
 VN I.ok.kind l (Calls.loadGlobal_global (by rw[I.ok.glob];exact I.mod.glob.keeps I.bk) m h) o
def Mu(I:Inv X N O H s)(l:Gl X x)(m:X.mg x=none)(o:G3 x=some u)(h:Q u s)
  (B:x≠"__name__":=by decide) (C:(x==("__debug__" : Str))=false:=by decide):Ak (Ac X.prog X.w) X.A (CO (.Name x G) X.env) Q E s:=by
 obtain⟨P,J,L⟩:=I.mod.blt;exact VN I.ok.kind l (Calls.loadGlobal_builtin (by rw[I.ok.glob];exact I.mod.glob.keeps I.bk) m (by rw[I.ok.blt];exact J.keeps I.bk) ((L x B).trans o) h) C
def pC(l:Gl X x)(m:X.mg x=some u)(r:RelV v u)(o:(x==("__debug__" : Str))=false:=by decide):PE X (.Name x A) (tC v):=
 λ_ _ _ H _ I h=>XY I l m ⟨v,H,I,r,h⟩ o
variable{a b:Expr}{ta tb:TE}{pos:Pos}
def PC(X:Cx)(C:CmpOp)(a b:Expr)(t:TE):Prop:=
 ∀(B:List (AU×Obj)) (s:AK) (o:St) (H:Hp) (Q:VK),Inv X B o H s->t o H Q ->
  Ak (Ac X.prog X.w) X.A (CO a X.env) (λv l=>Ak (Ac X.prog X.w) X.A (CO b X.env) (λu m=>Ak (Ac X.prog X.w) X.A (Cd C v u) (EP X B o Q) X.xe m) X.xe l) X.xe s
def tB(t:TE):TT:=λl H Q=>t l H λx m=>∃c,x=.bl c/\Q c m
def jj(h:PC X l a b t)(m:CN l b=false:=by first | exact nobehind _ (by decide) (by decide) | rfl):PE X (.Compare a [l] [b] pos) t:=λo s A H Q I hw=>wpAny_Compare1 (h o s A H Q I hw) m
def jU(h:PC X m a b t)(l:CN m b=false:=by first | exact nobehind _ (by decide) (by decide) | rfl):PT X (.Compare a [m] [b] pos) (tB t):=by
 intro o s A H Q I hw;refine l8 (thn (h o s A H _ I hw) ?_) l;rintro v L l;refine thn l ?_;rintro u N B;refine thn B ?_;rintro c O ⟨x,C,E,G,J⟩;obtain⟨d,rfl,q⟩:=J;cases G;exact DA ⟨C,E,q⟩
def tT(h:PE X e t)(m:∀l,Z0 e X.env l=(do let v <-l;Zm e.pos;MD [v] (rk v)):=by intro _;rfl):PT X e (tB t):=by
 intro o s A H Q I hw;refine isTrue_plain (thn (h o s A H _ I hw) ?_) (m _);rintro v J ⟨x,B,C,E,G⟩;obtain⟨d,rfl,q⟩:=G;cases E;exact DA ⟨B,C,q⟩
variable{tA tB':TT}{rest:List Expr}
def w6(t u:TT):TT:=λl H Q=>t l H λc m=>if c=true then u l m Q else Q false m
def tOr(t u:TT):TT:=λl H Q=>t l H λc m=>if c=true then Q true m else u l m Q
def tNot(t:TT):TT:=λl H Q=>t l H λc m=>Q (!c) m
def oW(l:PT X a tA):PW X (.BoolOp .And [a] pos) tA:=by
 intro A m s o H Q I h;refine isTrue_and (thn (l m s o H Q I h) λc B e=>?_)
 cases c with
 | true=>exact isTrue_and_nil e
 | false=>exact e
def tR(l:PT X a tA):PW X (.BoolOp .Or [a] pos) tA:=by
 intro A m s o H Q I h;refine isTrue_or (thn (l m s o H Q I h) λc B e=>?_)
 cases c with
 | false=>exact isTrue_or_nil e
 | true=>exact e
def tS(o:PT X a tA)(hb:PW X (.BoolOp .And (b :: rest) pos) tB'):PW X (.BoolOp .And (a :: b :: rest) pos) (w6 tA tB'):=by
 intro A l s m H Q I h;refine isTrue_and (thn (o l s m H _ I h) λc B ⟨C,E,G⟩=>?_)
 cases c with
 | true=>exact hb A l B m C Q E G
 | false=>assumption
def xM(o:PT X a tA)(hb:PW X (.BoolOp .Or (b :: rest) pos) tB'):PW X (.BoolOp .Or (a :: b :: rest) pos) (tOr tA tB'):=by
 intro A l s m H Q I h;refine isTrue_or (thn (o l s m H _ I h) λc B ⟨C,E,G⟩=>?_)
 cases c with
 | true=>assumption
 | false=>exact hb A l B m C Q E G
def tU(l:PT X a tA):PT X (.UnaryOp .Not a pos) (tNot tA):=by
 intro m s o H Q I h;exact isTrue_not (l m s o H (λc A=>Q (!c) A) I h)
def tOrV(ta tb:TE):TE:=λl H Q=>ta l H λx m=>∃c,x=.bl c/\if c=true then Q (.bl true) m else tb l m Q
def wk(ta:TE):TE:=λl H Q=>ta l H λx m=>∃c,x=.bl c/\Q (.bl (!c)) m
def t4{l}{t}(h:PE X a t):PE X (.BoolOp l [a] pos) t:=λm s o H Q I hw=>BoolOp_one (h m s o H Q I hw)
def xQ(C:PE X a ta)(hb:PE X (.BoolOp .Or (b :: rest) pos) tb):PE X (.BoolOp .Or (a :: b :: rest) pos) (tOrV ta tb):=by
 intro m s o H Q I h;refine BoolOp_or (thn (C m s o H _ I h) ?_);rintro v E ⟨x,A,B,G,l⟩;obtain⟨c,rfl,l⟩:=l;cases G;refine DA ?_
 cases c with
 | false=>exact hb m E o A Q B l
 | true=>exact⟨.bl true,A,B,rfl,l⟩
def t5(m:PE X a ta):PE X (.UnaryOp .Not a pos) (wk ta):=by
 intro o s A H Q I h;refine UnaryOp_ (thn (m o s A H _ I h) ?_);rintro v G ⟨x,B,C,E,l⟩;obtain⟨c,rfl,l⟩:=l;cases E;exact not_of (DA ⟨.bl (!c),B,C,rfl,l⟩)
def tIf(t:TT)(ta tb:TE):TE:=λl H Q=>t l H λc m=>if c=true then ta l m Q else tb l m Q
def jg(E:PT X c tA)(G:PE X a ta)(hb:PE X b tb):PE X (.IfExp c a b pos) (tIf tA ta tb):=by
 intro l s m H Q I h;refine wpAny_IfExp (thn (E l s m H _ I h) ?_);rintro d o ⟨A,B,C⟩
 cases d with
 | true=>exact G l o m A Q B C
 | false=>exact hb l o m A Q B C
end
def SqL(K:AI)(H:Hp)(a:AU)(xs:List V):Prop:=
 Rd H a (.lst xs) ∨
  ∃(o:Obj) (l:Array AG) (n:Nat),K.lookup a=some o/\o.cls=.type "list"/\o.dict=none/\o.data=.seq l n/\l.size<=sizeLine/\Bk xs l.toList
def SqT(K:AI)(H:Hp)(a:AU)(xs:List V):Prop:=
 Rd H a (.tup xs) ∨
  ∃(o:Obj) (l:Array AG) (n:Nat),K.lookup a=some o/\o.cls=.type "tuple"/\o.data=.seq l n/\l.size<=sizeLine/\Bk xs l.toList
noncomputable def absV:AG->Option V
 | .none=>some .non
 | .bool b=>some (.bl b)
 | .int i _=>some (.int i)
 | .str x _=>some (.str x)
 | .bytes b _=>some (.byt b)
 | .float b _=>some (.flt b)
 | .ref a=>some (.ref a)
 | .type n=>some (.ty n)
 | _=>none
def RelV.abs(r:RelV x u):absV u=some x:=by
 cases x with
 | non=>cases r;rfl
 | bl _=>cases r;rfl
 | int _=>obtain⟨t,rfl⟩:=r;rfl
 | str _=>obtain⟨t,rfl⟩:=r;rfl
 | byt _=>obtain⟨t,rfl⟩:=r;rfl
 | flt _=>obtain⟨t,rfl⟩:=r;rfl
 | ref _=>cases r;rfl
 | ty _=>cases r;rfl
def RelV.inj(r:RelV x u)(q:RelV y u):x=y:=CK (r.abs.symm.trans q.abs)
theorem Bk.inj{xs l:List V}{us:List AG}(h:Bk xs us)(g:Bk l us):xs=l:=by
 induction h generalizing l with
 | nil=>cases g;rfl
 | cons r _ I=>cases g with | cons m o=>rw[r.inj m,I o]
section
variable{X:Cx}{ζ:List (AU×Obj)}{σ:St}{H:Hp}{s:AK}{a:AU}{xs ys:List V}
def Inv.list(I:Inv X ζ σ H s)(h:SqL X.K H a xs):∃l:List AG,Bk xs l/\PlainL s.heap a l.toArray/\xs.length<=sizeLine:=by
 rcases h with h | ⟨o,l,n,m,A,B,C,E,r⟩
 ·obtain⟨z,l,n,r,e⟩:=h.ok I.hok
  exact⟨l,r,⟨_,n,e,rfl,rfl,rfl⟩,z⟩
 ·refine⟨l.toList,r,⟨o,n,I.kIn a o m,A,B,by simpa using C⟩,?_⟩
  have e:=r.length;ext
def Inv.tuple(I:Inv X ζ σ H s)(h:SqT X.K H a xs):∃l:List AG,Bk xs l/\mw s.heap a l.toArray/\xs.length<=sizeLine:=by
 rcases h with h | ⟨o,l,n,m,A,B,C,r⟩
 ·obtain⟨z,l,r,p⟩:=h.ok I.hok
  exact⟨l,r,p,z.1⟩
 ·refine⟨l.toList,r,⟨o,I.kIn a o m,A,n,by simpa using B⟩,?_⟩
  have e:=r.length;ext
def Inv.list_inj(I:Inv X ζ σ H s)(h:SqL X.K H a xs)(h':SqL X.K H a ys):xs=ys:=by
 obtain⟨A,r,⟨o,n,e,_,_,d⟩,_⟩:=I.list h;obtain⟨its',B,⟨C,E,l,_,_,m⟩,_⟩:=I.list h';rw[e]at l;cases l;rw[d]at m
 injection m with d1 _
 have:A=its':=by simpa using congrArg sG d1
 subst this;exact r.inj B
def Inv.tuple_inj(I:Inv X ζ σ H s)(h:SqT X.K H a xs)(h':SqT X.K H a ys):xs=ys:=by
 obtain⟨A,r,⟨o,e,_,n,d⟩,_⟩:=I.tuple h;obtain⟨its',B,⟨C,l,_,E,m⟩,_⟩:=I.tuple h';rw[e]at l;cases l;rw[d]at m
 injection m with d1 _
 have:A=its':=by simpa using congrArg sG d1
 subst this;exact r.inj B
end
section
variable{X:Cx}{st:C2}{rest:List C2}{t u:TS}{e:Expr}{te:TE}{pos:Pos}
def wl:TS:=λD l H=>D.nx l H
def tSeq(t u:TS):TS:=λD l H=>t { D with nx:=u D } l H
def oZ:PSs X [] wl:=λ_ _ l H _ I h=>Ot ⟨l,H,I,h⟩
def jW(o:PS X st t)(A:PSs X rest u):PSs X (st :: rest) (tSeq t u):=by
 intro m s B H D I h;refine wF (thn (o m s B H { D with nx:=u D } I h) λf C q=>?_)
 cases f with
 | next=>
  obtain⟨l,E,G,q⟩:=q;exact A m C l E D G q
 | ret v=>exact q
 | brk=>exact q
 | cont=>exact q
def oY(l:PS X st t):PSs X [st] t:=by
 intro m s o H D I h;refine wF (thn (l m s o H D I h) λf A q=>?_)
 cases f with
 | next=>exact Ot q
 | ret v=>exact q
 | brk=>exact q
 | cont=>exact q
def Inv.quiet(I:Inv X l m H s):interactive X.env=false:=by simp[interactive,I.ok.kind]
def wt(te:TE):TS:=λD l H=>te l H λ_ m=>D.nx l m
def og(m:PE X e te)(hs:G1 e none pos.line X.env=pure false:=by rfl):PS X (.Expr e pos) (wt te):=by
 intro o s l H D I h;exact wpAny_Expr_any (thn (m o s l H _ I h) λv E ⟨x,A,B,G,C⟩=>⟨l,A,B,C⟩) I.quiet hs
def tRet(te:TE):TS:=λD l H=>te l H D.rt
def tW(m:PE X e te):PS X (.Return (some e) pos) (tRet te):=by
 intro o s l H D I h;exact wpAny_Return_some (thn (m o s l H _ I h) λv G ⟨x,A,B,C,E⟩=>⟨x,l,A,B,C,E⟩)
def tIfS(c:TT)(t u:TS):TS:=λD l H=>c l H λb m=>if b=true then t D l m else u D l m
def xO(E:PT X c tc)(G:PSs X a t)(hb:PSs X b u):PS X (.If c a b pos) (tIfS tc t u):=by
 intro l s m H D I h;refine wpAny_If (thn (E l s m H _ I h) ?_);rintro d o ⟨A,B,C⟩
 cases d with
 | true=>exact G l o m A D B C
 | false=>exact hb l o m A D B C
def su:TS:=λ_ _ _=>False
def jY:PS X st su:=λ_ _ _ _ _ _ h=>h.elim
end
abbrev TG:=V->St->Hp->(St->Hp->Prop)->Prop
abbrev TGs:=List V->St->Hp->(St->Hp->Prop)->Prop
def PG(X:Cx)(C:Expr)(t:TG):Prop:=
 ∀(m:List (AU×Obj)) (s:AK) (o:St) (H:Hp) (v:V) (u:AG) (Q:St->Hp->Prop),Inv X m o H s->RelV v u->t v o H Q ->
  Ak (Ac X.prog X.w) X.A (assign C X.env u) (λ_ E=>∃l B,Inv X m l B E/\Q l B) X.xe s
def PGs(X:Cx)(ts:List Expr)(t:TGs):Prop:=
 ∀(m:List (AU×Obj)) (s:AK) (o:St) (H:Hp) (B:List V) (C:List AG) (Q:St->Hp->Prop),Inv X m o H s->Bk B C->t B o H Q ->
  Ak (Ac X.prog X.w) X.A (assignInOrder ((Hz ts X.env).map (·.2)) C) (λ_ G=>∃l E,Inv X m l E G/\Q l E) X.xe s
abbrev yR:=V->V->V->Hp->(Hp->Prop)->Prop
def yV(X:Cx)(t:yR):Prop:=
 ∀(l:List (AU×Obj)) (s:AK) (m:St) (H:Hp) (o i v:V) (B C u:AG) (Q:Hp->Prop),Inv X l m H s->RelV o B->RelV i C->RelV v u->t o i v H Q ->
  Ak (Ac X.prog X.w) X.A (vn B C u) (λ_ G=>∃E,Inv X l m E G/\Q E) X.xe s
abbrev TIp:=V->V->Hp->VK->Prop
def PIp(X:Cx)(o:Operator)(t:TIp):Prop:=
 ∀(l:List (AU×Obj)) (s:AK) (m:St) (H:Hp) (x y:V) (v u:AG) (Q:VK),Inv X l m H s->RelV x v->RelV y u->t x y H Q ->
  Ak (Ac X.prog X.w) X.A (inplaceOp o v u) (EP X l m Q) X.xe s
section
variable{X:Cx}{pos:Pos}
def dH(i:Nat):TG:=λv l H Q=>Q (l.set i (some v)) H
def oz(hN:X.N.Nodup)(hi:X.N[i]?=some x)(l:Loc X.env.scope x)(hf:X.fn x=true∨X.env.scope.names.lookup x=some .local:=by first | exact .inl rfl | exact .inr rfl | assumption):PG X (.Name x pos) (dH i):=by
 intro o s A H v u Q I r h;exact vj (TK I hN hi l r (λB m=>⟨_,H,m,h⟩) hf)
def gNil:TGs:=λl m H Q=>l=[]/\Q m H
def yH(t:TG)(u:TGs):TGs:=λm o H Q=>∃v r,m=v :: r/\t v o H λl A=>u r l A Q
def oy:PGs X [] gNil:=by
 intro m s l H o A Q I r h;obtain⟨e,h⟩:=h;subst e;cases r;exact assignInOrder_nil ⟨l,H,I,h⟩
def je(o:PG X e t)(A:PGs X es u)
  (hs:(Hz (e :: es) X.env).map (·.2)=assign e X.env :: (Hz es X.env).map (·.2):=by rfl):PGs X (e :: es) (yH t u):=by
 intro m s B H O P Q I r h;obtain⟨v,R,C,h⟩:=h;subst C
 cases r with
 | cons r E=>
  rw[hs];refine assignInOrder_cons (thn (o m s B H _ _ _ I r h) ?_);rintro _ G ⟨l,J,L,N⟩;exact A m G l J _ _ Q L E N
def gTup(K:AI)(n:Nat)(t:TGs):TG:=λv m H Q=>∃a l,v=.ref a/\SqT K H a l/\l.length=n/\t l m H Q
def tt(A:X.calm=true)(h:PGs X es t)
  (B:(Hz es X.env).length=n:=by rfl) (C:(Hz es X.env).findIdx? (·.1)=none:=by rfl):PG X (.Tuple es k pos) (gTup X.K n t):=by
 intro l s m H v u Q I r hw;obtain⟨a,E,G,J,L,hw⟩:=hw;subst G;cases r;obtain⟨T,N,O,U⟩:=I.tuple J
 refine assign_Tuple_tuple (I.ok.hd A) O (by simp[B,<-L,N.length]) C λP R=>?_
 have S:Inv X l m H { s with heap:=P }:=I.kept (t':=s.toks) λb o e=>R b o (Au (Aa e)) e
 exact h l _ m H E _ Q S (by ext) hw
def w5(te:TE)(g:TG):TS:=λD l H=>te l H λx m=>g x l m D.nx
def tV(hN:X.N.Nodup)(hi:X.N[i]?=some x)(m:Loc X.env.scope x)(o:PE X e te)(hs:G1 e (some (.Name x l)) pos.line X.env=pure false:=by rfl)(hf:X.fn x=true∨X.env.scope.names.lookup x=some .local:=by first | exact .inl rfl | exact .inr rfl | assumption) :
  PS X (.Assign [.Name x l] e pos) (w5 te (dH i)):=by
 intro A s B H D I h;refine wpAny_Assign_Name (thn (o A s B H _ I h) ?_) hs;rintro v O ⟨y,C,E,G,J⟩;exact TK E hN hi m G (λP L=>⟨_,C,L,J⟩) hf
def tAug(i:Nat)(te:TE)(m:TIp):TS:=λD l H=>∃x,l[i]?=some (some x)/\te l H λy o=>m x y o λz A=>D.nx (l.set i (some z)) A
def tZ(hN:X.N.Nodup)(hi:X.N[i]?=some x)(E:Loc X.env.scope x)(Q:PE X e te)(ho:PIp X L R)(hf:X.fn x=true∨X.env.scope.names.lookup x=some .local:=by first | exact .inl rfl | exact .inr rfl | assumption) :
  PS X (.AugAssign (.Name x O) L e pos) (tAug i te R):=by
 intro G s P H D I h;obtain⟨v,S,h⟩:=h;obtain⟨m,T,U⟩:=I.loc
 have J:Vis X.env.scope x:=by rcases E with k | k;exact .inl k;exact .inr (.inl k)
 obtain⟨u,r,l⟩:=U i x v hi S J;refine wpAny_AugAssign_Name ?_
 have go:Ak (Ac X.prog X.w) X.A (CO e X.env) (λw B=>Ak (Ac X.prog X.w) X.A (inplaceOp L u w) (λr C=>Ak (Ac X.prog X.w) X.A (wI X.env x r) (λ_=>SP X G D .next) X.xe C) X.xe B) X.xe s:=by
  refine thn (Q G s P H _ I h) ?_;rintro w Y ⟨y,Z,I1,r1,q1⟩
  refine thn (ho G Y P Z v y u w _ I1 r r1 q1) ?_;rintro z s2 ⟨zv,H2,I2,r2,q2⟩
  exact TK I2 hN hi E r2 (λs3 I3=>⟨_,H2,I3,q2⟩) hf
 rcases l with⟨o,hm⟩ | ⟨o,c,hc,zr⟩
 ·exact mM I.ok.kind o T hm go
 ·rcases o with o | o
  ·exact qk I.ok.kind o hc zr go
  ·rcases E with k | k
   ·have:X.env.scope.names.lookup x=some .free:=o
    ext
   ·have:X.env.scope.names.lookup x=some .free:=o
    ext
def wz(to C te:TE)(l:V->V->Hp->VK->Prop)(B:TIp)(m:yR):TS:=λD A H=>to A H λo E=>C A E λi G=>l o i G λx I=>te A I λy J=>B x y J λz L=>m o i z L λN=>D.nx A N
def yW(X:Cx)(t:V->V->Hp->VK->Prop):Prop:=
 ∀(l:List (AU×Obj)) (s:AK) (m:St) (H:Hp) (o i:V) (B C:AG) (Q:VK),Inv X l m H s->RelV o B->RelV i C->t o i H Q ->
  Ak (Ac X.prog X.w) X.A (Ki B C) (EP X l m Q) X.xe s
def oj(ho:PE X o to)(hi:PE X i Q)(R:yW X C)(S:PE X e te)(T:PIp X U G)(hs:yV X E)
  (Y:∀l m new,augStore i l m new=(do MD [new,l,m] (vn l m new);release [new,l,m] [];pure .next):=by intros;rfl):PS X (.AugAssign (.Subscript o i tpos) U e pos) (wz to Q te C G E):=by
 intro B s A H D I h;refine wpAny_AugAssign_SubscriptAny (thn (ho B s A H _ I h) ?_) Y;rintro l Z ⟨L,H1,I1,N,q1⟩
 refine thn (hi B Z A H1 _ I1 q1) ?_;rintro m s2 ⟨O,H2,I2,P,q2⟩
 refine thn (R B s2 A H2 L O l m _ I2 N P q2) ?_;rintro J s3 ⟨x3,H3,I3,r3,q3⟩
 refine thn (S B s3 A H3 _ I3 q3) ?_;rintro v s4 ⟨x4,H4,I4,r4,q4⟩
 refine thn (T B s4 A H4 x3 x4 J v _ I4 r3 r4 q4) ?_;rintro new s5 ⟨x5,H5,I5,r5,q5⟩
 exact thn (hs B s5 A H5 L O x5 l m new _ I5 N P r5 q5) λ_ s6 ⟨H6,I6,q6⟩=>⟨A,H6,I6,q6⟩
def ipI(f:Int->Int->Int):TIp:=λx y H Q=>∃i j,x=.int i/\y=.int j/\Q (.int (f i j)) H
def uo:PIp X .Add (ipI λi j=>i+j):=by
 intro B s C H x y v u Q I l m h;obtain⟨i,j,o,A,q⟩:=h;subst o;subst A;obtain⟨t,rfl⟩:=l;obtain⟨E,rfl⟩:=m;exact iadd_int ⟨.int _,H,I.tok _,⟨_,rfl⟩,q⟩
def sk(c:TT)(E:TS):TS:=λD l H=>∃W:Nat->St->Hp->Prop,(∃m,W m l H)/\∀m l H,W m l H ->
 c l H λb A=>if b=true then ∃N:St->Hp->Prop,(∀o B,N o B->∃C,C < m/\W C o B)/\E { D with nx:=N,ct:=N,bk:=D.nx } l A else D.nx l A
def jX(T:Wr (Ac X.prog X.w) X.A X.env X.xe)(hc:PT X c tc)(hb:PSs X o tb):PS X (.While c o [] pos) (sk tc tb):=by
 intro L s σ H D I h;obtain⟨W,⟨m0,w0⟩,B⟩:=h;refine wpAny_While (codeAny_whileLoop (λn s'=>∃C U,Inv X L C U s'/\W n C U) ?_ m0 ⟨σ,H,I,w0⟩);rintro n s1 ⟨m,Y,I1,w1⟩;refine Ft T (thn (hc L s1 m Y _ I1 (B n m Y w1)) ?_);rintro b s2 ⟨Z,I2,G⟩
 cases b with
 | true=>
  obtain⟨N,hN,G⟩:=G;rw[qX rfl];refine Ft T (thn (hb L s2 m Z _ I2 G) λf s3 J=>?_)
  cases f with
  | next=>
   obtain⟨l,E,O,P⟩:=J;obtain⟨Q,R,S⟩:=hN l E P;exact⟨Q,R,l,E,O,S⟩
  | cont=>
   obtain⟨l,E,O,P⟩:=J;obtain⟨Q,R,S⟩:=hN l E P;exact⟨Q,R,l,E,O,S⟩
  | brk=>exact J
  | ret v=>exact J
 | false=>
  rw[qY Ab];exact Ot ⟨m,Z,I2,G⟩
end
structure It where
 go:Nat->Hp->Prop
 yld:Nat->Hp->V->Hp->Prop
 stop:Nat->Hp->Prop
def Oq(X:Cx)(l:List (AU×Obj))(H:Hp)(b:AU):Prop:=
 H b=none/\b≠X.env.locals/\b∉X.fs/\(b∈X.ex∨X.s₀.heap.objs.size<=b)/\(∀x c,X.env.cells.lookup x=some c->c≠b)/\∀p∈X.pn++l,p.1≠b
def Inv.fpOk(I:Inv X l B H s)(hb:s.heap.objs.size<=b)(m:o b=none):Oq X l o b:=by
 refine⟨m,EM (AR I.lt hb),I.nofs hb,.inr (Al I.sz hb),λx c e z=>?_,λp A z=>?_⟩
 ·obtain⟨v,q⟩:=I.cell x c e
  exact zX (AR q.lt (by ext)) (FY _)
 ·exact zX (AR (Aa (I.pin p A).1) (by ext)) (FY _)
structure Vl(P:BN)(w:Bo)(K:AI)(tg:Expr)(J:It)(fp:List AU)(it:AU)(tn:Nat->B0->Prop):Prop where
 mem:it∈fp
 obj:∀i h,tn i h->∀b∈fp,∃o,h.get? b=some o/\∀v,o.data≠.cell v
 keep:∀i h h',tn i h->(∀b∈fp,∀o,h.get? b=some o->h'.get? b=some o)->tn i h'
 item:∀(X:Cx),X.prog=P->X.w=w->X.K=K->X.calm=true->∀(i:Nat) (ζ:List (AU×Obj)) (s:AK) (σ:St) (H:Hp) (E:AG->AK->Prop),Inv X ζ σ H s->(∀b∈fp,Oq X ζ H b)->tn i s.heap->J.go i H ->
  Ak (Ac P w) X.A (HB (.ref it)) (λr s1=>∃u,r=some u /\
   Ak (Ac P w) X.A (Ou tg (.ref it) u) (λ_ s2=>∃x H',Inv X ζ σ H' s2/\RelV x u/\J.yld i H x H'/\tn (i+1) s2.heap/\∀b∈fp,H' b=none) E s1) E s
 done:∀(X:Cx),X.prog=P->X.w=w->X.K=K->X.calm=true->∀(i:Nat) (ζ:List (AU×Obj)) (s:AK) (σ:St) (H:Hp) (E:AG->AK->Prop),Inv X ζ σ H s->(∀b∈fp,Oq X ζ H b)->tn i s.heap->J.stop i H ->
  Ak (Ac P w) X.A (HB (.ref it)) (λr s1=>r=none/\Inv X ζ σ H s1) E s
 self:∀(A:Bg) (i:Nat) (s:AK) (Q:AG->AK->Prop) (E:AG->AK->Prop),tn i s.heap->Q (.ref it) s->Ak (Ac P w) A (Sa (.ref it)) Q E s
abbrev TI:=St->Hp->(It->Hp->Prop)->Prop
def PIE(X:Cx)(o:List (AU×Obj))(E:St)(tg:Expr)(R:It->Hp->Prop)(l:AG)(A:AK):Prop:=
 ∃(it:AU) (B:List AU) (C:Nat->B0->Prop) (J:It) (m:Hp),l=.ref it/\Inv X o E m A/\Vl X.prog X.w X.K tg J B it C/\C 0 A.heap/\(∀b∈B,Oq X o m b)/\R J m
def PI(X:Cx)(tg iter:Expr)(o:TI):Prop:=
 ∀(m:List (AU×Obj)) (s:AK) (l:St) (H:Hp) (R:It->Hp->Prop),Inv X m l H s->o l H R ->
  Ak (Ac X.prog X.w) X.A (CO iter X.env) (λv B=>Ak (Ac X.prog X.w) X.A (Sa v) (PIE X m l tg R) X.xe B) X.xe s
def ZT(ho:s.heap.get? it=some o)(m:o.cls=.type n)(B:o.data=.fields vs)
  (C:["enumerate", "zip", "dict_itemiterator", "dict_reverseitemiterator", "odict_iterator", "itertools.zip_longest", "itertools.pairwise"].contains n=false) (l:Q () s):Ak M A (Ou tg (.ref it) u) Q E s:=by
 unfold Ou
 cases tg <;> first
  | exact AD l
  | (cases u <;> first
    | exact AD l
    | (refine AA (rh ho ?_)
       rw[m,B];show Ak M A (if (["enumerate", "zip", "dict_itemiterator", "dict_reverseitemiterator", "odict_iterator", "itertools.zip_longest", "itertools.pairwise"].contains n&&vs[0]?==some (OO _))=true then _ else _) Q E s;rw[qY (by intro h;rw[C,Bool.false_and]at h;cases h)]
       exact AD l))
noncomputable def Itl(K:AI)(a:AU):It:=
 ⟨λi H=>∃l x,SqL K H a l/\l[i]?=some x,λi H x m=>m=H/\∀l,SqL K H a l->l[i]?=some x,λi H=>∃l,SqL K H a l/\l.length<=i⟩
noncomputable def Itt(K:AI)(a:AU):It:=
 ⟨λi H=>∃l x,SqT K H a l/\l[i]?=some x,λi H x m=>m=H/\∀l,SqT K H a l->l[i]?=some x,λi H=>∃l,SqT K H a l/\l.length<=i⟩
noncomputable def Itr(lo:Int)(n:Nat):It:=⟨λi _=>i < n,λi H x l=>l=H/\x=.int (lo+i),λi _=>n<=i⟩
def eS{P}{w}{K}{tg}(a it:AU):Vl P w K tg (Itl K a) [it] it (λi h=>h.IsListIter it a i) where
 mem:=by simp
 obj:=λi h st b hb=>by
  have e:b=it:=by simpa using hb
  subst e;obtain⟨o,e,c,d⟩:=st
  ext
 keep:=λi h m st k=>st.at λo e=>k it (by simp) o e
 item:=by
  intro X C hw G U i Y s Z H E I A st J;subst C hw G;obtain⟨xs,x,B,L⟩:=J;obtain⟨my,N,p,hz⟩:=I.list B;obtain⟨u,hu,ru⟩:=N.get L;obtain⟨O,Q,f2,R,S,T⟩:=A it (by simp)
  refine wpAny_pyNext_list_item st p.isList (x:=u) (by ext) λm l sb=>?_
  have I1:Inv X Y Z H { s with heap:=m }:=I.turned (t':=s.toks) (λb o hb e=>(sb.2 b hb).trans e) O Q R S T;obtain⟨o,e,c,d⟩:=id l;exact⟨u,rfl,ZT (s:={ s with heap:=m }) e c d (by decide) ⟨x,H,I1,ru,⟨rfl,λys hy=>by rw[I.list_inj hy B];exact L⟩,l,λb hb=>(A b hb).1⟩⟩
 done:=by
  intro X C hw G U i Y s Z H E I A st J;subst C hw G;obtain⟨xs,B,L⟩:=J;obtain⟨my,N,p,hz⟩:=I.list B;obtain⟨O,Q,f2,R,S,T⟩:=A it (by simp);have hl:=N.length
  exact wpAny_pyNext_list_end (I.ok.hd U) st p.isList (by simp;ext) λm eb=>⟨rfl,I.turned (t':=s.toks) (λb o hb e=>eb b o hb e) O Q R S T⟩
 self:=λ_ _ _ _ _ st h=>wpAny_pyIter_listiter st h
def aN{P}{w}{K}{tg}(a it:AU):Vl P w K tg (Itt K a) [it] it (λi h=>h.IsTupleIter it a i) where
 mem:=by simp
 obj:=λi h st b hb=>by
  have e:b=it:=by simpa using hb
  subst e;obtain⟨o,e,c,d⟩:=st
  grind
 keep:=λi h m st k=>st.at λo e=>k it (by simp) o e
 item:=by
  intro X C hw G Y i Z s σ H E I A st J;subst C hw G;obtain⟨xs,x,B,L⟩:=J;obtain⟨N,O,p,hz⟩:=I.tuple B;obtain⟨u,hu,ru⟩:=O.get L;obtain⟨Q,R,f2,S,T,U⟩:=A it (by simp)
  refine wpAny_pyNext_tuple_item st (show s.heap.IsTuple a N.toArray from p) (x:=u) (by grind) λm l sb=>?_
  have I1:Inv X Z σ H { s with heap:=m }:=I.turned (t':=s.toks) (λb o hb e=>(sb.2 b hb).trans e) Q R S T U;obtain⟨o,e,c,d⟩:=id l;exact⟨u,rfl,ZT (s:={ s with heap:=m }) e c d (by decide) ⟨x,H,I1,ru,⟨rfl,λys hy=>by rw[I.tuple_inj hy B];exact L⟩,l,λb hb=>(A b hb).1⟩⟩
 done:=by
  intro X C hw G Y i Z s σ H E I A st J;subst C hw G;obtain⟨xs,B,L⟩:=J;obtain⟨N,O,p,hz⟩:=I.tuple B;obtain⟨Q,R,f2,S,T,U⟩:=A it (by simp);have hl:=O.length
  exact wpAny_pyNext_tuple_end (I.ok.hd Y) st (show s.heap.IsTuple a N.toArray from p) (by simp;lia) λm eb=>⟨rfl,I.turned (t':=s.toks) (λb o hb e=>eb b o hb e) Q R S T U⟩
 self:=λ_ _ _ _ _ st h=>wpAny_pyIter_tupleiter st h
def aO{P}{w}{K}{tg}(it:AU)(lo:Int)(n:Nat):Vl P w K tg (Itr lo n) [it] it (λi h=>IsRangeIter h it (lo+(i:Nat) * 1) ((n:Int) - (i:Nat)) 1) where
 mem:=by simp
 obj:=λi h st b hb=>by
  ext
 keep:=λi h m st k=>k it (by simp) _ st
 item:=by
  intro X B hw C G i S s T H E I A st J;subst B hw C;obtain⟨L,N,Y,O,Q,R⟩:=A it (by simp);have W:=Walks.range (prog:=X.prog) (w:=X.w) (I.ok.hd G) it lo 1 n
  refine W.item i s _ _ J st λv m U Z l kk=>?_
  obtain⟨t,rfl⟩:=Z;have I1:Inv X S T H { s with heap:=m,toks:=U }:=I.turned (λb o hb e=>kk b o (by simpa using hb) e) L N O Q R;refine⟨_,rfl,ZT (s:={ s with heap:=m,toks:=U }) (n:="range_iterator") l rfl rfl (by decide) ⟨.int (lo+i),H,I1,⟨t,?_⟩,⟨rfl,rfl⟩,l,λb hb=>(A b hb).1⟩⟩
  ext
 done:=by
  intro X B hw C G i S s T H E I A st J;subst B hw C;obtain⟨L,N,Y,O,Q,R⟩:=A it (by simp)
  exact wpAny_pyNext_range_end (I.ok.hd G) st (by have:n<=i:=J;lia) λm eb=>⟨rfl,I.turned (t':=s.toks) (λb o hb e=>eb b o hb e) L N O Q R⟩
 self:=λ_ _ _ _ _ st h=>wpAny_pyIter_rangeiter st h
section
variable{X:Cx}
def xz(K:AI)(m:TE):TI:=λo H R=>m o H λx l=>∃a,x=.ref a/\(∃A,SqL K l a A)/\R (Itl K a) l
def iTup(K:AI)(m:TE):TI:=λo H R=>m o H λx l=>∃a,x=.ref a/\(∃A,SqT K l a A)/\R (Itt K a) l
def ot{l}{B}(C:PE X l B):PI X tg l (xz X.K B):=by
 intro E s G H R I h
 refine thn (C E s G H _ I h) ?_;rintro v m ⟨x,J,A,L,N⟩
 obtain⟨a,e,⟨P,O⟩,q⟩:=N;subst e;cases L;obtain⟨Q,S,p,T⟩:=A.list O;refine Ux p.isList ?_;refine⟨m.heap.objs.size,[m.heap.objs.size],_,_,J,rfl,A.kept (t':=m.toks) λb o e=>AE _ e,eS a _,⟨_,AS _ rfl,rfl,rfl⟩,λb hb=>?_,q⟩
 have e:b=m.heap.objs.size:=by simpa using hb
 subst e;exact A.fpOk (AJ _) (A.hok.fresh (AJ _))
def tp{l}{B}(C:PE X l B):PI X tg l (iTup X.K B):=by
 intro E s G H R I h
 refine thn (C E s G H _ I h) ?_;rintro v m ⟨x,J,A,L,N⟩
 obtain⟨a,e,⟨Q,O⟩,q⟩:=N;subst e;cases L;obtain⟨P,S,p,T⟩:=A.tuple O;refine Hy (show m.heap.IsTuple a P.toArray from p) ?_;refine⟨m.heap.objs.size,[m.heap.objs.size],_,_,J,rfl,A.kept (t':=m.toks) λb o e=>AE _ e,aN a _,⟨_,AS _ rfl,rfl,rfl⟩,λb hb=>?_,q⟩
 have e:b=m.heap.objs.size:=by simpa using hb
 subst e;exact A.fpOk (AJ _) (A.hok.fresh (AJ _))
def Yz{l}{m}{H}{s}{R}{E}{lo hi}{t u v}{B}(I:Inv X l m H s)(G:-(2 ^ 62)<=lo)(J:lo < 2 ^ 62)(L:-(2 ^ 62)<=hi)(N:hi < 2 ^ 62)
  (q:R (Itr lo (hi - lo).toNat) H):Ak (Ac X.prog X.w) X.A (Sa (.ref s.heap.objs.size)) (PIE X l m tg R) E { s with heap:=s.heap.push { cls:=.type "range",data:=.fields #[.int lo t,.int hi u,.int 1 v] },toks:=B }:=by
 refine wpAny_pyIter_range (IsRange.new ..) (small_one G J L N) ?_
 have C:Inv X l m H { s with heap:=s.heap.push { cls:=.type "range",data:=.fields #[.int lo t,.int hi u,.int 1 v] },toks:=B }:=I.kept λb o e=>AE _ e
 refine⟨(s.heap.push { cls:=.type "range",data:=.fields #[.int lo t,.int hi u,.int 1 v] }).objs.size,[(s.heap.push { cls:=.type "range",data:=.fields #[.int lo t,.int hi u,.int 1 v] }).objs.size],_,_,H,rfl,
  C.kept (t':=B) λb o e=>AE _ e,aO _ lo (hi - lo).toNat,?_,λb hb=>?_,q⟩
 ·have O:lo+((0:Nat):Int) * 1=lo:=by simp
  have P:(((hi - lo).toNat:Nat):Int) - ((0:Nat):Int)=wZ lo hi 1:=by rw[rangeSize_one];split <;> grind
  show IsRangeIter _ _ (lo+((0:Nat):Int) * 1) ((((hi - lo).toNat:Nat):Int) - ((0:Nat):Int)) 1;rw[O,P];exact AS _ rfl
 ·have e:b=(s.heap.push { cls:=.type "range",data:=.fields #[.int lo t,.int hi u,.int 1 v] }).objs.size:=by simpa using hb
  subst e;exact C.fpOk (AJ _) (C.hok.fresh (AJ _))
def xw(l:TA):TI:=λm H R=>l m H λo A=>∃j:Int,o=[.int j]/\-(2 ^ 62)<=j/\j < 2 ^ 62/\R (Itr 0 j.toNat) A
def xu(l:TA):TI:=λm H R=>l m H λo A=>∃i j:Int,o=[.int i,.int j]/\(-(2 ^ 62)<=i/\i < 2 ^ 62/\-(2 ^ 62)<=j/\j < 2 ^ 62)/\R (Itr i (j - i).toNat) A
def fR{a}{o}{p l}(A:Gl X "range") (B:X.mg "range" = none) (C:PA X [a] o) (hs:AW [a] X.env=[(false,CO a X.env)]:=by rfl):PI X tg (.Call (.Name "range" p) [a] [] l) (xw o):=by
 intro E s G H R I h;refine Call_ (Mu I A B boot_range (Cy (thn (C l E s G H _ I h) ?_) hs rfl));rintro P Q ⟨S,T,J,L,m⟩;obtain⟨j,e,m,N,q⟩:=m;subst e
 cases L with
 | cons r O=>
  cases O;obtain⟨t,rfl⟩:=r;exact call_range_1 (Yz J (by ext) (by ext) m N (by simpa using q))
def fQ(B:Gl X "range") (C:X.mg "range" = none) (E:PA X [a,b] G) (hs:AW [a,b] X.env=[(false,CO a X.env),(false,CO b X.env)]:=by rfl) (A:AW [b] X.env=[(false,CO b X.env)]:=by rfl) :
  PI X tg (.Call (.Name "range" p) [a,b] [] l) (xu G):=by
 intro J s L H R I h;refine Call_ (Mu I B C boot_range (Cy (thn (E l J s L H _ I h) ?_) (by rw[hs,A]) (by rw[A];rfl)));rintro U Y ⟨Z,H1,N,O,m⟩;obtain⟨i,j,e,⟨m,P,Q,S⟩,q⟩:=m;subst e
 cases O with
 | cons r o=>
  cases o with
  | cons T o=>
   cases o;obtain⟨t,rfl⟩:=r;obtain⟨t',rfl⟩:=T;exact call_range_2 (Yz N m P Q S q)
def tFor(E:TI)(g:TG)(G:TS):TS:=λD l H=>E l H λJ I=>∃W:Nat->Nat->St->Hp->Prop,(∃m,W 0 m l I)/\∀i m l H,W i m l H ->
 (J.stop i H/\D.nx l H)∨(J.go i H/\∃N:St->Hp->Prop,(∀o A,N o A->∃C,C < m/\W (i+1) C o A)/\∀x A,J.yld i H x A->g x l A λB L=>G { D with nx:=N,ct:=N,bk:=D.nx } B L)
noncomputable def Tn(l:List AU)(h:B0):List (AU×Obj):=l.filterMap λb=>(h.get? b).map λo=>(b,o)
def Lh(hb:b∈l)(e:h.get? b=some o):(b,o)∈Tn l h:=P8.mpr ⟨b,hb,by rw[e];rfl⟩
def fX(l:p∈Tn m h):p.1∈m/\h.get? p.1=some p.2:=by
 obtain⟨b,hb,e⟩:=P8.mp l
 cases q:h.get? b with
 | none=>ext
 | some o=>
  grind
def Inv.pinned(I:Inv X l A H s)(hf:∀b∈m,Oq X l H b)(ho:∀b∈m,∃o,s.heap.get? b=some o/\∀v,o.data≠.cell v):Inv X (l++Tn m s.heap) A H s:=
 I.pins_of λp B=>(Ax.mp B).elim (λz=>I.pin p (Bh _ z)) λz=>by
  obtain⟨hb,e⟩:=fX z;obtain⟨C,E,G,_⟩:=hf p.1 hb
  grind
def Inv.unpinned(I:Inv X (l++pl) m H s):Inv X l m H s:=I.pins_of λp o=>I.pin p (Bh _ (Cm _ o))
def tX(P:Wr (Ac X.prog X.w) X.A X.env X.xe)(hc:X.calm=true)(hi:PI X tg iter wi)(hg:PG X tg g)(hb:PSs X Q tb)
  (hs:∀x,EE iter X.env x=pure x:=by intro _;rfl):PS X (.For tg iter Q [] pos) (tFor wi g tb):=by
 intro O s σ H D I h;refine wpAny_For (thn (hi O s σ H _ I h) λv s1 h1=>thn h1 λitv s2 h2=>?_) hs;obtain⟨it,R,tn,J,H2,e,I2,T,tx,f2,W,⟨m0,w0⟩,S⟩:=h2;subst e
 have G':∀{H':Hp},(∀b∈R,H' b=none)->∀b∈R,Oq X O H' b:=λhn b hb=>⟨hn b hb,(f2 b hb).2⟩
 refine codeAny_forLoop_any (λn s'=>∃i B H',Inv X O B H' s'/\tn i s'.heap/\(∀b∈R,H' b=none)/\W i n B H') ?_ m0 ⟨0,σ,H2,I2,tx,λb hb=>(f2 b hb).1,w0⟩;rintro n s3 ⟨i,C,H3,I3,D',U,w3⟩
 rcases S i n C H3 w3 with⟨Y,qn⟩ | ⟨go,N,hN,step⟩
 ·refine Ft P (thn (T.done X rfl rfl rfl hc i O s3 C H3 X.xe I3 (G' U) D' Y) ?_);rintro r s4 ⟨hr,I4⟩
  subst hr;exact Ot ⟨C,H3,I4,qn⟩
 ·refine Ft P (thn (T.item X rfl rfl rfl hc i O s3 C H3 X.xe I3 (G' U) D' go) ?_);rintro r s4 ⟨u,hr,h4⟩
  subst hr;refine Ft P (thn h4 ?_);rintro _ s5 ⟨x,H5,I5,r5,y5,ϙ,fr5⟩;have I5':=I5.pinned (G' fr5) (T.obj _ _ ϙ);refine Ft P (thn (hg _ s5 C H5 x u _ I5' r5 (step x H5 y5)) ?_);rintro _ s6 ⟨σ6,H6,I6,q6⟩;refine Ft P (thn (hb _ s6 σ6 H6 _ I6 q6) λf s7 L=>?_)
  have again:∀{l:St} {E:Hp},Inv X (O++Tn R s5.heap) l E s7->N l E->∃m,m < n/\∃i B H',Inv X O B H' s7/\tn i s7.heap/\(∀b∈R,H' b=none)/\W i m B H':=λ{l E} G Z=>by
   obtain⟨m',hm,w7⟩:=hN l E Z;refine⟨m',hm,i+1,l,E,G.unpinned,T.keep _ _ _ ϙ λb hb o e=>(G.pin (b,o) (Bh _ (Bh _ (Lh hb e)))).1,λb hb=>?_,w7⟩;obtain⟨o,e,d⟩:=T.obj _ _ ϙ b hb;exact(G.pin (b,o) (Bh _ (Bh _ (Lh hb e)))).2.1
  cases f with
  | next=>obtain⟨l,E,G,Z⟩:=L;exact again G Z
  | cont=>obtain⟨l,E,G,Z⟩:=L;exact again G Z
  | brk=>obtain⟨l,E,G,L⟩:=L;exact⟨l,E,G.unpinned,L⟩
  | ret v=>obtain⟨x7,l,E,G,r7,L⟩:=L;exact⟨x7,l,E,G.unpinned,r7,L⟩
end
abbrev R2:=V->V->Hp->VK->Prop
def OpR(X:Cx)(f:AG->AG->Sem AG)(r:R2):Prop:=
 ∀(l:List (AU×Obj)) (s:AK) (m:St) (H:Hp) (x y:V) (v u:AG) (Q:VK),Inv X l m H s->RelV x v->RelV y u->r x y H Q ->
  Ak (Ac X.prog X.w) X.A (f v u) (EP X l m Q) X.xe s
def UnR(X:Cx)(f:AG->Sem AG)(r:V->Hp->VK->Prop):Prop:=
 ∀(l:List (AU×Obj)) (s:AK) (m:St) (H:Hp) (x:V) (v:AG) (Q:VK),Inv X l m H s->RelV x v->r x H Q ->
  Ak (Ac X.prog X.w) X.A (f v) (EP X l m Q) X.xe s
def Jo(X:Cx)(f:AG)(r:List V->Hp->VK->Prop):Prop:=
 ∀(l:List (AU×Obj)) (s:AK) (m:St) (H:Hp) (o:List V) (B:List AG) (Q:VK),Inv X l m H s->Bk o B->r o H Q ->
  Ak (Ac X.prog X.w) X.A (call f B) (EP X l m Q) X.xe s
def TruR(X:Cx)(r:V->Hp->(Bool->Hp->Prop)->Prop):Prop:=
 ∀(l:List (AU×Obj)) (s:AK) (m:St) (H:Hp) (x:V) (v:AG) (Q:Bool->Hp->Prop),Inv X l m H s->RelV x v->r x H Q ->
  Ak (Ac X.prog X.w) X.A (rk v) (TP X l m Q) X.xe s
def tOp(r:R2)(m o:TE):TE:=λl H Q=>m l H λx A=>o l A λy B=>r x y B Q
def tUn(r:V->Hp->VK->Prop)(l:TE):TE:=λm H Q=>l m H λx o=>r x o Q
def rI(C:Int->Int->Prop)(g:Int->Int->V):R2:=λx y H Q=>∃i j,x=.int i/\y=.int j/\C i j/\Q (g i j) H
def rI0(g:Int->Int->V):R2:=λx y H Q=>∃i j,x=.int i/\y=.int j/\Q (g i j) H
def rU(g:Int->V):V->Hp->VK->Prop:=λx H Q=>∃i,x=.int i/\Q (g i) H
section
variable{X:Cx}{a b:Expr}{ta tb:TE}{pos:Pos}
def vX(J:PE X a ta)(hb:PE X b tb){C:List (AU×Obj)}{s:AK}{l:St}{H:Hp}{R:V->V->Hp->Prop}(I:Inv X C l H s)
  (h:ta l H λx G=>tb l G λy m=>R x y m) {Q:AG->AK->Prop} {f:AG->AG->Sem AG}
  (hf:∀v u E x y m,Inv X C l m E->RelV x v->RelV y u->R x y m->Ak (Ac X.prog X.w) X.A (f v u) Q X.xe E) :
  Ak (Ac X.prog X.w) X.A (CO a X.env) (λv o=>Ak (Ac X.prog X.w) X.A (CO b X.env) (λu B=>Ak (Ac X.prog X.w) X.A (f v u) Q X.xe B) X.xe o) X.xe s:=by
 refine thn (J C s l H _ I h) ?_;rintro v L ⟨x,G,N,O,P⟩
 refine thn (hb C L l G _ N P) ?_;rintro u E ⟨y,m,S,T,U⟩
 exact hf v u E x y m S O T U
def xR{l:Operator}{r:R2}(ho:OpR X (Cw l) r)(m:PE X a ta)(hb:PE X b tb):PE X (.BinOp a l b pos) (tOp r ta tb):=by
 intro o s A H Q I h;exact wpAny_BinOp (vX m hb I h λv u B x y C E G J q=>ho o B A C x y v u Q E G J q)
def xP(ho:UnR X (unaryOp o) r)(A:PE X a ta):PE X (.UnaryOp o a pos) (tUn r ta):=by
 intro l s m H Q I h;exact UnaryOp_ (thn (A l s m H _ I h) λv B ⟨x,C,E,G,J⟩=>ho l B m C x v Q E G J)
def opI{f:AG->AG->Sem AG}{C:Int->Int->Prop}{g:Int->Int->Int}
  (rule:∀(i j:Int) (t u:Tok) (s:AK) (Q:AG->AK->Prop) (E:AG->AK->Prop),C i j->Q (.int (g i j) s.toks) { s with toks:=s.toks+1 }->Ak (Ac X.prog X.w) X.A (f (.int i t) (.int j u)) Q E s) :
  OpR X f (rI C λi j=>.int (g i j)):=by
 intro G s J H x y v u Q I l m h;obtain⟨i,j,rfl,rfl,o,q⟩:=h;obtain⟨t,rfl⟩:=l;obtain⟨B,rfl⟩:=m;exact rule i j t B s _ _ o ⟨.int (g i j),H,I.tok _,⟨_,rfl⟩,q⟩
def uL{f:AG->AG->Sem AG}{g:Int->Int->Int}
  (rule:∀(i j:Int) (t u:Tok) (s:AK) (Q:AG->AK->Prop) (E:AG->AK->Prop),Q (.int (g i j) s.toks) { s with toks:=s.toks+1 }->Ak (Ac X.prog X.w) X.A (f (.int i t) (.int j u)) Q E s) :
  OpR X f (rI0 λi j=>.int (g i j)):=by
 intro B s C H x y v u Q I l m h;obtain⟨i,j,rfl,rfl,q⟩:=h;obtain⟨t,rfl⟩:=l;obtain⟨o,rfl⟩:=m;exact rule i j t o s _ _ ⟨.int (g i j),H,I.tok _,⟨_,rfl⟩,q⟩
def pL{f:AG->AG->Sem AG}{g:Int->Int->Bool}
  (rule:∀(i j:Int) (t u:Tok) (s:AK) (Q:AG->AK->Prop) (E:AG->AK->Prop),Q (.bool (g i j)) s->Ak (Ac X.prog X.w) X.A (f (.int i t) (.int j u)) Q E s) :
  OpR X f (rI0 λi j=>.bl (g i j)):=by
 intro B s C H x y v u Q I l m h;obtain⟨i,j,rfl,rfl,q⟩:=h;obtain⟨t,rfl⟩:=l;obtain⟨o,rfl⟩:=m;exact rule i j t o s _ _ ⟨.bl (g i j),H,I,rfl,q⟩
def lz(i j:Int):Prop:=0 < j/\j < 1073741824
def bq(i j:Int):Prop:=0<=j/\j<=1000000/\i.natAbs < 2 ^ 64
def Zl(i j:Int):Prop:=(-(2 ^ 64) < i/\i < 2 ^ 64)∨(-(2 ^ 64) < j/\j < 2 ^ 64)
def Zl.ok(h:Zl i j):IntMulOk i j:=by
 rcases h with⟨l,m⟩ | ⟨l,m⟩
 ·exact .of_left (intBits_le_64 l m)
 ·exact .of_right (intBits_le_64 l m)
def aM(k:Nat):(0:Int)<=2 ^ k:=by
 lia
def uK:OpR X (Cw .Add) (rI0 λi j=>.int (i+j)):=uL λ_ _ _ _ _ _ _ q=>add_int q
def uC:OpR X (Cw .Sub) (rI0 λi j=>.int (i - j)):=uL λ_ _ _ _ _ _ _ q=>sub_int q
def uG:OpR X (Cw .Mult) (rI Zl λi j=>.int (i * j)):=opI λ_ _ _ _ _ _ _ l q=>mul_int q l.ok
def pI:OpR X (Cw .FloorDiv) (rI lz λi j=>.int (i / j)):=opI λi j _ _ _ _ _ l q=>by
 have m:(0:Int) < j:=l.1;have o:j < 1073741824:=l.2;exact floordiv_int (by lia) (by rw[Wv i (by lia)];exact q) (.inl (PyProof.noPylong_small (by grind)))
def uH:OpR X (Cw .Mod) (rI (λ_ j=>0 < j) λi j=>.int (i % j)):=opI λi j _ _ _ _ _ l q=>by
 have m:(0:Int) < j:=l;exact mod_int' (by lia) (by rw[Int.fmod_eq_emod_of_nonneg i (by lia)];exact q)
def uF:OpR X (Cw .Pow) (rI bq λi j=>.int (i ^ j.toNat)):=opI λ_ _ _ _ _ _ _ l q=>pow_int_small l.1 l.2.1 l.2.2 q
def uE:OpR X (Cw .LShift) (rI bq λi j=>.int (i * 2 ^ j.toNat)):=opI λ_ _ _ _ _ _ _ l q=>lshift_int_small l.1 l.2.1 l.2.2 q
def uD:OpR X (Cw .RShift) (rI (λ_ j=>0<=j) λi j=>.int (i / 2 ^ j.toNat)):=opI λi j _ _ _ _ _ l q=>
 rshift_int l (by rw[Wv i (aM _)];exact q)
def uJ:OpR X (Cw .BitAnd) (rI0 λi j=>.int (Bq i j)):=uL λ_ _ _ _ _ _ _ q=>and_int q
def unI{f:AG->Sem AG}{g:Int->Int}
  (rule:∀(i:Int) (t:Tok) (s:AK) (Q:AG->AK->Prop) (E:AG->AK->Prop),Q (.int (g i) s.toks) { s with toks:=s.toks+1 }->Ak (Ac X.prog X.w) X.A (f (.int i t)) Q E s) :
  UnR X f (rU λi=>.int (g i)):=by
 intro m s o H x v Q I l h;obtain⟨i,rfl,q⟩:=h;obtain⟨t,rfl⟩:=l;exact rule i t s _ _ ⟨.int (g i),H,I.tok _,⟨_,rfl⟩,q⟩
def sh:UnR X (unaryOp .USub) (rU λi=>.int (-i)):=unI λ_ _ _ _ _ q=>neg_int q
end
section
variable{X:Cx}{a b c:Expr}{ta tb tc:TE}{pos:Pos}
def xU:OpR X (Cd .Lt) (rI0 λi j=>.bl (decide (i < j))):=pL λ_ _ _ _ _ _ _ q=>lt_int q
def xV:OpR X (Cd .LtE) (rI0 λi j=>.bl (decide (i<=j))):=pL λ_ _ _ _ _ _ _ q=>le_int q
def xW:OpR X (Cd .Gt) (rI0 λi j=>.bl (decide (j < i))):=pL λ_ _ _ _ _ _ _ q=>gt_int q
def xX:OpR X (Cd .GtE) (rI0 λi j=>.bl (decide (j<=i))):=pL λ_ _ _ _ _ _ _ q=>ge_int q
def OpR.or(h:OpR X f r)(h':OpR X f B):OpR X f (λx y H Q=>r x y H Q∨B x y H Q):=by
 intro l s m H x y v u Q I o A q
 rcases q with q | q
 ·exact h l s m H x y v u Q I o A q
 ·exact h' l s m H x y v u Q I o A q
def FI(b:Expr)(h:l≠.In:=by decide)(A:l≠.NotIn:=by decide):CN l b=false:=by
 have m:(l==CmpOp.In)=false:=by cases l <;> first | rfl | ext
 have o:(l==CmpOp.NotIn)=false:=by cases l <;> first | rfl | ext
 cases b <;> simp[CN,m,o]
def pF{l:CmpOp}{r:R2}(ho:OpR X (Cd l) r)(m:PE X a ta)(hb:PE X b tb)(o:CN l b=false):PE X (.Compare a [l] [b] pos) (tOp r ta tb):=by
 intro A s B H Q I h;exact wpAny_Compare1 (vX m hb I h λv u C x y E G J L q=>ho A C B E x y v u Q G J L q) o
def q9(t:TE):TT:=λl H Q=>t l H λx m=>∃k,x=.bl k/\Q k m
def oX(ho:OpR X (Cd o) r)(A:PE X a ta)(hb:PE X b tb)(B:CN o b=false):PT X (.Compare a [o] [b] pos) (q9 (tOp r ta tb)):=by
 intro l s m H Q I h
 refine l8 (thn (A l s m H _ I h) λv C ⟨x,E,G,J,L⟩=>thn (hb l C m E _ G L) λu N ⟨y,O,P,R,S⟩=>
  thn (ho l N m O x y v u _ P J R S) λc s3 ⟨z,T,U,Y,k,e,Z⟩=>?_) B
 subst e;cases Y;exact DA ⟨T,U,Z⟩
def i7(r o:R2)(ta tb tc:TE):TE:=λl H Q=>ta l H λx A=>tb l A λy B=>r x y B λz m=>∃k,z=.bl k /\
 (if k=true then tc l m λC E=>o y C E Q else Q (.bl false) m)
def jV(ho:OpR X (Cd A) r)(J:OpR X (Cd l) L)(N:PE X a ta)(hb:PE X b tb)(O:PE X c tc)
  (P:lastMarks [A,l] [b,c]=false:=by with_unfolding_all rfl):PT X (.Compare a [A,l] [b,c] pos) (q9 (i7 r L ta tb tc)):=by
 intro m s o H Q I h
 refine isTrue_chain (thn (N m s o H _ I h) λv R ⟨x,S,T,U,Y⟩=>test_link (thn (hb m R o S _ T Y) λu Z ⟨y,H2,I2,B,q2⟩=>
  thn (ho m Z o H2 x y v u _ I2 U B q2) λd s3 ⟨z,C,E,r3,k,e,G⟩=>?_)) P
 subst e;cases r3;refine DA ?_
 cases k with
 | false=>
  obtain⟨k',e',q'⟩:=G;cases e';exact ite_ff ⟨C,E,q'⟩
 | true=>
  refine ite_tt (test_last (thn (O m s3 o C _ E G) ?_));rintro w' s4 ⟨z',H4,I4,r4,q4⟩;refine thn (J m s4 o H4 y z' u w' _ I4 B r4 q4) ?_;rintro d' s5 ⟨z2,H5,I5,r5,k2,e2,q5⟩;subst e2;cases r5;exact DA ⟨H5,I5,q5⟩
def vb(K:AI)(x:V)(H:Hp)(k:Bool):Prop:=
 match x with
 | .non=>k=false
 | .bl b=>k=b
 | .int i=>k=(i != 0)
 | .str y=>y.length<=sizeLine/\k=((y.length:Int) != 0)
 | .byt y=>y.size<=sizeLine/\k=((y.size:Int) != 0)
 | .ref p=>(∃l,SqL K H p l/\k = !l.isEmpty)∨(∃l,SqT K H p l/\k = !l.isEmpty)∨∃m,H p=some (.dK m)/\k = !m.isEmpty
 | _=>False
def bL{l:Type}{m:List (l×V)}{vs:List (l×AG)}(r:KV m vs):(!vs.isEmpty) = !m.isEmpty:=by
 cases r <;> rfl
def UG(r:Bk xs l):(!l.toArray.isEmpty) = !xs.isEmpty:=by
 cases r <;> simp
def Ql:(sizeLine:Nat) < 2 ^ 63:=by rw[X7];decide
def si:TruR X (λx H Q=>∃k,vb X.K x H k/\Q k H):=by
 intro R s S H x v Q I B h;obtain⟨k,e,q⟩:=h;have T:=Ql;have U:sizeLine=16777216:=X7
 cases x with
 | non=>
  cases B;have l:k=false:=e;subst l;exact truthy_none ⟨H,I,q⟩
 | bl b=>
  cases B;have l:k=b:=e;subst l;exact DA ⟨H,I,q⟩
 | int i=>
  obtain⟨t,rfl⟩:=B;have l:k=(i != 0):=e;subst l;exact PySem.P.truthy_int ⟨H,I,q⟩
 | str y=>
  obtain⟨t,rfl⟩:=B;obtain⟨L,l⟩:y.length<=sizeLine/\k=((y.length:Int) != 0):=e;subst l;exact PySem.P.truthy_str (by lia) ⟨H,I.tok _,q⟩
 | byt y=>
  obtain⟨t,rfl⟩:=B;obtain⟨L,l⟩:y.size<=sizeLine/\k=((y.size:Int) != 0):=e;subst l;exact PySem.W.truthy_bytes (by lia) ⟨H,I.tok _,q⟩
 | ref p=>
  cases B
  have l:(∃A,SqL X.K H p A/\k = !A.isEmpty)∨(∃A,SqT X.K H p A/\k = !A.isEmpty)∨∃C,H p=some (.dK C)/\k = !C.isEmpty:=e
  rcases l with⟨A,E,l⟩ | ⟨A,E,l⟩ | ⟨C,E,l⟩
  ·subst l
   obtain⟨N,r,G,J⟩:=I.list E;have o:=r.length;exact wpAny_truthy_list G.isList (by simp only[BR];lia) ⟨H,I.tok _,by rw[UG r];exact q⟩
  ·subst l
   obtain⟨N,r,G,J⟩:=I.tuple E;have o:=r.length;exact truthy_tuple G (by simp only[BR];lia) ⟨H,I.tok _,by rw[UG r];exact q⟩
  ·subst l
   obtain⟨J,O,vs,r,m⟩:C.length<=sizeLine/\(p==EJ)=false/\∃vs,KV C vs/\s.heap.DictOf (E0 X.prog X.w) p vs:=I.hok p _ E
   have o:C.length=vs.length:=FP r;exact wpAny_truthy_dict O m (by lia) ⟨H,I.tok _,by rw[bL r];exact q⟩
 | _=>exact(show False from e).elim
def jT(B:PE X a ta)(C:∀l,Z0 a X.env l=(do let v <-l;Zm a.pos;MD [v] (rk v))) :
  PT X a (λm H Q=>ta m H λx o=>∃k,vb X.K x o k/\Q k o):=by
 intro A s m H Q I h;exact isTrue_plain (thn (B A s m H _ I h) λv E ⟨x,G,J,L,N⟩=>si A E m G x v Q J L N) (C _)
def vals1(r:Bk [x] us):∃u,us=[u]/\RelV x u:=by
 cases r with
 | cons l m=>cases m;exact⟨_,rfl,l⟩
def vals2(r:Bk [x,y] us):∃u w',us=[u,w']/\RelV x u/\RelV y w':=by
 cases r with
 | cons l m=>
  cases m with
  | cons o A=>cases A;exact⟨_,_,rfl,l,o⟩
def gh(m:X.calm=true):Jo X (.builtin "max") (λxs H Q=>∃i j,xs=[.int i,.int j]/\Q (.int (if j > i then j else i)) H):=by
 intro o s A H xs B Q I r h;obtain⟨i,j,rfl,q⟩:=h;obtain⟨u,C,rfl,⟨t,rfl⟩,⟨E,rfl⟩⟩:=vals2 r
 refine max_two_ints (I.ok.hd m) λG J k=>⟨_,H,I.kept k,?_,q⟩
 by_cases l:j > i
 ·rw[qX l,qX l];exact⟨_,rfl⟩
 ·rw[qY l,qY l];exact⟨_,rfl⟩
def gg(m:X.calm=true):Jo X (.builtin "min") (λxs H Q=>∃i j,xs=[.int i,.int j]/\Q (.int (if j < i then j else i)) H):=by
 intro o s A H xs B Q I r h;obtain⟨i,j,rfl,q⟩:=h;obtain⟨u,C,rfl,⟨t,rfl⟩,⟨E,rfl⟩⟩:=vals2 r
 refine min_two_ints (I.ok.hd m) λG J k=>⟨_,H,I.kept k,?_,q⟩
 by_cases l:j < i
 ·rw[qX l,qX l];exact⟨_,rfl⟩
 ·rw[qY l,qY l];exact⟨_,rfl⟩
def gi:Jo X (.type "int") (λxs H Q=>(∃i,xs=[.int i]/\Q (.int i) H)∨∃k,xs=[.bl k]/\Q (.int (if k then 1 else 0)) H):=by
 intro m s o H xs A Q I r h
 rcases h with⟨i,rfl,q⟩ | ⟨k,rfl,q⟩
 ·obtain⟨u,rfl,t,rfl⟩:=vals1 r
  exact call_int_int ⟨.int i,H,I,⟨_,rfl⟩,q⟩
 ·obtain⟨u,rfl,l⟩:=vals1 r
  cases l;exact call_int_bool ⟨.int (if k then 1 else 0),H,I.tok _,⟨_,rfl⟩,q⟩
end
structure bn(h:B0)(x dx C:AU)(mA:Str->Option AG):Prop where
 obj:h.get? x=some (Ei C dx)
 ns:h.Ns1 dx mA
 ne:dx≠x
def fo{h:B0}{l:AU}{m:Str->Option AG}(n:h.Ns1 l m):∃A,h.get? l=some A/\∀name,MN name A=some (m name):=by
 obtain⟨o,B,L,C,E,G,_,H⟩:=n;refine⟨o,C,λname=>?_⟩;have e:=H name;unfold nsFind findBy at e;rw[<-Array.find?_toList]at e;unfold MN;rw[E];dsimp only;split
 ·ext
 ·rename_i q
  rw[q]at e
  have a:B.toList.any (·.refKey)=false:=by
   rw[iF];intro y I;obtain⟨z,t,J⟩:=G y (BU.mp I);simp[Q4.refKey,J]
  grind
def bn.look{h}{x m C}{o}(I:bn h x m C o):∃l,PySem.W.InstAt h x (Ei C m) C (some l)/\∀name,MN name l=some (o name):=
 let ⟨l,A,B⟩:=fo I.ns
 ⟨l,⟨I.obj,rfl,rfl,A⟩,B⟩
section
variable{prog:BN}{w:Bo}{A:Bg}{E:AG->AK->Prop}{s:AK}{K:AI}{x dx C f:AU}{mA:Str->Option AG}{name:Str}{v:AG}
def p0(X:K.In s.heap)(I:bn s.heap x dx C mA)(l:Kj K C name=true)(m:Oz K C=true)
  (o:EL K (.ref C) name=some none) (B:mA name=some v) (G:dn v=true) (h:Q v { s with toks:=s.toks+1 }) :
  Ak (Ac prog w) A (getAttr (.ref x) name expr) Q E s:=by
 obtain⟨L,J,H⟩:=I.look;exact PySem.W.get_value X J (Nk l).1 (PySem.W.findObj_own m o rfl (by rw[H,B])) G h
def kn(X:K.In s.heap)(I:bn s.heap x dx C mA)(l:Kj K C name=true)
  (hf:EL K (.ref C) name=some (some (.ref f))) (m:Wo K (.ref f)=true) (B:mA name=none) (h:Q (.ref f,[.ref x]) s) :
  Ak (Ac prog w) A (gt (.ref x) name pl) Q E s:=by
 obtain⟨o,J,G⟩:=I.look;exact PySem.W.method_fn X J (Nk l).1 (Nk l).2 hf (beq_iff_eq.mp m) (by show(MN name o).map (·.isSome)=some false;ext) h
def oQ(X:K.In s.heap)(I:bn s.heap x dx C mA)
  (hs:EL K (.ref C) "__setattr__" = some (some (.builtin "object.__setattr__"))) (H:bu K C=true) (L:Re K C name=some none) (N:Oz K C=true)
  (hw:YK mA O) (hsz:O.length<=sizeLine)
  (h:∀h',bn h' x dx C (λy=>if y=name then some v else mA y)->EG dx s.heap h'->Q () { s with heap:=h',toks:=s.toks+2 }) :
  Ak (Ac prog w) A (setAttr (.ref x) name v) Q E s:=by
 obtain⟨Y,J,Z⟩:=I.look;refine PySem.W.set_plain X J hs (PySem.W.osa_open (s:={ s with toks:=s.toks+1 }) (r:=none) X J H L λb=>?_);obtain⟨cd,P,R⟩:=PySem.W.any_some N;have S:s.heap.get? x=some ⟨.ref C,some dx,.plain,#[]⟩:=I.obj;refine AA (AD (AA (AA (wpAny_loadPart S (AA (wO (s:={ s with toks:=s.toks+1 }) (PySem.W.looks_clsIn X P) ?_))))));rw[R];refine AD (a:=some dx) (AA (AD (AA ?_)))
 refine wpAny_nsSet1 (s:={ s with toks:=s.toks+1 }) I.ns λh' B G=>?_
 obtain⟨oD,T,U,l,m,o⟩:=B.count (yb name v hw);refine AA (wpAny_lookBehind l (by rw[m];exact pastItsLine_dict (Al o (by ext))) ?_);exact AD (h _ ⟨(G.2 _ (Bw I.ne)).trans I.obj,B,I.ne⟩ G)
def j8(X:K.In s.heap)(m:gy K C=true)
  (hi:EL K (.ref C) "__init__" = some (some (.ref f))) (hf:PySem.W.typeIn K (.ref f)=some (.type "function"))
  (h:Ho (Ac prog w) (A.under (.builtin "type.__call__" ⟨.ref C :: vs,l⟩)) (.call (.ref f) ⟨.ref (s.heap.objs.size+1) :: vs,l⟩) (PySem.W.InitBack (s.heap.objs.size+1) R)
   { s with heap:=(s.heap.push DH).push (Ei C s.heap.objs.size) }) :
  Ho (Ac prog w) A (.call (.ref C) ⟨vs,l⟩) R s:=by
 obtain⟨o,g,d,t,os⟩:=s;exact PySem.W.make_core (PySem.W.makes_of X m) (PySem.W.looks_findIn X hi) (λself=>PySem.W.bind_fn X self hf) (.inl rfl) h
end
noncomputable def putF(f:Str)(v:V):List (Str×V)->List (Str×V)
 | []=>[(f,v)]
 | (g,x) :: r=>if g=f then(g,v) :: r else(g,x) :: putF f v r
theorem RT(f g:Str)(v:V):∀fs:List (Str×V),(putF f v fs).lookup g=if g=f then some v else fs.lookup g
 | []=>by
  show List.lookup g [(f,v)]=_
  grind
 | (k,x) :: r=>by
  have l:=RT f g v r;rw[show putF f v ((k,x) :: r)=(if k=f then(k,v) :: r else(k,x) :: putF f v r)from rfl]
  grind
theorem Qn(f:Str)(v:V):∀fs:List (Str×V),f∈(putF f v fs).map (·.1)/\∀g,g∈fs.map (·.1)->g∈(putF f v fs).map (·.1)
 | []=>⟨by simp[putF],λg h=>by simp at h⟩
 | (k,x) :: r=>by
  obtain⟨l,m⟩:=Qn f v r;rw[show putF f v ((k,x) :: r)=(if k=f then(k,v) :: r else(k,x) :: putF f v r)from rfl]
  grind
theorem RV(f:Str)(v:V):∀fs:List (Str×V),(putF f v fs).length<=fs.length+1
 | []=>by simp[putF]
 | (k,x) :: r=>by
  have m:=RV f v r;rw[show putF f v ((k,x) :: r)=(if k=f then(k,v) :: r else(k,x) :: putF f v r)from rfl]
  by_cases l:k=f
  ·rw[qX l,Az,Az];ext
  ext
def Nv.some_of(r:Nv (some v) o):∃u,o=some u/\RelV v u:=by
 cases o with
 | none=>exact(show False from r).elim
 | some u=>exact⟨u,rfl,r⟩
def Nv.none_of(r:Nv none o):o=none:=by
 cases o with
 | none=>rfl
 | some u=>exact(show False from r).elim
def gF(r:RelV v u):dn u=true:=by
 cases v with
 | non=>cases(show u=Dq from r);rfl
 | bl b=>cases(show u=VC b from r);rfl
 | int i=>obtain⟨t,e⟩:=(show ∃t,u=LD i t from r);cases e;rfl
 | str x=>obtain⟨t,e⟩:=(show ∃t,u=X9 x t from r);cases e;rfl
 | byt b=>obtain⟨t,e⟩:=(show ∃t,u=v0 b t from r);cases e;rfl
 | flt b=>obtain⟨t,e⟩:=(show ∃t,u=vz b t from r);cases e;rfl
 | ref a=>cases(show u=BB a from r);rfl
 | ty n=>cases(show u=G4 n from r);rfl
section
variable{P:BN}{w:Bo}{H:Hp}{h:B0}{a C dx:AU}{fs:List (Str×V)}
def Xc(m:HOk P w H h)(e:H a=some (.ins C dx fs)):∃l,bn h a dx C l/\(∀f,Nv (fs.lookup f) (l f))/\YK l (fs.map (·.1))/\fs.length<=1000/\H dx=some (.own a):=by
 obtain⟨d,z,ne,o,l,n,r,q⟩:=(show E9 P w H h a (.ins C dx fs)from m a _ e);exact⟨l,⟨o,n,ne⟩,r,q,z,d⟩
end
structure Cls(K:AI)(C:AU):Prop where
 pg:Kj K C Str.empty=true
 hd:Oz K C=true
 po:bu K C=true
 sa:EL K (.ref C) "__setattr__" = some (some (.builtin "object.__setattr__"))
def Cls.get{K}{C}(c:Cls K C)(f:Str):Kj K C f=true:=c.pg
def FS(K:AI)(C:AU)(f:Str):Prop:=EL K (.ref C) f=some none
def FS.taker{K}{C}{f}(n:FS K C f):Re K C f=some none:=by
 unfold Re;rw[show EL K (.ref C) f=some none from n];rfl
structure X4(K:AI)(C:AU)(m:Str)(f:AU):Prop where
 at_:EL K (.ref C) m=some (some (.ref f))
 fn:Wo K (.ref f)=true
 kp:Fd K (.ref f)=true
section
variable{X:Cx}{ζ:List (AU×Obj)}{σ:St}{H:Hp}{s:AK}{a C dx:AU}{fs:List (Str×V)}{f:Str}{v:V}{A:Bg}{E:AG->AK->Prop}
def bP(I:Inv X ζ σ H s)(e:H a=some (.ins C dx fs))(c:Cls X.K C)(n:FS X.K C f)(l:fs.lookup f=some v)
  (h:∀u s',Inv X ζ σ H s'->RelV v u->Q u s'):Ak (Ac X.prog X.w) A (getAttr (.ref a) f b) Q E s:=by
 obtain⟨B,O,r,_,_,_⟩:=Xc I.hok e;obtain⟨u,G,m⟩:=Nv.some_of (v:=v) (o:=B f) (by grind);exact p0 I.kIn O (c.get f) c.hd n G (gF m) (h u _ (I.tok _) m)
def bO(I:Inv X ζ σ H s)(e:H a=some (.ins C dx fs))(c:Cls X.K C)(k:X4 X.K C m g)(l:fs.lookup m=none)
  (h:Q (.ref g,[.ref a]) s):Ak (Ac X.prog X.w) A (gt (.ref a) m pl) Q E s:=by
 obtain⟨o,O,r,_,_,_⟩:=Xc I.hok e;have B:o m=none:=Nv.none_of (by grind);exact kn I.kIn O (c.get m) k.at_ k.fn B h
def aY(I:Inv X ζ σ H s)(e:H a=some (.ins C dx fs))(c:Cls X.K C)(n:FS X.K C f)(U:fs.length < 1000)(G:RelV y u)
  (h:∀s',Inv X ζ σ (upd H a (.ins C dx (putF f y fs))) s'->Q () s'):Ak (Ac X.prog X.w) A (setAttr (.ref a) f u) Q E s:=by
 obtain⟨J,O,r,m,_,B⟩:=Xc I.hok e
 have L:(fs.map (·.1)).length<=sizeLine:=by rw[AH,X7];lia
 refine oQ I.kIn O c.sa c.po n.taker c.hd m L λN l P=>h _ ?_
 have R:∃o,N.get? dx=some o:=let ⟨o,_,_,S,_⟩:=l.ns;⟨o,S⟩
 refine I.write (x:=a) (e:=dx) (by rw[e];exact MF) (.inr B) (λb q hb z=>(P.2 b hb).trans z) R ?_;refine⟨by rw[Bi O.ne];exact B,?_,O.ne,l.obj,_,l.ns,λg=>?_,λg T=>?_⟩
 ·have:=RV f y fs;lia
 ·show Nv ((putF f y fs).lookup g) (if g=f then some u else J g)
  rw[RT]
  by_cases q:g=f
  ·rw[qX q,qX q];exact G
  ext
 ·by_cases q:g=f
  ·rw[q];exact(Qn f y fs).1
  ·refine(Qn f y fs).2 g (m g λz=>T ?_)
   ext
def Inv.made(I:Inv X ζ σ H s):Inv X ζ σ (upd (upd H s.heap.objs.size (.own (s.heap.objs.size+1))) (s.heap.objs.size+1) (.ins C s.heap.objs.size []))
  { s with heap:=(s.heap.push DH).push (Ei C s.heap.objs.size) }:=by
 have l:(s.heap.push DH).get? s.heap.objs.size=some DH:=AS s.heap rfl
 have m:((s.heap.push DH).push (Ei C s.heap.objs.size)).get? (s.heap.objs.size+1)=some (Ei C s.heap.objs.size):=by
  have:=AS (s.heap.push DH) (o:=Ei C s.heap.objs.size) rfl;rwa [DJ]at this
 have B:(s.heap.push DH).Ns s.heap.objs.size (λ_=>none):=⟨DH,#[],_,l,rfl,(λe G=>zX G (by simp)),λ_=>rfl⟩;have J:=I.laid (a:=s.heap.objs.size) (o:=.own (s.heap.objs.size+1)) (h':=s.heap.push DH) (t':=s.toks) (λb u q=>AE _ q) (AJ _) ⟨_,l⟩;refine J.laid (a:=s.heap.objs.size+1) (o:=.ins C s.heap.objs.size []) (t':=s.toks) (λb u q=>AE _ q) (wP (DJ _ _)) ?_;have ne:s.heap.objs.size≠s.heap.objs.size+1:=Au (Da _);refine⟨by rw[Bi ne,Bz],Bu _,ne,m,λ_=>none,(B0.Ns1.of_empty B).at λo q=>AE _ q,λ_=>MF,λy L=>zX rfl L⟩
def qZ(hb:FE e f l (CO e l)=CO e l)
  (h:Ak (Ac prog w) A (CO e l) (λo m=>Ak (Ac prog w) A (getAttr o f true) Q E m) E s):Ak (Ac prog w) A (CO (.Attribute e f B) l) Q E s:=
 Attribute_any_ h (by rw[arm_eval_Attribute,hb])
end
def tFld(K:AI)(m:TE)(f:Str):TE:=λo H Q=>m o H λx l=>∃a C A fs v,x=.ref a/\l a=some (.ins C A fs)/\Cls K C/\FS K C f/\fs.lookup f=some v/\Q v l
def sFld(K:AI)(A B:TE)(f:Str):TS:=λD l H=>B l H λy E=>A l E λx m=>∃a C o fs,x=.ref a/\m a=some (.ins C o fs)/\Cls K C/\FS K C f/\fs.length < 1000 /\
 D.nx l (upd m a (.ins C o (putF f y fs)))
section
variable{X:Cx}{o e value:Expr}{f:Str}{pos pos':Pos}{ta tv:TE}
def t8(m:PE X e ta)(hb:FE e f X.env (CO e X.env)=CO e X.env):PE X (.Attribute e f pos) (tFld X.K ta f):=by
 intro A s B H Q I h;refine qZ hb (thn (m A s B H _ I h) ?_);rintro u P ⟨x,E,G,J,a,C,R,fs,v,ex,L,c,n,l,q⟩;subst ex;obtain rfl:u=BB a:=J
 exact bP G L c n l λS T N O=>⟨v,E,N,O,q⟩
def tY(B:PE X o ta)(E:PE X value tv)(hs:G1 value (some (.Attribute o f pos')) pos.line X.env=pure false):PS X (.Assign [.Attribute o f pos'] value pos) (sFld X.K ta tv f):=by
 intro A s m H D I h;refine plainObj_wpAny_Assign_Attribute (thn (E A s m H _ I h) ?_) hs;rintro u G ⟨y,J,L,N,q⟩;refine thn (B A G m J _ L q) ?_;rintro O U ⟨x,Y,P,Q,a,C,Z,fs,ex,R,c,n,l,S⟩;subst ex;obtain rfl:O=BB a:=Q
 exact aY P R c n l N λs3 T=>⟨m,_,T,S⟩
end
structure G7(k:Nat)(A:Bg):Prop where
 hd:A.handled=none
 dp:A.depth+3 * k+5 < recursionLimit
 un:A.units+16 * k+200 < DE
def G7.mono(r:G7 k A)(h:j<=k):G7 j A:=⟨r.hd,by have:=r.dp;lia,by have:=r.un;lia⟩
def G7.deeper(r:G7 (k+1) A)(l:Env):G7 k (A.deeper l):=
 ⟨r.hd,by have:=r.dp;show A.depth+1+3 * k+5 < _;lia,by have:=r.un;show A.units+3+16 * k+200 < _;lia⟩
def bC{A:Bg}{C:AU}{us:List AG}{l:List (Str×AG)}:(A.under (.builtin "type.__call__" ⟨.ref C :: us,l⟩)).depth=A.depth+1:=by
 rfl
def bB{A:Bg}{C:AU}{us:List AG}{l:List (Str×AG)}:(A.under (.builtin "type.__call__" ⟨.ref C :: us,l⟩)).units=A.units+1:=by
 rfl
def G7.make{k}{A}(r:G7 (k+1) A)(C:AU)(us:List AG)(l:List (Str×AG)):G7 k (A.under (.builtin "type.__call__" ⟨.ref C :: us,l⟩)):=
 ⟨r.hd,by have:=r.dp;rw[bC];lia,by have:=r.un;rw[bB];lia⟩
def G7.depth(r:G7 k A):A.depth < recursionLimit:=by have:=r.dp;lia
def G7.units(r:G7 k A):A.units+64 < DE:=by have:=r.un;lia
def tNil:TA:=λ_ H Q=>Q [] H
def wx(m:TE)(o:TA):TA:=λl H Q=>m l H λx A=>o l A λB C=>Q (x :: B) C
section
variable{X:Cx}{e:Expr}{es:List Expr}{te:TE}{t:TA}{pos:Pos}
def IG:PA X [] tNil:=λ_ _ _ _ H Q I h=>hX ⟨[],H,I,.nil,h⟩
def Fy(o:PE X e te)(A:PA X es t)(hs:AW (e :: es) X.env=(false,CO e X.env) :: AW es X.env:=by rfl):PA X (e :: es) (wx te t):=by
 intro pos l s m H Q I h;rw[hs];show Ak _ _ (spliced ((false,CO e X.env) :: E1 pos (AW es X.env))) _ _ s;refine dz (thn (o l s m H _ I h) ?_);rintro u B ⟨x,C,E,G,J⟩
 exact thn (A pos l B m C _ E J) λS T ⟨L,N,O,P,R⟩=>⟨x :: L,N,O,.cons G P,R⟩
def tTup(t:TA):TE:=λo H Q=>t o H λl m=>l.length<=sizeLine/\∀p,m p=none->Q (.ref p) (upd m p (.tup l))
def tLst(t:TA):TE:=λo H Q=>t o H λl m=>l.length<=sizeLine/\∀p,m p=none->Q (.ref p) (upd m p (.lst l))
def tw{A}(h:PA X es t):PE X (.Tuple es A pos) (tTup t):=by
 intro B s C H Q I E;refine wpAny_Tuple_spliced (thn (h pos B s C H _ I E) ?_);rintro G l ⟨J,m,o,r,z,q⟩;refine⟨by rw[<-r.length];exact z,?_⟩;have L:m l.heap.objs.size=none:=o.hok.fresh (AJ _);refine⟨.ref l.heap.objs.size,upd m l.heap.objs.size (.tup J),o.laid (t':=l.toks) (λb u e=>AE _ e) (AJ _) ?_,rfl,q _ L⟩;exact⟨⟨z,⟨_,AS _ rfl,rfl⟩⟩,G,r,⟨_,AS _ rfl,rfl,_,rfl⟩⟩
def t6(h:PA X es t):PE X (.List es pos) (tLst t):=by
 intro A s B H Q I C;refine wpAny_List_spliced (thn (h pos A s B H _ I C) ?_);rintro E l ⟨G,m,o,r,z,q⟩;refine⟨by rw[<-r.length];exact z,?_⟩;have J:m l.heap.objs.size=none:=o.hok.fresh (AJ _);refine⟨.ref l.heap.objs.size,upd m l.heap.objs.size (.lst G),o.laid (t':=l.toks) (λb u e=>AE _ e) (AJ _) ?_,rfl,q _ J⟩;exact⟨z,E,0,r,AS _ rfl⟩
end
abbrev Sp:=List V->Hp->VK->XK->Prop
abbrev CXT:=List Env->Hp->AK->XK->AG->AK->Prop
structure bo(P:BN)(w:Bo)(K:AI)(mg:Str->Option AG)(base:B0)(A:Bg)(outer:List Env)(s:AK)(H:Hp):Prop where
 frames:A.frames=some outer
 mod:Mod K mg base
 bs:∀b o,base.get? b=some o->s.heap.get? b=some o/\H b=none
 bsz:base.objs.size<=s.heap.objs.size
 funs:s.heap.FunFrames base outer
 frf:∀b∈frs outer,H b=none
 hok:HOk P w H s.heap
 bare:Ko s.gens
def CE(l:List Env)(P:BN)(w:Bo)(H:Hp)(s:AK)(Q:VK)(u:AG)(s':AK):Prop:=
 ∃v m,s'.os=s.os/\Ko s'.gens/\Un (frs l) [] H m s.heap s'.heap/\HOk P w m s'.heap/\RelV v u/\Q v m
def CR(CX:CXT)(l:List Env)(P:BN)(w:Bo)(H:Hp)(s:AK)(Q:VK)(E:XK)(r:iC)(s':AK):Prop:=
 match r with
 | .ok (.ret u)=>CE l P w H s Q u s'
 | .ok _=>False
 | .error e=>CX l H s E e s'
structure Hh(P:BN)(w:Bo)(K:AI)(mg:Str->Option AG)(base:B0)(CX:CXT)(k:Nat)(f:AU)(fd:LG)(ps:List Str)(sp:Sp):Prop where
 len:∀vs H Q E,sp vs H Q E->vs.length=ps.length
 run:∀(A:Bg) (outer:List Env) (s:AK) (H:Hp) (args:Args) (us:List AG) (vs:List V) (Q:VK) (E:XK),G7 k A->bo P w K mg base A outer s H->Zt s fd args (ps.zip us)->Bk vs us->sp vs H Q E ->
  Ho (Ac P w) A (.call (.ref f) args) (CR CX outer P w H s Q E) s
def Hh.imp{P}{w}{K}{o}{base}{CX}{k}{f}{fd}{B}{sp sp'}(F:Hh P w K o base CX k f fd B sp)
  (h:∀vs H Q E,sp' vs H Q E->sp vs H Q E):Hh P w K o base CX k f fd B sp':=
 ⟨λvs H Q E q=>F.len vs H Q E (h _ _ _ _ q),λA l s H m C vs Q E G I hb J L=>F.run A l s H m C vs Q E G I hb J (h _ _ _ _ L)⟩
def bo.make{P}{w}{K}{m}{base}{A}{l}{s}{H}(e:bo P w K m base A l s H)(C:AU)(us:List AG)(o:List (Str×AG)) :
  bo P w K m base (A.under (.builtin "type.__call__" ⟨.ref C :: us,o⟩)) l s H:=⟨by first | exact e.frames | (simpa[Bg.under,Code.envs,Code.isFrame,pushEnvs]using e.frames),e.mod,e.bs,e.bsz,e.funs,e.frf,e.hok,e.bare⟩
section
variable{X:Cx}{ζ:List (AU×Obj)}{σ:St}{H:Hp}{s s':AK}
def Inv.env0(I:Inv X ζ σ H s):bo X.prog X.w X.K X.mg X.base X.A X.stack s H:=
 ⟨I.ok.frames,I.ok.mod,I.bs,Al I.ok.bsz I.sz,I.stack,I.stkFree,I.hok,I.bare⟩
def Inv.after(I:Inv X ζ σ H s)(h:CE X.stack X.prog X.w H s Q u s'):EP X ζ σ Q u s':=by
 obtain⟨v,A,os,l,un,m,r,q⟩:=h;obtain⟨B,g,d,t,o⟩:=s';obtain rfl:o=s.os:=os;exact⟨v,A,I.call (h':=B) (g':=g) (d':=d) (t':=t) (ch:=[]) un m l (λb z=>zX z (by simp)),r,q⟩
end
def wy(sp:Sp)(m:List V)(E:St->XK)(t:TA):TE:=λl H Q=>t l H λo A=>sp (o++m) A Q (E l)
def rA(C:AU)(m:Str)(sp:Sp)(A:List V)(E:St->XK)(B:TE)(t:TA):TE:=λl H Q=>B l H λx o=>∃a G fs,x=.ref a/\o a=some (.ins C G fs)/\fs.lookup m=none /\
 t l o λI J=>sp (x :: (I++A)) J Q (E l)
def wo(C:AU)(sp:Sp)(A:List V)(E:St->XK)(t:TA):TE:=λo H Q=>t o H λB m=>∀x l,m x=none->m l=none->l≠x ->
 sp (.ref x :: (B++A)) (upd (upd m l (.own x)) x (.ins C l [])) (λv G=>v=.non/\Q (.ref x) G) (E o)
def Binds(K:AI)(fd:LG)(m:List Str)(o:List AG):Prop:=
 ∀(s:AK) (l:List AG),K.In s.heap->(l++o).length=m.length->Zt s fd ⟨l,[]⟩ (m.zip (l++o))
def Binds.all{K}{fd}{l}(h:∀us:List AG,us.length=l.length->mW fd ⟨us,[]⟩=pure (l.zip us)):Binds K fd l []:=λs us _ m=>by
 rw[Bp]at m ⊢;exact .of_eq (h us m)
def Lv(CX:CXT)(X:Cx)(E:St->XK):Prop:=∀(o:List (AU×Obj)) (l:St) (H:Hp) (s:AK) (e:AG) (m:AK),Inv X o l H s->CX X.stack H s (E l) e m->X.xe e m
section
variable{X:Cx}{k:Nat}{f C:AU}{fd:LG}{ps:List Str}{sp:Sp}{E:St->XK}{x m:Str}{p pos apos:Pos}{e o:Expr}{es:List Expr}{ta:TE}{t:TA}
def jL(F:Hh X.prog X.w X.K X.mg X.base CX k f fd ps sp)(O:G7 k X.A)(hb:Binds X.K fd ps l)(P:Bk G l)(R:Lv CX X E)
  (I:Inv X J B H s) (r:Bk vs us) (h:sp (vs++G) H Q (E B)):Ak (Ac X.prog X.w) X.A (call (.ref f) us) (EP X J B Q) X.xe s:=by
 have L:Bk (vs++G) (us++l):=r.append P
 have S:(us++l).length=ps.length:=by rw[<-L.length];exact F.len _ _ _ _ h
 refine Zu (Ir (F.run X.A X.stack s H ⟨us,[]⟩ (us++l) (vs++G) Q (E B) O I.env0 (hb s us I.kIn S) L h) λr T N=>?_)
 cases r with
 | error e=>exact R J B H s e T I N
 | ok U=>
  cases U with
  | ret u=>exact I.after N
  | next=>assumption
  | brk=>assumption
  | cont=>assumption
def pG(F:Hh X.prog X.w X.K X.mg X.base CX k f fd ps sp)(B:G7 k X.A)(G:Gl X x)(J:X.mg x=some (.ref f))(L:Fd X.K (.ref f)=true)(hb:Binds X.K fd ps N)(O:Bk P N)(R:Lv CX X E)
  (S:PA X (e :: es) t) (T:(x==("__debug__" : Str))=false:=by decide) (U:AW (e :: es) X.env=(false,CO e X.env) :: AW es X.env:=by rfl) (Y:(E1 pos (AW es X.env)).any (·.1)=false:=by rfl) :
  PE X (.Call (.Name x p) (e :: es) [] pos) (wy sp P E t):=by
 intro Z s σ H Q I h;refine Fb (XY I G J ?_ T);refine OQ (h₀:=X.base) I.ok.mod.kin L (thn (S pos Z s σ H _ I h) ?_) U Y;rintro us s1 ⟨vs,H1,l,r,q⟩;refine⟨l.kIn,?_⟩;exact jL F B hb O R l r q
def pA(P:PE X o ta)(c:Cls X.K C)(B:X4 X.K C m f)(F:Hh X.prog X.w X.K X.mg X.base CX k f fd ps sp)(R:G7 k X.A)(hb:Binds X.K fd ps S)(T:Bk U S)(Y:Lv CX X E)(Z:PA X (e :: es) t)
  (zx:AW (e :: es) X.env=(false,CO e X.env) :: AW es X.env:=by rfl) (zh:(E1 pos (AW es X.env)).any (·.1)=false:=by rfl)
  (ht:CO (.Call (.Attribute o m apos) (e :: es) [] pos) X.env=(do
   let G <-CO o X.env
   Zm apos.atName
   let (f,fts) <-MD [G] (gt G m pl)
   callWith pos f fts (E1 pos (AW (e :: es) X.env)) (U9 pos (MC [] X.env))):=by rfl) :
  PE X (.Call (.Attribute o m apos) (e :: es) [] pos) (rA C m sp U E ta t):=by
 intro J s L H Q I h;refine PySem.W.methodCall_KW (pl:=pl) (thn (P J s L H _ I h) ?_) ht;rintro u s1 ⟨x,H1,N,rx,a,dx,fs,ex,ea,l,q⟩;subst ex;obtain rfl:u=BB a:=rx;refine bO N ea c B l ?_;refine OQ (first:=[.ref a]) (h₀:=X.base) I.ok.mod.kin B.kp (thn (Z pos J s1 L H1 _ N q) ?_) zx zh;rintro us s2 ⟨vs,H2,O,r,q2⟩;refine⟨O.kIn,?_⟩;exact jL (us:=.ref a :: us) (vs:=.ref a :: vs) F R hb T Y O (.cons rfl r) q2
structure Mk(K:AI)(C f:AU):Prop where
 makes:gy K C=true
 init:EL K (.ref C) "__init__" = some (some (.ref f))
 fn:Wo K (.ref f)=true
 kp:Fd K (.ref C)=true
def jK(M:Mk X.K C f)(F:Hh X.prog X.w X.K X.mg X.base CX k f fd ps sp)(R:G7 (k+1) X.A)(hb:Binds X.K fd ps l)(S:Bk L l)
  (T:Lv CX X E) (I:Inv X N B H s) (r:Bk vs us)
  (h:∀x G,H x=none->H G=none->G≠x->sp (.ref x :: (vs++L)) (upd (upd H G (.own x)) x (.ins C G [])) (λv U=>v=.non/\Q (.ref x) U) (E B)) :
  Ak (Ac X.prog X.w) X.A (call (.ref C) us) (EP X N B Q) X.xe s:=by
 have O:=h (s.heap.objs.size+1) s.heap.objs.size (I.hok.fresh (Ut _)) (I.hok.fresh (AJ _)) (Au (Da _));have J:=Inv.made (C:=C) I;have P:Bk (V.ref (s.heap.objs.size+1) :: (vs++L)) (BB (s.heap.objs.size+1) :: (us++l)):=.cons rfl (r.append S)
 have Y:(BB (s.heap.objs.size+1) :: us++l).length=ps.length:=by
  have e:=P.length;rw[F.len _ _ _ _ O]at e;exact e.symm
 refine Zu (j8 (f:=f) I.kIn M.makes M.init (beq_iff_eq.mp M.fn) (Ir (F.run _ X.stack _ _ ⟨BB (s.heap.objs.size+1) :: us,[]⟩ (BB (s.heap.objs.size+1) :: (us++l)) _ _ (E B) (R.make C us [])
  (J.env0.make C us []) (hb _ (BB (s.heap.objs.size+1) :: us) J.kIn Y) P O) λr Z ϱ=>?_))
 cases r with
 | error e=>exact T N B _ _ e Z J ϱ
 | ok fl=>
  cases fl with
  | ret u=>
   obtain⟨v,H',I3,rv,ev,q3⟩:=J.after ϱ;subst ev;exact⟨rv,⟨V.ref (s.heap.objs.size+1),H',I3,rfl,q3⟩⟩
  | next=>assumption
  | brk=>assumption
  | cont=>assumption
def pB(M:Mk X.K C f)(F:Hh X.prog X.w X.K X.mg X.base CX k f fd ps sp)(B:G7 (k+1) X.A)(G:Gl X x)(J:X.mg x=some (.ref C))(hb:Binds X.K fd ps L)(N:Bk O L)(P:Lv CX X E)
  (R:PA X (e :: es) t) (S:(x==("__debug__" : Str))=false:=by decide) (T:AW (e :: es) X.env=(false,CO e X.env) :: AW es X.env:=by rfl) (U:(E1 pos (AW es X.env)).any (·.1)=false:=by rfl) :
  PE X (.Call (.Name x p) (e :: es) [] pos) (wo C sp O E t):=by
 intro Y s Z H Q I h;refine Fb (XY I G J ?_ S);refine OQ (h₀:=X.base) I.ok.mod.kin M.kp (thn (R pos Y s Z H _ I h) ?_) T U;rintro us s1 ⟨vs,H1,l,r,q⟩;refine⟨l.kIn,?_⟩;exact jK M F B hb N P l r q
end
structure KD(N P:List Str)(sc:VD):Prop where
 kind:sc.kind=.function
 co:sc.isCoroutine=false
 gen:sc.isGenerator=false
 nd:N.Nodup
 pre:N.take P.length=P
 par:∀x∈P,sc.names.lookup x=some .local∨sc.names.lookup x=some .cell
 nofree:∀y∈sc.names,y.2≠.free
theorem Wb{kindOf}{x}:∀{binds:List (Str×AG)} {m:Str->Option AG},(∀v,(x,v)∉binds)->gu kindOf binds m x=m x
 | [],_,_=>rfl
 | (n,v) :: r,m,h=>by
  unfold gu;rw[Wb λw hw=>h w (AT _ hw)];split
  ·grind
  ·rfl
theorem We{kindOf}{x}:∀{binds:List (Str×AG)} {m:Str->Option AG},(∀v,(x,v)∉binds)->gw kindOf binds m x=m x
 | [],_,_=>rfl
 | (n,v) :: r,m,h=>by
  unfold gw;rw[We λw hw=>h w (AT _ hw)];split
  ·rfl
  grind
theorem Wc{kindOf}{x}{v}:∀{P:List Str} {vs:List AG} {i:Nat} {m:Str->Option AG},P.Nodup->P[i]?=some x->vs[i]?=some v->kindOf x=some .local ->
  gu kindOf (P.zip vs) m x=some v
 | [],_,_,_,_,h,_,_=>by simp at h
 | _ :: _,[],_,_,_,_,h,_=>by simp at h
 | p :: P,w :: vs,0,m,A,l,o,B=>by
  simp at l o;subst l;subst o;show gu kindOf ((p,w) :: P.zip vs) m p=_;unfold gu;rw[Wb λv C=>(Ba.mp A).1 (MQ C).1,qX B];simp
 | p :: P,w :: vs,i+1,m,A,l,o,B=>by
  show gu kindOf ((p,w) :: P.zip vs) m x=_;unfold gu;exact Wc (i:=i) (Ba.mp A).2 (by simpa using l) (by simpa using o) B
theorem Wf{kindOf}{x}{v}:∀{P:List Str} {vs:List AG} {i:Nat} {m:Str->Option AG},P.Nodup->P[i]?=some x->vs[i]?=some v->kindOf x≠some .local ->
  gw kindOf (P.zip vs) m x=some v
 | [],_,_,_,_,h,_,_=>by simp at h
 | _ :: _,[],_,_,_,_,h,_=>by simp at h
 | p :: P,w :: vs,0,m,A,l,o,B=>by
  simp at l o;subst l;subst o;show gw kindOf ((p,w) :: P.zip vs) m p=_;unfold gw;rw[We λv C=>(Ba.mp A).1 (MQ C).1,qY B];simp
 | p :: P,w :: vs,i+1,m,A,l,o,B=>by
  show gw kindOf ((p,w) :: P.zip vs) m x=_;unfold gw;exact Wf (i:=i) (Ba.mp A).2 (by simpa using l) (by simpa using o) B
noncomputable def start(N:List Str)(vs:List V):St:=vs.map some++Bs (N.length - vs.length) none
noncomputable def Xq(CX:CXT)(P:BN)(w:Bo)(K:AI)(mg:Str->Option AG)(base:B0)(N:List Str)(l:Str)(scope:VD)(f:AU)(m:AG)(A:Bg)(outer:List Env)(s:AK)(H:Hp)(E:XK):Cx where
 prog:=P
 w:=w
 K:=K
 mg:=mg
 base:=base
 A:=A.deeper (JR l scope s.heap.objs.size f m)
 N:=N
 s₀:=s
 H₀:=H
 env:=JR l scope s.heap.objs.size f m
 outer:=outer
 stack:=JR l scope s.heap.objs.size f m :: outer
 ex:=[]
 calm:=true
 fn:=λ_=>true
 pn:=[]
 xe:=λe B=>Ak (Ac P w) (A.deeper (JR l scope s.heap.objs.size f m)) (leaving (JR l scope s.heap.objs.size f m) e) (λ_ o=>CX outer H s E e o) (λC o=>CX outer H s E C o) B
def Zd{l:VD}{n:Nat}{x:Str}(h:l.names.lookup x=some .cell):∃c,(CT n l.names []).lookup x=some c:=by
 have q:=Wp l.names n [] (.inl h);exact DY.mp q
def fy{CX:CXT}{P:BN}{w:Bo}{K:AI}{T:Str->Option AG}{base:B0}{N B:List Str}{m:Str}{scope:VD}{f:AU}{O:AG}{A:Bg}{l:List Env}{s s1:AK}{H:Hp}{E:XK}{us:List AG}{vs:List V}
  (S:KD N B scope) (Y:A.handled=none) (o:bo P w K T base A l s H) (hl:vs.length=B.length) (r:Bk vs us)
  (x:InCallC s s.heap.objs.size (gu (JR m scope s.heap.objs.size f O).kindOf (B.zip us) λ_=>none) (CT (s.heap.objs.size+1) scope.names []) (gw (JR m scope s.heap.objs.size f O).kindOf (B.zip us) λ_=>none) s1) :
  Inv (Xq CX P w K T base N m scope f O A l s H E) [] (start N vs) H s1:=by
 have zh:B.length<=N.length:=by have:=congrArg Ev S.pre;rw[By]at this;lia
 obtain⟨Q,tk,rfl,U⟩:=x.done
 have C:∀b:AU,b∉(Xq CX P w K T base N m scope f O A l s H E).ex:=λb z=>zX (show b∈([]:List AU)from z) (by simp)
 refine⟨⟨o.mod,S.kind,rfl,rfl,AJ _,λy z c Q G=>?_,λy I=>?_,λy c _ h=>?_,λ_=>Y,Bg.frames_deeper o.frames,.inr ⟨rfl,rfl⟩,λb z=>zX z (C b),o.bs,o.bsz,λb _ _=>C b,λb z=>zX z (C b),o.funs,o.frf⟩,
  rfl,o.bare,Un.kept U,⟨_,x.toInCall.ns,λi y v Q G h3=>?_⟩,λy c h=>⟨_,x.cell y c h⟩,o.hok.fresh (AJ _),λy c h=>?_,λp J=>zX (show p∈([]:List (AU×Obj))from J) (by simp),o.hok.kept U,?_⟩
 ·exact name_of_addr x.apart (Dw Q) (Dw G)
 ·have I:scope.names.lookup y=some .cell∨scope.names.lookup y=some .free:=I
  rcases I with I | I
  ·exact Zd I
  ·exact zX rfl (S.nofree _ (Dw I))
 ·exact Jr (x.above y c (Dw h))
 ·have R:i < vs.length:=by
   unfold start at G
   by_cases R:i < vs.length
   ·exact R
   ·rw[BA (by simpa using R)]at G
    rw[Ds]at G
    ext
  have Z:vs[i]?=some v:=by
   unfold start at G;rw[AV (by simpa using R),AX]at G
   cases e:vs[i]? with
   | none=>ext
   | some a=>ext
  obtain⟨u,X,rv⟩:=r.get Z
  have J:B[i]?=some y:=by
   rw[<-S.pre,YD (by ext)];exact Q
  have L:B.Nodup:=by rw[<-S.pre];exact S.nd.sublist (Qy _ _)
  refine⟨u,rv,?_⟩
  rcases S.par y (A0 J)with k | k
  ·exact .inl ⟨k,Wc L J X k⟩
  ·obtain⟨c,e⟩:=Zd (n:=s.heap.objs.size+1) k
   refine .inr ⟨.inl k,c,e,?_⟩;have q:=x.cell y c e;rw[Wf L J X (by show scope.names.lookup y≠_;ext)]at q;exact q
 ·exact o.hok.fresh (Jr (x.above y c (Dw h)))
 ·unfold start
  show _=N.length;ext
def yI{CX}{P}{w}{K}{Y}{base}{k}{f}{name m}{params}{B}{scope}{dV kV T pm L ct oc}{an od}
  {Τ} {N Z} {sp} (lk:K.lookup f=some ⟨oc,od,.func (JF name m params B scope dV kV T pm an L ct),Τ⟩) (E':Se K L m=true) (S:KD N Z scope)
  (len:∀vs H Q E,sp vs H Q E->vs.length=Z.length)
  (zZ:∀(A:Bg) (l:List Env) (s:AK) (H:Hp) (vs:List V) (Q:VK) (E:XK),G7 k (A.deeper (JR m scope s.heap.objs.size f L))->sp vs H Q E ->
   ∃t,PSs (Xq CX P w K Y base N m scope f L A l s H E) B t/\t { nx:=λ_ G=>Q .non G,rt:=Q } (start N vs) H) :
  Hh P w K Y base CX (k+1) f (JF name m params B scope dV kV T pm an L ct) Z sp:=by
 refine⟨len,λA l s H args us vs Q E hr U hb r X=>?_⟩;have hl:=len _ _ _ _ X
 have KX:K.In s.heap:=U.mod.kin.keeps λb o e=>(U.bs b o e).1
 have lim:s.heap.NoLimit:=U.mod.nolimit.keeps λb o e=>(U.bs b o e).1
 have O:∀y∈Z.zip us,scope.names.lookup y.1=some .local∨(scope.names.lookup y.1=some .cell/\((CT (s.heap.objs.size+1) scope.names []).lookup y.1).isSome=true):=by
  rintro ⟨n,v⟩ hy
  rcases S.par n (MQ hy).1 with q | q
  ·exact .inl q
  ·exact .inr ⟨q,Wp _ _ _ (.inl q)⟩
 refine codeAny_call_function hr.depth (KX _ _ lk) rfl S.co S.gen rfl (PySem.W.codeRec_of KX E') (hb _ _ _ _ ?_)
 refine wpAny_newFunctionEnv_cells S.kind O λenv he s1 x=>?_
 subst he;refine⟨lim.keeps x.toInCall.keep,codeAny_func ?_⟩;obtain⟨t,ht,hq⟩:=zZ A l s H vs Q E (hr.deeper _) X;have I:Inv (Xq CX P w K Y base N m scope f L A l s H E) [] (start N vs) H s1:=fy S hr.hd U hl r x
 refine Gk (ht [] s1 (start N vs) H _ I hq) (λfl s' R=>?_) λe s' R=>R
 have fin:∀{C:St} {G:Hp} {v:V} {u:AG},Inv (Xq CX P w K Y base N m scope f L A l s H E) [] C G s'->RelV v u->Q v G->CE l P w H s Q u s':=
  λ{C G v u} J rv q=>⟨v,G,J.os,J.bare,J.base,J.hok,rv,q⟩
 cases fl with
 | ret u=>
  obtain⟨v,C,G,J,rv,q⟩:=R;exact fin J rv q
 | next=>
  obtain⟨C,G,J,q⟩:=R;exact fin (v:=V.non) (u:=Dq) J rfl q
 | brk=>
  obtain⟨_,_,_,q⟩:=R
  ext
 | cont=>
  obtain⟨_,_,_,q⟩:=R
  ext
section
variable{X:Cx}{x:Str}{p pos:Pos}{e:Expr}{es:List Expr}{t:TA}{id T:String}{r:List V->Hp->VK->Prop}
def tCB(r:List V->Hp->VK->Prop)(t:TA):TE:=λl H Q=>t l H λm o=>r m o Q
def Pc(o:Jo X (.builtin id) r)(A:Gl X x)(B:X.mg x=none)(C:G3 x=some (.builtin id))(E:PA X (e :: es) t)(G:x≠"__name__":=by decide) (J:(x==("__debug__" : Str))=false:=by decide)
  (L:AW (e :: es) X.env=(false,CO e X.env) :: AW es X.env:=by rfl) (N:(E1 pos (AW es X.env)).any (·.1)=false:=by rfl):PE X (.Call (.Name x p) (e :: es) [] pos) (tCB r t):=by
 intro l s m H Q I h;refine Fb (Mu I A B C ?_ G J);exact N0 (thn (E pos l s m H _ I h) λO P ⟨R,S,U,Y,Z⟩=>o l P m S R O Q U Y Z) L N
def Qe(o:Jo X (.type T) r)(A:Gl X x)(B:X.mg x=none)(C:G3 x=some (.type T))(E:PA X (e :: es) t)(G:x≠"__name__":=by decide) (J:(x==("__debug__" : Str))=false:=by decide)
  (L:AW (e :: es) X.env=(false,CO e X.env) :: AW es X.env:=by rfl) (N:(E1 pos (AW es X.env)).any (·.1)=false:=by rfl):PE X (.Call (.Name x p) (e :: es) [] pos) (tCB r t):=by
 intro l s m H Q I h;refine Fb (Mu I A B C ?_ G J);exact Cy (thn (E pos l s m H _ I h) λO P ⟨R,S,U,Y,Z⟩=>o l P m S R O Q U Y Z) L N
end
end L2
namespace HT
section
variable{prog:BN}{w:Bo}{A:Bg}{E:AG->AK->Prop}{s:AK}
def qR(N:mw s.heap t vs.toArray)(hb:mw s.heap b l.toArray)(O:vs≠[])
  (P:l=[]->Q (.ref t) s) (R:l≠[]->Q (.ref s.heap.objs.size) { s with heap:=s.heap.push { cls:=.type "tuple",data:=.seq (vs++l).toArray } })
  (hsz:vs.length+l.length<=sizeLine):Ak (Ac prog w) A (Cw .Add (.ref t) (.ref b)) Q E s:=by
 obtain⟨⟨cls,G,data,sl⟩,C,H,n,I⟩:=id N;obtain⟨⟨J,o,data2,B⟩,m,hc2,L,hd2⟩:=id hb;simp only at H I hc2 hd2;subst H I hc2 hd2
 have e:vs.toArray++l.toArray=(vs++l).toArray:=by simp
 by_cases hw:l=[]
 ·exact iB ⟨_,C,rfl⟩ ⟨_,m,rfl⟩ Wn di LF Kl (KF _ _)
   (tuple_addW1 t b vs.toArray l.toArray n L G o sl B (by simpa using O) (by simp[hw])) ⟨C,m,P hw⟩
 ·refine iB ⟨_,C,rfl⟩ ⟨_,m,rfl⟩ Wn di LF Kl (KF _ _)
   (tuple_addW2 t b vs.toArray l.toArray n L G o sl B (by ext) (by ext) (by assumption)) ⟨C,m,?_⟩
  rw[e];exact R hw
noncomputable def sIx(n d:Nat):Option Int->Nat
 | none=>d
 | some v=>if v < 0 then(v+(n:Int)).toNat else min v.toNat n
def Yt(n d:Nat):sIx n d none=d:=rfl
def cQ(n d k:Nat):sIx n d (some (k:Int))=min k n:=by
 rfl
def tP(n d:Nat)(m:d<=n)(o:Option Int):sIx n d o<=n:=by
 cases o with
 | none=>exact m
 | some v=>
  show(if v < 0 then(v+(n:Int)).toNat else min v.toNat n)<=n
  by_cases l:v < 0
  ·rw[qX l];lia
  ·rw[qY l];exact Sf _ _
def dW(v:Int)(n d:Nat):(if v < 0 then max (v+(n:Int)) 0 else min v (n:Int))=((sIx n d (some v):Nat):Int):=by
 show(if v < 0 then max (v+(n:Int)) 0 else min v (n:Int))=(((if v < 0 then(v+(n:Int)).toNat else min v.toNat n):Nat):Int)
 by_cases l:v < 0
 ·ext
 ·simp only[qY l];grind
def bi(lo hi:Option Int)(n:Nat):Iu lo hi 1 (n:Int)=(((sIx n 0 lo:Nat):Int),((sIx n n hi:Nat):Int)):=by
 have l:¬((1:Int) < 0):=by ext
 unfold Iu;simp only[l,if_false];refine Prod.ext ?_ ?_
 ·cases lo with
  | none=>rfl
  | some v=>exact dW v n 0
 ·cases hi with
  | none=>rfl
  | some v=>exact dW v n n
def ai(i j:Nat):FT (i:Int) (j:Int) 1=j - i:=by
 unfold FT
 have l:(1:Int) > 0:=by ext
 simp only[l,if_true,Int.ediv_one]
 split <;> ext
def TV(p:QJ v o)(h:Q o s):Ak (Ac prog w) A (wV v) Q E s:=by
 cases p with
 | none=>exact slicePart_none h
 | int i t=>exact slicePart_int h
def Kt{sl:AU}{m o:AG}{lo hi:Option Int}{n:Nat}{Q:Int×Int×Nat->AK->Prop}(hs:s.heap.IsSliceOf sl m o .none)(pl:QJ m lo)(C:QJ o hi)
  (h:Q (((sIx n 0 lo:Nat):Int),1,sIx n n hi - sIx n 0 lo) s):Ak (Ac prog w) A (O5 (.ref sl) (pure (n:Int))) Q E s:=by
 obtain⟨os,B,G,l⟩:=id hs;unfold O5 wW;refine AA (AA (IL B l (x:=m) rfl (AA (IL B l (x:=o) rfl (AA (IL B l (x:=.none) rfl (AD ?_)))))));refine AA (slicePart_none ?_);show Ak _ _ (if ((1:Int)==0)=true then _ else _) _ _ s;rw[qY (by decide)];refine AA (TV pl (AA (TV C (AA (AD ?_)))));show Ak _ _ (match Iu lo hi 1 (n:Int)with | (lo,hi)=>pure (lo,(1:Int),FT lo hi 1)) _ _ s;rw[bi lo hi n];show Ak _ _ (pure (((sIx n 0 lo:Nat):Int),(1:Int),FT ((sIx n 0 lo:Nat):Int) ((sIx n n hi:Nat):Int) 1)) _ _ s;rw[ai];exact AD h
def jc(xs:Array AG)(i k:Nat):((BO k).filterMap λ(m:Nat)=>xs[((i:Int)+(m:Int) * 1).toNat]?).toArray=((xs.toList.drop i).take k).toArray:=by
 have e:(λ(m:Nat)=>xs[((i:Int)+(m:Int) * 1).toNat]?)=λm=>xs[i+m]?:=by
  funext m
  have:((i:Int)+(m:Int) * 1).toNat=i+m:=by lia
  rw[this]
 rw[e];have:=pick_run xs i k;rw[hV]at this
 have l:((λx=>xs[x]?)∘λx=>i+x)=λm=>xs[i+m]?:=rfl
 ext
def Ps{t sl}{l}{I J}{lo hi}{Q}(o:mw s.heap t l)(hs:s.heap.IsSliceOf sl I J .none)(pl:QJ I lo)(L:QJ J hi)
  (hw:¬(sIx l.size 0 lo=0/\sIx l.size l.size hi=l.size))
  (h:Q (.ref s.heap.objs.size) { s with heap:=s.heap.push { cls:=.type "tuple",data:=.seq ((l.toList.drop (sIx l.size 0 lo)).take (sIx l.size l.size hi - sIx l.size 0 lo)).toArray } })
  (hsz:l.size<=sizeLine):Ak (Ac prog w) A (Ki (.ref t) (.ref sl)) Q E s:=by
 have B:sizeOk (.seq ((l.toList.drop (sIx l.size 0 lo)).take (sIx l.size l.size hi - sIx l.size 0 lo)).toArray):=by
  show((l.toList.drop (sIx l.size 0 lo)).take (sIx l.size l.size hi - sIx l.size 0 lo)).toArray.size<=sizeLine;rw[BR,By,ES,Aj];omega
 have P:sIx l.size l.size hi<=l.size:=tP _ _ (AJ _) hi;obtain⟨os,N,C,O⟩:=id hs;have G:s.TypeIs (.ref sl) "slice":=⟨os,N,C⟩;unfold Ki
 try with_reducible refine Dp ?_
 first | refine AA (AD ?_) | skip
 refine AA (vi o.typeIs (by decide) ?_)
 refine AA (Bn (name:=Str.ofString "__getitem__") o.typeIs CV
  (Bl CV o.typeIs ql ?_ (rm _ _)))
 show Ak _ _ (O4 (.ref t) >>= _) _ _ s;refine AA (tupleItemsOf_ o ?_);refine AA (Kg G ?_);rw[qX (by decide)];refine AA (Kt hs pl L ?_)
 have H:¬((((sIx l.size 0 lo:Nat):Int)==0&&(1:Int)==1&&(sIx l.size l.size hi - sIx l.size 0 lo)==l.size)=true):=by
  intro q;rw[DZ,DZ]at q;have R:((sIx l.size 0 lo:Nat):Int)=0:=eq_of_beq q.1.1;have S:sIx l.size l.size hi - sIx l.size 0 lo=l.size:=eq_of_beq q.2;exact hw ⟨by ext,by ext⟩
 show Ak _ _ (if (((sIx l.size 0 lo:Nat):Int)==0&&(1:Int)==1&&(sIx l.size l.size hi - sIx l.size 0 lo)==l.size)=true then _ else _) _ _ s;rw[qY H,jc]
 first
  | exact AA (m:=Fg _) (BW (AD ⟨_,rfl,AD h⟩) B)
  | exact AA (m:=Fg _) (BW (AA (AD (AD ⟨_,rfl,AD h⟩))) B)
  | exact AA (AA (m:=Fg _) (BW (AD (AD ⟨_,rfl,AD h⟩)) B))
  | exact AA (AA (m:=Fg _) (BW (AD ⟨_,rfl,AD h⟩) B))
end
end HT
namespace L2
section
abbrev TO:=St->Hp->(Option Int->Hp->Prop)->Prop
def PO(X:Cx)(e:Option Expr)(t:TO):Prop:=
 ∀(m:List (AU×Obj)) (s:AK) (l:St) (H:Hp) (Q:Option Int->Hp->Prop),Inv X m l H s->t l H Q ->
  Ak (Ac X.prog X.w) X.A (evalPart e X.env) (λu C=>∃o B,Inv X m l B C/\QJ u o/\Q o B) X.xe s
def oF:TO:=λ_ H Q=>Q none H
def wj(t:TE):TO:=λl H Q=>t l H λx m=>∃i,x=.int i/\Q (some i) m
def intsAre_of:∀{us:List AG},Bk (ns.map V.int) us->G5 us ns:=by
 induction ns with
 | nil=>intro us r;rw[Qz]at r;cases r;exact .nil
 | cons n ns l=>
  intro us r;rw[Ap]at r
  cases r with
  | cons m o=>
   obtain⟨t,e⟩:=m;subst e;exact .cons n t (l o)
section
variable{κ:Type}[DecidableEq κ]
noncomputable def LN(l:List (κ×V))(k:κ):Option V:=(l.find? λm=>decide (m.1=k)).map (·.2)
noncomputable def Nn(m:List (κ×V))(k:κ)(v:V):List (κ×V):=
 if (m.any λl=>decide (l.1=k))=true then m.map (λl=>if l.1=k then(l.1,v)else l)else m++[(k,v)]
def S8{p:κ×V}{r:List (κ×V)}{k:κ}(e:p.1=k):LN (p :: r) k=some p.2:=by simp[LN,Dv,e]
def S9{p:κ×V}{r:List (κ×V)}{k:κ}(e:¬p.1=k):LN (p :: r) k=LN r k:=by simp[LN,Dv,e]
theorem Yd(k:κ):∀l:List (κ×V),(l.any λm=>decide (m.1=k))=(LN l k).isSome
 | []=>rfl
 | p :: r=>by
  rw[O3]
  by_cases e:p.1=k
  ·simp only[S8 e,wX e,Bool.true_or,bv]
  ·rw[S9 e,wY e,sE];exact Yd k r
def RU(l:List (κ×V))(k:κ)(v:V):(Nn l k v).length<=l.length+1:=by
 unfold Nn;split
 ·rw[AH];ext
 ext
def Nv.isSome_eq(r:Nv o u):o.isSome=u.isSome:=by
 cases o with
 | none=>cases u with
  | none=>rfl
  | some _=>exact(show False from r).elim
 | some _=>cases u with
  | none=>exact(show False from r).elim
  | some _=>rfl
def KV.val{o:List (κ×V)}{vs:List (κ×AG)}(r:KV o vs)(k:κ):Nv (LN o k) (Uz vs k):=by
 unfold KV at r
 induction r with
 | nil=>exact MF
 | @cons p q E l h t B=>
  obtain⟨A,C⟩:=h
  by_cases e:p.1=k
  ·have m:q.1=k:=A.symm.trans e
   have b:Uz (q :: l) k=some q.2:=by simp[Uz,Dv,m]
   rw[S8 e,b];exact C
  ·have m:¬q.1=k:=λz=>e (A.trans z)
   have b:Uz (q :: l) k=Uz l k:=by simp[Uz,Dv,m]
   rw[S9 e,b];exact B
theorem KV.any(r:KV m vs)(k:κ):(m.any λl=>decide (l.1=k))=vs.any λl=>decide (l.1=k):=by
 unfold KV at r
 induction r with
 | nil=>rfl
 | cons h t o=>ext
def KV.repl(r:KV m vs)(k:κ)(A:RelV y u) :
  KV (m.map λl=>if l.1=k then(l.1,y)else l) (vs.map λl=>if l.1=k then(l.1,u)else l):=by
 unfold KV at r ⊢
 induction r with
 | nil=>exact .nil
 | @cons p q B C h t o=>
  rw[Ap,Ap];refine .cons ?_ o
  lia
def KV.put(r:KV m vs)(k:κ)(l:RelV y u):KV (Nn m k y) (stored vs k u):=by
 unfold Nn stored;rw[r.any k]
 by_cases e:(vs.any λo=>decide (o.1=k))=true
 ·rw[qX e,qX e];exact r.repl k l
 ·rw[qY e,qY e];exact Zp r ⟨rfl,l⟩
def KV.length(r:KV l vs):l.length=vs.length:=FP r
end
def ZR(r:RelV (kV k) u):(E0 P w).is k u=true:=by
 cases k with
 | inl i=>obtain⟨t,e⟩:=(show ∃t,u=LD i t from r);subst e;exact ZD P w i t
 | inr x=>obtain⟨t,e⟩:=(show ∃t,u=X9 x t from r);subst e;exact ZC P w x t
theorem WP:∀{ks:List Key} {us:List AG},Bk (ks.map kV) us->ItemsAre (E0 P w) ks us
 | [],_,r=>by rw[Qz]at r;cases r;exact .nil
 | k :: ks,_,r=>by
  rw[Ap]at r
  cases r with
  | cons h t=>exact .cons (ZR h) (WP t)
abbrev KT(H:Hp):List (List Key×V)->List (List Key×AU×AG)->Prop:=Gn λp q=>p.1=q.1/\H q.2.1=some (.tup (p.1.map kV))/\RelV p.2 q.2.2
def KT.val{H:Hp}{o:List (List Key×V)}{xs:List (List Key×AU×AG)}(r:KT H o xs)(k:List Key):Nv (LN o k) ((Z3 xs k).map (·.2)):=by
 induction r with
 | nil=>exact MF
 | @cons p q E l h t B=>
  obtain⟨A,_,C⟩:=h
  by_cases e:p.1=k
  ·have m:q.1=k:=A.symm.trans e
   have b:Z3 (q :: l) k=some q.2:=by simp[Z3,Dv,m]
   rw[S8 e,b];exact C
  ·have m:¬q.1=k:=λz=>e (A.trans z)
   have b:Z3 (q :: l) k=Z3 l k:=by simp[Z3,Dv,m]
   rw[S9 e,b];exact B
def KT.repl(r:KT H m xs)(k:List Key)(A:RelV y u) :
  KT H (m.map λl=>if l.1=k then(l.1,y)else l) (xs.map (putAt k u)):=by
 induction r with
 | nil=>exact .nil
 | @cons p q B C h t o=>
  rw[Ap,Ap];refine .cons ?_ o;obtain⟨E,G,I⟩:=h;unfold putAt
  lia
def KT.put(r:KT H l xs)(k:List Key)(hb:H b=some (.tup (k.map kV)))(m:RelV y u) :
  KT H (Nn l k y) (storedH xs k b u):=by
 have e:(l.any λo=>decide (o.1=k))=(Z3 xs k).isSome:=by
  rw[Yd,(r.val k).isSome_eq,KG]
 unfold Nn storedH;rw[e]
 by_cases q:(Z3 xs k).isSome=true
 ·rw[qX q,qX q];exact r.repl k m
 ·rw[qY q,qY q];exact Zp r ⟨rfl,hb,m⟩
def KT.keeps(r:KT H m xs)(o:∀b l,H b=some (.tup l)->A b=some (.tup l)):KT A m xs:=
 Gn.mapP r λ_ _ z=>⟨z.1,o _ _ z.2.1,z.2.2⟩
variable{X:Cx}{e:Expr}{lo hi:Option Expr}{pos p2:Pos}
def oq:PO X none oF:=by
 intro l s m H Q I h;rw[evalPart_none];exact AD ⟨none,H,I,.none,h⟩
def oo(h:PE X e te):PO X (some e) (wj te):=by
 intro l s m H Q I hw;rw[evalPart_some]
 refine thn (h l s m H _ I hw) ?_;rintro u E ⟨x,o,A,B,C⟩
 obtain⟨i,rfl,q⟩:=C;obtain⟨t,rfl⟩:=B;exact⟨some i,o,A,.int i t,q⟩
def SlR(X:Cx)(r:V->Option Int->Option Int->Hp->VK->Prop):Prop:=
 ∀(l:List (AU×Obj)) (s:AK) (m:St) (H:Hp) (x:V) (v o B:AG) (lo hi:Option Int) (sl:AU) (Q:VK),Inv X l m H s->RelV x v->s.heap.IsSliceOf sl o B .none->QJ o lo->QJ B hi->r x lo hi H Q ->
  ∃T id,typeLookup (.type T) "__getitem__" = pure (some (.builtin id))/\s.TypeIs v T/\Ak (Ac X.prog X.w) X.A (Ki v (.ref sl)) (EP X l m Q) X.xe s
def SlR.or(h:SlR X r)(h':SlR X J):SlR X (λx lo hi H Q=>r x lo hi H Q∨J x lo hi H Q):=by
 intro l s m H x v o A lo hi sl Q I B C E G q
 rcases q with q | q
 ·exact h l s m H x v o A lo hi sl Q I B C E G q
 ·exact h' l s m H x v o A lo hi sl Q I B C E G q
def tSl(r:V->Option Int->Option Int->Hp->VK->Prop)(te:TE)(o A:TO):TE:=λm H Q=>te m H λx B=>o m B λl C=>A m C λu E=>r x l u E Q
def jf(J:SlR X r)(L:PE X e te)(N:PO X lo O)(P:PO X hi R):PE X (.Subscript e (.Slice lo hi none p2) pos) (tSl r te O R):=by
 intro o s B H Q I h;refine Z5 (thn (L o s B H _ I h) ?_);rintro v S ⟨x,U,Y,Z,q1⟩;refine wpAny_Slice (thn (N o S B U _ Y q1) ?_);rintro C s2 ⟨l,H2,I2,pl,q2⟩;refine thn (P o s2 B H2 _ I2 q2) ?_;rintro E m ⟨u,G,I3,pu,q3⟩;rw[evalPart_none];refine AD ?_
 have I4:Inv X o B G { m with heap:=m.heap.push { cls:=.type "slice",data:=.fields #[C,E,.none] } }:=I3.kept (t':=m.toks) λb ob q=>AE _ q
 obtain⟨T,id,hT,ht,hg⟩:=J o { m with heap:=m.heap.push { cls:=.type "slice",data:=.fields #[C,E,.none] } } B G x v C E l u m.heap.objs.size Q I4 Z (Uv ..) pl pu q3;show Ak (Ac X.prog X.w) X.A (dh e (.Slice lo hi none p2) v (.ref m.heap.objs.size)) (EP X o B Q) X.xe { m with heap:=m.heap.push { cls:=.type "slice",data:=.fields #[C,E,.none] } };exact tail_any (ops:=[.ref m.heap.objs.size,v]) ht hT hg (by rfl)
def gc(xs:List V)(lo hi:Option Int):List V:=(xs.drop (HT.sIx xs.length 0 lo)).take (HT.sIx xs.length xs.length hi - HT.sIx xs.length 0 lo)
def Za(xs:List V)(lo hi:Option Int):(gc xs lo hi).length<=xs.length:=by
 unfold gc;rw[By,ES]
 lia
def rSlT(K:AI):V->Option Int->Option Int->Hp->VK->Prop:=λx lo hi H Q=>∃a l,x=.ref a/\SqT K H a l /\
 ¬(HT.sIx l.length 0 lo=0/\HT.sIx l.length l.length hi=l.length)/\∀p,H p=none->Q (.ref p) (upd H p (.tup (gc l lo hi)))
def tH:SlR X (rSlT X.K):=by
 intro O s P H x v R S lo hi sl Q I B C E G h;obtain⟨a,m,rfl,J,hw,q⟩:=h;cases B;obtain⟨L,r,A,N⟩:=I.tuple J
 have l:L.toArray.size=m.length:=by rw[BR];exact r.length.symm
 refine⟨"tuple",_,CV.lookup,A.typeIs,?_⟩;refine HT.Ps A C E G (by rw[l];exact hw) ?_ (by ext);rw[l];refine⟨.ref s.heap.objs.size,_,I.laid (t':=s.toks) (o:=.tup (gc m lo hi)) (λb T q=>AE _ q) (AJ _) ?_,rfl,q _ (I.hok.fresh (AJ _))⟩;exact⟨⟨Al (Za m lo hi) N,⟨_,AS _ rfl,rfl⟩⟩,_,(r.drop (HT.sIx m.length 0 lo)).take (HT.sIx m.length m.length hi - HT.sIx m.length 0 lo),iG _ _⟩
def xJ(K:AI):R2:=λx y H Q=>∃a b m l,x=.ref a/\y=.ref b/\SqT K H a m/\SqT K H b l/\m≠[]/\m.length+l.length<=sizeLine /\
 (l=[]->Q (.ref a) H)/\(l≠[]->∀p,H p=none->Q (.ref p) (upd H p (.tup (m++l))))
def Bk.nil_iff(r:Bk xs us):us=[]↔xs=[]:=by
 cases r with
 | nil=>simp
 | cons _ _=>simp
def pJ:OpR X (Cw .Add) (xJ X.K):=by
 intro R s S H x y v u Q I A B h;obtain⟨a,b,C,E,rfl,rfl,G,hb,J,L,N,O⟩:=h;cases A;cases B;obtain⟨T,m,P,_⟩:=I.tuple G;obtain⟨U,l,p2,_⟩:=I.tuple hb;refine HT.qR P p2 (λz=>J (m.nil_iff.mp z)) (λz=>⟨.ref a,H,I,rfl,N (l.nil_iff.mp z)⟩) (λz=>?_) (by rw[<-m.length,<-l.length];exact L);refine⟨.ref s.heap.objs.size,_,I.laid (t':=s.toks) (o:=.tup (C++E)) (λb Y q=>AE _ q) (AJ _) ?_,rfl,O (λw=>z (l.nil_iff.mpr w)) _ (I.hok.fresh (AJ _))⟩;exact⟨⟨by ext,⟨_,AS _ rfl,rfl⟩⟩,_,m.append l,iG _ _⟩
end
section
noncomputable def ixN(n:Nat)(i:Int):Option Nat:=if 0<=i then(if i < n then some i.toNat else none)else if -(n:Int)<=i then some (i+n).toNat else none
noncomputable def atI{α:Type}(xs:List α)(i:Int):Option α:=(ixN xs.length i).bind λj=>xs[j]?
def cu(h:ixN n i=some j):seqIndex? i n=some j/\j < n/\-(n:Int)<=i/\i < n:=by
 unfold ixN at h
 by_cases m:0<=i
 ·rw[qX m]at h
  by_cases l:i < n
  ·rw[qX l]at h
   have e:i.toNat=j:=CK h;exact⟨by rw[mP m l,e],by lia,by lia,l⟩
  ext
 ·rw[qY m]at h
  by_cases l:-(n:Int)<=i
  ·rw[qX l]at h
   have e:(i+n).toNat=j:=CK h;exact⟨by rw[seqIndex_neg (by ext) l,e],by lia,l,by lia⟩
  ext
def db{l:Type}{xs:List l}{i:Int}{v:l}(h:atI xs i=some v):∃j,seqIndex? i xs.length=some j/\xs[j]?=some v/\j < xs.length/\-(xs.length:Int)<=i/\i < xs.length:=by
 unfold atI at h
 cases e:ixN xs.length i with
 | none=>ext
 | some j=>
  rw[e]at h;obtain⟨m,o,A,B⟩:=cu e;exact⟨j,m,h,o,A,B⟩
def X3(b:Expr):Prop:=∀o i,X6 b false o i=operate [o,i] (Ki o i)
def IxR(X:Cx)(r:R2):Prop:=
 ∀(value l:Expr) (m:List (AU×Obj)) (s:AK) (o:St) (H:Hp) (x y:V) (v u:AG) (Q:VK),Inv X m o H s->RelV x v->RelV y u->r x y H Q ->
  X6 l false v u=operate [v,u] (Ki v u)->Ak (Ac X.prog X.w) X.A (dh value l v u) (EP X m o Q) X.xe s
def MtR(X:Cx)(id:String)(r:V->List V->Hp->VK->Prop):Prop:=
 ∀(l:List (AU×Obj)) (s:AK) (m:St) (H:Hp) (x:V) (o:List V) (v:AG) (B:List AG) (Q:VK),Inv X l m H s->RelV x v->Bk o B->r x o H Q ->
  Ak (Ac X.prog X.w) X.A (call (.builtin id) (v :: B)) (EP X l m Q) X.xe s
section
variable{P:BN}{w:Bo}{H:Hp}{h:B0}{a:AU}
def rC(ok:HOk P w H h)(e:Rd H a u):E9 P w H h a u:=e.ok ok
def ZY(ok:HOk P w H h)(e:Rd H a (.dK l)):l.length<=sizeLine/\(a==EJ)=false/\∃vs,KV l vs/\h.DictOf (E0 P w) a vs:=
 show E9 P w H h a (.dK l)from rC ok e
def yL(ok:HOk P w H h)(e:H a=some (.dK l)):l.length<=sizeLine/\(a==EJ)=false/\∃vs,KV l vs/\h.DictOf (E0 P w) a vs:=ZY ok (.inl e)
def UF(ok:HOk P w H h)(e:H a=some (.tup (ks.map kV))):(Wm (E0 P w)).is h ks a:=by
 obtain⟨_,l,r,o,m,A,n,B⟩:=(show E9 P w H h a (.tup (ks.map kV))from ok a _ e);exact⟨o,l.toArray,n,m,A,B,by simpa using WP r⟩
def ZX(ok:HOk P w H h)(e:Rd H a (.dT B)):B.length<=sizeLine/\(a==EJ)=false /\
  ∃xs,KT H B xs/\h.DictOfH (Wm (E0 P w)) a xs:=by
 obtain⟨z,y,xs,r,o,C,E,G,I,J,L,N⟩:=(show E9 P w H h a (.dT B)from rC ok e);refine⟨z,y,xs,r,o,C,E,G,I,J,L,λx A=>?_,N⟩
 have all:∀{l:List (List Key×V)} {m:List (List Key×AU×AG)},KT H l m->∀x∈m,(Wm (E0 P w)).is h x.1 x.2.1:=by
  intro l m q
  induction q with
  | nil=>ext
  | @cons p q Q R S t O=>
   intro x A
   rcases Aw.mp A with e | A
   ·subst e
    exact UF ok (by ext)
   ·exact O x A
 exact all r x A
def yJ(ok:HOk P w H h)(e:H a=some (.dT l)):l.length<=sizeLine/\(a==EJ)=false /\
  ∃xs,KT H l xs/\h.DictOfH (Wm (E0 P w)) a xs:=ZX ok (.inl e)
end
def P6(H:Hp)(a:AU)(y:V)(r:Option V):Prop:=
 (∃l k,Rd H a (.dK l)/\y=kV k/\r=LN l k)∨∃l k b,Rd H a (.dT l)/\y=.ref b/\H b=some (.tup (k.map kV))/\r=LN l k
def Zk(H:Hp)(a:AU)(y v:V)(m:Hp):Prop:=
 (∃l k,H a=some (.dK l)/\y=kV k/\l.length < sizeLine/\m=upd H a (.dK (Nn l k v))) ∨
 ∃l k b,H a=some (.dT l)/\y=.ref b/\H b=some (.tup (k.map kV))/\l.length < sizeLine/\m=upd H a (.dT (Nn l k v))
def P6.k{H}{a}{l}{k}(e:H a=some (.dK l)):P6 H a (kV k) (LN l k):=.inl ⟨l,k,.inl e,rfl,rfl⟩
def P6.t{H}{a b}{l}{k}(e:H a=some (.dT l))(m:H b=some (.tup (k.map kV))):P6 H a (.ref b) (LN l k):=.inr ⟨l,k,b,.inl e,rfl,m,rfl⟩
def Zk.k{H}{a}{l}{k}{v}(e:H a=some (.dK l))(m:l.length < sizeLine):Zk H a (kV k) v (upd H a (.dK (Nn l k v))):=.inl ⟨l,k,e,rfl,m,rfl⟩
def Zk.t{H}{a b}{l}{k}{v}(e:H a=some (.dT l))(m:H b=some (.tup (k.map kV)))(o:l.length < sizeLine) :
  Zk H a (.ref b) v (upd H a (.dT (Nn l k v))):=.inr ⟨l,k,b,e,rfl,m,o,rfl⟩
variable{X:Cx}{a b:Expr}{ta tb:TE}{pos:Pos}
def IxR.or(h:IxR X r)(h':IxR X E):IxR X (λx y H Q=>r x y H Q∨E x y H Q):=by
 intro value l m s o H x y v u Q I A B q C
 rcases q with q | q
 ·exact h value l m s o H x y v u Q I A B q C
 ·exact h' value l m s o H x y v u Q I A B q C
def xS(l:IxR X r)(m:PE X a ta)(hb:PE X b tb)(hs:X3 b):PE X (.Subscript a b pos) (tOp r ta tb):=by
 intro o s A H Q I h;exact Z5 (vX m hb I h λv u B x y C E G J q=>l a b o B A C x y v u Q E G J q (hs _ _))
def rIxL(K:AI):R2:=λx y H Q=>∃p l i v,x=.ref p/\y=.int i/\SqL K H p l/\atI l i=some v/\Q v H
def rIxT(K:AI):R2:=λx y H Q=>∃p l i v,x=.ref p/\y=.int i/\SqT K H p l/\atI l i=some v/\Q v H
def ix_list:IxR X (rIxL X.K):=by
 intro value m A s B H x y v u Q I G J h C;obtain⟨p,xs,i,z,rfl,rfl,L,N,q⟩:=h;cases G;obtain⟨t,rfl⟩:=J;obtain⟨O,r,o,hz⟩:=I.list L;obtain⟨j,l,P,h3,R,S⟩:=db N;obtain⟨w,ew,T⟩:=r.get P;have U:=r.length;have hn:=Ql;have fin:EP X A B Q w s:=⟨z,H,I,T,q⟩
 by_cases E:0<=i
 ·have Y:i.toNat=j:=by
   rw[mP E S]at l;exact CK l
  exact item_listR o.isList E (by lia) (by ext) fin C
 ·have Y:(i+(O.toArray.size:Int)).toNat=j:=by
   rw[seqIndex_neg (by lia) R]at l;rw[BR,<-U];exact CK l
  exact iA (x:=w) o.isList.typeIs vm.lookup
   (wpAny_getItem_list_neg (Q:=λr Z=>r=w/\EP X A B Q r Z) o.isList (by lia) (by ext) (by lia) (by grind) ⟨rfl,fin⟩) C
def uk:IxR X (rIxT X.K):=by
 intro value l m s o H x y v u Q I B C h E;obtain⟨p,P,i,z,rfl,rfl,G,J,q⟩:=h;cases B;obtain⟨t,rfl⟩:=C;obtain⟨R,r,A,S⟩:=I.tuple G;obtain⟨j,T,L,U,Y,Z⟩:=db J;obtain⟨w,ew,N⟩:=r.get L;have hl:=r.length;have hn:=Ql;have fin:EP X m o Q w s:=⟨z,H,I,N,q⟩
 exact iA (x:=w) A.typeIs slot_tuple_getitem.lookup
  (getItem_tuple (j:=j) (Q:=λr O=>r=w/\EP X m o Q r O) A (by lia) (by lia) (by ext) (by grind) ⟨rfl,fin⟩) E
def bA(l:List AG)(n j:Nat)(u:AG):E2 (·.setIfInBounds j u) { cls:=.type "list",data:=.seq l.toArray n }={ cls:=.type "list",data:=.seq (l.set j u).toArray n }:=by
 simp[E2]
def Inv.lst(I:Inv X m o H s)(h:H p=some (.lst xs)) :
  ∃(l:List AG) (n:Nat),Bk xs l/\s.heap.get? p=some { cls:=.type "list",data:=.seq l.toArray n }/\xs.length<=sizeLine:=by
 obtain⟨z,l,n,r,e⟩:=I.hok p _ h;exact⟨l,n,r,e,z⟩
def Inv.lstUpd{o:List (AU×Obj)}{A:St}{H:Hp}{s:AK}{p:AU}{xs l:List V}{B its':List AG}{n m:Nat}{f:Obj->Obj}(I:Inv X o A H s)(h:H p=some (.lst xs))
  (ho:s.heap.get? p=some { cls:=.type "list",data:=.seq B.toArray n }) (hf:f { cls:=.type "list",data:=.seq B.toArray n }={ cls:=.type "list",data:=.seq its'.toArray m }) (r:Bk l its') (C:l.length<=sizeLine) (t:Nat) :
  Inv X o A (upd H p (.lst l)) { s with heap:=s.heap.update p f,toks:=t }:=by
 have e:(s.heap.update p f).get? p=some { cls:=.type "list",data:=.seq its'.toArray m }:=by
  rw[Cz f ho (by rw[hf] <;> rfl),hf]
 refine I.write (x:=p) (e:=p) (by rw[h];trivial) (.inl rfl) (λb u hb q=>(EF _ _ (Bw hb)).trans q) ⟨_,e⟩ ?_;exact⟨C,its',m,r,e⟩
def xF:V->V->V->Hp->(Hp->Prop)->Prop:=λo i v H Q=>∃p l k j,o=.ref p/\i=.int k/\H p=some (.lst l)/\ixN l.length k=some j/\Q (upd H p (.lst (l.set j v)))
def jF:yV X xF:=by
 intro J s L H o i v Z iv u Q I N O P h;obtain⟨p,R,k,j,rfl,rfl,B,S,q⟩:=h;cases N;obtain⟨t,rfl⟩:=O;obtain⟨C,n,r,m,hz⟩:=I.lst B;obtain⟨l,h2,T,U⟩:=cu S;have Y:=r.length;have hn:=Ql
 have E:Inv X J L (upd H p (.lst (R.set j v))) { s with heap:=s.heap.update p (E2 (·.setIfInBounds j u)) }:=
  I.lstUpd B m (bA C n j u) (r.set P j) (by ext) s.toks
 by_cases G:0<=k
 ·have A:k.toNat=j:=by
   rw[mP G U]at l;exact CK l
  exact PySem.W.ki_setAt m G (by lia) (by ext) (by rw[A];exact⟨_,E,q⟩)
 ·have A:(k+(C.toArray.size:Int)).toNat=j:=by
   rw[seqIndex_neg (by lia) T]at l;rw[BR,<-Y];exact CK l
  exact PySem.W.ki_setBack m (by lia) (by ext) (by lia) (by rw[A];exact⟨_,E,q⟩)
def Xx:Jo X (.builtin "len") (λxs H Q=>∃p l,xs=[.ref p]/\(SqL X.K H p l∨SqT X.K H p l)/\Q (.int l.length) H):=by
 intro J s L H xs N Q I r h;obtain⟨p,l,rfl,m,q⟩:=h;obtain⟨u,rfl,C⟩:=vals1 r;cases C;have O:=Ql
 rcases m with m | m
 ·obtain⟨E,A,B,G⟩:=I.list m
  have o:=A.length;exact Calls.call_len_list B.isList (by simp only[BR] <;> lia) ⟨.int l.length,H,I.tok _,⟨s.toks+1,by ext⟩,q⟩
 ·obtain⟨E,A,B,G⟩:=I.tuple m
  have o:=A.length;exact len_tuple B (by simp only[BR] <;> lia) ⟨.int l.length,H,I.tok _,⟨s.toks+1,by grind⟩,q⟩
def Xw:Jo X (.type "list") (λxs H Q=>∃p B,xs=[.ref p]/\(SqL X.K H p B∨SqT X.K H p B)/\∀l,H l=none->Q (.ref l) (upd H l (.lst B))):=by
 intro T s U H xs Z Q I r h;obtain⟨p,B,rfl,G,q⟩:=h;obtain⟨u,rfl,Y⟩:=vals1 r;cases Y
 have fin:∀(A:List AG),Bk B A->B.length<=sizeLine->∀(m:B0) (C:Nat),(∀b S,s.heap.get? b=some S->m.get? b=some S) ->
   m.get? s.heap.objs.size=some { cls:=.type "list",dict:=none,data:=.seq A.toArray C,slots:=#[] }->EP X T U Q (.ref s.heap.objs.size) { s with heap:=m }:=λA E J m C kp e=>
  ⟨.ref s.heap.objs.size,_,I.laid (t':=s.toks) kp (AJ _) (show E9 X.prog X.w _ m _ (.lst B)from⟨J,A,C,E,e⟩),rfl,q _ (I.hok.fresh (AJ _))⟩
 rcases G with G | G
 ·obtain⟨A,E,N,J⟩:=I.list G
  have L:=E.length;obtain⟨o,O,P,n,R⟩:=N.isList;exact call_list_seq p (.inl rfl) O P R (λm C kp e=>fin A E J m C kp e) (by ext)
 ·obtain⟨A,E,N,J⟩:=I.tuple G
  have L:=E.length;obtain⟨o,O,P,n,R⟩:=N;exact call_list_seq p (.inr rfl) O P R (λm C kp e=>fin A E J m C kp e) (by ext)
def Vg:Jo X (.type "tuple") (λxs H Q=>∃p m,xs=[.ref p]/\((SqL X.K H p m/\∀l,H l=none->Q (.ref l) (upd H l (.tup m)))∨(SqT X.K H p m/\Q (.ref p) H))):=by
 intro J s L H xs T Q I r h;obtain⟨p,m,rfl,h⟩:=h;obtain⟨u,rfl,R⟩:=vals1 r;cases R
 rcases h with⟨B,q⟩ | ⟨B,q⟩
 ·obtain⟨C,E,G,N⟩:=I.list B
  have O:=E.length;refine call_tuple_list G.isList (λA kp=>?_) (by ext);have P:Inv X J L H { s with heap:=A }:=I.kept (t':=s.toks) kp
  have S:Inv X J L (upd H A.objs.size (.tup m)) { s with heap:=A.push { cls:=.type "tuple",data:=.seq C.toArray } }:=
   P.laid (t':=s.toks) (λb o e=>AE _ e) (AJ _) (show E9 X.prog X.w _ _ _ (.tup m)from⟨⟨N,⟨_,AS _ rfl,rfl⟩⟩,C,E,iG _ _⟩)
  exact⟨.ref A.objs.size,_,S,rfl,q _ (P.hok.fresh (AJ _))⟩
 ·obtain⟨C,E,G,N⟩:=I.tuple B
  exact call_tuple_same G ⟨.ref p,H,I,rfl,q⟩
def tyV(K:AI)(T:String)(x:V)(H:Hp):Prop:=match x with
 | .str _=>T = "str"
 | .int _=>T = "int"
 | .ref p=>(T = "list"/\∃m,SqL K H p m)∨(T = "tuple"/\∃o,K.lookup p=some o/\o.cls=.type "tuple"/\o.dict=none) ∨
   (T = "dict"/\((∃l,H p=some (.dK l))∨∃l,H p=some (.dT l)))∨(T = "set"/\∃S n,H p=some (.set S n))
 | _=>False
def ip(I:Inv X L N H s)(r:RelV x v)(ty:tyV X.K T x H) :
  s.TypeIs v T/\∀a,v=.ref a->∃B,s.heap.get? a=some B/\B.dict=none:=by
 cases x with
 | str z=>
  obtain⟨t,rfl⟩:=r;cases(show T = "str" from ty);exact⟨typeIs_str s z t,λ_ e=>nomatch e⟩
 | int i=>
  obtain⟨t,rfl⟩:=r;cases(show T = "int" from ty);exact⟨typeIs_int s i t,λ_ e=>nomatch e⟩
 | ref p=>
  cases r
  rcases ty with⟨rfl,O,E⟩ | ⟨rfl,o,l,G,m⟩ | ⟨rfl,l⟩ | ⟨rfl,S,n,l⟩
  ·obtain⟨P,_,C,_⟩:=I.list E
   refine⟨C.isList.typeIs,λa e=>?_⟩;cases e;obtain⟨o,n,e,c,m,_⟩:=C;exact⟨o,e,m⟩
  ·refine⟨⟨o,I.kIn p o l,G⟩,λa e=>?_⟩
   cases e;exact⟨o,I.kIn _ o l,m⟩
  ·have z:∃o,s.heap.get? p=some o/\o.ExactDict:=by
    rcases l with⟨J,l⟩ | ⟨J,l⟩
    ·obtain⟨_,_,_,_,o,_,_,e,ex,_⟩:=I.hok p _ l
     ext
    ·obtain⟨_,_,_,_,o,_,_,e,ex,_⟩:=I.hok p _ l
     ext
   obtain⟨o,e,ex⟩:=z;refine⟨⟨o,e,ex.1⟩,λa A=>?_⟩;cases A;exact⟨o,e,ex.2.1⟩
  ·obtain⟨o,_,_,_,e,ex,_⟩:=I.hok p _ l
   refine⟨⟨o,e,ex.1⟩,λa A=>?_⟩;cases A;exact⟨o,e,ex.2.1⟩
 | _=>exact VM ty
def tBM0(K:AI)(T:String)(r:V->List V->Hp->VK->Prop)(to:TE):TE:=λm H Q=>to m H λx l=>tyV K T x l/\r x [] l Q
def tBM(K:AI)(T:String)(r:V->List V->Hp->VK->Prop)(to:TE)(t:TA):TE:=λl H Q=>to l H λx m=>tyV K T x m/\t l m λo A=>r x o A Q
variable{o e:Expr}{es:List Expr}{to:TE}{t:TA}{name:Str}{apos yx:Pos}{T id:String}{r:V->List V->Hp->VK->Prop}
def t9(E:PlainAttrs T)(slot:Slot T name id)(l:typeOf (.builtin id)=pure (.type "method_descriptor")) (G:MtR X id r) (ho:PE X o to)
  (J:FE o name X.env (CO o X.env)=CO o X.env:=by rfl) (L:(apos.endLine==yx.line)=true:=by rfl):PE X (.Call (.Attribute o name apos) [] [] yx) (tBM0 X.K T r to):=by
 intro m s A H Q I h;refine wpAny_Call_method0_late J L (thn (ho m s A H _ I h) ?_);rintro v N ⟨x,O,B,C,ty,P⟩;obtain⟨R,S⟩:=ip B C ty;exact⟨T,id,E,slot,l,R,S,YO rfl (PySem.evalArgs_none (G m N A O x [] v [] Q B C .nil P))⟩
def jk(G:PlainAttrs T)(slot:Slot T name id)(l:typeOf (.builtin id)=pure (.type "method_descriptor")) (J:MtR X id r) (ho:PE X o to) (L:PA X (e :: es) t)
  (N:FE o name X.env (CO o X.env)=CO o X.env:=by rfl)
  (O:((E1 yx (AW (e :: es) X.env)).all (λx=>!x.1)&&(U9 yx (MC [] X.env)).all (λx=>x.1.isSome)
    &&decide ((e :: es).length+([]:List Q3).length+(if ([]:List Q3).isEmpty then 0 else 1) < 30))=true:=by rfl)
  (P:(apos.endLine==yx.line)=true:=by rfl) (hs:AW (e :: es) X.env=(false,CO e X.env) :: AW es X.env:=by rfl) (zy:(E1 yx (AW es X.env)).any (·.1)=false:=by rfl) :
  PE X (.Call (.Attribute o name apos) (e :: es) [] yx) (tBM X.K T r to t):=by
 intro m s A H Q I h;refine wpAny_Call_method_late N O P rfl (thn (ho m s A H _ I h) ?_);rintro v R ⟨x,S,B,C,ty,U⟩;obtain⟨Y,Z⟩:=ip B C ty;refine⟨T,id,G,slot,l,Y,Z,?_⟩;have E:=L yx m R A S _ B U;rw[hs]at E ⊢;refine YO (by assumption) (Calls.evalArgs_plain ?_)
 exact thn E λus s2 ⟨vs,H2,I2,r2,q2⟩=>J m s2 A H2 x vs v us Q I2 C r2 q2
end
section
def MtM(X:Cx)(id:String)(r:V->List V->Hp->VK->Prop):Prop:=
 ∀(l:List (AU×Obj)) (s:AK) (m:St) (H:Hp) (x:V) (o:List V) (v:AG) (B:List AG) (Q:VK),Inv X l m H s->RelV x v->Bk o B->r x o H Q ->
  Ak (Ac X.prog X.w) X.A (call (.builtin id) (v :: B)) (EP X l m Q) X.xe s
def Bk.one{x:V}{us:List AG}(h:Bk [x] us):∃u,us=[u]/\RelV x u:=by
 cases h with | cons r t=>cases t;exact⟨_,rfl,r⟩
section
variable{X:Cx}{ζ:List (AU×Obj)}{σ:St}{H:Hp}{s:AK}{a:AU}{y v:V}{u r:AG}{o:Option V}{A:Bg}{E:AG->AK->Prop}
def Inv.big(I:Inv X ζ σ H s):EJ < s.heap.objs.size:=by
 have h:BQ < s.heap.objs.size:=(I.mod.glob.keeps I.bk).lt;exact Rf (by decide) h
def gb(N:A.units+1 < DE)(I:Inv X ζ σ H s)(g:P6 H a y (some v))(L:RelV y u)(h:∀m s',Inv X ζ σ H s'->RelV v m->Q m s') :
  Ak (Ac X.prog X.w) A (Ki (.ref a) u) Q E s:=by
 rcases g with⟨O,k,e,B,l⟩ | ⟨O,k,b,e,B,P,l⟩
 ·subst B
  obtain⟨z,R,S,rel,C⟩:=ZY I.hok e;obtain⟨m,hw,G⟩:=Nv.some_of (v:=v) (o:=Uz S k) (by rw[l];exact rel.val k);exact wpAny_getItem_of (ZR L) C.mapOf hw (h m _ (I.tok _) G)
 ·subst B
  cases(show u=BB b from L);obtain⟨z,R,T,rel,C⟩:=ZX I.hok e;obtain⟨m,hw,G⟩:=Nv.some_of (v:=v) (o:=(Z3 T k).map (·.2)) (by rw[l];exact rel.val k);obtain⟨p,U,J⟩:=D6.mp hw;refine wpAny_getItem_heap (LC N) (UF I.hok P) C U ?_;rw[J];exact h m _ (I.tok _) G
def d_in(J:A.units+1 < DE)(I:Inv X ζ σ H s)(g:P6 H a y o)(G:RelV y u)(h:∀s',Inv X ζ σ H s'->Q (.bool o.isSome) s') :
  Ak (Ac X.prog X.w) A (Cd .In u (.ref a)) Q E s:=by
 rcases g with⟨L,k,e,m,l⟩ | ⟨L,k,b,e,m,N,l⟩
 ·subst m
  obtain⟨z,B,O,rel,C⟩:=ZY I.hok e;refine wpAny_in_of (ZR G) B C.mapOf ?_;rw[<-(rel.val k).isSome_eq,<-l];exact h _ (I.tok _)
 ·subst m
  cases(show u=BB b from G);obtain⟨z,B,P,rel,C⟩:=ZX I.hok e;refine wpAny_in_heap (LC J) (UF I.hok N) B C ?_;have q:=(rel.val k).isSome_eq;rw[KG]at q;rw[<-q,<-l];exact h _ (I.tok _)
def qN(J:A.units+1 < DE)(I:Inv X ζ σ H s)(g:P6 H a y o)(G:RelV y u)(h:∀s',Inv X ζ σ H s'->Q (.bool (!o.isSome)) s') :
  Ak (Ac X.prog X.w) A (Cd .NotIn u (.ref a)) Q E s:=by
 rcases g with⟨L,k,e,m,l⟩ | ⟨L,k,b,e,m,N,l⟩
 ·subst m
  obtain⟨z,B,O,rel,C⟩:=ZY I.hok e;refine wpAny_notIn_of (ZR G) B C.mapOf ?_;rw[<-(rel.val k).isSome_eq,<-l];exact h _ (I.tok _)
 ·subst m
  cases(show u=BB b from G);obtain⟨z,B,P,rel,C⟩:=ZX I.hok e;refine wpAny_notIn_heap (LC J) (UF I.hok N) B C ?_;have q:=(rel.val k).isSome_eq;rw[KG]at q;rw[<-q,<-l];exact h _ (I.tok _)
def dR(I:Inv X ζ σ H s)(m:Mut (H a))(hs:EG a s.heap h')(B:∃q,h'.get? a=some q)(new:E9 X.prog X.w (upd H a l) h' a l) :
  Inv X ζ σ (upd H a l) { s with heap:=h',toks:=t' }:=
 I.write (x:=a) (e:=a) m (.inl rfl) (λb q hb z=>(hs.2 b hb).trans z) B new
def vP(z:l.length<=sizeLine)(m:(a==EJ)=false)(rel:KV l vs)(B:h'.DictOf (E0 P w) a vs) :
  E9 P w C h' a (.dK l):=⟨z,m,vs,rel,B⟩
def ga(hu:A.units+1 < DE)(I:Inv X ζ σ H s)(g:Zk H a y v H')(S:RelV y u)(T:RelV v r)(h:∀s',Inv X ζ σ H' s'->Q () s') :
  Ak (Ac X.prog X.w) A (vn (.ref a) u r) Q E s:=by
 rcases g with⟨B,k,e,G,l,J⟩ | ⟨B,k,b,e,G,U,l,J⟩
 ·subst G J
  obtain⟨z,L,vs,rel,N⟩:=yL I.hok e
  have O:vs.length<=sizeLine:=by rw[<-rel.length];exact z
  have P:(Nn B k v).length<=sizeLine:=by have:=RU B k v;lia
  refine wpAny_setItem_pairs (hsz:=O) (ZR S) N λY m R=>h _ ?_
  have he:∃q,Y.get? a=some q:=let ⟨q,_,_,C,_⟩:=m;⟨q,C⟩
  exact dR I (by rw[e];exact MF) R he (vP P L (rel.put k T) m)
 ·subst G J
  cases(show u=BB b from S);obtain⟨z,L,xs,rel,N⟩:=yJ I.hok e
  have O:xs.length<=sizeLine:=by rw[<-FP rel];exact z
  have P:(Nn B k v).length<=sizeLine:=by have:=RU B k v;lia
  refine wpAny_setItem_heap (hsz:=O) (LC hu) (UF I.hok U) N λY m R=>h _ ?_
  obtain⟨q,es,ep,C,h2,h3,h4,_,h5⟩:=m;refine dR I (by rw[e];exact MF) R ⟨q,C⟩ ⟨P,L,_,(rel.put k U T).keeps λc ys Z=>?_,q,es,ep,C,h2,h3,h4,h5⟩;rw[Bi (xf Z e (λz=>nomatch z))];exact Z
variable{X:Cx}{ζ:List (AU×Obj)}{σ:St}{H:Hp}{s:AK}{l:AU}{xs ys:List V}
def Inv.lset{m its':List AG}{n:Nat}{f:Array AG->Array AG}{t':Nat}(I:Inv X ζ σ H s)(B:H l=some (.lst xs))
  (e:s.heap.get? l=some { cls:=.type "list",data:=.seq m.toArray n }) (hf:f m.toArray=its'.toArray) (C:Bk ys its') (G:ys.length<=sizeLine) :
  Inv X ζ σ (upd H l (.lst ys)) { s with heap:=s.heap.update l (E2 f),toks:=t' }:=by
 have q:=PySem.IsL.update e f;rw[hf]at q;refine I.write (x:=l) (e:=l) (by rw[B];exact trivial) (.inl rfl) (λL u hb J=>(EF s.heap (E2 f) (Bw hb)).trans J) ⟨_,q⟩ ?_;exact⟨G,its',_,C,q⟩
def Inv.lnew(I:Inv X ζ σ H s)(B:Bk ys m)(C:ys.length<=sizeLine) :
  Inv X ζ σ (upd H s.heap.objs.size (.lst ys)) { s with heap:=s.heap.push { cls:=.type "list",data:=.seq m.toArray },toks:=t' }:=
 I.laid (λ_ _ q=>AE _ q) (AJ _) ⟨C,m,0,B,AS _ rfl⟩
def Inv.fresh(I:Inv X ζ σ H s):H s.heap.objs.size=none:=I.hok.fresh (AJ _)
def Inv.lstM(I:Inv X ζ σ H s)(B:H l=some (.lst xs)):xs.length<=sizeLine/\∃(m:List AG) (n:Nat),Bk xs m/\xs.length=m.length/\s.heap.get? l=some { cls:=.type "list",data:=.seq m.toArray n }:=by
 obtain⟨z,m,n,r,e⟩:=I.hok l _ B;exact⟨z,m,n,r,r.length,e⟩
def jx(h:n<=sizeLine):JN n=false:=by
 unfold JN;ext
end
def ve(i:Expr):Prop:=∀l m,X6 i false l m=operate [l,m] (Ki l m)
def oJ{prog}{w}{A}{E}{s}{G}{value l}{J}{T id}{Q}
  (N:typeLookup (.type T) "__getitem__" = pure (some (.builtin id))) (hs:ve l)
  (h:Ak (Ac prog w) A (CO value G) (λo B=>Ak (Ac prog w) A (CO l G) (λi s₂=>s₂.TypeIs o T/\Ak (Ac prog w) A (Ki o i) Q E s₂) E B) E s) :
  Ak (Ac prog w) A (CO (.Subscript value l J) G) Q E s:=by
 refine Z5 (Gk h (λo B H=>Gk H (λi s₂ m=>?_) λ_ _ x=>x) λ_ _ x=>x);obtain⟨L,m⟩:=m;unfold dh;refine AA ?_;rw[getitemInPython_of_ne L.not_modules];refine AA (YF L N ?_)
 have fin:Ak (Ac prog w) A (X6 l false o i) (λr C=>Ak (Ac prog w) A (letTemporaryGo value o r >>= λ_=>pure r) Q E C) E s₂:=by
  rw[hs o i];exact wpAny_operating (Gk m (λr C I=>AA (wpAny_letTemporaryGo (AD I))) λ_ _ x=>x)
 first
  | exact AD (AA fin)
  | exact AA (AD (AA fin))
  | exact AA fin
def ZZ(I:Inv X A B H s)(g:P6 H a y o):s.TypeIs (.ref a) "dict":=by
 rcases g with⟨m,k,e,_,_⟩ | ⟨m,k,b,e,_,_,_⟩
 ·obtain⟨_,_,C,_,l⟩:=ZY I.hok e
  exact l.typeIs
 ·obtain⟨_,_,E,_,l⟩:=ZX I.hok e
  exact l.typeIs
def ww(o ty:TE):TE:=λl H Q=>o l H λx A=>ty l A λy m=>∃a v,x=.ref a/\P6 m a y (some v)/\Q v m
def wu(ty A:TE):TE:=λl H Q=>ty l H λy B=>A l B λx m=>∃a o,x=.ref a/\P6 m a y o/\Q (.bl o.isSome) m
def cL(ty A:TE):TE:=λl H Q=>ty l H λy B=>A l B λx m=>∃a o,x=.ref a/\P6 m a y o/\Q (.bl (!o.isSome)) m
def xB(o ty A:TE):TS:=λD l H=>A l H λv B=>o l B λx C=>ty l C λy E=>∃a m,x=.ref a/\Zk E a y v m/\D.nx l m
variable{X:Cx}
def oV:V->List V->Hp->VK->Prop:=λx o H Q=>∃l m y,x=.ref l/\o=[y]/\H l=some (.lst m)/\m.length < sizeLine/\Q .non (upd H l (.lst (m++[y])))
def WJ:MtM X "list.append" oV:=by
 intro E s G H x J v L Q I A B h;obtain⟨l,N,y,rfl,rfl,m,O,q⟩:=h;cases A;obtain⟨u,rfl,C⟩:=B.one;obtain⟨z,o,n,r,P,e⟩:=I.lstM m;refine call_meets F.slot_list_append ⟨_,e,rfl⟩ F.entry_list_append (F.args_list_append_2 _ _) (PySem.list_append l o.toArray n u (by ext)) ⟨e,?_⟩;refine⟨.non,_,I.lset (its':=o++[u]) m e (by simp) (r.append (.cons C .nil)) ?_,rfl,q⟩;rw[AY,Aq]
 assumption
def oU:V->List V->Hp->VK->Prop:=λx A H Q=>∃l b m o,x=.ref l/\A=[.ref b]/\H l=some (.lst m)/\H b=some (.lst o)/\m.length+o.length<=sizeLine/\Q .non (upd H l (.lst (m++o)))
def fb:MtM X "list.extend" oU:=by
 intro R s S H x T v U Q I E G h;obtain⟨l,b,Y,Z,rfl,rfl,C,J,hz,q⟩:=h;cases E;obtain⟨u,rfl,L⟩:=G.one;cases L;obtain⟨z,o,n,r,hl,e⟩:=I.lstM C;obtain⟨z2,A,N,O,Υ,P⟩:=I.lstM J
 have B:o.toArray.size+A.toArray.size<=sizeLine:=by rw[BR,BR];ext
 have m:¬(!o.toArray.isEmpty&&JN (o.toArray.size+A.toArray.size))=true:=by
  rw[jx B,qv];exact Ab
 refine call_meets F.slot_list_extend ⟨_,e,rfl⟩ F.entry_list_extend (F.args_list_extend_2 _ _)
  (AutoSeq1.list_extend_list_list_0 l o.toArray n b A.toArray N m (by rw[BR];ext) (by lia)) ⟨e,P,?_⟩
 refine⟨.non,_,I.lset (its':=o++A) C e (by simp) (r.append O) ?_,rfl,q⟩;ext
def rCat:R2:=λx y H Q=>∃l b m o,x=.ref l/\y=.ref b/\H l=some (.lst m)/\H b=some (.lst o)/\m.length+o.length<=sizeLine/\∀p,H p=none->Q (.ref p) (upd H p (.lst (m++o)))
def uI:OpR X (Cw .Add) rCat:=by
 intro N s O H x y v u Q I A B h;obtain⟨l,b,R,S,rfl,rfl,C,E,T,q⟩:=h;cases A;cases B;obtain⟨z,m,n,r,U,e⟩:=I.lstM C;obtain⟨Y,o,Z,G,Υ,J⟩:=I.lstM E;refine PySem.P.add_list e J ?_ (by ext)
 have L:m.toArray++o.toArray=(m++o).toArray:=by simp
 rw[L];exact⟨.ref _,_,I.lnew (t':=s.toks) (r.append G) (by ext),rfl,q _ I.fresh⟩
section
variable{X:Cx}{o i value:Expr}{pos pos':Pos}{td ty tv:TE}
def pD(C:X.A.units+1 < DE)(ho:PE X o td)(hi:PE X i ty)(hs:ve i):PE X (.Subscript o i pos) (ww td ty):=by
 intro l s m H Q I h;refine oJ PySem.F.slot_dict_getitem.lookup hs (thn (ho l s m H _ I h) ?_);rintro u E ⟨x,G,J,L,N⟩;refine thn (hi l E m G _ J N) ?_;rintro U Y ⟨y,O,B,P,a,v,ex,g,R⟩;subst ex;obtain rfl:u=BB a:=L;exact⟨ZZ B g,gb C B g P λZ s3 S T=>⟨v,O,S,T,R⟩⟩
def jl(B:X.A.units+1 < DE)(hi:PE X i ty)(ho:PE X o td):PC X .In i o (wu ty td):=by
 intro l s m H Q I h
 refine thn (hi l s m H _ I h) ?_;rintro U C ⟨y,E,G,J,L⟩;refine thn (ho l C m E _ G L) ?_;rintro u Y ⟨x,N,O,P,a,R,ex,g,S⟩
 subst ex;obtain rfl:u=BB a:=P
 exact d_in B O g J λZ T=>⟨.bl R.isSome,N,T,rfl,S⟩
def WD(B:X.A.units+1 < DE)(hi:PE X i ty)(ho:PE X o td):PC X .NotIn i o (cL ty td):=by
 intro l s m H Q I h
 refine thn (hi l s m H _ I h) ?_;rintro U C ⟨y,E,G,J,L⟩;refine thn (ho l C m E _ G L) ?_;rintro u Y ⟨x,N,O,P,a,R,ex,g,S⟩
 subst ex;obtain rfl:u=BB a:=P
 exact qN B O g J λZ T=>⟨.bl (!R.isSome),N,T,rfl,S⟩
def oh(B:X.A.units+1 < DE)(ho:PE X o td)(hi:PE X i ty)(C:PE X value tv)(hs:G1 value (some (.Subscript o i pos')) pos.line X.env=pure false) :
  PS X (.Assign [.Subscript o i pos'] value pos) (xB td ty tv):=by
 intro m s l H D I h;refine wpAny_Assign_Subscript (thn (C m s l H _ I h) ?_) hs;rintro r E ⟨v,G,J,L,N⟩;refine thn (ho m E l G _ J N) ?_;rintro u O ⟨x,P,Q,R,S⟩;refine thn (hi m O l P _ Q S) ?_;rintro iv s3 ⟨y,H3,T,U,a,Y,ex,g,Z⟩;subst ex;obtain rfl:u=BB a:=R
 exact ga B T g U L λs4 I4=>⟨l,Y,I4,Z⟩
end
def lM(h:B0)(hb:EJ < h.objs.size):E9 P w H (h.push { cls:=.type "dict",data:=.dict #[] }) h.objs.size (.dK []):=
 ⟨Bu _,beq_eq_false_iff_ne.mpr (Bw (Au hb)),[],.nil,B0.DictOf.new h⟩
def lJ(h:B0)(hb:EJ < h.objs.size):E9 P w H (h.push { cls:=.type "dict",data:=.dict #[] }) h.objs.size (.dT []):=
 ⟨Bu _,beq_eq_false_iff_ne.mpr (Bw (Au hb)),[],.nil,_,#[],0,AS _ rfl,⟨rfl,rfl,rfl⟩,rfl,rfl,EZ⟩
def sw:TE:=λ_ H Q=>∀p,H p=none->Q (.ref p) (upd H p (.dK []))
def sv:TE:=λ_ H Q=>∀p,H p=none->Q (.ref p) (upd H p (.dT []))
variable{s:AK}
section
variable{X:Cx}{pos:Pos}
def ji:PE X (.Dict [] [] pos) sw:=λl s m H Q I h=>
 wH ⟨.ref s.heap.objs.size,_,I.laid (a:=s.heap.objs.size) (o:=.dK []) (t':=s.toks) (λ_ _ q=>AE _ q) (AJ _) (lM s.heap I.big),rfl,h _ (I.hok.fresh (AJ _))⟩
def jh:PE X (.Dict [] [] pos) sv:=λl s m H Q I h=>
 wH ⟨.ref s.heap.objs.size,_,I.laid (a:=s.heap.objs.size) (o:=.dT []) (t':=s.toks) (λ_ _ q=>AE _ q) (AJ _) (lJ s.heap I.big),rfl,h _ (I.hok.fresh (AJ _))⟩
end
end
end L2
namespace Att
open PySem.W PySem.Calls
def Ru:∀(ns:ZLi) (vs:List AG),WellAll P h vs (ns.map ya)->G5 vs ns:=by
 intro ns
 induction ns with
 | nil=>
  intro vs w;rw[Qz]at w;cases w;exact .nil
 | cons n ns l=>
  intro vs w;rw[Ap]at w
  cases w with
  | cons a b=>
   cases a;exact .cons _ _ (l _ b)
def fE{l:OpenLaw}{n:Nat}(J:l.most=some n){P:Params}{h:B0}{args:List WData}{o:List AG}
  (G:l.row.toRowW.claim.pre args=true) (C:WellAll P h o args) :
  ∃a vs m,o=[BB a]/\args=[WData.list (m.map ya)]/\h.get? a=some { cls:=.type "list",data:=.seq vs.toArray }/\G5 vs m/\m.length<=n:=by
 have E:WShape.hasAll [] args [.list .int]=true:=(pre_splitW G).1;have H:l.pre.holds [] { args:=args }=true:=(pre_splitW G).2;obtain⟨d,r,rfl,L,N⟩:=hasAllW_cons E;obtain rfl:=hasAllW_nil N;obtain⟨U,rfl,O⟩:=hasW_list L;obtain⟨m,rfl⟩:=items_int O
 have A:m.length<=n:=by
  unfold OpenLaw.pre at H
  have B:(WTm.not (.lt (.lit (.int (n:Int))) (.len (.arg 0)))).holds [] { args:=[.list (m.map .int)] }=true:=by
   have B:=(holds_andW H).1;rw[J]at B;exact B
  have I:=condW_of B (w_not (w_lt w_lit (w_len_list (w_arg rfl))));rw[AH]at I
  refine Sg λq=>?_
  have X:(n:Int) < ((m.length:Nat):Int):=by ext
  first
   | ext
   | (simp at I;omega)
 cases C with
 | cons Q R=>
  cases R
  cases Q with
  | list S T=>exact⟨_,_,m,rfl,rfl,S,Ru m _ T,A⟩
def fN(l:OpenLaw)(args:List WData):l.row.toRowW.claim.post args (.bool true) args=true:=
 postW_of (r:=l.row.toRowW) (X:=(true==true))
  (show WShape.has [] (.bool true) .bool=true by rfl)
  (show(WTm.eq .res (.lit (.bool true))).value [] { args:=args,res:=some (.bool true),after:=args }=some (.bool (true==true))from w_eq_bool (w_res rfl) w_lit) rfl
def Zg{l:OpenLaw}{n:Nat}{q:BN}{A:List Str}{U:(Str->Option AG)->B0->Prop}{X:Bo->B0->Prop}{d:DefRec}
  (hn:l.most=some n) (P:d.params.defaults=[])
  (call:∀(w:Bo) (B m:AK) (L Q:Str->Option AG) (H:AU) (o:Obj) (R N C:AG) (a:AU) (vs:List AG) (O:ZLi),
   Ground q A [] U w B L Q m.heap->X w m.heap ->
   m.heap.get? H=some o->o.data=.func (docDef d.name d.params d.body d.scope R N C)->m.heap.CodeRec N d.name->L d.name=some (.ref H) ->
   m.heap.get? a=some { cls:=.type "list",data:=.seq vs.toArray }->G5 vs O->O.length<=n->m.gens = #[] ->
   Ho (Ac l.prog w) U6 (.call (.ref H) ⟨[.ref a],[]⟩) (λr s'=>r=.ok (.ret (.bool true))/\OldK m.heap s'.heap/\s'.os=m.os/\Ko s'.gens) m) :
  WalkO q A U X l.row.toRowW d [] (λf vs=>dk f vs):=by
 intro w B m L Q G Y H o R N C dV kV ho hd E' Z S hg args vals as Ϡ hlay hrd T ϡ;obtain rfl:dV=.none:=Dflts.none Z P;obtain rfl:kV=.none:=Dflts.noKw Z;obtain⟨a,vs,O,rfl,rfl,I,E,J⟩:=fE hn Ϡ T;refine enter_call (Ir (call w B m L Q H o R N C a vs O G Y ho (fd_plain hd) E' S I E J hg) λr s' hq=>?_);obtain⟨rfl,h2,h3,h4⟩:=hq;exact⟨.inl ⟨.bool true,.bool true,[],rfl,λ_=>rfl,.bool true,fN l _,λ_=>⟨Vy,λ_ hm=>(nomatch hm)⟩⟩,h2,h3,h4⟩
end Att
namespace L2
def V1{vs:List AG}{l:ZLi}(h:G5 vs l):Bk (l.map V.int) vs:=by
 induction h with
 | nil=>exact .nil
 | cons n t _ I=>exact .cons ⟨t,rfl⟩ I
def qi(H:Hp):Prop:=∀b,H b=none∨∃o l,H b=some (.frz o (.lst l))
def kK{P}{w}{K}{C R}{CX}{k}{S a}{fd}{x}{sp}{s₁}{vs}{E}
  (KX:K.In s₁.heap) (Ζ:s₁.heap.Ns BQ C) (hb:s₁.heap.Ns Z2 R) (T:∀x:Str,x≠"__name__"->R x=G3 x) (G:s₁.heap.NoLimit) (hg:s₁.gens = #[])
  (U:s₁.heap.get? a=some { cls:=.type "list",data:=.seq vs.toArray }) (hi:G5 vs E) (hl:E.length<=sizeLine) (hr:G7 k U6)
  (F:∀base:B0,K.In base->base.Ns BQ C->Hh P w K C base CX k S fd [x] sp) (B:∀(s:AK) (u:AG),Zt s fd ⟨[u],[]⟩ [(x,u)])
  (X:∀H:Hp,qi H->SqL K H a (E.map V.int)->sp [.ref a] H (λv _=>v=.bl true) λ_ _ _=>False)
  (Y:∀H e s',CX [] H s₁ (λ_ _ _=>False) e s'->False) :
  Ho (Ac P w) U6 (.call (.ref S) ⟨[.ref a],[]⟩) (λr s'=>r=.ok (.ret (.bool true))/\OldK s₁.heap s'.heap/\s'.os=s₁.os/\Ko s'.gens) s₁:=by
 have rv:=V1 hi;have lenV:=hi.length
 have A:∀H:Hp,qi H->SqL K H a (E.map V.int)->HOk P w H s₁.heap->(∀b,H b≠none->b=a)->(H a≠none->K.lookup a=none) ->
   Ho (Ac P w) U6 (.call (.ref S) ⟨[.ref a],[]⟩) (λr s'=>r=.ok (.ret (.bool true))/\OldK s₁.heap s'.heap/\s'.os=s₁.os/\Ko s'.gens) s₁:=by
  intro H hO hS I hA hK
  have Γ:∀{b:AU} {o:Obj},s₁.heap.get? b=some o->H b=none->(Xe s₁.heap H).get? b=some o:=λe n=>kg e n
  have Z:∀{b:AU} {o:Obj} {O:Array Q4} {Q:Nat},s₁.heap.get? b=some o->o.data=.dict O Q->H b=none:=λ{b o O Q} e d=>by
   grind
  have l:∀{b:AU} {m:Str->Option AG},s₁.heap.Ns b m->(Xe s₁.heap H).Ns b m:=λ{b m} ⟨o,O,Q,e,d,r⟩=>⟨o,O,Q,Γ e (Z e d),d,r⟩
  have J:K.In (Xe s₁.heap H):=λb o e=>Γ (KX b o e) (by
   grind)
  have hM:Mod K C (Xe s₁.heap H):=⟨J,l Ζ,⟨R,l hb,T⟩,let ⟨mc,h1,h2⟩:=G;⟨mc,l h1,h2⟩⟩;have e0:bo P w K C (Xe s₁.heap H) U6 [] s₁ H:=⟨rfl,hM,λb o e=>pO e,wP (gD _ _),trivial,λb hb=>zX (show b∈([]:List AU)from hb) (by simp),I,.of_eq hg⟩
  refine Ir ((F _ J (l Ζ)).run U6 [] s₁ H ⟨[.ref a],[]⟩ [.ref a] [.ref a] _ _ hr e0 (B s₁ (.ref a)) (.cons rfl .nil) (X H hO hS)) λr s' h=>?_
  cases r with
  | error e=>exact(Y H e s' h).elim
  | ok fl=>
   cases fl with
   | next=>exact VM h
   | brk=>exact VM h
   | cont=>exact VM h
   | ret u=>
    obtain⟨v,H',os,L,un,N,r',q⟩:=h;have q':v=.bl true:=q;subst q';obtain rfl:u=VC true:=r';refine⟨rfl,OldK.of_keep λb o e=>?_,os,L⟩
    cases q:H b with
    | none=>exact un.keep b o e q (by intro z;exact zX (show b∈([]:List AU)from z) (by simp)) (by simp)
    | some u=>
     rcases hO b with z | ⟨ob,xs,z⟩
     ·ext
     ·have z2:=un.frzs b ob _ z
      obtain⟨e1,_⟩:=I b _ z;obtain⟨e2,_⟩:=N b _ z2
      ext
 cases hk:K.lookup a with
 | some o=>
  have e:=KX a o hk;rw[U]at e;cases e
  refine A (λ_=>none) (λ_=>.inl rfl) (.inr ⟨_,vs.toArray,_,hk,rfl,rfl,rfl,by ext,by ext⟩) (λb u z=>by ext) (λb z=>zX rfl z) λz=>zX rfl z
 | none=>
  refine A (λb=>if b=a then some (.frz { cls:=.type "list",data:=.seq vs.toArray } (.lst (E.map V.int)))else none) (λb=>?_) (.inl (.inr ⟨{ cls:=.type "list",data:=.seq vs.toArray },qX rfl⟩)) (λb u z=>?_) (λb z=>?_) λ_=>hk
  ·by_cases hb:b=a
   ·exact .inr ⟨_,_,qX hb⟩
   ·exact .inl (qY hb)
  ·by_cases hb:b=a
   ·have z':=(qX hb).symm.trans z
    cases z';subst hb;exact⟨U,by rw[AH];exact hl,vs,_,rv,U⟩
   ·have z':=(qY hb).symm.trans z
    cases z'
  ext
def nP{l:PySem.W.OpenLaw}{n k:Nat}{q:BN}{A:List Str}{X:(Str->Option AG)->B0->Prop}{R:Bo->B0->Prop}{d:DefRec}{K:Params->AI}{CX:Bo->CXT}{sp:Bo->Sp}{x:Str}
  (Z:l.most=some n) (zQ:n<=sizeLine) (N:d.params.defaults=[]) (hr:G7 k U6)
  (hY:∀(w:Bo) (h:B0),R w h->(K w.params).In h)
  (F:∀(w:Bo) (C:Str->Option AG) (J:AU) (h:B0),(K w.params).In h->h.Ns BQ C->C d.name=some (.ref J) ->
   ∃fd:LG,(∀(s:AK) (u:AG),Zt s fd ⟨[u],[]⟩ [(x,u)]) /\
    ∀base:B0,(K w.params).In base->base.Ns BQ C->Hh l.prog w (K w.params) C base (CX w) k J fd [x] (sp w))
  (O:∀(w:Bo) (H:Hp) (a:AU) (L:ZLi),L.length<=n->qi H->SqL (K w.params) H a (L.map V.int)->sp w [.ref a] H (λv _=>v=.bl true) λ_ _ _=>False)
  (P:∀(w:Bo) (H:Hp) (s:AK) (e:AG) (s':AK),CX w [] H s (λ_ _ _=>False) e s'->False) :
  PySem.W.WalkO q A X R l.row.toRowW d [] (λf vs=>dk f vs):=by
 refine Att.Zg Z N λw S E C mb J o pm cd doc a vs L G Y ho hd E' Q I B m hg=>?_
 have U:=hY w _ Y;obtain⟨fd,hb,hF⟩:=F w C J _ U G.T.g Q
 exact kK U G.T.g G.T.b G.T.builtins G.T.nolimit hg I B (Al m zQ) hr hF hb (λH hO hS=>O w H a L m hO hS) λH e s'=>P w H E e s'
noncomputable def Li(s:C2)(j:Nat):C2:=match s with
 | .ClassDef _ _ _ l _ _ _ _ _ _ _=>l.getD j (.Pass ⟨0,0,0,0⟩)
 | _=>.Pass ⟨0,0,0,0⟩
noncomputable def Lq(s:C2):Arguments:=match s with
 | .FunctionDef _ a _ _ _ _ _ _ _ _=>a
 | _=>{ posonlyargs:=[],args:=[],vararg:=none,kwonlyargs:=[],kw_defaults:=[],kwarg:=none,defaults:=[] }
noncomputable def Hg(s:C2):List C2:=match s with
 | .FunctionDef _ _ b _ _ _ _ _ _ _=>b
 | _=>[]
noncomputable def Ci(s:C2):VD:=match s with
 | .FunctionDef _ _ _ _ _ _ l _ _ _=>l
 | _=>{ kind:=.function,names:=[],isGenerator:=false,isCoroutine:=false }
structure Fun(K:AI)(x qual:Str)(st:C2)(f:AU)(fd:LG):Prop where
 ex:∃(oc:AG) (od:Option AU) (kV doc pm:AG) (an:Option AU) (yz ct:AG) (Τ:Array (Option AG)),
  fd=JF x qual (Lq st) (Hg st) (Ci st) .none kV doc pm an yz ct/\K.lookup f=some ⟨oc,od,.func fd,Τ⟩/\Se K yz qual=true
 kp:Fd K (.ref f)=true
section
variable{K:AI}
def Fun.binds{x l}{st}{f}{fd}{o}(F:Fun K x l st f fd)
  (h:∀(kV m A:AG) (B:Option AU) (C ct:AG) (us:List AG),us.length=o.length->mW (JF x l (Lq st) (Hg st) (Ci st) .none kV m A B C ct) ⟨us,[]⟩=pure (o.zip us)):Binds K fd o []:=by
 obtain⟨E,G,kV,m,A,B,C,ct,H,rfl,I,J⟩:=F.ex;exact .all (h kV m A B C ct)
def kx{x m}{st}{f}{E}{G B}{H}{kV o C A ct}(l:K.lookup f=some ⟨E,G,.func (JF x m (Lq st) (Hg st) (Ci st) .none kV o C B A ct),H⟩)
  (c:Se K A m=true) (k:Fd K (.ref f)=true):Fun K x m st f (JF x m (Lq st) (Hg st) (Ci st) .none kV o C B A ct):=⟨⟨E,G,kV,o,C,B,A,ct,H,rfl,l,c⟩,k⟩
end
section
variable{X:Cx}
def pv(i:Nat)(hN:X.N[i]?=some x:=by rfl)(l:Vis X.env.scope x:=by first | exact NP rfl | exact Kd (NP rfl) | exact Kd (Kd rfl))(m:(x==("__debug__" : Str))=false:=by decide)
  (o:(x==("__classdict__" : Str))=false:=by decide):PE X (.Name x A) (sr i):=tu hN l m o
end
inductive D where
 | non | bl (b:Bool) | int (i:Int) | str (x:Str) | tup (ds:List D) | fro (ds:List D) | ref (n:Nat) | exc (C:AU)
def Vo(K:AI)(H:Hp)(a:AU)(vs:List V):Prop:=
 (∃o,H a=some (.frz o (.lst vs))) ∨
  ∃(o:Obj) (l:Array AG) (n:Nat),K.lookup a=some o/\o.cls=.type "list"/\o.dict=none/\o.data=.seq l n/\l.size<=sizeLine/\Bk vs l.toList
def Vo.sq{K}{H}{a}{vs}(h:Vo K H a vs):SqL K H a vs:=by
 rcases h with h | h
 ·exact .inl (.inr h)
 ·exact .inr h
def ExcO(o:Obj)(C:AU):Prop:=o.cls=.ref C/\o.dict=none/\∃l,o.data=.fields l
mutual
inductive CA(K:AI)(ρ:List AU)(H:Hp):D->V->Prop where
 | non:CA K ρ H .non .non
 | bl (b:Bool):CA K ρ H (.bl b) (.bl b)
 | int (i:Int):CA K ρ H (.int i) (.int i)
 | str (x:Str):CA K ρ H (.str x) (.str x)
 | tup {ds:List D} {a:AU} {vs:List V}:H a=some (.tup vs)->Av K ρ H ds vs->CA K ρ H (.tup ds) (.ref a)
 | fro {ds:List D} {a:AU} {vs:List V}:Vo K H a vs->Av K ρ H ds vs->CA K ρ H (.fro ds) (.ref a)
 | ref {n:Nat} {a:AU}:ρ[n]?=some a->CA K ρ H (.ref n) (.ref a)
 | exc {C a:AU} {o:Obj} {u:HO}:H a=some (.frz o u)->ExcO o C->CA K ρ H (.exc C) (.ref a)
inductive Av(K:AI)(ρ:List AU)(H:Hp):List D->List V->Prop where
 | nil:Av K ρ H [] []
 | cons {d:D} {v:V} {ds:List D} {vs:List V}:CA K ρ H d v->Av K ρ H ds vs->Av K ρ H (d :: ds) (v :: vs)
end
structure Le(K:AI)(ρ:List AU)(H:Hp)(ρ':List AU)(H':Hp):Prop where
 pre:∀(n:Nat) a,ρ[n]?=some a->ρ'[n]?=some a
 tup:∀a xs,H a=some (.tup xs)->H' a=some (.tup xs)
 frz:∀a o u,H a=some (.frz o u)->H' a=some (.frz o u)
 oth:∀a o,H a=some o->(∀n:Nat,ρ[n]?≠some a)->H' a=some o/\∀n:Nat,ρ'[n]?≠some a
def Vo.mono{K}{H m}{a}{xs}(l:∀a o u,H a=some (.frz o u)->m a=some (.frz o u))(h:Vo K H a xs):Vo K m a xs:=by
 rcases h with⟨o,h⟩ | h
 ·exact .inl ⟨o,l _ _ _ h⟩
 ·exact .inr h
section
variable{K:AI}{ρ ρ' ρ'':List AU}{H H' θ:Hp}
def Le.fro(l:Le K ρ H ρ' H'):∀a xs,Vo K H a xs->Vo K H' a xs:=λ_ _ h=>h.mono l.frz
def Le.refl:Le K ρ H ρ H:=⟨λ_ _ h=>h,λ_ _ h=>h,λ_ _ _ h=>h,λ_ _ h n=>⟨h,n⟩⟩
def Le.trans(a:Le K ρ H ρ' H')(b:Le K ρ' H' ρ'' θ):Le K ρ H ρ'' θ:=
 ⟨λn x h=>b.pre n x (a.pre n x h),λx l h=>b.tup x l (a.tup x l h),λx o u h=>b.frz x o u (a.frz x o u h),λx o h n=>b.oth x o (a.oth x o h n).1 (a.oth x o h n).2⟩
mutual
theorem CA.mono(l:Le K ρ H ρ' H'){d:D}{v:V}(h:CA K ρ H d v):CA K ρ' H' d v:=by
 cases h with
 | tup h r=>exact .tup (l.tup _ _ h) (Av.mono l r)
 | fro h r=>exact .fro (l.fro _ _ h) (Av.mono l r)
 | ref h=>exact .ref (l.pre _ _ h)
 | exc h e=>exact .exc (l.frz _ _ _ h) e
 | _=>constructor
theorem Av.mono(l:Le K ρ H ρ' H'){m:List D}{vs:List V}(h:Av K ρ H m vs):Av K ρ' H' m vs:=by
 cases h with
 | nil=>exact .nil
 | cons r t=>exact .cons (CA.mono l r) (Av.mono l t)
end
mutual
theorem CA.more(l:∀(n:Nat) a,ρ[n]?=some a->ρ'[n]?=some a):∀{d:D} {v:V},CA K ρ H d v->CA K ρ' H d v
 | _,_,.non=>.non
 | _,_,.bl b=>.bl b
 | _,_,.int i=>.int i
 | _,_,.str x=>.str x
 | _,_,.tup h r=>.tup h (Av.more l r)
 | _,_,.fro h r=>.fro h (Av.more l r)
 | _,_,.ref h=>.ref (l _ _ h)
 | _,_,.exc h e=>.exc h e
theorem Av.more(l:∀(n:Nat) a,ρ[n]?=some a->ρ'[n]?=some a):∀{m:List D} {vs:List V},Av K ρ H m vs->Av K ρ' H m vs
 | _,_,.nil=>.nil
 | _,_,.cons r t=>.cons (CA.more l r) (Av.more l t)
end
mutual
theorem CA.keep(m:∀a xs,H a=some (.tup xs)->H' a=some (.tup xs))(l:∀a o u,H a=some (.frz o u)->H' a=some (.frz o u)):∀{d:D} {v:V},CA K ρ H d v->CA K ρ H' d v
 | _,_,.non=>.non
 | _,_,.bl b=>.bl b
 | _,_,.int i=>.int i
 | _,_,.str x=>.str x
 | _,_,.tup h r=>.tup (m _ _ h) (Av.keep m l r)
 | _,_,.fro h r=>.fro (h.mono l) (Av.keep m l r)
 | _,_,.ref h=>.ref h
 | _,_,.exc h e=>.exc (l _ _ _ h) e
theorem Av.keep(l:∀a xs,H a=some (.tup xs)->H' a=some (.tup xs))(m:∀a o u,H a=some (.frz o u)->H' a=some (.frz o u)):∀{A:List D} {vs:List V},Av K ρ H A vs->Av K ρ H' A vs
 | _,_,.nil=>.nil
 | _,_,.cons r t=>.cons (CA.keep l m r) (Av.keep l m t)
end
theorem Av.length{l:List D}{vs:List V}(h:Av K ρ H l vs):l.length=vs.length:=by
 cases h with
 | nil=>rfl
 | cons _ t=>rw[Az,Az,Av.length t]
theorem Av.get:∀{l:List D} {vs:List V} {i:Nat} {d:D},Av K ρ H l vs->l[i]?=some d->∃v,vs[i]?=some v/\CA K ρ H d v
 | _,_,_,_,.nil,e=>by simp at e
 | _,_,0,_,.cons r _,e=>by ext
 | _,_,i+1,d,.cons _ t,e=>by
  obtain⟨v,m,o⟩:=Av.get t (by simpa using e);ext
theorem Av.get':∀{l:List D} {vs:List V} {i:Nat} {v:V},Av K ρ H l vs->vs[i]?=some v->∃d,l[i]?=some d/\CA K ρ H d v
 | _,_,_,_,.nil,e=>by simp at e
 | _,_,0,_,.cons r _,e=>by ext
 | _,_,i+1,d,.cons _ t,e=>by
  obtain⟨v,m,o⟩:=Av.get' t (by simpa using e);ext
theorem Av.append{l es:List D}{vs us:List V}(h:Av K ρ H l vs)(s:Av K ρ H es us):Av K ρ H (l++es) (vs++us):=by
 cases h with
 | nil=>exact s
 | cons r t=>exact .cons r (Av.append t s)
theorem Av.take:∀{l:List D} {vs:List V} (n:Nat),Av K ρ H l vs->Av K ρ H (l.take n) (vs.take n)
 | _,_,0,_=>.nil
 | _,_,_+1,.nil=>.nil
 | _,_,n+1,.cons r t=>.cons r (Av.take n t)
theorem Av.drop:∀{l:List D} {vs:List V} (n:Nat),Av K ρ H l vs->Av K ρ H (l.drop n) (vs.drop n)
 | _,_,0,r=>r
 | _,_,_+1,.nil=>.nil
 | _,_,n+1,.cons _ t=>Av.drop n t
theorem Av.set(r:CA K ρ H d v):∀{l:List D} {vs:List V} (i:Nat),Av K ρ H l vs->Av K ρ H (l.set i d) (vs.set i v)
 | _,_,_,.nil=>.nil
 | _,_,0,.cons _ t=>.cons r t
 | _,_,i+1,.cons q t=>.cons q (Av.set r i t)
theorem Av.reverse(h:Av K ρ H l vs):Av K ρ H l.reverse vs.reverse:=by
 induction l generalizing vs with
 | nil=>cases h;exact .nil
 | cons d l m=>
  cases h with
  | cons r t=>rw[iD,iD];exact(m t).append (.cons r .nil)
theorem Av.of_ints:∀(l:ZLi),Av K ρ H (l.map D.int) (l.map V.int)
 | []=>.nil
 | n :: l=>.cons (.int n) (Av.of_ints l)
theorem Av.ints:∀{l:ZLi} {vs:List V},Av K ρ H (l.map D.int) vs->vs=l.map V.int
 | [],_,.nil=>rfl
 | n :: l,_,.cons r t=>by
  cases r;rw[Av.ints t];rfl
end
inductive Ob where
 | lst (ds:List D)
 | dK (f':List (Key×D))
 | dT (f':List (List Key×D))
 | ins (C:AU) (fs:List (Str×D))
 | fK (f':List (Key×D))
 | fT (f':List (List Key×D))
 | mem (L:Key->Int)
abbrev Sto:=List Ob
noncomputable def ZF:List Key:=(BO 1000).map λ(i:Nat)=>Du (i:Int)
abbrev KVR{l:Type}(K:AI)(ρ:List AU)(H:Hp):List (l×D)->List (l×V)->Prop:=Gn λ(p:l×D) (q:l×V)=>p.1=q.1/\CA K ρ H p.2 q.2
def Ed(K:AI)(ρ:List AU)(H:Hp)(a:AU):Ob->Prop
 | .lst B=>∃A,H a=some (.lst A)/\Av K ρ H B A
 | .dK m=>∃l,H a=some (.dK l)/\KVR K ρ H m l
 | .dT m=>∃l,H a=some (.dT l)/\KVR K ρ H m l
 | .ins C fs=>∃E Ϣ,H a=some (.ins C E Ϣ)/\KVR K ρ H fs Ϣ
 | .fK m=>∃o l,H a=some (.frz o (.dK l))/\KVR K ρ H m l
 | .fT m=>∃o l,H a=some (.frz o (.dT l))/\KVR K ρ H m l
 | .mem L=>∃l,H a=some (.dK l)/\(l.map (·.1)).Nodup/\∀x∈l,x.1∈ZF/\x.2=V.int (L x.1)
structure CS(K:AI)(ρ:List AU)(S:Sto)(H:Hp):Prop where
 len:ρ.length=S.length
 nd:∀(i j:Nat) a,ρ[i]?=some a->ρ[j]?=some a->i=j
 ob:∀(n:Nat) o a,S[n]?=some o->ρ[n]?=some a->Ed K ρ H a o
section
variable{K:AI}{ρ ρ':List AU}{H H':Hp}{S:Sto}{a p:AU}{o:Ob}{n:Nat}{ho:HO}
def KVR.mono{m:Type}(l:Le K ρ H ρ' H'){x:List (m×D)}{y:List (m×V)}(h:KVR K ρ H x y):KVR K ρ' H' x y:=Gn.mapP h λ_ _ z=>⟨z.1,z.2.mono l⟩
def KVR.keys{l:Type}{x:List (l×D)}{y:List (l×V)}(h:KVR K ρ H x y):x.map (·.1)=y.map (·.1):=by
 induction h with
 | nil=>rfl
 | cons r _ I=>rw[Ap,Ap,r.1,I]
def Ed.has(h:Ed K ρ H a o):H a≠none:=by
 cases o with
 | lst l=>obtain⟨_,e,_⟩:=h;ext
 | dK l=>obtain⟨_,e,_⟩:=h;ext
 | dT l=>obtain⟨_,e,_⟩:=h;ext
 | ins C fs=>obtain⟨_,_,e,_⟩:=h;ext
 | fK l=>obtain⟨_,_,e,_⟩:=h;ext
 | fT l=>obtain⟨_,_,e,_⟩:=h;ext
 | mem L=>obtain⟨_,e,_⟩:=h;lia
theorem Ed.mono(l:Le K ρ H ρ' H')(e:H' a=H a)(h:Ed K ρ H a o):Ed K ρ' H' a o:=by
 cases o with
 | lst G=>obtain⟨m,A,B⟩:=h;exact⟨m,e.trans A,B.mono l⟩
 | dK G=>obtain⟨m,A,B⟩:=h;exact⟨m,e.trans A,B.mono l⟩
 | dT G=>obtain⟨m,A,B⟩:=h;exact⟨m,e.trans A,B.mono l⟩
 | ins C fs=>obtain⟨E,m,A,B⟩:=h;exact⟨E,m,e.trans A,B.mono l⟩
 | fK G=>obtain⟨E,m,A,B⟩:=h;exact⟨E,m,e.trans A,B.mono l⟩
 | fT G=>obtain⟨E,m,A,B⟩:=h;exact⟨E,m,e.trans A,B.mono l⟩
 | mem L=>obtain⟨m,A,B⟩:=h;exact⟨m,e.trans A,B⟩
theorem Ed.keep(B:∀a xs,H a=some (.tup xs)->H' a=some (.tup xs))(E:∀a o u,H a=some (.frz o u)->H' a=some (.frz o u))(e:H' a=H a)(h:Ed K ρ H a o):Ed K ρ H' a o:=by
 cases o with
 | lst I=>obtain⟨l,m,A⟩:=h;exact⟨l,e.trans m,A.keep B E⟩
 | dK I=>obtain⟨l,m,A⟩:=h;exact⟨l,e.trans m,Gn.mapP A λ_ _ z=>⟨z.1,z.2.keep B E⟩⟩
 | dT I=>obtain⟨l,m,A⟩:=h;exact⟨l,e.trans m,Gn.mapP A λ_ _ z=>⟨z.1,z.2.keep B E⟩⟩
 | ins C fs=>obtain⟨G,l,m,A⟩:=h;exact⟨G,l,e.trans m,Gn.mapP A λ_ _ z=>⟨z.1,z.2.keep B E⟩⟩
 | fK I=>obtain⟨G,l,m,A⟩:=h;exact⟨G,l,e.trans m,Gn.mapP A λ_ _ z=>⟨z.1,z.2.keep B E⟩⟩
 | fT I=>obtain⟨G,l,m,A⟩:=h;exact⟨G,l,e.trans m,Gn.mapP A λ_ _ z=>⟨z.1,z.2.keep B E⟩⟩
 | mem L=>obtain⟨l,m,A⟩:=h;exact⟨l,e.trans m,A⟩
def Ed.mono'(l:∀(n:Nat) a,ρ[n]?=some a->ρ'[n]?=some a)(h:Ed K ρ H a o):Ed K ρ' H a o:=by
 cases o with
 | lst G=>obtain⟨m,A,B⟩:=h;exact⟨m,A,B.more l⟩
 | dK G=>obtain⟨m,A,B⟩:=h;exact⟨m,A,Gn.mapP B λ_ _ z=>⟨z.1,z.2.more l⟩⟩
 | dT G=>obtain⟨m,A,B⟩:=h;exact⟨m,A,Gn.mapP B λ_ _ z=>⟨z.1,z.2.more l⟩⟩
 | ins C fs=>obtain⟨E,m,A,B⟩:=h;exact⟨E,m,A,Gn.mapP B λ_ _ z=>⟨z.1,z.2.more l⟩⟩
 | fK G=>obtain⟨E,m,A,B⟩:=h;exact⟨E,m,A,Gn.mapP B λ_ _ z=>⟨z.1,z.2.more l⟩⟩
 | fT G=>obtain⟨E,m,A,B⟩:=h;exact⟨E,m,A,Gn.mapP B λ_ _ z=>⟨z.1,z.2.more l⟩⟩
 | mem L=>exact h
def HS(l:H p=none∨Mut (H p)):(∀a xs,H a=some (.tup xs)->upd H p ho a=some (.tup xs))/\∀a o u,H a=some (.frz o u)->upd H p ho a=some (.frz o u):=by
 have ne:∀a u,H a=some u->¬Mut (some u)->a≠p:=λa u e m z=>by
  ext
 refine⟨λa xs e=>?_,λa o u e=>?_⟩
 ·rw[Bi (ne a _ e λz=>z)];exact e
 ·rw[Bi (ne a _ e λz=>z)];exact e
def Le.fresh(l:H p=none):Le K ρ H ρ (upd H p ho):=
 ⟨λ_ _ h=>h,(HS (.inl l)).1,(HS (.inl l)).2,λa o e n=>⟨by rw[Bi (DU e l)];exact e,n⟩⟩
def Le.write(m:ρ[n]?=some p)(l:Mut (H p)):Le K ρ H ρ (upd H p ho):=
 ⟨λ_ _ h=>h,(HS (.inr l)).1,(HS (.inr l)).2,λa o e h=>⟨by rw[Bi λz=>h n (by ext)];exact e,h⟩⟩
def Jh{A:Type}{l:List A}{x:A}{m:Nat}{a:A}(e:(l++[x])[m]?=some a):(l[m]?=some a/\m < l.length)∨(m=l.length/\a=x):=by
 by_cases B:m < l.length
 ·rw[AV B]at e;exact .inl ⟨e,B⟩
 ·rw[BA (by ext)]at e
  have:m - l.length=0:=by
   have:=(AB.mp e).1;simp at this;omega
  rw[this]at e;exact .inr ⟨by grind,by ext⟩
def Le.alloc(l:H p=none):Le K ρ H (ρ++[p]) (upd H p ho):=by
 refine⟨λn a h=>by rw[AV (AB.mp h).1];exact h,(HS (.inl l)).1,(HS (.inl l)).2,λa o e h=>⟨by rw[Bi (DU e l)];exact e,λn q=>?_⟩⟩
 rcases Jh q with⟨q,_⟩ | ⟨_,q⟩
 ·exact h n q
 lia
def CS.at(h:CS K ρ S H)(e:S[n]?=some o):∃a,ρ[n]?=some a/\Ed K ρ H a o:=by
 have l:n < ρ.length:=by rw[h.len];exact(AB.mp e).1
 exact⟨ρ[n],by simp[l],h.ob n o _ e (by simp[l])⟩
def CS.there(h:CS K ρ S H){m:Nat}(e:ρ[m]?=some a):∃o,S[m]?=some o/\Ed K ρ H a o:=by
 have l:m < S.length:=by rw[<-h.len];exact(AB.mp e).1
 exact⟨S[m],by simp[l],h.ob m _ a (by simp[l]) e⟩
def CS.notIn(h:CS K ρ S H)(l:H p=none){m:Nat}(e:ρ[m]?=some p):False:=by
 obtain⟨o,_,r⟩:=h.there e;exact r.has l
theorem CS.alloc(h:CS K ρ S H)(B:H p=none)(I:Ed K (ρ++[p]) (upd H p ho) p o):CS K (ρ++[p]) (S++[o]) (upd H p ho)/\Le K ρ H (ρ++[p]) (upd H p ho)/\(ρ++[p])[S.length]?=some p:=by
 have le:Le K ρ H (ρ++[p]) (upd H p ho):=Le.alloc B
 have at':∀(m:Nat) a,(ρ++[p])[m]?=some a->(ρ[m]?=some a/\m < ρ.length)∨(m=ρ.length/\a=p):=λm a e=>Jh e
 refine⟨⟨by simp[h.len],λi j a J L=>?_,λm N a E O=>?_⟩,le,by rw[<-h.len];simp⟩
 ·rcases at' i a J with⟨C,_⟩ | ⟨C,P⟩ <;> rcases at' j a L with⟨l,_⟩ | ⟨l,G⟩
  ·exact h.nd i j a C l
  ·rw[G]at C;exact(h.notIn B C).elim
  ·rw[P]at l;exact(h.notIn B l).elim
  ·ext
 ·rcases at' m a O with⟨A,Q⟩ | ⟨rfl,rfl⟩
  ·rw[AV (by rw[<-h.len];exact Q)]at E
   refine(h.ob m N a E A).mono le (Bi λz=>?_);rw[z]at A;exact h.notIn B A
  ·rw[h.len]at E
   ext
def CS.write(h:CS K ρ S H)(l:ρ[n]?=some a)(B:Ed K ρ (upd H a ho) a o)(le:Le K ρ H ρ (upd H a ho)):CS K ρ (S.set n o) (upd H a ho)/\Le K ρ H ρ (upd H a ho):=by
 refine⟨⟨by simp[h.len],h.nd,λm C b A hb=>?_⟩,le⟩
 by_cases e:m=n
 ·subst e
  rw[l]at hb;cases hb;rw[Ao (by rw[<-h.len];exact(AB.mp l).1)]at A
  ext
 ·rw[AZ (Bw e)]at A
  refine(h.ob m C b A hb).mono le (Bi λz=>?_);subst z;exact e (h.nd m n b hb l)
def Le.back{A:Sto}(l:Le K ρ H ρ' H')(s:CS K ρ S H)(s':CS K ρ' A H')(B:H' p=none):H p=none:=by
 cases q:H p with
 | none=>rfl
 | some o=>
  by_cases m:∃n:Nat,ρ[n]?=some p
  ·obtain⟨n,m⟩:=m
   exact(s'.notIn B (l.pre n p m)).elim
  ·have:=(l.oth p o q λn h=>m ⟨n,h⟩).1
   ext
def CS.adopt(h:CS K ρ S H)(O:∀m:Nat,ρ[m]?≠some p)(E:Ed K (ρ++[p]) H p o):CS K (ρ++[p]) (S++[o]) H/\(ρ++[p])[S.length]?=some p:=by
 have le:∀a ob,Ed K ρ H a ob->Ed K (ρ++[p]) H a ob:=λa ob r=>by
  have G:∀(n:Nat) a,ρ[n]?=some a->(ρ++[p])[n]?=some a:=λn a h=>by rw[AV (AB.mp h).1];exact h
  exact r.mono' G
 refine⟨⟨by simp[h.len],λi j a I J=>?_,λm ob a A B=>?_⟩,by rw[<-h.len];simp⟩
 ·rcases Jh I with⟨C,_⟩ | ⟨C,P⟩ <;> rcases Jh J with⟨l,_⟩ | ⟨l,L⟩
  ·exact h.nd i j a C l
  ·grind
  ·grind
  ·lia
 ·rcases Jh B with⟨B,N⟩ | ⟨rfl,rfl⟩
  ·rw[AV (by rw[<-h.len];exact N)]at A
   exact le a ob (h.ob m ob a A B)
  ·rw[h.len]at A
   ext
end
inductive Res(α:Type) where
 | ok (a:α) (S:Sto) | err (c:AU) (S:Sto) | bad
noncomputable def Res.bind{l β:Type}(r:Res l)(f:l->Sto->Res β):Res β:=match r with
 | .ok a S=>f a S
 | .err c S=>.err c S
 | .bad=>.bad
@[simp] def Res.ok_bind {l m:Type} {a:l} {S:Sto} {f:l->Sto->Res m}:(Res.ok a S).bind f=f a S:=rfl
abbrev Lo:=List (Option D)
abbrev ME:=Lo->Sto->Res D
abbrev MT:=Lo->Sto->Res Bool
abbrev ML:=Lo->Sto->Res (List D)
inductive Fl where
 | nx (e:Lo) | rt (d:D) | bk (e:Lo) | ct (e:Lo) | ex (c:AU) (e:Lo)
abbrev MS:=Lo->Sto->Res Fl
abbrev MG:=D->Lo->Sto->Res Lo
abbrev P4:=Sto->Option (List D)
abbrev MI:=Lo->Sto->Res P4
structure Gg(K:AI)(ρ:List AU)(H:Hp)(e:Lo)(σ:St):Prop where
 len:e.length=σ.length
 at':∀(i:Nat) d,e[i]?=some (some d)->∃v,σ[i]?=some (some v)/\CA K ρ H d v
section
variable{K:AI}{ρ ρ':List AU}{H H':Hp}{e:Lo}{σ:St}
def Gg.mono(l:Le K ρ H ρ' H')(h:Gg K ρ H e σ):Gg K ρ' H' e σ:=⟨h.len,λi d q=>by
 obtain⟨v,m,o⟩:=h.at' i d q
 exact⟨v,m,o.mono l⟩⟩
def Gg.set(h:Gg K ρ H e σ)(r:CA K ρ H d v)(i:Nat):Gg K ρ H (e.set i (some d)) (σ.set i (some v)):=by
 refine⟨by simp[h.len],λj o q=>?_⟩
 by_cases l:i=j
 ·subst l
  have m:i < e.length:=by
   have:=(AB.mp q).1;simpa using this
  rw[Ao m]at q;cases q;exact⟨v,by rw[Ao (by rw[<-h.len];exact m)],r⟩
 ·rw[AZ l]at q ⊢
  exact h.at' j o q
end
abbrev EW:=AU->St->Hp->Prop
abbrev EH:=AU->Hp->Prop
abbrev noE:EW:=λ_ _ _=>False
abbrev noH:EH:=λ_ _=>False
def Cj{o:Type}(K:AI)(E:EH)(ρ:List AU)(H:Hp)(r:Res o)(k:o->Sto->Prop):Prop:=match r with
 | .ok a S=>k a S
 | .err c S=>∀l m,Le K ρ H l m->CS K l S m->E c m
 | .bad=>False
section
variable{K:AI}{E:EH}{ρ ρ1:List AU}{H H1:Hp}
def Cj.seq(h:Cj K E ρ H (r.bind F) k)(f:∀a S,Cj K E ρ H (F a S) k->k' a S):Cj K E ρ H r k':=by
 cases r with
 | ok a S=>exact f a S h
 | err c S=>exact h
 | bad=>exact h
def Cj.later(h:Cj K E ρ H r k)(l:Le K ρ H ρ1 H1):Cj K E ρ1 H1 r k:=by
 cases r with
 | ok a S=>exact h
 | err c S=>exact λm o A=>h m o (l.trans A)
 | bad=>exact h
def Cj.imp(h:Cj K E ρ H r k)(f:∀a S,k a S->k' a S):Cj K E ρ H r k':=by
 cases r with
 | ok a S=>exact f a S h
 | err c S=>exact h
 | bad=>exact h
def Cj.go(h:Cj K E ρ H r k)(l:Le K ρ H ρ1 H1)(f:∀a S,k a S->k' a S):Cj K E ρ1 H1 r k':=(h.later l).imp f
end
noncomputable def okR{l:Type}:Res l->Res l
 | .ok a S=>.ok a S
 | _=>.bad
@[simp] def okR_ok {l:Type} (a:l) (S:Sto):okR (.ok a S)=.ok a S:=rfl
theorem Cj.okR{l:Type}{K:AI}{E:EH}{ρ:List AU}{H:Hp}{r:Res l}{k:l->Sto->Prop}(h:Cj K E ρ H (L2.okR r) k):∃a S,r=.ok a S/\k a S:=by
 cases r with
 | ok a S=>exact⟨a,S,rfl,h⟩
 | err c S=>exact h.elim
 | bad=>exact h.elim
section
variable(K:AI)(E:EW)
def gE(m:ME):TE:=λB H Q=>∃o e S,Gg K o H e B/\CS K o S H/\Cj K (λc=>E c B) o H (m e S) λd C=>∀l A x,Le K o H l A->CS K l C A->CA K l A d x->Q x A
def gT(m:MT):TT:=λB H Q=>∃o e S,Gg K o H e B/\CS K o S H/\Cj K (λc=>E c B) o H (m e S) λb C=>∀l A,Le K o H l A->CS K l C A->Q b A
def gA(m:ML):TA:=λB H Q=>∃o e S,Gg K o H e B/\CS K o S H/\Cj K (λc=>E c B) o H (m e S) λG I=>∀l A C,Le K o H l A->CS K l I A->Av K l A G C->Q C A
def gL(m:ML):TE:=λB H Q=>∃A e S,Gg K A H e B/\CS K A S H/\Cj K (λc=>E c B) A H (m e S) λG I=>∀l o p C,Le K A H l o->CS K l I o->Av K l o G C->o p=some (.lst C)->(∀n:Nat,l[n]?≠some p)->H p=none->Q (.ref p) o
def gQ(m:ML):TE:=λC H Q=>∃A e S,Gg K A H e C/\CS K A S H/\Cj K (λc=>E c C) A H (m e S) λG I=>∀l o p B,Le K A H l o->CS K l I o->Av K l o G B->(SqL K o p B∨SqT K o p B)->Q (.ref p) o
def UP(K:AI)(E:EW)(ρ:List AU)(H:Hp)(B:Sto)(D:gq):Fl->Prop
 | .ex c A=>∀l m o,Le K ρ H l m->CS K l B m->Gg K l m A o->E c o m
 | .nx A=>∀l m o,Le K ρ H l m->CS K l B m->Gg K l m A o->D.nx o m
 | .bk A=>∀l m o,Le K ρ H l m->CS K l B m->Gg K l m A o->D.bk o m
 | .ct A=>∀l m o,Le K ρ H l m->CS K l B m->Gg K l m A o->D.ct o m
 | .rt d=>∀l m x,Le K ρ H l m->CS K l B m->CA K l m d x->D.rt x m
def gS(m:MS):TS:=λD o H=>∃l e S,Gg K l H e o/\CS K l S H/\Cj K noH l H (m e S) λA B=>UP K E l H B D A
def gG(m:MG):TG:=λv C H Q=>∃o e S d,CA K o H d v/\Gg K o H e C/\CS K o S H/\Cj K noH o H (m d e S) λG I=>∀l B A,Le K o H l B->CS K l I B->Gg K l B G A->Q A B
def NO(o:List AU)(C:Hp)(J:It)(v:P4):Prop:=∀A H S B (i:Nat),Le K o C A H->CS K A S H->v S=some B ->
 (B[i]?=none->J.stop i H)/\∀d,B[i]?=some d->J.go i H/\∀x m,J.yld i H x m->∃l,Le K A H l m/\CS K l S m/\CA K l m d x
def gI(m:MI):TI:=λB H R=>∃o e S,Gg K o H e B/\CS K o S H/\Cj K (λc=>E c B) o H (m e S) λv C=>∀l A J,Le K o H l A->CS K l C A->NO K l A J v->R J A
end
abbrev GE(X:Cx)(E:EW)(e:Expr)(m:ME):Prop:=PE X e (gE X.K E m)
abbrev GT(X:Cx)(E:EW)(e:Expr)(m:MT):Prop:=PT X e (gT X.K E m)
abbrev GA(X:Cx)(E:EW)(es:List Expr)(m:ML):Prop:=PA X es (gA X.K E m)
abbrev GL(X:Cx)(E:EW)(e:Expr)(m:ML):Prop:=PE X e (gL X.K E m)
abbrev GQ(X:Cx)(E:EW)(e:Expr)(m:ML):Prop:=PE X e (gQ X.K E m)
abbrev GS(X:Cx)(E:EW)(s:C2)(m:MS):Prop:=PS X s (gS X.K E m)
abbrev GSs(X:Cx)(E:EW)(s:List C2)(m:MS):Prop:=PSs X s (gS X.K E m)
abbrev GG(X:Cx)(t:Expr)(m:MG):Prop:=PG X t (gG X.K m)
abbrev GI(X:Cx)(E:EW)(tg t:Expr)(m:MI):Prop:=PI X tg t (gI X.K E m)
def PE.imp(h:PE X e t)(i:∀l H Q,t' l H Q->t l H Q):PE X e t':=λm s l H Q I q=>h m s l H Q I (i l H Q q)
def PT.imp(h:PT X e t)(i:∀l H Q,t' l H Q->t l H Q):PT X e t':=λm s l H Q I q=>h m s l H Q I (i l H Q q)
def PW.imp(h:PW X e t)(i:∀l H Q,t' l H Q->t l H Q):PW X e t':=λm o s l H Q I q=>h m o s l H Q I (i l H Q q)
def PA.imp(h:PA X e t)(i:∀l H Q,t' l H Q->t l H Q):PA X e t':=λm o s l H Q I q=>h m o s l H Q I (i l H Q q)
def PS.imp(h:PS X e t)(i:∀D l H,t' D l H->t D l H):PS X e t':=λm s l H D I q=>h m s l H D I (i D l H q)
def PSs.imp(h:PSs X e t)(i:∀D l H,t' D l H->t D l H):PSs X e t':=λm s l H D I q=>h m s l H D I (i D l H q)
def PG.imp(h:PG X e t)(i:∀v l H Q,t' v l H Q->t v l H Q):PG X e t':=λm s l H v u Q I r q=>h m s l H v u Q I r (i v l H Q q)
def PI.imp(h:PI X tg e t)(i:∀l H R,t' l H R->t l H R):PI X tg e t':=λm s l H R I q=>h m s l H R I (i l H R q)
def OpR.imp(h:OpR X f r)(i:∀x y H Q,r' x y H Q->r x y H Q):OpR X f r':=λl s m H x y v u Q I o A q=>h l s m H x y v u Q I o A (i x y H Q q)
def IxR.imp(h:IxR X r)(i:∀x y H Q,r' x y H Q->r x y H Q):IxR X r':=λl sl m s o H x y v u Q I A B q=>h l sl m s o H x y v u Q I A B (i x y H Q q)
noncomputable def AC(i:Nat):ME:=λe S=>match e[i]? with
 | some (some d)=>.ok d S
 | _=>.bad
noncomputable def mC(d:D):ME:=λ_ S=>.ok d S
section
variable{X:Cx}{E:EW}{e a b:Expr}{pos:Pos}{ma mb:ME}
def u8(h:PE X e (sr i)):GE X E e (AC i):=h.imp<|by
 rintro J H Q ⟨o,l,S,A,B,m⟩
 unfold AC at m;split at m
 ·rename_i L C
  obtain⟨v,G,I⟩:=A.at' i _ C;exact⟨v,G,m o H v .refl B I⟩
 ·exact m.elim
def gv(i:Nat)(hN:X.N[i]?=some x:=by rfl)(l:Vis X.env.scope x:=by first | exact NP rfl | exact Kd (NP rfl) | exact Kd (Kd rfl))(m:(x==("__debug__" : Str))=false:=by decide) (o:(x==("__classdict__" : Str))=false:=by decide):GE X E (.Name x pos) (AC i):=u8 (pv i hN l m o)
def p9(h:PE X e (tC v))(m:∀ρ H,CA X.K ρ H d v):GE X E e (mC d):=h.imp<|by
 rintro B H Q ⟨ρ,l,S,C,o,A⟩
 exact A ρ H v .refl o (m _ _)
def ge_int{i j pos}:GE X E (.Constant (.int i) j pos) (mC (.int i)):=p9 t7 λ_ _=>.int i
def J5{b j pos}:GE X E (.Constant (.bool b) j pos) (mC (.bl b)):=p9 xT λ_ _=>.bl b
def Xi{x j pos}:GE X E (.Constant (.str x) j pos) (mC (.str x)):=p9 tz λ_ _=>.str x
def ZW(l:Gl X x)(m:X.mg x=some (.int i o))(A:(x==("__debug__" : Str))=false:=by decide):GE X E (.Name x pos) (mC (.int i)):=
 p9 (pC (v:=.int i) l m ⟨o,rfl⟩ A) λ_ _=>.int i
def m2(f:D->D->Sto->Res D)(ma mb:ME):ME:=λe S=>(ma e S).bind λx l=>(mb e l).bind λy m=>okR (f x y m)
def rD(K:AI)(f:D->D->Sto->Res D):R2:=λu v H Q=>∃m S x y d A,CS K m S H/\CA K m H x u/\CA K m H y v/\f x y S=.ok d A /\
 ∀l o z,Le K m H l o->CS K l A o->CA K l o d z->Q z o
def OS{K:AI}{f:D->D->Sto->Res D}{G:St}{H:Hp}{Q:VK}(h:gE K E (m2 f ma mb) G H Q):tOp (rD K f) (gE K E ma) (gE K E mb) G H Q:=by
 obtain⟨L,l,S,I,N,m⟩:=h;refine⟨L,l,S,I,N,m.seq λx O m o H1 u A P R=>⟨o,l,O,I.mono A,P,(m.later A).seq λy T m B H2 v J U Y=>?_⟩⟩;obtain⟨d,Z,e,k⟩:=m.okR;exact⟨B,T,x,y,d,Z,U,R.mono J,Y,e,λC H' z l' s' r'=>k C H' z (A.trans (J.trans l')) s' r'⟩
def BM(ho:OpR X (Cw l) (rD X.K f))(m:GE X E a ma)(hb:GE X E b mb):GE X E (.BinOp a l b pos) (m2 f ma mb):=(xR ho m hb).imp λ_ _ _ h=>OS h
def Xl(ho:OpR X (Cd l) (rD X.K f))(m:GE X E a ma)(hb:GE X E b mb)(o:CN l b=false):GE X E (.Compare a [l] [b] pos) (m2 f ma mb):=(pF ho m hb o).imp λ_ _ _ h=>OS h
def yF(ho:IxR X (rD X.K f))(l:GE X E a ma)(hb:GE X E b mb)(hs:X3 b:=by intro _ _;rfl):GE X E (.Subscript a b pos) (m2 f ma mb):=(xS ho l hb hs).imp λ_ _ _ h=>OS h
def mB(m:ME):MT:=λe S=>(m e S).bind λd l=>match d with
 | .bl b=>.ok b l
 | _=>.bad
noncomputable def RQ(d:D)(S:Sto):Option Bool:=match d with
 | .non=>some false
 | .bl b=>some b
 | .int i=>some (i != 0)
 | .tup l=>some (!l.isEmpty)
 | .fro l=>some (!l.isEmpty)
 | .ref n=>match S[n]? with
  | some (.lst l)=>some (!l.isEmpty)
  | some (.dK m)=>some (!m.isEmpty)
  | _=>none
 | _=>none
def GN(m:ME):MT:=λe S=>(m e S).bind λd l=>match RQ d l with
 | some b=>.ok b l
 | none=>.bad
def Av.empty{K}{ρ}{H}{l}{vs}(h:Av K ρ H l vs):l.isEmpty=vs.isEmpty:=by cases h <;> rfl
def KVR.empty{l:Type}{K:AI}{ρ:List AU}{H:Hp}{x:List (l×D)}{y:List (l×V)}(h:KVR K ρ H x y):x.isEmpty=y.isEmpty:=by cases h <;> rfl
def oB{K:AI}{ρ:List AU}{H:Hp}{S:Sto}{d:D}{x:V}{b:Bool}(hs:CS K ρ S H)(r:CA K ρ H d x)(h:RQ d S=some b):vb K x H b:=by
 cases r with
 | non=>cases h;rfl
 | bl c=>cases h;rfl
 | int i=>cases h;rfl
 | str x=>cases h
 | tup l m=>cases h;rw[m.empty];exact .inr (.inl ⟨_,.inl (.inl l),rfl⟩)
 | fro l m=>cases h;rw[m.empty];exact .inl ⟨_,l.sq,rfl⟩
 | exc _ _=>cases h
 | @ref n a G=>
  obtain⟨o,I,B⟩:=hs.there G;unfold RQ at h;simp only[I]at h
  cases o with
  | lst N=>cases h;obtain⟨J,e,A⟩:=B;rw[A.empty];exact .inl ⟨_,.inl (.inl e),rfl⟩
  | dK L=>cases h;obtain⟨J,e,A⟩:=B;rw[KVR.empty A];exact .inr (.inr ⟨_,e,rfl⟩)
  | dT L=>cases h
  | ins C fs=>cases h
  | fK _=>cases h
  | fT _=>cases h
  | mem _=>cases h
def kj(h:GE X E e ma)(B:∀m,Z0 e X.env m=(do let v <-m;Zm e.pos;MD [v] (rk v)):=by intro _;rfl):GT X E e (mB ma):=(tT h B).imp<|by
 rintro P H Q ⟨C,l,S,G,I,o⟩
 refine⟨C,l,S,G,I,o.seq λd R o A J x L N O=>?_⟩
 cases d <;> first | exact o.elim | skip
 cases O;exact⟨_,rfl,o A J L N⟩
def FL(h:GE X E e ma)(C:∀m,Z0 e X.env m=(do let v <-m;Zm e.pos;MD [v] (rk v)):=by intro _;rfl):GT X E e (GN ma):=(jT h C).imp<|by
 rintro R H Q ⟨G,l,S,I,J,o⟩
 refine⟨G,l,S,I,J,o.seq λd L o A N x O B P=>?_⟩
 cases hb:RQ d L with
 | none=>rw[hb]at o;exact o.elim
 | some c=>
  rw[hb]at o;exact⟨c,oB B P hb,o A N O B⟩
def FJ{o}{f}(ho:OpR X (Cd o) (rD X.K f))(B:GE X E a ma)(hb:GE X E b mb)(m:CN o b=false):GT X E (.Compare a [o] [b] pos) (mB (m2 f ma mb)):=(oX ho B hb m).imp<|by
 rintro P H Q ⟨C,l,S,G,I,m⟩
 refine OS ⟨C,l,S,G,I,m.seq λd R m A J x L N O=>?_⟩
 cases d <;> first | exact m.elim | skip
 cases O;exact⟨_,rfl,m A J L N⟩
def Oa(m:MT):MT:=λe S=>(m e S).bind λb l=>.ok (!b) l
def Rt(ma mb:MT):MT:=λe S=>(ma e S).bind λb l=>if b=true then mb e l else .ok false l
def mOr(ma mb:MT):MT:=λe S=>(ma e S).bind λb l=>if b=true then .ok true l else mb e l
variable{ta tb:MT}{rest:List Expr}
def Mx(h:GT X E a ta):GT X E (.UnaryOp .Not a pos) (Oa ta):=(tU h).imp<|by
 rintro L H Q ⟨A,l,S,B,C,m⟩
 exact⟨A,l,S,B,C,m.seq λd N m o G I J=>m o G I J⟩
def oG{K}{C}{H}{Q}(h:gT K E (Rt ta tb) C H Q):w6 (gT K E ta) (gT K E tb) C H Q:=by
 obtain⟨J,l,S,G,L,m⟩:=h;refine⟨J,l,S,G,L,m.seq λc N m o O A I=>?_⟩
 cases c with
 | true=>rw[qX rfl]at m ⊢;exact⟨o,l,N,G.mono A,I,m.go A λ_ _ k B P R T=>k B P (A.trans R) T⟩
 | false=>rw[qY Ab]at m ⊢;exact m o O A I
def ss{K}{C}{H}{Q}(h:gT K E (mOr ta tb) C H Q):tOr (gT K E ta) (gT K E tb) C H Q:=by
 obtain⟨J,l,S,G,L,m⟩:=h;refine⟨J,l,S,G,L,m.seq λc N m o O A I=>?_⟩
 cases c with
 | false=>rw[qY Ab]at m ⊢;exact⟨o,l,N,G.mono A,I,m.go A λ_ _ k B P R T=>k B P (A.trans R) T⟩
 | true=>rw[qX rfl]at m ⊢;exact m o O A I
abbrev GW(X:Cx)(E:EW)(e:Expr)(m:MT):Prop:=PW X e (gT X.K E m)
def Xf(l:GT X E a ta):GW X E (.BoolOp .And [a] pos) ta:=oW l
def uv(l:GT X E a ta):GW X E (.BoolOp .Or [a] pos) ta:=tR l
def bN(l:GT X E a ta)(hb:GW X E (.BoolOp .And (b :: rest) pos) tb):GW X E (.BoolOp .And (a :: b :: rest) pos) (Rt ta tb):=(tS l hb).imp λ_ _ _ h=>oG h
def yC(l:GT X E a ta)(hb:GW X E (.BoolOp .Or (b :: rest) pos) tb):GW X E (.BoolOp .Or (a :: b :: rest) pos) (mOr ta tb):=(xM l hb).imp λ_ _ _ h=>ss h
def pd(h:GW X E e t):GT X E e t:=PW.pt h
def kA(ma mb:ME):ME:=λe S=>(ma e S).bind λd l=>match d with
 | .bl true=>.ok (.bl true) l
 | .bl false=>mb e l
 | _=>.bad
def cc(ma:ME):ME:=λe S=>(ma e S).bind λd l=>match d with
 | .bl c=>.ok (.bl (!c)) l
 | _=>.bad
def u9{l}(h:GE X E a ma):GE X E (.BoolOp l [a] pos) ma:=t4 h
def yE(I:GE X E a ma)(hb:GE X E (.BoolOp .Or (b :: rest) pos) mb):GE X E (.BoolOp .Or (a :: b :: rest) pos) (kA ma mb):=(xQ I hb).imp<|by
 rintro Z H Q ⟨J,l,S,C,L,m⟩
 refine⟨J,l,S,C,L,m.seq λc N m o O x A G P=>?_⟩
 cases c with
 | bl c=>
  cases P;refine⟨c,rfl,?_⟩
  cases c with
  | false=>rw[qY Ab];exact⟨o,l,N,C.mono A,G,m.go A λ_ _ k B R z T U Y=>k B R z (A.trans T) U Y⟩
  | true=>rw[qX rfl];exact m o O _ A G (.bl true)
 | _=>exact m.elim
def vA(A:GE X E a ma):GE X E (.UnaryOp .Not a pos) (cc ma):=(t5 A).imp<|by
 rintro O H Q ⟨B,l,S,C,G,m⟩
 refine⟨B,l,S,C,G,m.seq λc P m o I x J L N=>?_⟩
 cases c with
 | bl c=>cases N;exact⟨c,rfl,m o I _ J L (.bl _)⟩
 | _=>exact m.elim
def ZH(t:MT)(ma mb:ME):ME:=λe S=>(t e S).bind λb l=>if b=true then ma e l else mb e l
def UM(P:GT X E c ta)(R:GE X E a ma)(hb:GE X E b mb):GE X E (.IfExp c a b pos) (ZH ta ma mb):=(jg P R hb).imp<|by
 rintro Y H Q ⟨T,l,S,C,U,o⟩
 refine⟨T,l,S,C,U,o.seq λc N o B Z A O=>?_⟩
 cases c with
 | true=>rw[qX rfl]at o ⊢;exact⟨B,l,N,C.mono A,O,o.go A λ_ _ k m G z I J L=>k m G z (A.trans I) J L⟩
 | false=>rw[qY Ab]at o ⊢;exact⟨B,l,N,C.mono A,O,o.go A λ_ _ k m G z I J L=>k m G z (A.trans I) J L⟩
def m3(f g:D->D->Sto->Res D)(ma mb m:ME):ME:=λe S=>(ma e S).bind λx o=>(mb e o).bind λy A=>(okR (f x y A)).bind λz l=>match z with
 | .bl true=>(m e l).bind λw B=>okR (g y w B)
 | .bl false=>.ok (.bl false) l
 | _=>.bad
noncomputable def BI:ML:=λ_ S=>.ok [] S
def AO(m:ME)(r:ML):ML:=λe S=>(m e S).bind λd l=>(r e l).bind λo A=>.ok (d :: o) A
variable{es:List Expr}{ml:ML}
def Am:GA X E [] BI:=IG.imp<|by
 rintro B H Q ⟨m,l,S,C,o,A⟩
 exact A m H [] .refl o .nil
def AL(I:GE X E e ma)(J:GA X E es ml)(hs:AW (e :: es) X.env=(false,CO e X.env) :: AW es X.env:=by rfl):GA X E (e :: es) (AO ma ml):=(Fy I J hs).imp<|by
 rintro Z H Q ⟨L,l,S,C,hs,m⟩
 exact⟨L,l,S,C,hs,m.seq λd N m o H1 x A O P=>⟨o,l,N,C.mono A,O,(m.later A).seq λzT S2 m B R T G U Y=>m B R (x :: T) (A.trans G) U (.cons (P.mono G) Y)⟩⟩
def Ix(m:ML):ME:=λe S=>(m e S).bind λl o=>if l.length<=sizeLine then .ok (.tup l) o else .bad
def JH{K}{ρ}{H}{S}{p}{ho}(hs:CS K ρ S H)(l:H p=none):CS K ρ S (upd H p ho)/\Le K ρ H ρ (upd H p ho):=by
 have le:Le K ρ H ρ (upd H p ho):=Le.fresh l;refine⟨⟨hs.len,hs.nd,λn o a A m=>(hs.ob n o a A m).mono le (Bi λz=>?_)⟩,le⟩;subst z;exact hs.notIn l m
def Fq{C}(h:GA X E es ml):GE X E (.Tuple es C pos) (Ix ml):=(tw h).imp<|by
 rintro T H Q ⟨G,l,S,I,J,m⟩
 refine⟨G,l,S,I,J,m.seq λU Y m o Z xs L N A=>?_⟩;split at m
 ·rename_i O
  refine⟨by rw[<-A.length];exact O,λp P=>?_⟩;obtain⟨R,B⟩:=JH N P;exact m o _ _ (L.trans B) R (.tup Bz (A.mono B))
 ·exact m.elim
def Dc(m:ML):ML:=λe S=>(m e S).bind λl o=>if l.length<=sizeLine then .ok l o else .bad
def Fo(h:GA X E es ml):GL X E (.List es pos) (Dc ml):=(t6 h).imp<|by
 rintro T H Q ⟨L,l,S,N,C,m⟩
 refine⟨L,l,S,N,C,m.seq λU Y m o Z O G A I=>?_⟩;split at m
 ·rename_i P
  refine⟨by rw[<-I.length];exact P,λp B=>?_⟩;obtain⟨R,J⟩:=JH A B;exact m o _ p O (G.trans J) R (I.mono J) Bz (λn q=>A.notIn B q) (G.back C A B)
 ·exact m.elim
def DF(m:ML):ME:=λe S=>(m e S).bind λo l=>.ok (.ref l.length) (l++[.lst o])
def CH(h:GL X E e ml):GE X E e (DF ml):=PE.imp h<|by
 rintro σ H Q ⟨I,l,S,J,L,B⟩
 refine⟨I,l,S,J,L,B.seq λN S1 B m H1 p O A P R T U Y=>?_⟩
 have G:∀(n:Nat) a,m[n]?=some a->(m++[p])[n]?=some a:=λn a h=>by rw[AV (AB.mp h).1];exact h
 obtain⟨Z,C⟩:=P.adopt (o:=.lst N) U ⟨O,T,R.more G⟩;refine B _ _ _ ⟨λn a h=>G n a (A.pre n a h),A.tup,A.frz,λa o e h=>⟨(A.oth a o e h).1,λn q=>?_⟩⟩ Z (.ref C)
 rcases Jh q with⟨q,_⟩ | ⟨_,q⟩
 ·exact(A.oth a o e h).2 n q
 lia
noncomputable def Ga(d:D)(S:Sto):Option (List D):=match d with
 | .tup l=>some l
 | .fro l=>some l
 | .ref n=>match S[n]? with
  | some (.lst l)=>some l
  | _=>none
 | _=>none
def Mr(m:ME):ML:=λe S=>(m e S).bind λd l=>match Ga d l with
 | some o=>.ok o l
 | none=>.bad
def SH{K}{ρ}{H}{S}{d}{x}{A}(hs:CS K ρ S H)(r:CA K ρ H d x)(h:Ga d S=some A):∃p xs,x=.ref p/\Av K ρ H A xs/\(SqL K H p xs∨SqT K H p xs):=by
 cases r with
 | tup l m=>cases h;exact⟨_,_,rfl,m,.inr (.inl (.inl l))⟩
 | fro l m=>cases h;exact⟨_,_,rfl,m,.inl l.sq⟩
 | @ref n a B=>
  obtain⟨o,C,G⟩:=hs.there B;unfold Ga at h;simp only[C]at h
  cases o with
  | lst es=>cases h;obtain⟨J,e,I⟩:=G;exact⟨_,_,rfl,I,.inl (.inl (.inl e))⟩
  | _=>cases h
 | _=>cases h
def dA(h:GE X E e ma):GQ X E e (Mr ma):=PE.imp h<|by
 rintro T H Q ⟨C,l,S,G,I,m⟩
 refine⟨C,l,S,G,I,m.seq λx J m o L v N B O=>?_⟩
 cases A:Ga x J with
 | none=>rw[A]at m;exact m.elim
 | some U=>
  rw[A]at m;obtain⟨p,P,rfl,R,sq⟩:=SH B O A;exact m o L p P N B R sq
end
noncomputable def Res.lift{l:Type}(r:Res l)(e:Lo)(f:l->Sto->Res Fl):Res Fl:=match r with
 | .ok a S=>f a S
 | .err c S=>.ok (.ex c e) S
 | .bad=>.bad
@[simp] def Res.ok_lift {l:Type} {a:l} {S:Sto} {e:Lo} {f:l->Sto->Res Fl}:(Res.ok a S).lift e f=f a S:=rfl
theorem Cj.lift{A:Type}{K:AI}{E:EW}{ρ m:List AU}{H o:Hp}{B:St}{e:Lo}{D:gq}{r:Res A}{F:A->Sto->Res Fl}{k':A->Sto->Prop}(h:Cj K noH m o (r.lift e F) λC G=>UP K E ρ H G D C)(L:Gg K m o e B)(l:Le K ρ H m o)
  (f:∀a S,(Cj K noH m o (F a S) λC G=>UP K E ρ H G D C)->k' a S):Cj K (λc=>E c B) m o r k':=by
 cases r with
 | ok a S=>exact f a S h
 | err c S=>exact λI N J O=>h I N B (l.trans J) O (L.mono J)
 | bad=>exact h
noncomputable def sNx:MS:=λe S=>.ok (.nx e) S
noncomputable def Tb:MS:=λ_ _=>.bad
def BK(a b:MS):MS:=λe S=>(a e S).bind λf l=>match f with
 | .nx m=>b m l
 | f=>.ok f l
def Fj(m:ME):MS:=λe S=>(m e S).lift e λ_ l=>.ok (.nx e) l
def DL(m:ME):MS:=λe S=>(m e S).lift e λd l=>.ok (.rt d) l
def sIf(t:MT)(a b:MS):MS:=λe S=>(t e S).lift e λc l=>if c=true then a e l else b e l
def xC(m:ME)(g:MG):MS:=λe S=>(m e S).lift e λd l=>(g d e l).bind λo A=>.ok (.nx o) A
noncomputable def tgN(i:Nat):MG:=λd e S=>.ok (e.set i (some d)) S
def Ce(i:Nat)(m:ME):MS:=xC m (tgN i)
section
variable{X:Cx}{E:EW}{st:C2}{rest:List C2}{e:Expr}{pos:Pos}{a b:MS}{t:MT}
def UP.later{K}{ρ C}{H G}{S}{D}{f}(l:Le K ρ H C G)(h:UP K E ρ H S D f):UP K E C G S D f:=by
 cases f with
 | nx e=>exact λm A o B=>h m A o (l.trans B)
 | bk e=>exact λm A o B=>h m A o (l.trans B)
 | ct e=>exact λm A o B=>h m A o (l.trans B)
 | ex c e=>exact λm A o B=>h m A o (l.trans B)
 | rt d=>exact λm A x B=>h m A x (l.trans B)
def CQ:GSs X E [] sNx:=oZ.imp<|by
 rintro D m H ⟨o,l,S,A,B,C⟩
 exact C o H m .refl B A
def AQ(B:GS X E st a)(C:GSs X E rest b):GSs X E (st :: rest) (BK a b):=(jW B C).imp<|by
 rintro D R H ⟨G,l,S,I,J,m⟩
 refine⟨G,l,S,I,J,m.seq λg L m=>?_⟩
 cases g with
 | nx N=>exact λo T O A P Q=>⟨o,N,L,Q,P,m.go A λ_ _ k=>k.later A⟩
 | rt d=>exact m
 | bk d=>exact m
 | ct d=>exact m
 | ex c d=>exact m
def Ad(l:GS X E st a):GSs X E [st] a:=oY l
def Jg:GS X E st Tb:=(jY).imp<|by rintro D o H ⟨A,l,S,B,C,m⟩;exact m.elim
def Gi(G:GE X E e m)(hs:G1 e none pos.line X.env=pure false:=by rfl):GS X E (.Expr e pos) (Fj m):=(og G hs).imp<|by
 rintro D I H ⟨J,l,S,o,hs,A⟩
 exact⟨J,l,S,o,hs,A.lift o .refl λd O A B L x C N P=>A B L I C N (o.mono C)⟩
def Br(C:GE X E e m):GS X E (.Return (some e) pos) (DL m):=(tW C).imp<|by
 rintro D P H ⟨G,l,S,B,I,o⟩
 exact⟨G,l,S,B,I,o.lift B .refl λd Q o A J x L N O=>o A J x L N O⟩
def Ec{c}{C G}(L:GT X E c t)(N:GSs X E C a)(hb:GSs X E G b):GS X E (.If c C G pos) (sIf t a b):=(xO L N hb).imp<|by
 rintro D Q H ⟨O,l,S,B,P,m⟩
 refine⟨O,l,S,B,P,m.lift B .refl λc I m A R o J=>?_⟩
 cases c with
 | true=>rw[qX rfl]at m ⊢;exact⟨A,l,I,B.mono o,J,m.go o λ_ _ k=>k.later o⟩
 | false=>rw[qY Ab]at m ⊢;exact⟨A,l,I,B.mono o,J,m.go o λ_ _ k=>k.later o⟩
def pz(h:PG X tg (dH i)):GG X tg (tgN i):=h.imp<|by
 rintro v G H Q ⟨m,l,S,d,o,A,B,C⟩
 exact C m H _ .refl B (A.set o i)
def ux{i}{x}{o}(hN:X.N.Nodup)(hi:X.N[i]?=some x)(I:Loc X.env.scope x)(J:GE X E e m)(hs:G1 e (some (.Name x o)) pos.line X.env=pure false:=by rfl)
  (hf:X.fn x=true∨X.env.scope.names.lookup x=some .local:=by first | exact .inl rfl | exact .inr rfl | assumption):GS X E (.Assign [.Name x o] e pos) (Ce i m):=(tV hN hi I J hs hf).imp<|by
 rintro D R H ⟨L,l,S,A,hs,B⟩
 exact⟨L,l,S,A,hs,B.lift A .refl λd T B C O x G P Q=>B C O _ G P ((A.mono G).set Q i)⟩
def M1(v:P4)(g:MG)(b:MS):Nat->Nat->Lo->Sto->Res Fl
 | k,i,e,S=>match v S with
  | none=>.bad
  | some o=>match o[i]? with
   | none=>.ok (.nx e) S
   | some d=>match k with
    | 0=>.bad
    | k+1=>(g d e S).bind λA B=>(b A B).bind λf m=>match f with
     | .nx l=>M1 v g b k (i+1) l m
     | .ct l=>M1 v g b k (i+1) l m
     | .bk l=>.ok (.nx l) m
     | .rt d=>.ok (.rt d) m
     | .ex c l=>.ok (.ex c l) m
noncomputable def D0(v:P4)(S:Sto):Nat:=match v S with
 | none=>0
 | some l=>l.length
def Em(m:MI)(g:MG)(b:MS):MS:=λe S=>(m e S).lift e λv l=>M1 v g b (D0 v l) 0 e l
def uy{tg iter}{O}{mi}{g}(hp:Wr (Ac X.prog X.w) X.A X.env X.xe)(hc:X.calm=true)(hi:GI X E tg iter mi)(hg:GG X tg g)(hb:GSs X E O b)
  (hs:∀x,EE iter X.env x=pure x:=by intro _;rfl):GS X E (.For tg iter O [] pos) (Em mi g b):=(tX hp hc hi hg hb hs).imp<|by
 rintro D σ H ⟨ρ,l,S,hl,hs,hm⟩
 refine⟨ρ,l,S,hl,hs,hm.lift hl .refl λv S1 hm P H1 J l1 s1 vo=>?_⟩;refine⟨λi n Q R=>∃m T I,Le X.K P H1 m R/\Gg X.K m R T Q/\CS X.K m I R/\Cj X.K noH m R (M1 v g b n i T I) λfl S'=>UP X.K E ρ H S' D fl,⟨D0 v S1,P,l,S1,.refl,hl.mono l1,s1,hm.later l1⟩,?_⟩;rintro i n Q R ⟨m,T,I,U,r2,s2,B⟩;unfold M1 at B
 cases hv:v I with
 | none=>rw[hv]at B;exact B.elim
 | some ds=>
  rw[hv]at B;dsimp only at B;obtain⟨v1,v2⟩:=vo m R I ds i U s2 hv
  cases hd:ds[i]? with
  | none=>
   rw[hd]at B;exact .inl ⟨v1 hd,B m R Q (l1.trans U) s2 r2⟩
  | some d=>
   rw[hd]at B;obtain⟨go,yl⟩:=v2 d hd
   cases n with
   | zero=>exact B.elim
   | succ n=>
    refine .inr ⟨go,λσ' Y=>∃m T I,Le X.K P H1 m Y/\Gg X.K m Y T σ'/\CS X.K m I Y/\Cj X.K noH m Y (M1 v g b n (i+1) T I) λfl S'=>UP X.K E ρ H S' D fl,λσ' Y q=>⟨n,Da n,q⟩,λx Y y=>?_⟩;obtain⟨ρ3,Z,s3,rd⟩:=yl x Y y;refine⟨ρ3,T,I,d,rd,r2.mono Z,s3,(B.later Z).seq λe3 S3 B ρ4 H4 σ4 l4 s4 r4=>?_⟩;refine⟨ρ4,e3,S3,r4,s4,(B.later l4).seq λf4 S4 B=>?_⟩
    cases f4 with
    | nx e5=>exact λo H5 C G L N=>⟨o,e5,S4,U.trans (Z.trans (l4.trans G)),N,L,B.later G⟩
    | ct e5=>exact λo H5 C G L N=>⟨o,e5,S4,U.trans (Z.trans (l4.trans G)),N,L,B.later G⟩
    | bk e5=>exact λo H5 C G L N=>B o H5 C (l1.trans (U.trans (Z.trans (l4.trans G)))) L N
    | ex c e5=>exact λo H5 C G L N=>B o H5 C (l1.trans (U.trans (Z.trans (l4.trans G)))) L N
    | rt d5=>exact λo H5 x5 G L N=>B o H5 x5 (l1.trans (U.trans (Z.trans (l4.trans G)))) L N
def IE(c:MT)(b:MS):Nat->MS
 | 0=>λ_ _=>.bad
 | n+1=>λe S=>(c e S).lift e λt o=>if t=true then(b e o).bind λf m=>match f with
   | .nx l=>IE c b n l m
   | .ct l=>IE c b n l m
   | .bk l=>.ok (.nx l) m
   | .rt d=>.ok (.rt d) m
   | .ex c l=>.ok (.ex c l) m
  else .ok (.nx e) o
def UL{c}{O}(N:Nat)(hp:Wr (Ac X.prog X.w) X.A X.env X.xe)(hc:GT X E c t)(hb:GSs X E O b):GS X E (.While c O [] pos) (IE t b N):=(jX hp hc hb).imp<|by
 rintro D σ H ⟨Y,l,S,hl,hs,hm⟩
 refine⟨λn Q Z=>∃m P R,Le X.K Y H m Z/\Gg X.K m Z P Q/\CS X.K m R Z/\Cj X.K noH m Z (IE t b n P R) λfl S'=>UP X.K E Y H S' D fl,⟨N,Y,l,S,.refl,hl,hs,hm⟩,?_⟩;rintro n Q Z ⟨m,P,R,T,r2,s2,B⟩
 cases n with
 | zero=>exact B.elim
 | succ n=>
  refine⟨m,P,R,r2,s2,B.lift r2 T λtc S3 B ρ3 H3 I s3=>?_⟩
  cases tc with
  | false=>rw[qY Ab]at B ⊢;exact B ρ3 H3 Q (T.trans I) s3 (r2.mono I)
  | true=>
   rw[qX rfl]at B ⊢;refine⟨λσ' H'=>∃m P R,Le X.K Y H m H'/\Gg X.K m H' P σ'/\CS X.K m R H'/\Cj X.K noH m H' (IE t b n P R) λfl S'=>UP X.K E Y H S' D fl,λσ' H' q=>⟨n,Da n,q⟩,?_⟩;refine⟨ρ3,P,S3,r2.mono I,s3,(B.later I).seq λf4 S4 B=>?_⟩
   cases f4 with
   | nx e5=>exact λo U C G J L=>⟨o,e5,S4,T.trans (I.trans G),L,J,B.later G⟩
   | ct e5=>exact λo U C G J L=>⟨o,e5,S4,T.trans (I.trans G),L,J,B.later G⟩
   | bk e5=>exact λo U C G J L=>B o U C (T.trans (I.trans G)) J L
   | ex c e5=>exact λo U C G J L=>B o U C (T.trans (I.trans G)) J L
   | rt d5=>exact λo U x5 G J L=>B o U x5 (T.trans (I.trans G)) J L
end
section
variable{X:Cx}{E:EW}{tg e:Expr}{m:ME}{K:AI}
noncomputable def Q9(d:D):P4:=λS=>match d with
 | .ref n=>match S[n]? with
  | some (.lst l)=>some l
  | _=>none
 | .fro l=>some l
 | _=>none
noncomputable def JE(l:List D):P4:=λ_=>some l
def xy(m:ME):MI:=λe S=>(m e S).bind λd l=>match Q9 d l with
 | some _=>.ok (Q9 d) l
 | none=>.bad
def rW(m:ME):MI:=λe S=>(m e S).bind λd l=>match d with
 | .tup o=>.ok (JE o) l
 | _=>.bad
def Sy(s:CS K ρ S H)(r:CA K ρ H d (.ref a))(l:Q9 d S=some C):∃xs,SqL K H a xs/\Av K ρ H C xs:=by
 cases r with
 | tup A B=>cases l
 | exc _ _=>cases l
 | fro A B=>cases l;exact⟨_,A.sq,B⟩
 | @ref n _ G=>
  obtain⟨o,I,J⟩:=s.there G;unfold Q9 at l;simp only[I]at l
  cases o with
  | lst O=>
   cases l;obtain⟨L,e,N⟩:=J;exact⟨L,.inl (.inl e),N⟩
  | _=>cases l
def Sw(r:CA K ρ H d (.ref a)):NO K ρ H (Itl K a) (Q9 d):=by
 intro o N S O i l s G;obtain⟨A,sq,B⟩:=Sy s (r.mono l) G;refine⟨λP=>⟨A,sq,by rw[<-B.length];ext⟩,λd I=>?_⟩;obtain⟨x,C,J⟩:=B.get I;refine⟨⟨A,x,sq,C⟩,?_⟩;rintro y Q ⟨e,L⟩;subst e;have:=L A sq;rw[C]at this;cases this;exact⟨o,.refl,s,J⟩
def u6(h:GE X E e m):GI X E tg e (xy m):=(ot h).imp<|by
 rintro T H R ⟨I,l,S,J,L,o⟩
 refine⟨I,l,S,J,L,o.seq λd N o B O x P G C=>?_⟩
 cases A:Q9 d N with
 | none=>rw[A]at o;exact o.elim
 | some U=>
  rw[A]at o
  have:∃a,x=.ref a:=by
   cases C <;> first | exact⟨_,rfl⟩ | (cases A;done)
  obtain⟨a,rfl⟩:=this;obtain⟨Q,sq,_⟩:=Sy G C A;exact⟨a,rfl,⟨Q,sq⟩,o B O _ P G (Sw C)⟩
def Su(C:H a=some (.tup xs))(G:Av K ρ H I xs):NO K ρ H (Itt K a) (JE I):=by
 intro o J S Q i l s L;cases L;have A:=G.mono l;have sq:SqT K J a xs:=.inl (.inl (l.tup _ _ C));refine⟨λR=>⟨xs,sq,by rw[<-A.length];ext⟩,λd N=>?_⟩;obtain⟨x,B,O⟩:=A.get N;refine⟨⟨xs,x,sq,B⟩,?_⟩;rintro y T ⟨e,P⟩;subst e;have:=P xs sq;rw[B]at this;cases this;exact⟨o,.refl,s,O⟩
def u0(h:GE X E e m):GI X E tg e (rW m):=(tp h).imp<|by
 rintro Q H R ⟨C,l,S,G,I,o⟩
 refine⟨C,l,S,G,I,o.seq λd T o A J x L N O=>?_⟩
 cases d <;> first | exact o.elim | skip
 cases O with
 | tup B P=>exact⟨_,rfl,⟨_,.inl (.inl B)⟩,o A J _ L N (Su B P)⟩
noncomputable def JY(lo:Int)(n:Nat):List D:=(BO n).map λi:Nat=>D.int (lo+i)
def WA(lo:Int)(n i:Nat):(JY lo n)[i]?=if i < n then some (.int (lo+i))else none:=by
 unfold JY;rw[AX]
 by_cases h:i < n
 ·rw[D8 h,qX h];rfl
 ext
def Sv(lo:Int)(n:Nat):NO K ρ H (Itr lo n) (JE (JY lo n)):=by
 intro o I S J i l s C;cases C;rw[WA];refine⟨λB=>?_,λd A=>?_⟩
 ·split at B
  ·cases B
  ·rename_i h;exact Sg h
 ·split at A
  ·rename_i h
   cases A;refine⟨h,?_⟩;rintro y L ⟨e,G⟩;subst e;subst G;exact⟨o,.refl,s,.int _⟩
  ·cases A
def iR1(ml:ML):MI:=λe S=>(ml e S).bind λl o=>match l with
 | [.int j]=>if -(2 ^ 62)<=j/\j < 2 ^ 62 then .ok (JE (JY 0 j.toNat)) o else .bad
 | _=>.bad
def iR2(ml:ML):MI:=λe S=>(ml e S).bind λl o=>match l with
 | [.int i,.int j]=>if -(2 ^ 62)<=i/\i < 2 ^ 62/\-(2 ^ 62)<=j/\j < 2 ^ 62 then .ok (JE (JY i (j - i).toNat)) o else .bad
 | _=>.bad
def Di(C:Gl X "range") (o:X.mg "range" = none) (G:GA X E [a] ml) (hs:AW [a] X.env=[(false,CO a X.env)]:=by rfl):GI X E tg (.Call (.Name "range" p) [a] [] I) (iR1 ml):=(fR C o G hs).imp<|by
 rintro T H R ⟨J,l,S,L,hs,o⟩
 refine⟨J,l,S,L,hs,o.seq λU Y o A N Z O P Q=>?_⟩;split at o
 ·rename_i j
  split at o
  ·rename_i B
   cases Q with
   | cons r t=>
    cases t;cases r;exact⟨j,rfl,B.1,B.2,o A N _ O P (Sv 0 j.toNat)⟩
  ·exact o.elim
 ·exact o.elim
def K5(B:Gl X "range") (o:X.mg "range" = none) (C:GA X E [a,b] ml) (hs:AW [a,b] X.env=[(false,CO a X.env),(false,CO b X.env)]:=by rfl) (G:AW [b] X.env=[(false,CO b X.env)]:=by rfl) :
  GI X E tg (.Call (.Name "range" p) [a,b] [] I) (iR2 ml):=(fQ B o C hs G).imp<|by
 rintro Y H R ⟨J,l,S,L,hs,o⟩
 refine⟨J,l,S,L,hs,o.seq λZ S1 o A N xs O P Q=>?_⟩;split at o
 ·rename_i i j
  split at o
  ·rename_i T
   cases Q with
   | cons r t=>
    cases t with
    | cons U t=>
     cases t;cases r;cases U;exact⟨i,j,rfl,T,o A N _ O P (Sv i _)⟩
  ·exact o.elim
 ·exact o.elim
end
noncomputable def N5:List D->Lo->Sto->Res Lo
 | [],e,S=>.ok e S
 | _,_,_=>.bad
def FH(g:MG)(r:List D->Lo->Sto->Res Lo):List D->Lo->Sto->Res Lo
 | d :: l,e,S=>(g d e S).bind λm o=>r l m o
 | [],_,_=>.bad
noncomputable def MX(n:Nat)(r:List D->Lo->Sto->Res Lo):MG:=λd e S=>match d with
 | .tup l=>if l.length=n then r l e S else .bad
 | _=>.bad
section
variable{X:Cx}
def gGs(K:AI)(r:List D->Lo->Sto->Res Lo):TGs:=λC E H Q=>∃m e S B,Av K m H B C/\Gg K m H e E/\CS K m S H/\Cj K noH m H (r B e S) λG I=>∀l A o,Le K m H l A->CS K l I A->Gg K l A G o->Q o A
abbrev GGs(X:Cx)(ts:List Expr)(r:List D->Lo->Sto->Res Lo):Prop:=PGs X ts (gGs X.K r)
def PGs.imp(h:PGs X ts t)(i:∀vs l H Q,t' vs l H Q->t vs l H Q):PGs X ts t':=λm s l H vs o Q I r q=>h m s l H vs o Q I r (i vs l H Q q)
def SQ:GGs X [] N5:=oy.imp<|by
 rintro I A H Q ⟨B,l,S,m,C,E,G,o⟩
 cases m with
 | nil=>cases C;exact⟨rfl,o B H A .refl G E⟩
 | cons d m=>exact o.elim
def Ik(G:GG X e g)(I:GGs X es r)
  (hs:(Hz (e :: es) X.env).map (·.2)=assign e X.env :: (Hz es X.env).map (·.2):=by rfl):GGs X (e :: es) (FH g r):=(je G I hs).imp<|by
 rintro vs σ H Q ⟨J,l,S,o,L,N,hs,m⟩
 cases o with
 | nil=>exact m.elim
 | cons d o=>
  cases L with
  | cons O P=>
   exact⟨_,_,rfl,J,l,S,d,O,N,hs,m.seq λR T m A H1 U B Y Z=>⟨A,R,T,o,P.mono B,Z,Y,m.go B λ_ _ k C H2 E l2 s2 r2=>k C H2 E (B.trans l2) s2 r2⟩⟩
def Xh(B:X.calm=true)(h:GGs X es r)
  (C:(Hz es X.env).length=n:=by rfl) (E:(Hz es X.env).findIdx? (·.1)=none:=by rfl):GG X (.Tuple es k G) (MX n r):=(tt B h C E).imp<|by
 rintro v R H Q ⟨I,l,S,d,J,L,N,m⟩
 cases d <;> first | exact m.elim | skip
 rename_i O
 cases J with
 | tup P A=>
  unfold MX at m;dsimp only at m;split at m
  ·rename_i o
   exact⟨_,_,rfl,.inl (.inl P),by rw[<-A.length];exact o,I,l,S,O,A,L,N,m⟩
  ·exact m.elim
end
def spM(K:AI)(n:Nat)(f:List D->Sto->Res D):Sp:=λB H Q E=>∃o A S,A.length=n/\Av K o H A B/\CS K o S H/\Cj K (λc m=>E (.ref c) none m) o H (f A S) λd C=>
 ∀l m x,Le K o H l m->CS K l C m->CA K l m d x->Q x m
def spM.len{K}{n}{f}{vs}{H}{Q}{E}(h:spM K n f vs H Q E):vs.length=n:=by
 obtain⟨o,A,S,l,m,_⟩:=h;rw[<-m.length];exact l
def CF(n:Nat)(f:List D->Sto->Res D)(m:ML):ME:=λe S=>(m e S).bind λl o=>if l.length=n then f l o else .bad
def RS(C:AU)(n:Nat)(f:List D->Sto->Res D)(m:ML):ME:=λe S=>(m e S).bind λo l=>if o.length+1=n then(f (.ref l.length :: o) (l++[.ins C []])).bind (λd A=>match d with
  | .non=>.ok (.ref l.length) A
  | _=>.bad)else .bad
def eD(E:EW)(l:St):XK:=λv o H=>o=none/\∃c,v=.ref c/\E c l H
section
variable{X:Cx}{E:EW}{k n:Nat}{x:Str}{e:Expr}{es:List Expr}
def Cj.xk{B:Type}{K:AI}{C:St}{ρ m:List AU}{H G:Hp}{r:Res B}{k k':B->Sto->Prop}(h:Cj K (λc=>E c C) ρ H r k)(l:Le K ρ H m G)(f:∀a S,k a S->k' a S):Cj K (λc o=>eD E C (.ref c) none o) m G r k':=by
 cases r with
 | ok a S=>exact f a S h
 | err c S=>exact λA o I s=>⟨rfl,c,rfl,h A o (l.trans I) s⟩
 | bad=>exact h
def Xm(F:Hh X.prog X.w X.K X.mg X.base CX k f fd J (spM X.K n g))(L:Lv CX X (eD E))(N:G7 k X.A)(O:Gl X x)(m:X.mg x=some (.ref f))(P:Fd X.K (.ref f)=true)(hb:Binds X.K fd J [])
  (R:GA X E (e :: es) ml) (T:(x==("__debug__" : Str))=false:=by decide) (U:AW (e :: es) X.env=(false,CO e X.env) :: AW es X.env:=by rfl) (Y:(E1 B (AW es X.env)).any (·.1)=false:=by rfl) :
  GE X E (.Call (.Name x p) (e :: es) [] B) (CF n g ml):=(pG F N O m P hb .nil L R T U Y).imp<|by
 rintro σ H Q ⟨Z,l,S,hl,hs,m⟩
 refine⟨Z,l,S,hl,hs,m.seq λds S1 m C H1 xs I s1 r1=>?_⟩;split at m
 ·rename_i o
  rw[Bp];exact⟨C,ds,S1,o,r1,s1,m.xk I λ_ _ k G H' z l' s' r'=>k G H' z (I.trans l') s' r'⟩
 ·exact m.elim
def dD(M:Mk X.K C f)(F:Hh X.prog X.w X.K X.mg X.base CX k f fd ps (spM X.K n g))(hx:Lv CX X (eD E))(hr:G7 (k+1) X.A)(hg:Gl X x)(m:X.mg x=some (.ref C))(hb:Binds X.K fd ps [])
  (G:GA X E (e :: es) ml) (zS:(x==("__debug__" : Str))=false:=by decide) (he:AW (e :: es) X.env=(false,CO e X.env) :: AW es X.env:=by rfl) (zh:(E1 I (AW es X.env)).any (·.1)=false:=by rfl) :
  GE X E (.Call (.Name x p) (e :: es) [] I) (RS C n g ml):=(pB M F hr hg m hb .nil hx G zS he zh).imp<|by
 rintro σ H Q ⟨ρ,l,S,hl,hs,m⟩
 refine⟨ρ,l,S,hl,hs,m.seq λds T m J H1 xs U s1 r1 a Y G L za=>?_⟩;split at m
 ·rename_i Z
  rw[Bp];obtain⟨s2,N⟩:=JH s1 L
  have O:upd H1 Y (.own a) a=none:=by rw[Bi (Bw za)];exact G
  obtain⟨s3,P,B⟩:=s2.alloc (o:=.ins C []) O ⟨Y,[],Bz,.nil⟩;refine⟨J++[a],.ref T.length :: ds,T++[.ins C []],by omega,.cons (.ref B) (r1.mono (N.trans P)),s3,Cj.xk (m.seq λz S2 m=>m) (U.trans (N.trans P)) λz S2 m R H' y l' s' r'=>?_⟩
  cases z <;> first | exact m.elim | skip
  cases r';exact⟨rfl,m R H' _ (U.trans (N.trans (P.trans l'))) s' (.ref (l'.pre _ _ B))⟩
 ·exact m.elim
end
theorem KVR.lookup{K}{ρ}{H}(f:Str){x:List (Str×D)}{y:List (Str×V)}{d:D}(u:KVR K ρ H x y)(h:x.lookup f=some d):∃v,y.lookup f=some v/\CA K ρ H d v:=by
 induction u with
 | nil=>simp at h
 | @cons a b _ _ r t I=>
  obtain⟨g,a⟩:=a;obtain⟨l,A⟩:=r;dsimp only at l A;rw[show b=(b.1,b.2)from rfl,<-l];rw[GV]at h ⊢
  cases m:(f==g)with
  | true=>ext
  | false=>rw[m]at h;exact I h
noncomputable def KQ(f:Str)(v:D):List (Str×D)->List (Str×D)
 | []=>[(f,v)]
 | (g,x) :: r=>if g=f then(g,v) :: r else(g,x) :: KQ f v r
theorem KVR.putF{K}{ρ}{H}(f:Str){d}{v}(m:CA K ρ H d v){x:List (Str×D)}{y:List (Str×V)}(u:KVR K ρ H x y):KVR K ρ H (KQ f d x) (putF f v y):=by
 induction u with
 | nil=>exact .cons ⟨rfl,m⟩ .nil
 | @cons a b _ _ r t I=>
  obtain⟨g,a⟩:=a;obtain⟨B,b⟩:=b;obtain⟨o,A⟩:=r;dsimp only at o;subst o;unfold KQ L2.putF
  by_cases l:g=f
  ·rw[qX l,qX l];exact .cons ⟨rfl,m⟩ t
  ·rw[qY l,qY l];exact .cons ⟨rfl,A⟩ I
def KVR.length{l:Type}{K:AI}{ρ:List AU}{H:Hp}{x:List (l×D)}{y:List (l×V)}(h:KVR K ρ H x y):x.length=y.length:=FP h
def D3(C:AU)(f:Str)(m:ME):ME:=λe S=>(m e S).bind λd l=>match d with
 | .ref n=>match l[n]? with
  | some (.ins o fs)=>if o=C then(match fs.lookup f with | some v=>.ok v l | none=>.bad)else .bad
  | _=>.bad
 | _=>.bad
def J1(C:AU)(f:Str)(mo mv:ME):MS:=λe S=>(mv e S).lift e λv m=>(mo e m).lift e λd l=>match d with
 | .ref n=>match l[n]? with
  | some (.ins o fs)=>if o=C/\fs.length < 1000 then .ok (.nx e) (l.set n (.ins C (KQ f v fs)))else .bad
  | _=>.bad
 | _=>.bad
section
variable{X:Cx}{E:EW}{o e value:Expr}{m mv:ME}
def DN(L:Cls X.K C)(N:FS X.K C f)(O:GE X E e m)(hb:FE e f X.env (CO e X.env)=CO e X.env:=by rfl):GE X E (.Attribute e f P) (D3 C f m):=(t8 O hb).imp<|by
 rintro σ H Q ⟨R,l,S,T,U,A⟩
 refine⟨R,l,S,T,U,A.seq λx Y A G Z v l1 J r1=>?_⟩
 cases x <;> first | exact A.elim | skip
 rename_i n;dsimp only at A
 cases B:Y[n]? with
 | none=>rw[B]at A;exact A.elim
 | some ob=>
  rw[B]at A
  cases ob <;> first | exact A.elim | skip
  rename_i C' fs;dsimp only at A;split at A
  ·rename_i hC
   rw[hC]at B
   cases r1 with
   | ref zR=>
    obtain⟨dx,Ϣ,e1,e2⟩:=J.ob n _ _ B zR
    cases I:fs.lookup f with
    | none=>rw[I]at A;exact A.elim
    | some w=>
     rw[I]at A;obtain⟨v,h3,h4⟩:=KVR.lookup f e2 I;exact⟨_,_,dx,Ϣ,v,rfl,e1,L,N,h3,A G Z v l1 J h4⟩
  ·exact A.elim
def KR(hc:Cls X.K C)(hn:FS X.K C f)(ha:GE X E o m)(hv:GE X E value mv)(hs:G1 value (some (.Attribute o f I)) O.line X.env=pure false:=by rfl):GS X E (.Assign [.Attribute o f I] value O) (J1 C f m mv):=(tY ha hv hs).imp<|by
 rintro D σ H ⟨ρ,l,S,J,hs,A⟩
 refine⟨ρ,l,S,J,hs,A.lift J .refl λv S1 A P H1 y G s1 r1=>⟨P,l,S1,J.mono G,s1,(A.later G).lift (J.mono G) G λx S2 A B Y u Q Z r2=>?_⟩⟩
 cases x <;> first | exact A.elim | skip
 rename_i n;dsimp only at A
 cases N:S2[n]? with
 | none=>rw[N]at A;exact A.elim
 | some ob=>
  rw[N]at A
  cases ob <;> first | exact A.elim | skip
  rename_i C' fs;dsimp only at A;split at A
  ·rename_i R
   obtain⟨R,L⟩:=R;rw[R]at N
   cases r2 with
   | ref T=>
    obtain⟨U,Ϣ,e1,e2⟩:=Z.ob n _ _ N T;have le:Le X.K B Y B (upd Y _ (.ins C U (putF f y Ϣ))):=Le.write T (by rw[e1];trivial);obtain⟨s3,l3⟩:=Z.write (o:=.ins C (KQ f v fs)) T ⟨U,_,Bz,(KVR.putF f (r1.mono Q) e2).mono le⟩ le;refine⟨_,C,U,Ϣ,rfl,e1,hc,hn,by rw[<-KVR.length e2];exact L,?_⟩;exact A B _ σ (G.trans (Q.trans l3)) s3 (J.mono (G.trans (Q.trans l3)))
  ·exact A.elim
end
def ExAt(A:AU->Prop)(F:Option AG->Prop)(l C:AU)(H:Hp)(h:B0):Prop:=
 H l=none/\A l/\∃(m:Obj) (o:Array AG) (I:AG),h.get? l=some m/\m.cls=.ref C/\(m.dict=none/\m.data=.fields o)/\o[0]?=some I /\
  ((F none/\o[1]?=some .none)∨∃(T:AU) (B:Obj) (E:Array AG) (G:AG),F (some G)/\o[1]?=some (.ref T)/\T≠l/\H T=none/\A T/\h.get? T=some B/\B.data=.fields E/\E[3]?=some G)
def CXG(P:BN)(w:Bo):CXT:=λl H s E e m=>∃A C o,e=.ref A/\m.os=s.os/\Ko m.gens/\Un (frs l) [] H o s.heap m.heap/\HOk P w o m.heap/\ExAt (λb=>s.heap.get? b=none) (· = some .none) A C o m.heap/\E (.ref C) none o
def Inv.with(I:Inv X N O H s)(z:AG->AK->Prop):Inv { X with xe:=z } N O H s:=by
 obtain⟨ok,a,b,c,d,e,f,g,i,j,l⟩:=I;obtain⟨P,Q,R,S,T,U,Y,Z,o9,m,o,A,B,C,E,G,J,L⟩:=ok;exact⟨⟨P,Q,R,S,T,U,Y,Z,o9,m,o,A,B,C,E,G,J,L⟩,a,b,c,d,e,f,g,i,j,l⟩
def Inv.without(I:Inv { X with xe:=z } l m H s):Inv X l m H s:=by
 have:=I.with X.xe
 exact this
structure Good(X:Cx)(E:EW):Prop where
 pass:Lv (CXG X.prog X.w) X (eD E)
 own:Wr (Ac X.prog X.w) X.A X.env X.xe
 made:∀(ζ:List (AU×Obj)) (σ:St) (H:Hp) (s:AK) (h':B0) (ea C:AU) (args:List AG),Inv X ζ σ H s->E C σ H->B0.MadeExcOf s.heap h' ea (.ref C) args->X.xe (.ref ea) { s with heap:=h' }
def good_none(m:X.xe=λ_ _=>False):Good X noE:=by
 refine⟨λA B H s e E I h=>?_,by rw[m];exact Wr.never,λ_ _ _ _ _ _ _ _ _ w _=>w.elim⟩;obtain⟨G,C,J,rfl,os,l,un,o,x,_,c,L,w⟩:=h;exact w.elim
noncomputable def JV(n:Nat)(l:List D):Lo:=l.map some++Bs (n - l.length) none
def aT{K}{ρ}{H}{N}{l}{vs}(r:Av K ρ H l vs):Gg K ρ H (JV N.length l) (start N vs):=by
 refine⟨by simp[JV,start,r.length],λi d q=>?_⟩;unfold JV at q;unfold start
 by_cases m:i < l.length
 ·rw[AV (by simpa using m),AX]at q
  rw[AV (by rw[AH,<-r.length];exact m),AX]
  cases e:l[i]? with
  | none=>rw[e]at q;cases q
  | some o=>
   rw[e]at q;cases q;obtain⟨v,A,B⟩:=r.get e;ext
 ·rw[BA (by simpa using m),Ds]at q
  ext
section
variable{X:Cx}
noncomputable def intOp(C:Int->Int->Prop)[∀i j,Decidable (C i j)](g:Int->Int->D):D->D->Sto->Res D
 | .int i,.int j,S=>if C i j then .ok (g i j) S else .bad
 | _,_,_=>.bad
def kZ[∀i j,Decidable (C i j)](h:intOp C g a b S=.ok d l):∃i j,a=.int i/\b=.int j/\C i j/\d=g i j/\l=S:=by
 unfold intOp at h;split at h
 ·lia
 ·cases h
def OX[∀i j,Decidable (C i j)](l:∀ρ H i j,CA X.K ρ H (g i j) (v i j))(h:OpR X f (rI C v)):OpR X f (rD X.K (intOp C g)):=h.imp<|by
 rintro x y H Q ⟨ρ,S,a,b,d,G,m,o,A,B,k⟩
 obtain⟨i,j,rfl,rfl,E,rfl,rfl⟩:=kZ B;cases o;cases A;exact⟨i,j,rfl,rfl,E,k ρ H _ .refl m (l _ _ _ _)⟩
def NZ(l:∀ρ H i j,CA X.K ρ H (g i j) (v i j))(h:OpR X f (rI0 v)):OpR X f (rD X.K (intOp (λ_ _=>True) g)):=
 OX l (h.imp λx y H Q ⟨i,j,m,o,_,q⟩=>⟨i,j,m,o,q⟩)
instance(i j:Int):Decidable (lz i j):=inferInstanceAs (Decidable (_/\_))
instance(i j:Int):Decidable (bq i j):=inferInstanceAs (Decidable (_/\_/\_))
instance(i j:Int):Decidable (Zl i j):=inferInstanceAs (Decidable (_∨_))
abbrev QV:=intOp (λ_ _=>True) λi j=>.int (i - j)
abbrev ay:=intOp Zl λi j=>.int (i * j)
abbrev Pw:=intOp lz λi j=>.int (i / j)
abbrev Qk:=intOp (λ_ j=>0 < j) λi j=>.int (i % j)
abbrev tj:=intOp bq λi j=>.int (i ^ j.toNat)
abbrev ltD:=intOp (λ_ _=>True) λi j=>.bl (decide (i < j))
abbrev leD:=intOp (λ_ _=>True) λi j=>.bl (decide (i<=j))
abbrev gtD:=intOp (λ_ _=>True) λi j=>.bl (decide (j < i))
abbrev geD:=intOp (λ_ _=>True) λi j=>.bl (decide (j<=i))
def Jd:OpR X (Cw .Sub) (rD X.K QV):=NZ (λ_ _ _ _=>.int _) uC
def au:OpR X (Cw .Mult) (rD X.K ay):=OX (λ_ _ _ _=>.int _) uG
def Pj:OpR X (Cw .FloorDiv) (rD X.K Pw):=OX (λ_ _ _ _=>.int _) pI
def Ld:OpR X (Cw .Mod) (rD X.K Qk):=OX (λ_ _ _ _=>.int _) uH
def uP:OpR X (Cw .Pow) (rD X.K tj):=OX (λ_ _ _ _=>.int _) uF
def cX:OpR X (Cd .Lt) (rD X.K ltD):=NZ (λ_ _ _ _=>.bl _) xU
def Y5:OpR X (Cd .LtE) (rD X.K leD):=NZ (λ_ _ _ _=>.bl _) xV
def rG:OpR X (Cd .Gt) (rD X.K gtD):=NZ (λ_ _ _ _=>.bl _) xW
def xa:OpR X (Cd .GtE) (rD X.K geD):=NZ (λ_ _ _ _=>.bl _) xX
noncomputable def GB:D->D->Sto->Res D
 | .int i,.int j,S=>.ok (.int (i+j)) S
 | .tup m,.tup o,S=>if m.length+o.length<=sizeLine then .ok (.tup (m++o)) S else .bad
 | .ref l,.ref b,S=>match S[l]?,S[b]? with
  | some (.lst m),some (.lst o)=>if m.length+o.length<=sizeLine then .ok (.ref S.length) (S++[.lst (m++o)])else .bad
  | _,_=>.bad
 | _,_,_=>.bad
def xK(K:AI):R2:=λx y H Q=>∃a b l m,x=.ref a/\y=.ref b/\H a=some (.tup l)/\H b=some (.tup m)/\l.length+m.length<=sizeLine /\
 (l=[]->Q (.ref b) H)/\(m=[]->Q (.ref a) H)/\(∀p,H p=none->Q (.ref p) (upd H p (.tup (l++m))))
def pK:OpR X (Cw .Add) (xK X.K):=by
 intro N s O H x y v u Q I P R h;obtain⟨a,b,B,S,rfl,rfl,C,hb,T,U,Y,Z⟩:=h;cases P;cases R;obtain⟨my,r1,p1,_⟩:=I.tuple (.inl (.inl C));obtain⟨zf,r2,p2,_⟩:=I.tuple (.inl (.inl hb))
 by_cases m:B=[]
 ·obtain⟨⟨cls,dd,data,sl⟩,E,G,n,J⟩:=id p1
  obtain⟨⟨L,o,data2,A⟩,l,hc2,n2,hd2⟩:=id p2;simp only at G J hc2 hd2;subst G J hc2 hd2;have hi:=r1.nil_iff.mpr m
  exact iB ⟨_,E,rfl⟩ ⟨_,l,rfl⟩ Wn di LF Kl (KF _ _)
   (tuple_addW0 a b my.toArray zf.toArray n n2 dd o sl A (by simp[hi])) ⟨E,l,⟨.ref b,H,I,rfl,U m⟩⟩
 ·exact pJ N s O H (.ref a) (.ref b) _ _ Q I rfl rfl ⟨a,b,B,S,rfl,rfl,.inl (.inl C),.inl (.inl hb),m,T,Y,λ_ p hp=>Z p hp⟩
def Av.nil_of{K}{ρ}{H}{xs}{vs}(r:Av K ρ H xs vs)(e:vs=[]):xs=[]:=by
 subst e;cases r;rfl
def Dm:OpR X (Cw .Add) (rD X.K GB):=(uK.or (pK.or uI)).imp<|by
 rintro x y H Q ⟨B,S,a,b,d,S',A,ra,L,l,k⟩
 cases ra with
 | int i=>
  cases L <;> first | (cases l;done) | skip
  cases l;exact .inl ⟨_,_,rfl,rfl,k B H _ .refl A (.int _)⟩
 | @tup R a1 T E C=>
  cases L with
  | @tup U b1 ws Y G=>
   unfold GB at l;dsimp only at l;split at l
   ·rename_i N
    cases l;refine .inr (.inl ⟨_,_,_,_,rfl,rfl,E,Y,by rw[<-C.length,<-G.length];exact N,λe=>?_,λe=>?_,λp I=>?_⟩)
    ·rw[C.nil_of e,md]at k
     exact k B H _ .refl A (.tup Y G)
    ·rw[G.nil_of e,Bp]at k
     exact k B H _ .refl A (.tup E C)
    ·obtain⟨O,J⟩:=JH A I
     exact k B _ _ J O (.tup Bz ((C.append G).mono J))
   ·cases l
  | _=>cases l
 | @ref n a1 hn=>
  cases L with
  | @ref m b1 zR=>
   unfold GB at l;dsimp only at l;split at l
   ·rename_i R U E C
    split at l
    ·rename_i N
     cases l;obtain⟨T,e1,Z⟩:=A.ob _ _ _ E hn;obtain⟨us,e2,r2⟩:=A.ob _ _ _ C zR;refine .inr (.inr ⟨_,_,_,_,rfl,rfl,e1,e2,by rw[<-Z.length,<-r2.length];exact N,λp I=>?_⟩);have le:Le X.K B H (B++[p]) (upd H p (.lst (T++us))):=Le.alloc I;obtain⟨O,J,P⟩:=A.alloc (o:=.lst (R++U)) I ⟨_,Bz,(Z.append r2).mono le⟩;exact k _ _ _ J O (.ref P)
    ·cases l
   ·cases l
  | _=>cases l
 | _=>cases l
def ixD:D->D->Sto->Res D:=λa b S=>match Ga a S,b with
 | some l,.int i=>match atI l i with
  | some d=>.ok d S
  | none=>.bad
 | _,_=>.bad
def qc{K}{ρ}{H}{l}{vs}{i}{d}(r:Av K ρ H l vs)(h:atI l i=some d):∃v,atI vs i=some v/\CA K ρ H d v:=by
 unfold atI at h ⊢;rw[<-r.length]
 cases m:ixN l.length i with
 | none=>ext
 | some j=>
  rw[m]at h;exact r.get h
def xZ:IxR X (rD X.K ixD):=(ix_list.or uk).imp<|by
 rintro x y H Q ⟨o,S,a,b,d,N,m,E,G,l,k⟩
 unfold ixD at l;split at l
 ·rename_i O i I
  split at l
  ·rename_i P J
   cases l;cases G;obtain⟨p,A,rfl,L,sq⟩:=SH m E I;obtain⟨v,B,C⟩:=qc L J
   rcases sq with sq | sq
   ·exact .inl ⟨p,A,_,v,rfl,rfl,sq,B,k o H v .refl m C⟩
   ·exact .inr ⟨p,A,_,v,rfl,rfl,sq,B,k o H v .refl m C⟩
  ·cases l
 ·cases l
end
def mQ(f:List D->Sto->Res D)(m:ML):ME:=λe S=>(m e S).bind λl o=>okR (f l o)
section
variable{X:Cx}{E:EW}{e:Expr}{es:List Expr}{x:Str}{p pos:Pos}{ml:ML}{id T:String}{r:List V->Hp->VK->Prop}{f:List D->Sto->Res D}
def vd(K:AI)(r:List V->Hp->VK->Prop)(f:List D->Sto->Res D):Prop:=∀o H S B q A d C (Q:VK),CS K o S H->Av K o H B A->(SqL K H q A∨SqT K H q A)->f B S=.ok d C ->
 (∀l m z,Le K o H l m->CS K l C m->CA K l m d z->Q z m)->r [.ref q] H Q
def vg(K:AI)(r:List V->Hp->VK->Prop)(f:List D->Sto->Res D):Prop:=∀o H S A B d C (Q:VK),CS K o S H->Av K o H A B->f A S=.ok d C ->
 (∀l m z,Le K o H l m->CS K l C m->CA K l m d z->Q z m)->r B H Q
def yT(K:AI)(r:List V->Hp->VK->Prop)(f:List D->Option (List D)):Prop:=∀o H S B q A es (Q:VK),CS K o S H->Av K o H B A->(SqL K H q A∨SqT K H q A)->f B=some es ->
 (∀l m p C,Le K o H l m->CS K l S m->Av K l m es C->m p=some (.lst C)->(∀n:Nat,l[n]?≠some p)->H p=none->Q (.ref p) m)->r [.ref q] H Q
def Xj(C:Jo X (.builtin id) r)(hf:vd X.K r f)(G:Gl X x)(m:X.mg x=none)(I:G3 x=some (.builtin id))(h:GQ X E e ml)(J:x≠"__name__":=by decide) (L:(x==("__debug__" : Str))=false:=by decide)
  (B:AW [e] X.env=(false,CO e X.env) :: AW [] X.env:=by rfl):GE X E (.Call (.Name x p) [e] [] pos) (mQ f ml):=(Pc C G m I (Fy h IG B) J L B rfl).imp<|by
 rintro σ H Q ⟨N,l,S,O,P,m⟩
 refine⟨N,l,S,O,P,m.seq λR U m o Y q Z l1 s1 r1 sq=>?_⟩;obtain⟨d,S',e,k⟩:=m.okR
 exact hf o Y U R q Z d S' Q s1 r1 sq e λA H' z l' s' r'=>k A H' z (l1.trans l') s' r'
def dF(B:Jo X (.builtin id) r)(hf:vg X.K r f)(C:Gl X x)(m:X.mg x=none)(G:G3 x=some (.builtin id))(h:GA X E (e :: es) ml)(I:x≠"__name__":=by decide) (J:(x==("__debug__" : Str))=false:=by decide)
  (L:AW (e :: es) X.env=(false,CO e X.env) :: AW es X.env:=by rfl) (N:(E1 pos (AW es X.env)).any (·.1)=false:=by rfl):GE X E (.Call (.Name x p) (e :: es) [] pos) (mQ f ml):=(Pc B C m G h I J L N).imp<|by
 rintro σ H Q ⟨O,l,S,P,R,m⟩
 refine⟨O,l,S,P,R,m.seq λU Y m o Z xs l1 s1 r1=>?_⟩;obtain⟨d,S',e,k⟩:=m.okR
 exact hf o Z Y U xs d S' Q s1 r1 e λA H' z l' s' r'=>k A H' z (l1.trans l') s' r'
def mN(f:List D->Option (List D))(m:ML):ML:=λe S=>(m e S).bind λl o=>match f l with
 | some es=>.ok es o
 | none=>.bad
def pq{f}(P:Jo X (.type T) r)(hf:yT X.K r f)(R:Gl X x)(m:X.mg x=none)(U:G3 x=some (.type T))(h:GQ X E e ml)(o:x≠"__name__":=by decide) (Y:(x==("__debug__" : Str))=false:=by decide)
  (I:AW [e] X.env=(false,CO e X.env) :: AW [] X.env:=by rfl):GL X E (.Call (.Name x p) [e] [] pos) (mN f ml):=(Qe P R m U (Fy h IG I) o Y I rfl).imp<|by
 rintro σ H Q ⟨Z,l,S,hl,J,m⟩
 refine⟨Z,l,S,hl,J,m.seq λL S1 m A H1 q xs N O r1 sq=>?_⟩
 cases B:f L with
 | none=>rw[B]at m;exact m.elim
 | some es=>
  rw[B]at m
  exact hf A H1 S1 L q xs es Q O r1 sq B λC H' p ys l' s' r' hp o G=>m C H' p ys (N.trans l') s' r' hp o (N.back J O G)
noncomputable def xl(l:List D)(S:Sto):Res D:=.ok (.int l.length) S
def tJ:vd X.K (λxs H Q=>∃p l,xs=[.ref p]/\(SqL X.K H p l∨SqT X.K H p l)/\Q (.int l.length) H) xl:=λm H S C q xs d G Q o A sq B k=>by
 cases B;exact⟨q,xs,rfl,sq,k m H _ .refl o (by rw[A.length];exact .int _)⟩
noncomputable def OE:List D->Sto->Res D
 | [.int i,.int j],S=>.ok (.int (if j < i then j else i)) S
 | _,_=>.bad
noncomputable def RP:List D->Sto->Res D
 | [.int i,.int j],S=>.ok (.int (if j > i then j else i)) S
 | _,_=>.bad
def qf:vg X.K (λxs H Q=>∃i j,xs=[.int i,.int j]/\Q (.int (if j < i then j else i)) H) OE:=λm H S B xs d C Q o A l k=>by
 unfold OE at l;split at l
 ·cases l
  cases A with
  | cons a t=>
   cases t with
   | cons b t=>
    cases t;cases a;cases b;exact⟨_,_,rfl,k m H _ .refl o (.int _)⟩
 ·cases l
def qg:vg X.K (λxs H Q=>∃i j,xs=[.int i,.int j]/\Q (.int (if j > i then j else i)) H) RP:=λm H S B xs d C Q o A l k=>by
 unfold RP at l;split at l
 ·cases l
  cases A with
  | cons a t=>
   cases t with
   | cons b t=>
    cases t;cases a;cases b;exact⟨_,_,rfl,k m H _ .refl o (.int _)⟩
 ·cases l
noncomputable def WN(l:List D):Option (List D):=some l
def oM:yT X.K (λxs H Q=>∃p m,xs=[.ref p]/\(SqL X.K H p m∨SqT X.K H p m)/\∀l,H l=none->Q (.ref l) (upd H l (.lst m))) WN:=λC H S L q xs es Q A G sq I k=>by
 cases I;refine⟨q,xs,rfl,sq,λl o=>?_⟩;obtain⟨J,B⟩:=JH A o;exact k C _ l xs B J (G.mono B) Bz (λn e=>A.notIn o e) o
end
noncomputable def D4(X:Cx)(scope:VD)(N':List Str)(o:List (Str×AU))(C:AU)(l:AK)(m:Hp)(ex:List AU)(pn:List (AU×Obj)):Cx where
 prog:=X.prog
 w:=X.w
 K:=X.K
 mg:=X.mg
 base:=X.base
 A:=X.A
 N:=N'
 s₀:=l
 H₀:=m
 env:=compEnvC scope o C X.env
 outer:=X.stack
 stack:=X.stack
 ex:=ex
 fn:=λx=>scope.names.lookup x==some .cell
 calm:=X.calm
 pn:=pn
 xe:=λ_ _=>False
theorem Xs:∀(names:List (Str×QH)) (l:List (Str×AU)),(∀y∈names,y.2=.free->∃c,A.cells.lookup y.1=some c)->(∀n c,l.lookup n=some c->A.cells.lookup n=some c) ->
  ∃B,(forIn names l (λ(x:Str×QH) (J:List (Str×AU))=>match x with | (name,kind)=>if (kind==GU)=true then do let a <-cellOf A name;pure (IX ((name,a) :: J))else pure (IX J)):Sem (List (Str×AU)))=pure B /\
   (∀n c,B.lookup n=some c->A.cells.lookup n=some c)/\(∀n c,l.lookup n=some c->∃N,B.lookup n=some N)/\∀y∈names,y.2=.free->∃c,B.lookup y.1=some c
 | [],l,_,C=>⟨l,rfl,C,λn c h=>⟨c,h⟩,λ_ h=>nomatch h⟩
 | (n,k) :: r,l,h,C=>by
  rw[mf]
  by_cases L:k=.free
  ·subst L
   obtain⟨c,O⟩:=h (n,.free) Ae rfl
   obtain⟨B,e,E,G,H⟩:=Xs r ((n,c) :: l) (λy o=>h y (AT _ o)) (λm d P=>by
    grind)
   have Q:cellOf A n=pure c:=by unfold cellOf;rw[O]
   refine⟨B,?_,E,λm d P=>G m (if m==n then c else d) ?_,λy o I=>?_⟩
   ·simp only[beq_self_eq_true,if_true,Q,pure_bind]
    exact e
   ·grind
   ·rcases Aw.mp o with rfl | o
    ·ext
    ·exact H y o I
  ·have hb:(k==GU)=false:=by simpa using L
   obtain⟨B,e,E,G,H⟩:=Xs r l (λy o=>h y (AT _ o)) C;refine⟨B,?_,E,G,λy o I=>?_⟩
   ·simp only[hb,Eb,if_false,pure_bind]
    exact e
   ·rcases Aw.mp o with rfl | o
    ·ext
    ·exact H y o I
def dS(h:∀y∈scope.names,y.2=.free->∃c,l.cells.lookup y.1=some c):∃m,closureFor scope l=pure m /\
  (∀n c,m.lookup n=some c->l.cells.lookup n=some c)/\∀y∈scope.names,y.2=.free->∃c,m.lookup y.1=some c:=by
 obtain⟨m,e,o,_,A⟩:=Xs scope.names [] h (λn c z=>by simp at z);refine⟨m,?_,o,A⟩;unfold closureFor;exact(congrArg (λz=>z >>= λB=>pure B) e).trans (by rfl)
def bm(X:Cx)(l:List Expr)(t:TT):Prop:=
 ∀(o:List (AU×Obj)) (s:AK) (m:St) (H:Hp) (Q:Bool->Hp->Prop),Inv X o m H s->t m H Q ->
  Ak (Ac X.prog X.w) X.A (forIn l true λc r=>if r=true then do let ok <-Z0 c X.env (CO c X.env);pure (IX ok)else pure (IX r)) (TP X o m Q) X.xe s
def ja:bm X [] (λ_ H Q=>Q true H):=λl s m H Q I h=>wpAny_tests_nil ⟨H,I,h⟩
def jZ(h:PT X c t):bm X [c] t:=λl s m H Q I q=>wpAny_tests_one (h l s m H Q I q)
structure Os(X:Cx)(scope:VD)(own N':List Str):Prop where
 kind:scope.kind=.function
 names:∀y∈scope.names,y.2=.local->scope.names.lookup y.1=some .local
 free:∀y∈scope.names,y.2=.free->X.env.kindOf y.1=some .cell∨X.env.kindOf y.1=some .free
 len:N'.length=own.length+X.N.length
 up:∀i x,N'[own.length+i]?=some x->Vis (Kh scope X.env) x->(X.N[i]?=some x/\Vis X.env.scope x/\((Kh scope X.env).names.lookup x=some .cell∨(Kh scope X.env).names.lookup x=some .free)/\X.env.kindOf x≠some .local)/\(x,DV)∉scope.names/\(x,GU)∈scope.names
 vis:∀x,((Kh scope X.env).names.lookup x=some .cell∨(Kh scope X.env).names.lookup x=some .free)->(x,GU)∈scope.names∨(x,DV)∈scope.names
theorem F9:∀(names:List (Str×QH)) (n:Nat) (l:List (Str×AU)) (x:Str) (c:AU),(CT n names l).lookup x=some c ->
  ((x,DV)∈names/\n<=c)∨l.lookup x=some c
 | [],_,_,_,_,h=>.inr h
 | (y,k) :: r,n,l,x,c,h=>by
  unfold CT at h;split at h
  ·rename_i o
   have o:k=.cell:=by simpa using o
   subst o
   rcases F9 r (n+1) _ x c h with⟨m,A⟩ | m
   ·exact .inl ⟨AT _ m,Rg A⟩
   grind
  ·rcases F9 r n l x c h with⟨m,A⟩ | m
   ·ext
   ·exact .inr m
theorem Dd:∀(names:List (Str×QH)) (n:Nat) (l:List (Str×AU)) (x:Str),(∃c,l.lookup x=some c)->∃c,(CT n names l).lookup x=some c
 | [],_,_,_,h=>h
 | (y,k) :: r,n,l,x,h=>by
  unfold CT;split
  ·refine Dd r (n+1) _ x ?_
   grind
  ·exact Dd r n l x h
theorem Ep:∀(names:List (Str×QH)) (n:Nat) (l:List (Str×AU)) (x:Str),(x,DV)∈names->∃c,(CT n names l).lookup x=some c/\n<=c
 | (y,k) :: r,n,l,x,h=>by
  unfold CT
  by_cases o:(x,DV)∈r
  ·split
   ·obtain⟨c,m,B⟩:=Ep r (n+1) ((y,n) :: l) x o
    exact⟨c,m,Rg B⟩
   ·exact Ep r n l x o
  ·rcases Aw.mp h with e | e
   ·cases e
    rw[qX (show(DV==DV)=true from rfl)];obtain⟨c,A⟩:=Dd r (n+1) ((y,n) :: l) y ⟨n,by rw[GV,beq_self_eq_true]⟩
    rcases F9 r (n+1) _ y c A with⟨m,_⟩ | m
    ·exact(o m).elim
    ·rw[GV,beq_self_eq_true]at m
     cases m;exact⟨n,A,AJ _⟩
   ext
def Nt(o:(x,DV)∉names)(h:l.lookup x=some c):(CT n names l).lookup x=some c:=by
 obtain⟨A,B⟩:=Dd names n l x ⟨c,h⟩
 rcases F9 names n l x A B with⟨m,_⟩ | m
 ·exact(o m).elim
 ext
theorem Kc:∀(names:List (Str×QH)) (n:Nat) (l:List (Str×AU)),(∀x c,l.lookup x=some c->c < n)->(∀x y c,l.lookup x=some c->l.lookup y=some c->x=y) ->
  ∀x y c,(CT n names l).lookup x=some c->(CT n names l).lookup y=some c->x=y
 | [],_,_,_,h=>h
 | (z,k) :: r,n,l,o,h=>by
  unfold CT;split
  ·have m:∀x c,((z,n) :: l).lookup x=some c->(x=z/\c=n)∨l.lookup x=some c:=λx c q=>by
    rw[GV]at q
    cases hb:x==z with
    | true=>rw[hb]at q;cases q;exact .inl ⟨beq_iff_eq.mp hb,rfl⟩
    | false=>rw[hb]at q;exact .inr q
   refine Kc r (n+1) _ (λx c q=>?_) λx y c A B=>?_
   ·rcases m x c q with⟨_,rfl⟩ | e
    ·exact Da _
    ·exact Ey (o x c e)
   grind
  ·exact Kc r n l o h
theorem Kb:∀(names:List (Str×QH)) (h:B0) (m:List (Str×AU)) (x:Str) (c:AU),(CT h.objs.size names m).lookup x=some c->m.lookup x=some c∨((G2 h names).IsCell c none/\h.objs.size<=c)
 | [],_,_,_,_,q=>.inl q
 | (y,k) :: r,h,m,x,c,q=>by
  unfold CT at q;unfold G2;split at q
  ·rename_i o
   rw[qX o];have:=Kb r (h.push { cls:=.type "cell",data:=.cell none }) ((y,h.objs.size) :: m) x c (by ext)
   rcases this with e | ⟨e,l⟩
   ·rw[GV]at e
    cases hb:x==y with
    | true=>
     rw[hb]at e;cases e;exact .inr ⟨⟨_,YI _ _ _ _ (AS _ rfl),rfl⟩,AJ _⟩
    | false=>ext
   ·exact .inr ⟨e,by rw[DJ]at l;exact Rg l⟩
  ·rename_i o
   rw[qY o];exact Kb r h m x c q
def aC
  (h:Q (newEnv scope s.heap.objs.size globals (CT (s.heap.push { cls:=.type "dict",data:=.dict #[] }).objs.size scope.names G) m none .none (some l) Z2) { s with heap:=G2 (s.heap.push { cls:=.type "dict",data:=.dict #[] }) scope.names }) :
  Ak M A (Zz scope globals G [] m none .none (some l)) Q E s:=by
 simp only[Zz,bv,if_true];refine AA (wpAny_alloc ?_);refine AA (wpAny_layCells _ (λB C o=>by rfl) _ _ _ _ ?_);rw[Vv];exact AA (AD (AD h))
section
def bW(P:Os X scope own N')(I:Inv X ζ S Q E)(hf:∀b∈fp,Oq X ζ Q b)(Χ:∀b∈fp,b < E.heap.objs.size)
  (l:∀n c,B.lookup n=some c->X.env.cells.lookup n=some c) (c2:∀y∈scope.names,y.2=.free->∃c,B.lookup y.1=some c)
  (T:E.heap.objs.size<=n) (G:∀x c,(CT n scope.names B).lookup x=some c->B.lookup x=some c∨(s.heap.IsCell c none/\n<=c)) (hHn:∀c,n<=c->H c=none)
  (U:E.heap.objs.size<=C) (hn:s.heap.Ns C m) (ϟ:s.os=E.os) (hg:Ko s.gens)
  (u:Un (frs X.stack) fp Q H E.heap s.heap) (Y:HOk X.prog X.w H s.heap) (Z:H C=none) :
  Inv (D4 X scope N' (CT n scope.names B) C E Q fp (X.pn++ζ)) [] (Bs own.length none++S) H s:=by
 have A:∀x c v,B.lookup x=some c->E.heap.IsCell c v->s.heap.IsCell c v:=by
  rintro x c v e ⟨o,ho,hd⟩
  obtain⟨sl,q⟩:=u.any ho (I.freeC x c (l x c e)) λz=>(hf c z).2.2.2.2.1 x c (l x c e) rfl
  exact⟨_,q,hd⟩
 have clt:∀x c,B.lookup x=some c->c < n:=λx c e=>by
  obtain⟨v,z⟩:=I.cell x c (l x c e);exact AR z.lt T
 have ok':(D4 X scope N' (CT n scope.names B) C E Q fp (X.pn++ζ)).Ok:=by
  refine⟨I.ok.mod,P.kind,I.ok.glob,I.ok.blt,U,Kc _ _ _ clt λx y c h1 h2=>I.ok.inj x y c (l x c h1) (l y c h2),λx hx=>?_,λx c z q=>?_,I.ok.hd,I.ok.frames,.inl rfl,λb hb=>?_,I.bs,Al I.ok.bsz I.sz,λb o e hb=>?_,λb hb hb'=>?_,I.stack,I.stkFree⟩
  ·rcases P.vis x hx with h | h
   ·exact Dd _ _ _ _ (c2 _ h rfl)
   ·obtain⟨c,hc,_⟩:=Ep scope.names n B x h
    exact⟨c,hc⟩
  ·have z:=z
   obtain⟨c',J,hl⟩:=Ep scope.names n B x (Dw (beq_iff_eq.mp z));have q:(CT n scope.names B).lookup x=some c:=q;rw[J]at q;cases q;exact Al T hl
  ·refine⟨Au (AR (Χ b hb) U),λx c e=>?_⟩
   rcases G x c e with e | ⟨_,e⟩
   ·exact(hf b hb).2.2.2.2.1 x c (l x c e)
   ·exact EM (AR (Χ b hb) (Al T e))
  ·obtain⟨_,_,_,z,_⟩:=hf b hb
   rcases z with z | z
   ·exact I.ok.noex b o e z
   ·exact zX (AR (Aa (I.ok.bs b o e).1) z) (FY _)
  ·obtain⟨_,z1,z2,_⟩:=hf b hb
   rcases Aw.mp (I.stkSub b hb')with e | e
   ·exact z1 e
   ·exact z2 e
 refine⟨ok',ϟ,hg,u,⟨m,hn,λi x v e1 R e3=>?_⟩,λx c e=>?_,Z,λx c e=>?_,λp hp=>?_,Y,?_⟩
 ·have hi:own.length<=i:=by
   apply Sg
   intro yw;rw[AV (by simpa using yw),Ds,qX yw]at R;cases R
  obtain⟨j,rfl⟩:∃j,i=own.length+j:=⟨i - own.length,by ext⟩
  rw[BA (by simp)]at R
  have e2':S[j]?=some (some v):=by simpa using R
  obtain⟨⟨n1,n2,n3,n4⟩,n5,n6⟩:=P.up j x e1 e3;obtain⟨m0,hn0,hl⟩:=I.loc;obtain⟨w',r,lk⟩:=hl j x v n1 e2' n2;refine⟨w',r,.inr ⟨n3,?_⟩⟩
  rcases lk with⟨k,_⟩ | ⟨_,c,hc,zr⟩
  ·ext
  ·obtain⟨c',J⟩:=c2 _ n6 rfl
   have e:=l x c' J;rw[hc]at e;cases e;exact⟨c,Nt n5 J,A x c _ J zr⟩
 ·rcases G x c e with e | ⟨e,_⟩
  ·obtain⟨v,z⟩:=I.cell x c (l x c e)
   exact⟨v,A x c v e z⟩
  grind
 ·rcases G x c e with e | ⟨_,e⟩
  ·obtain⟨v,o,ho,hd⟩:=I.cell x c (l x c e)
   exact u.free c o ho (I.freeC x c (l x c e)) λz=>(hf c z).2.2.2.2.1 x c (l x c e) rfl
  ext
 ·have L:p∈X.pn++ζ:=by
   have hp:=hp;rwa [Bp]at hp
  obtain⟨e,n,ne,nf,d⟩:=I.pin p L
  have N:p.1∉frs X.stack:=λz=>(Aw.mp (I.stkSub _ z)).elim ne nf
  have O:p.1∉fp:=λz=>(hf _ z).2.2.2.2.2 p L rfl
  exact⟨u.keep p.1 p.2 e n N O,u.free p.1 p.2 e n O,Au (AR (Aa e) U),N,d⟩
 ·show(Bs own.length none++S).length=N'.length
  rw[AY,aB,I.len,P.len]
def i6(k:Nat)(O:TI)(g:TG)(tc:TT)(te:TE):TE:=λE H Q=>O E H λJ G=>∀p,G p=none->∃W:Nat->Nat->St->Hp->List V->Prop,(∃m,W 0 m (Bs k none++E) (upd G p (.lst [])) []) /\
 ∀i m B A o,W i m B A o->A p=some (.lst o)/\((J.stop i A/\Q (.ref p) A)∨(J.go i A/\o.length < sizeLine/\∀x I,J.yld i A x I->g x B I λl P=>tc l P λb L=>
  if b=true then te l L λy N=>N p=some (.lst o)/\∃C,C < m/\W (i+1) C l (upd N p (.lst (o++[y]))) (o++[y])else ∃C,C < m/\W (i+1) C l L o))
def gd{X':Cx}{Z ϖ iter:Expr}{ifs:List Expr}{pos:Pos}{J:It}{it p:AU}{tn:Nat->B0->Prop}{g:TG}{tc:TT}{te:TE}{R:iC->AK->Prop}{Q:Hp->Prop}
  (hc:X'.calm=true) (hx:X'.xe=λ_ _=>False) (T:Vl X'.prog X'.w X'.K ϖ J S it tn) (hg:PG X' ϖ g) (ν:bm X' ifs tc) (he:PE X' Z te)
  (W:Nat->Nat->St->Hp->List V->Prop) (turn:∀i m l B xs,W i m l B xs->B p=some (.lst xs)/\((J.stop i B/\Q B)∨(J.go i B/\xs.length < sizeLine/\∀x θ,J.yld i B x θ->g x l θ λH H2=>tc H H2 λb H3=>
   if b=true then te H H3 λy H4=>H4 p=some (.lst xs)/\∃G,G < m/\W (i+1) G H (upd H4 p (.lst (xs++[y]))) (xs++[y])else ∃G,G < m/\W (i+1) G H H3 xs)))
  (fin:∀l B s',Inv X' [] l B s'->Q B->R (.ok .next) s')
  {m0:Nat} {L:St} {H0:Hp} {s0:AK} (I0:Inv X' [] L H0 s0) (st0:tn 0 s0.heap) (f0:∀b∈S,Oq X' [] H0 b) (w0:W 0 m0 L H0 []) :
  Ho (Ac X'.prog X'.w) X'.A (.compLoop (.ListComp Z [⟨ϖ,iter,ifs,0⟩] scope pos) 0 (.ref it) (.ref p) X'.env) R s0:=by
 have G':∀{B:Hp},(∀b∈S,B b=none)->∀b∈S,Oq X' [] B b:=λhn b hb=>⟨hn b hb,(f0 b hb).2⟩
 refine codeAny_loop rfl (λn s'=>∃i l B xs,Inv X' [] l B s'/\tn i s'.heap/\(∀b∈S,B b=none)/\W i n l B xs) (λn s1 hI=>?_) m0 ⟨0,L,H0,[],I0,st0,λb hb=>(f0 b hb).1,w0⟩;obtain⟨i,C,H1,xs,I1,ze,fr1,w1⟩:=hI;refine wpAny_noted ?_;rw[compTurn_list]
 have up:∀{α:Type} {t:Sem α} {P:α->AK->Prop} {E:AG->AK->Prop} {s:AK},Ak (Ac X'.prog X'.w) X'.A t P X'.xe s->Ak (Ac X'.prog X'.w) X'.A t P E s:=λh=>Gk h (λ_ _ z=>z) λ_ _ z=>by ext
 obtain⟨hp,N⟩:=turn i n C H1 xs w1;refine AA (wpAny_standAt (AA ?_))
 rcases N with⟨stop,q⟩ | ⟨go,hz,step⟩
 ·refine up (thn (T.done X' rfl rfl rfl hc i [] s1 C H1 X'.xe I1 (G' fr1) ze stop) ?_);rintro r s4 ⟨hr,I4⟩
  subst hr;exact AD (fin C H1 s4 I4 q)
 ·refine up (thn (T.item X' rfl rfl rfl hc i [] s1 C H1 X'.xe I1 (G' fr1) ze go) ?_);rintro r s4 ⟨u,hr,h4⟩
  subst hr;refine AA (up (thn h4 ?_));rintro _ s5 ⟨x,H5,I5,r5,y5,ϙ,fr5⟩;have I5':=I5.pinned (G' fr5) (T.obj _ _ ϙ);refine AA (up (thn (hg _ s5 C H5 x u _ I5' r5 (step x H5 y5)) ?_));rintro _ s6 ⟨O,H6,I6,q6⟩
  have again:∀{U:AK} {I:St} {X:Hp} {ys:List V},Inv X' ([]++Tn S s5.heap) I X U->(∃G,G < n/\W (i+1) G I X ys)->∃m,m < n/\∃i l B xs,Inv X' [] l B U/\tn i U.heap/\(∀b∈S,B b=none)/\W i m l B xs:=λ{U I X ys} Y ⟨G,hm,w7⟩=>by
   refine⟨G,hm,i+1,I,X,ys,Y.unpinned,T.keep _ _ _ ϙ λb hb o e=>(Y.pin (b,o) (Bh _ (Bh _ (Lh hb e)))).1,λb hb=>?_,w7⟩;obtain⟨o,e,d⟩:=T.obj _ _ ϙ b hb;exact(Y.pin (b,o) (Bh _ (Bh _ (Lh hb e)))).2.1
  refine AA (up (thn (ν _ s6 O H6 _ I6 q6) ?_));rintro ok U ⟨X,Y,q7⟩
  cases ok with
  | false=>
   rw[qY Ab]at q7;exact AD ⟨rfl,again Y q7⟩
  | true=>
   rw[qX rfl]at q7;refine AA (AA (up (thn (he _ U O X _ Y q7) ?_)));rintro yv s8 ⟨y,H8,I8,r8,hp8,q8⟩;refine AA (up (thn (WJ _ s8 O H8 (.ref p) [y] (.ref p) [yv] (λv H9=>v=.non/\H9=upd H8 p (.lst (xs++[y]))) I8 rfl (.cons r8 .nil) ⟨p,xs,y,rfl,rfl,hp8,hz,rfl,rfl⟩) ?_));rintro v9 s9 ⟨v,H9,I9,r9,e9,e10⟩;subst e10;exact AD (AD ⟨rfl,again I9 q8⟩)
end
section
def Wa(N:Inv X G O H A)(J:Inv (D4 X scope N' cl C A H L (X.pn++G)) [] P B s')(Q:A.heap.objs.size<=C)(hf:∀b∈L,Oq X G H b)
  (E:EG C s'.heap h'):Inv X G O B { s' with heap:=h' }:=by
 have ne:∀b o,A.heap.get? b=some o->b≠C:=λb o e=>Au (AR (Aa e) Q)
 have l:=J.base
 have u:Un (frs X.stack) L H B A.heap h':=by
  refine⟨λb o e n hb m=>(E.2 b (ne b o e)).trans (l.keep b o e n hb m),λb o e n hb m=>?_,l.free,λb o e m=>?_,l.tups,l.frzs,l.tbls⟩
  ·obtain⟨sl,q⟩:=l.slot b o e n hb m
   exact⟨sl,(E.2 b (ne b o e)).trans q⟩
  ·obtain⟨R,q⟩:=l.there b o e m
   exact⟨R,(E.2 b (ne b o e)).trans q⟩
 have S:B C=none:=J.free
 have I:HOk X.prog X.w B h':=λa o e=>(J.hok a o e).stay (λb u hb q=>(E.2 b λz=>by
  ext).trans q) (λ_ q=>q) λ_ _ q=>q
 exact N.call' (s':={ s' with heap:=h' }) J.os u I J.bare λb hb=>by
  obtain⟨_,T,z2,U,Y,Z⟩:=hf b hb;exact⟨U,T,Y,Z⟩
def Ua{σ:St}{E:AG->AK->Prop}{Qf:AU->Hp->Prop}{RR:AG->AU->iC->AK->Prop}{it:AU}{J:It}{tn:Nat->B0->Prop}(hc:X.calm=true)(Sc:Os X scope own N')
  (hg:∀I C B G ex pn,PG (D4 X scope N' I C B G ex pn) ϖ g) (ν:∀I C B G ex pn,bm (D4 X scope N' I C B G ex pn) ifs tc) (he:∀I C B G ex pn,PE (D4 X scope N' I C B G ex pn) elt te)
  (c1:∀n c,I.lookup n=some c->X.env.cells.lookup n=some c) (c2:∀y∈scope.names,y.2=.free->∃c,I.lookup y.1=some c)
  (I2:Inv X ζ σ L s2) (T:Vl X.prog X.w X.K ϖ J fp it tn) (tx:tn 0 s2.heap) (f2:∀b∈fp,Oq X ζ L b)
  (q2:∀p,L p=none->∃W:Nat->Nat->St->Hp->List V->Prop,(∃m,W 0 m (Bs own.length none++σ) (upd L p (.lst [])) []) /\
   ∀i m N O xs,W i m N O xs->O p=some (.lst xs)/\((J.stop i O/\Qf p O)∨(J.go i O/\xs.length < sizeLine/\∀x θ,J.yld i O x θ->g x N θ λP L=>tc P L λb H=>
    if b=true then te P H λy l=>l p=some (.lst xs)/\∃m',m' < m/\W (i+1) m' P (upd l p (.lst (xs++[y]))) (xs++[y])else ∃m',m' < m/\W (i+1) m' P H xs)))
  (hRR:∀D C I N O s',s2.heap.objs.size<=C->Inv (D4 X scope N' I C s2 L fp (X.pn++ζ)) [] N O s'->Qf D O->RR (.ref D) C (.ok .next) s') :
  Ak (Ac X.prog X.w) X.A (newList []) (λacc s₃=>Ak (Ac X.prog X.w) X.A (Zz scope X.env.globals I [] X.env.qual none .none (some X.env)) (λS s₄=>
   Ho (Ac X.prog X.w) X.A (.compStart (.ListComp elt [⟨ϖ,iter,ifs,0⟩] scope pos) 0 (.ref it) acc { S with scope:=Kh scope X.env }) (RR acc S.locals) s₄) E s₃) E s2:=by
 have Χ:∀b∈fp,b < s2.heap.objs.size:=λb hb=>by
  obtain⟨o,e,_⟩:=T.obj _ _ tx b hb;exact Aa e
 refine BW (aC ?_);generalize hH3:s2.heap.push { cls:=.type "list",dict:=none,data:=.seq ([]:List AG).toArray }=H;generalize hH4:H.push { cls:=.type "dict",data:=.dict #[] }=l
 have hC:H.objs.size=s2.heap.objs.size+1:=by rw[<-hH3,DJ]
 have hC4:l.objs.size=H.objs.size+1:=by rw[<-hH4,DJ]
 have hDC:s2.heap.objs.size≠H.objs.size:=by rw[hC];exact Au (Da _)
 have ϣ:s2.heap.objs.size<=H.objs.size:=by rw[hC];exact Ut _
 have U:s2.heap.objs.size<=l.objs.size:=by rw[hC4];exact Nat.le_succ_of_le ϣ
 have Y:∀b o,H.get? b=some o->(G2 l scope.names).get? b=some o:=λb o e=>YI _ _ _ _ (hH4▸AE _ e)
 have Q:∀b o,s2.heap.get? b=some o->(G2 l scope.names).get? b=some o:=λb o e=>Y b o (hH3▸AE _ e)
 have zD:=Y _ _ (hH3▸AS _ rfl)
 have R:(G2 l scope.names).Ns H.objs.size λ_=>none:=by
  have:=(B0.Ns.new H (.type "dict")).keeps (YI scope.names (H.push { cls:=.type "dict",data:=.dict #[] }));rw[hH4]at this;exact this
 have hD:=I2.hok.fresh (AJ _);have u:Un (frs X.stack) fp L (upd L s2.heap.objs.size (.lst [])) s2.heap (G2 l scope.names):=Un.laid Q (AJ _) hD;have hok:HOk X.prog X.w (upd L s2.heap.objs.size (.lst [])) (G2 l scope.names):=I2.hok.laid Q (AJ _) ⟨Bu _,[],0,.nil,zD⟩
 have hHn:∀c,s2.heap.objs.size < c->upd L s2.heap.objs.size (.lst []) c=none:=λc h=>by rw[Bi (EM h)];exact I2.hok.fresh (Jr h)
 have hHC:upd L s2.heap.objs.size (.lst []) H.objs.size=none:=hHn _ (by ext)
 have A':∀x c,(CT l.objs.size scope.names I).lookup x=some c->I.lookup x=some c∨((G2 l scope.names).IsCell c none/\l.objs.size<=c):=λx c e=>Kb scope.names l I x c e
 obtain⟨W,⟨m0,w0⟩,turn⟩:=q2 s2.heap.objs.size hD
 have Z:∀s₃:AK,s₃={ s2 with heap:=G2 l scope.names } ->
   Ho (Ac X.prog X.w) X.A (.compLoop (.ListComp elt [⟨ϖ,iter,ifs,0⟩] scope pos) 0 (.ref it) (.ref s2.heap.objs.size) (compEnvC scope (CT l.objs.size scope.names I) H.objs.size X.env))
    (RR (.ref s2.heap.objs.size) H.objs.size) s₃:=by
  rintro s₃ rfl
  have J0:Inv (D4 X scope N' (CT l.objs.size scope.names I) H.objs.size s2 L fp (X.pn++ζ)) [] (Bs own.length none++σ) (upd L s2.heap.objs.size (.lst [])) { s2 with heap:=G2 l scope.names }:=
   bW Sc I2 f2 Χ c1 c2 U A' (λc h=>hHn c (by lia)) ϣ R rfl I2.bare u hok hHC
  refine gd (X':=D4 X scope N' (CT l.objs.size scope.names I) H.objs.size s2 L fp (X.pn++ζ)) hc rfl T (hg _ _ _ _ _ _) (ν _ _ _ _ _ _) (he _ _ _ _ _ _) W turn (λN O s' J q=>hRR _ _ _ N O s' ϣ J q) J0 (T.keep _ _ _ tx λb _ o e=>Q b o e) (λb hb=>?_) w0;obtain⟨z0,z1,z2,z3,z4,z5⟩:=f2 b hb;refine⟨by rw[Bi (Au (Χ b hb))];exact z0,Au (AR (Χ b hb) ϣ),λz=>?_,.inl hb,λx c e=>?_,λp hp=>?_⟩
  ·exact(Aw.mp (I2.stkSub _ z)).elim z1 z2
  ·rcases A' x c e with e | ⟨_,e⟩
   ·exact z4 x c (c1 x c e)
   ·exact EM (AR (Χ b hb) (Al U e))
  ·have hp:=hp
   rw[Bp]at hp;exact z5 p hp
 exact codeAny_compStart_list (Z _ rfl) (T.self X.A 0 _ _ _ (T.keep _ _ _ tx λb _ o e=>Q b o e) (Z _ rfl))
def pE(R:X.calm=true)(E:Os X scope own N')(hi:PI X N iter S)
  (U:∀A C l o ex B,PG (D4 X scope N' A C l o ex B) N g) (Y:∀A C l o ex B,bm (D4 X scope N' A C l o ex B) G tc) (Z:∀A C l o ex B,PE (D4 X scope N' A C l o ex B) L te)
  (hs:∀x,EE iter X.env x=pure x:=by intro _;rfl):PE X (.ListComp L [⟨N,iter,G,0⟩] scope pos) (i6 own.length S g tc te):=by
 intro ζ s σ H Q I h;rw[eval_ListComp];obtain⟨A,ο,c1,c2⟩:=dS (λy hy hf=>I.ok.has y.1 (E.free y hy hf));refine df rfl hs ο E.kind E.names (thn (hi ζ s σ H _ I h) λv s1 h1=>thn h1 λitv s2 h2=>?_);obtain⟨it,fp,tn,J,H2,rfl,O,T,tx,P,q2⟩:=h2
 refine Ua R E U Y Z c1 c2 O T tx P q2 λD C cl' σ' H' s' hC J q=>?_
 obtain⟨m,hn,_⟩:=J.loc;exact⟨m,hn,λh' sb=>⟨.ref D,H',Wa O J hC P sb,rfl,q⟩⟩
def oi{i:Nat}{y:Str}{py Ϥ:Pos}(hc:X.calm=true)(U:G1 (.ListComp O [⟨Y,iter,P,0⟩] scope Z) (some (.Name y py)) Ϥ.line X.env=pure true)
  (hN:X.N.Nodup) (hy:X.N[i]?=some y) (Q:Loc X.env.scope y) (S:Os X scope own N') (hi:PI X Y iter wi)
  (hg:∀G C l B ex R,PG (D4 X scope N' G C l B ex R) Y g) (ν:∀G C l B ex R,bm (D4 X scope N' G C l B ex R) P tc) (he:∀G C l B ex R,PE (D4 X scope N' G C l B ex R) O te)
  (hs:∀x,EE iter X.env x=pure x:=by intro _;rfl) (hf:X.fn y=true∨X.env.scope.names.lookup y=some .local:=by first | exact .inl rfl | exact .inr rfl | assumption) :
  PS X (.Assign [.Name y py] (.ListComp O [⟨Y,iter,P,0⟩] scope Z) Ϥ) (w5 (i6 own.length wi g tc te) (dH i)):=by
 intro ζ s σ H D I h;rw[exec_Assign_Name_used _ _ _ _ U];refine AA (wpAny_standAt (AA ?_));obtain⟨G,ο,c1,c2⟩:=dS (λy hy hf=>I.ok.has y.1 (S.free y hy hf))
 refine AA (Gk (df rfl hs ο S.kind S.names
  (thn (hi ζ s σ H _ I h) λv s1 h1=>thn h1 λitv s2 h2=>?_)) (λ_ s' hq=>AD (AD hq)) λ_ _ e=>e)
 obtain⟨it,fp,tn,J,H2,rfl,L,T,tx,f2,q2⟩:=h2
 refine Ua hc S hg ν he c1 c2 L T tx f2 q2 λA C cl' σ' H' s' hC J q=>?_
 obtain⟨m,hn,_⟩:=J.loc;have I3:=Wa L J hC f2 (Ww ..);have hHC:=J.free
 have zr:∀x c,X.env.cells.lookup x=some c->c≠C:=λx c e z=>by
  obtain⟨v,q⟩:=L.cell x c e;exact zX (AR q.lt (by ext)) (FY _)
 have E:=EM (AR L.lt hC);refine vj (V3 (v:=.ref A) I3 hN hy Q rfl (?_) hf);rintro s4 I4 ⟨a,sb,ha⟩
 have haC:C≠a:=by
  rcases ha with e | e
  ·ext
  ·exact Bw (zr _ _ e)
 refine⟨m,hn.sameBut sb haC,λh' sb'=>⟨_,H',?_,q⟩⟩
 refine I4.turned (t':=s4.toks) (λb o hb e=>(sb'.2 b hb).trans e) hHC E (.inr (Al L.sz hC)) zr λp hp z=>?_
 exact zX (AR (Aa (L.pin p hp).1) (by ext)) (FY _)
end
def Gz(v:P4)(g:MG)(c:MT)(m:ME):Nat->Nat->Lo->Sto->List D->Res (List D)
 | k,i,e,S,l=>match v S with
  | none=>.bad
  | some B=>match B[i]? with
   | none=>.ok l S
   | some d=>match k with
    | 0=>.bad
    | k+1=>if l.length < sizeLine then(okR (g d e S)).bind λo C=>(okR (c o C)).bind λb A=>if b=true then(okR (m o A)).bind λy E=>Gz v g c m k (i+1) o E (l++[y])else Gz v g c m k (i+1) o A l else .bad
def DI(n:Nat)(mi:MI)(g:MG)(c:MT)(m:ME):ML:=λe S=>(mi e S).bind λv l=>Gz v g c m (D0 v l) 0 (Bs n none++e) l []
noncomputable def Ex:MT:=λ_ S=>.ok true S
section
abbrev ly(X:Cx)(E:EW)(l:List Expr)(c:MT):Prop:=bm X l (gT X.K E c)
def ZU:ly X E [] Ex:=by
 rintro m s o H Q I ⟨A,l,S,G,B,C⟩
 exact ja m s o H Q I (C A H .refl B)
def Ij(h:GT X E e c):ly X E [e] c:=jZ h
def Gg.grow{K}{ρ}{H}{e}{m}(n:Nat)(h:Gg K ρ H e m):Gg K ρ H (Bs n none++e) (Bs n none++m):=by
 refine⟨by simp[h.len],λi d q=>?_⟩
 by_cases l:i < n
 ·rw[AV (by simpa using l),Ds,qX l]at q
  cases q
 ·rw[BA (by simpa using l)]at q ⊢
  simp only[aB]at q ⊢;exact h.at' _ d q
def Cj.ok_of{l:Type}{K:AI}{E:EH}{ρ:List AU}{H:Hp}{r:Res l}{k:l->Sto->Prop}{a:l}{S:Sto}(e:r=.ok a S)(h:k a S):Cj K E ρ H r k:=by
 subst e;exact h
def Tv{l m:Type}{r:Res l}{F:l->Sto->Res m}{b:m}{S:Sto}(h:(okR r).bind F=.ok b S):∃a S1,r=.ok a S1/\F a S1=.ok b S:=by
 cases r with
 | ok a S1=>exact⟨a,S1,rfl,h⟩
 | err c S1=>cases h
 | bad=>cases h
def Zb:∀(k i:Nat) (e:Lo) (S:Sto) (l:List D),Gz v g c m k i e S l≠.err G S':=by
 intro k
 induction k with
 | zero=>
  intro i e S l h;unfold Gz at h;split at h
  ·cases h
  ·split at h <;> cases h
 | succ k H=>
  intro i e S l h;unfold Gz at h;split at h
  ·cases h
  ·split at h
   ·cases h
   ·dsimp only at h
    split at h
    ·cases o:g _ e S with
     | ok A B=>
      rw[o]at h;dsimp only[okR,Res.bind]at h
      cases C:c A B with
      | ok b E=>
       rw[C]at h;dsimp only[okR,Res.bind]at h
       cases b with
       | true=>
        rw[qX rfl]at h
        cases I:m A E with
        | ok y J=>ext
        | err _ _=>ext
        | bad=>ext
       | false=>
        ext
      | err _ _=>ext
      | bad=>ext
     | err _ _=>rw[o]at h;cases h
     | bad=>rw[o]at h;cases h
    ·cases h
def Yl{K:AI}{n:Nat}{σ:St}{H:Hp}{Q:VK}(h:gL K E (DI n mi g c m) σ H Q):i6 n (gI K E mi) (gG K g) (gT K noE c) (gE K noE m) σ H Q:=by
 obtain⟨ρ,l,S,hl,hs,T⟩:=h;refine⟨ρ,l,S,hl,hs,T.seq λv S1 T ρ1 H1 J l1 s1 vo p hp=>?_⟩
 obtain⟨ds,Y,T,k⟩:∃ds Y,Gz v g c m (D0 v S1) 0 (Bs n none++l) S1 []=.ok ds Y/\∀O H' p L,Le K ρ H O H'->CS K O Y H'->Av K O H' ds L->H' p=some (.lst L)->(∀n:Nat,O[n]?≠some p)->H p=none->Q (.ref p) H':=by
  cases hc:Gz v g c m (D0 v S1) 0 (Bs n none++l) S1 []with
  | ok ds Y=>rw[hc]at T;exact⟨ds,Y,rfl,T⟩
  | err c Y=>exact(Zb _ _ _ _ _ hc).elim
  | bad=>rw[hc]at T;exact T.elim
 obtain⟨s1',l1'⟩:=JH s1 hp;have hp0:=l1.back hs s1 hp
 refine⟨λi j σ2 U L=>∃C e2 S2 I,Le K ρ1 H1 C U/\Gg K C U e2 σ2/\CS K C S2 U/\Av K C U I L/\U p=some (.lst L)/\(∀q:Nat,C[q]?≠some p)/\Gz v g c m j i e2 S2 I=.ok ds Y,
  ⟨D0 v S1,ρ1,_,S1,[],l1',(hl.mono (l1.trans l1')).grow n,s1',.nil,Bz,λq e=>s1.notIn hp e,T⟩,?_⟩
 rintro i j σ2 U L ⟨C,e2,S2,I,l2,r2,s2,ra,Z,zQ,B⟩;refine⟨Z,?_⟩;unfold Gz at B
 cases hv:v S2 with
 | none=>ext
 | some vs=>
  rw[hv]at B;dsimp only at B;obtain⟨v1,v2⟩:=vo C U S2 vs i l2 s2 hv
  cases hd:vs[i]? with
  | none=>
   rw[hd]at B;cases B;exact .inl ⟨v1 hd,k C U p L (l1.trans l2) s2 ra Z zQ hp0⟩
  | some d=>
   rw[hd]at B;obtain⟨go,yl⟩:=v2 d hd
   cases j with
   | zero=>cases B
   | succ j=>
    dsimp only at B;split at B
    ·rename_i hz
     obtain⟨e3,S3,h3,B⟩:=Tv B;obtain⟨b,S4,h4,B⟩:=Tv B;refine .inr ⟨go,by rw[<-ra.length];exact hz,λx H' y=>?_⟩;obtain⟨ρ3,l3,s3,rd⟩:=yl x H' y;obtain⟨hp3,hn3⟩:=l3.oth p _ Z zQ;refine⟨ρ3,e2,S2,d,rd,r2.mono l3,s3,Cj.ok_of h3 λρ4 H4 σ4 l4 s4 r4=>?_⟩;obtain⟨hp4,hn4⟩:=l4.oth p _ hp3 hn3;refine⟨ρ4,e3,S3,r4,s4,Cj.ok_of h4 λρ5 H5 X s5=>?_⟩;obtain⟨hp5,hn5⟩:=X.oth p _ hp4 hn4
     cases b with
     | false=>
      rw[qY Ab]at B ⊢;exact⟨j,Da j,ρ5,e3,S4,I,l2.trans (l3.trans (l4.trans X)),r4.mono X,s5,ra.mono (l3.trans (l4.trans X)),hp5,hn5,B⟩
     | true=>
      rw[qX rfl]at B ⊢;obtain⟨yv,S5,h5,B⟩:=Tv B;refine⟨ρ5,e3,S4,r4.mono X,s5,Cj.ok_of h5 λA G y6 l6 s6 r6=>?_⟩;obtain⟨P,hn6⟩:=l6.oth p _ hp5 hn5
      have up7:∀R:List V,CS K A S5 (upd G p (.lst R))/\(∀a o,Ed K A G a o->a≠p->Ed K A (upd G p (.lst R)) a o)/\∀e' w',CA K A G e' w'->CA K A (upd G p (.lst R)) e' w':=λR=>by
       have N:=HS (H:=G) (ho:=.lst R) (.inr (by rw[P];trivial))
       have mono:∀e' w',CA K A G e' w'->CA K A (upd G p (.lst R)) e' w':=λe' w' r=>r.keep N.1 N.2
       have mob:∀a o,Ed K A G a o->a≠p->Ed K A (upd G p (.lst R)) a o:=λa o r ne=>r.keep N.1 N.2 (Bi ne)
       exact⟨⟨s6.len,s6.nd,λn o a q1 q2=>mob a o (s6.ob n o a q1 q2) λz=>hn6 n (by ext)⟩,mob,mono⟩
      obtain⟨u1,u2,u3⟩:=up7 (L++[y6]);refine⟨P,j,Da j,A,e3,S5,I++[yv],?_,?_,u1,?_,Bz,hn6,B⟩
      ·have lx:=l2.trans (l3.trans (l4.trans (X.trans l6)))
       have N:=HS (H:=G) (ho:=.lst (L++[y6])) (.inr (by rw[P];trivial))
       exact⟨lx.pre,λa zs q=>N.1 a zs (lx.tup a zs q),λa o u q=>N.2 a o u (lx.frz a o u q),λa o q z=>by
        have nap:=DU q hp;obtain⟨z1,z2⟩:=lx.oth a o q z
        exact⟨by rw[Bi nap];exact z1,z2⟩⟩
      ·have rr:=r4.mono (X.trans l6)
       exact⟨rr.len,λq d' hq=>by
        obtain⟨w',z1,z2⟩:=rr.at' q d' hq
        exact⟨w',z1,u3 _ _ z2⟩⟩
      ·have ra6:=ra.mono (l3.trans (l4.trans (X.trans l6)))
       have N:=HS (H:=G) (ho:=.lst (L++[y6])) (.inr (by rw[P];trivial));exact(ra6.keep N.1 N.2).append (.cons (u3 _ _ r6) .nil)
    ·cases B
def pr(J:X.calm=true)(L:Os X scope own N')(hi:GI X E I iter mi)
  (N:∀A C l o ex B,GG (D4 X scope N' A C l o ex B) I g) (O:∀A C l o ex B,ly (D4 X scope N' A C l o ex B) noE G c) (P:∀A C l o ex B,GE (D4 X scope N' A C l o ex B) noE H m)
  (hs:∀x,EE iter X.env x=pure x:=by intro _;rfl):GL X E (.ListComp H [⟨I,iter,G,0⟩] scope Q) (DI own.length mi g c m):=
 (pE J L hi N O P hs).imp λ_ _ _ h=>Yl h
def SN(hc:X.calm=true)(R:G1 (.ListComp I [⟨T,iter,J,0⟩] scope U) (some (.Name y py)) Ϥ.line X.env=pure true)
  (hN:X.N.Nodup) (hy:X.N[i]?=some y) (L:Loc X.env.scope y) (Sc:Os X scope own N') (hi:GI X E T iter mi)
  (hg:∀O C A B ex P,GG (D4 X scope N' O C A B ex P) T g) (ν:∀O C A B ex P,ly (D4 X scope N' O C A B ex P) noE J c) (he:∀O C A B ex P,GE (D4 X scope N' O C A B ex P) noE I m)
  (hs:∀x,EE iter X.env x=pure x:=by intro _;rfl) (hf:X.fn y=true∨X.env.scope.names.lookup y=some .local:=by first | exact .inl rfl | exact .inr rfl | assumption) :
  GS X E (.Assign [.Name y py] (.ListComp I [⟨T,iter,J,0⟩] scope U) Ϥ) (Ce i (DF (DI own.length mi g c m))):=by
 refine(oi (g:=gG X.K g) (tc:=gT X.K noE c) (te:=gE X.K noE m) hc R hN hy L Sc hi hg ν he hs hf).imp ?_;rintro D σ H ⟨ρ,l,S,Y,hs,Z⟩
 refine Yl ⟨ρ,l,S,Y,hs,Cj.seq (Cj.lift Z Y .refl λd S2 h=>h) λds S1 Z G H1 p xs Q s1 r1 hp hn hp0=>?_⟩
 have l0:∀(n:Nat) a,G[n]?=some a->(G++[p])[n]?=some a:=λn a h=>by rw[AV (AB.mp h).1];exact h
 obtain⟨s2,at2⟩:=s1.adopt (o:=.lst ds) hn ⟨xs,hp,r1.more l0⟩
 have l2:Le X.K ρ H (G++[p]) H1:=⟨λn a h=>l0 n a (Q.pre n a h),Q.tup,Q.frz,λa o e h=>⟨(Q.oth a o e h).1,λn q=>by
  rcases Jh q with⟨q,_⟩ | ⟨_,q⟩
  ·exact(Q.oth a o e h).2 n q
  lia⟩⟩
 exact Z _ _ _ l2 s2 ((Y.mono l2).set (.ref at2) i)
end
end L2
namespace L2
open PySem.SeqAt
noncomputable def NA:D->D->Option Bool
 | .non,.non=>some true
 | .bl a,.bl b=>some (a==b)
 | .int a,.int b=>some (a==b)
 | .str a,.str b=>some (a==b)
 | .non,.int _=>some false
 | .non,.str _=>some false
 | .non,.bl _=>some false
 | .non,.tup _=>some false
 | .int _,.non=>some false
 | .str _,.non=>some false
 | .bl _,.non=>some false
 | .tup _,.non=>some false
 | .int _,.tup _=>some false
 | .tup _,.int _=>some false
 | _,_=>none
noncomputable def eqL(f:D->D->Option Bool):List D->List D->Option Bool
 | [],[]=>some true
 | [],_ :: _=>some false
 | _ :: _,[]=>some false
 | x :: l,y :: m=>match f x y,eqL f l m with
  | some a,some b=>some (a&&b)
  | _,_=>none
def eqP:Nat->D->D->Option Bool
 | 0,x,y=>NA x y
 | n+1,x,y=>match x,y with
  | .tup l,.tup m=>eqL (eqP n) l m
  | x,y=>NA x y
def M9(h:eqL f (x :: xs) (y :: l)=some b):∃a c,f x y=some a/\eqL f xs l=some c/\b=(a&&c):=by
 unfold eqL at h;split at h
 ·ext
 ·cases h
theorem dP:∀{xs l:List D} {b:Bool},eqL f xs l=some b->(∀(j:Nat) x y,xs[j]?=some x->l[j]?=some y->∃c,f x y=some c) /\
  b=((BO (min xs.length l.length)).all (λj=>match xs[j]?,l[j]? with | some x,some y=>(f x y).getD false | _,_=>false)&&xs.length==l.length)
 | [],[],b,h=>by cases h;simp
 | [],y :: l,b,h=>by cases h;ext
 | x :: xs,[],b,h=>by cases h;ext
 | x :: xs,y :: l,b,h=>by
  obtain⟨a,c,m,o,rfl⟩:=M9 h;obtain⟨A,B⟩:=dP o;refine⟨λj C E G H=>?_,?_⟩
  ·cases j with
   | zero=>ext
   | succ j=>exact A j C E (by simpa using G) (by simpa using H)
  ·rw[B,Az,Az,show min (xs.length+1) (l.length+1)=min xs.length l.length+1 by ext,Zq,sC,wB]
   simp only[YN,m,gz,Function.comp_def,List.getElem?_cons_succ]
   lia
section
variable{K:AI}{ρ:List AU}{H:Hp}
def dM(n k:Nat)(y:D):eqP n (.ref k) y=none:=by cases n <;> cases y <;> rfl
def dN(n:Nat)(l:List D)(y:D):eqP n (.fro l) y=none:=by cases n <;> cases y <;> rfl
def qL(n:Nat)(c:AU)(y:D):eqP n (.exc c) y=none:=by cases n <;> cases y <;> rfl
def PZ(C:CA K ρ H x v)(l:CA K ρ H m v):x=m∨(∃o A vs,x=.tup o/\m=.tup A/\Av K ρ H o vs/\Av K ρ H A vs)∨(∀n y,eqP n x y=none)∨∀n y,eqP n m y=none:=by
 cases C with
 | non=>cases l;exact .inl rfl
 | bl b=>cases l;exact .inl rfl
 | int b=>cases l;exact .inl rfl
 | str b=>cases l;exact .inl rfl
 | fro _ _=>exact .inr (.inr (.inl λn y=>dN n _ y))
 | ref _=>exact .inr (.inr (.inl λn y=>dM n _ y))
 | exc _ _=>exact .inr (.inr (.inl λn y=>qL n _ y))
 | tup E G=>
  cases l with
  | fro _ _=>exact .inr (.inr (.inr λn y=>dN n _ y))
  | ref _=>exact .inr (.inr (.inr λn y=>dM n _ y))
  | exc _ _=>ext
  | tup B I=>
   rw[E]at B;cases B;exact .inr (.inl ⟨_,_,_,rfl,rfl,G,I⟩)
def qK:∀(n:Nat) {x E y:D} {v:V} {b b':Bool},CA K ρ H x v->CA K ρ H E v->eqP n x y=some b->eqP n E y=some b'->b=b':=by
 intro n
 induction n with
 | zero=>
  intro x E y v b b' L N h l
  rcases PZ L N with rfl | ⟨G,O,o,rfl,rfl,_,_⟩ | q | q
  ·rw[h]at l;cases l;rfl
  ·have:eqP 0 (.tup G) y=eqP 0 (.tup O) y:=by cases y <;> rfl
   rw[<-this,h]at l;cases l;rfl
  ·rw[q]at h;cases h
  ext
 | succ n S=>
  intro x E y v b b' L N h l
  have lists:∀{I:List D} {o:List V} {J m:List D} {b b':Bool},Av K ρ H I o->Av K ρ H J o->eqL (eqP n) I m=some b->eqL (eqP n) J m=some b'->b=b':=by
   intro I
   induction I with
   | nil=>
    intro o J m b b' A B g C;cases A;cases B;rw[g]at C;cases C;rfl
   | cons d G P=>
    intro o J m b b' A B g C
    cases A with
    | cons T U=>
     cases B with
     | cons X Y=>
      cases m with
      | nil=>cases g;cases C;rfl
      | cons y m=>
       obtain⟨p,q,Z,g2,rfl⟩:=M9 g;obtain⟨p',q',Q,R,rfl⟩:=M9 C;rw[S T X Z Q,P U Y g2 R]
  rcases PZ L N with rfl | ⟨G,O,o,rfl,rfl,A,B⟩ | q | q
  ·rw[h]at l;cases l;rfl
  ·by_cases c:∃m,y=.tup m
   ·obtain⟨m,rfl⟩:=c
    exact lists A B h l
   ·have:eqP (n+1) (.tup G) y=eqP (n+1) (.tup O) y:=by
     cases y <;> first | rfl | exact(c ⟨_,rfl⟩).elim
    rw[<-this,h]at l;cases l;rfl
  ·rw[q]at h;cases h
  ext
def FD(h:NA x x=some b):b=true:=by
 cases x <;> first | (cases h;done) | (cases h;simp)
theorem UT:∀(n:Nat) {x:D} {b:Bool},eqP n x x=some b->b=true
 | 0,_,_,h=>FD h
 | n+1,x,b,h=>by
  have lists:∀{l:List D} {b:Bool},eqL (eqP n) l l=some b->b=true:=by
   intro l
   induction l with
   | nil=>intro b g;cases g;rfl
   | cons d B m=>
    intro b g;obtain⟨p,q,o,A,rfl⟩:=M9 g;rw[UT n o,m A];rfl
  cases x with
  | tup l=>exact lists h
  | non=>exact FD (x:=.non) h
  | bl c=>exact FD (x:=.bl c) h
  | int c=>exact FD (x:=.int c) h
  | str c=>exact FD (x:=.str c) h
  | ref c=>exact FD (x:=.ref c) h
  | fro c=>exact FD (x:=.fro c) h
  | exc c=>exact FD (x:=.exc c) h
def Ng(l:(∃f,y=.fro f)∨(∃r,y=.ref r)∨∃c,y=.exc c)(n:Nat):eqP n x y=none:=by
 rcases l with⟨f,rfl⟩ | ⟨r,rfl⟩ | ⟨c,rfl⟩ <;> (cases n <;> cases x <;> rfl)
def lF(n:Nat)(G:CA K ρ H x v)(A:CA K ρ H y v)(h:eqP n x y=some b):b=true:=by
 induction n generalizing x y v b with
 | zero=>
  rcases PZ G A with rfl | ⟨I,J,l,rfl,rfl,_,_⟩ | q | q
  ·exact UT 0 h
  ·cases h
  ·ext
  ·cases A with
   | fro _ _=>rw[Ng (.inl ⟨_,rfl⟩)]at h;cases h
   | ref _=>rw[Ng (.inr (.inl ⟨_,rfl⟩))]at h;cases h
   | exc _ _=>rw[Ng (.inr (.inr ⟨_,rfl⟩))]at h;cases h
   | non=>cases(q 0 .non)
   | bl b=>cases(q 0 (.bl b))
   | int b=>cases(q 0 (.int b))
   | str b=>cases(q 0 (.str b))
   | tup _ _=>cases(q 0 .non)
 | succ n L=>
  have lists:∀{B C:List D} {l:List V} {b:Bool},Av K ρ H B l->Av K ρ H C l->eqL (eqP n) B C=some b->b=true:=by
   intro B
   induction B with
   | nil=>intro C l b m o g;cases m;cases o;cases g;rfl
   | cons d I E=>
    intro C l b m o g
    cases m with
    | cons N O=>
     cases o with
     | cons P Q=>
      obtain⟨p,q,R,S,rfl⟩:=M9 g;rw[L N P R,E O Q S];rfl
  rcases PZ G A with rfl | ⟨I,J,l,rfl,rfl,m,o⟩ | q | q
  ·exact UT (n+1) h
  ·exact lists m o h
  ·ext
  ·cases A with
   | fro _ _=>rw[Ng (.inl ⟨_,rfl⟩)]at h;cases h
   | ref _=>rw[Ng (.inr (.inl ⟨_,rfl⟩))]at h;cases h
   | exc _ _=>rw[Ng (.inr (.inr ⟨_,rfl⟩))]at h;cases h
   | non=>cases(q 0 .non)
   | bl b=>cases(q 0 (.bl b))
   | int b=>cases(q 0 (.int b))
   | str b=>cases(q 0 (.str b))
   | tup _ _=>cases(q 0 .non)
end
section
variable{X:Cx}{ζ:List (AU×Obj)}{σ:St}{H:Hp}{s:AK}{ρ:List AU}
def II(A:Bg):A.in1.units=A.units+1:=rfl
def Bk.at_(r:Bk vs l)(h:j < l.toArray.size):∃v,vs[j]?=some v/\RelV v l.toArray[j]:=by
 have m:j < l.length:=by simpa using h
 have o:j < vs.length:=by rw[r.length];exact m
 obtain⟨u,A,B⟩:=r.get (i:=j) (x:=vs[j]) (by simp[o])
 ext
def XH(N:∀(x y:D) (b:Bool) (m o:V) (u v:AG),eqP n x y=some b->CA X.K ρ H x m->CA X.K ρ H y o->RelV m u->RelV o v->EqAt A s u v b)
  (h:eqL (eqP n) xs B=some b) (C:Av X.K ρ H xs vs) (E:Av X.K ρ H B O) (G:Bk vs us) (I:Bk O l) :
  ∃e:Nat->Bool,(∀j (J:j < us.toArray.size) (L:j < l.toArray.size),EqAt A s us.toArray[j] l.toArray[j] (e j))/\b=((BO (min us.toArray.size l.toArray.size)).all e&&us.toArray.size==l.toArray.size):=by
 obtain⟨P,Q⟩:=dP h;refine⟨λj=>match xs[j]?,B[j]? with | some x,some y=>(eqP n x y).getD false | _,_=>false,λj J L=>?_,?_⟩
 ·obtain⟨v,R,S⟩:=Bk.at_ G J
  obtain⟨w,T,U⟩:=Bk.at_ I L;obtain⟨x,Y,Z⟩:=C.get' R;obtain⟨y,e4,ry⟩:=E.get' T;obtain⟨c,hc⟩:=P j x y Y e4;have:=N x y c v w _ _ hc Z ry S U;ext
 ·rw[Q,C.length,E.length,G.length,I.length]
  simp
def Qp(I:Inv X ζ σ H s)(m:A.units < DE)(h:NA x y=some b)(L:CA X.K ρ H x N)(o:CA X.K ρ H y O)(B:RelV N u)(l:RelV O v) :
  EqAt A s u v b/\RcAt A s u v b/\RcNeAt A s u v (!b):=by
 cases L with
 | non=>
  cases B
  cases o with
  | non=>cases l;cases h;exact⟨EqAt.same _,RcAt.none_none,RcNeAt.none_none⟩
  | bl c=>cases l;cases h;exact⟨EqAt.none_bool _,RcAt.none_bool _,RcNeAt.none_bool _⟩
  | int i=>obtain⟨t,rfl⟩:=l;cases h;exact⟨EqAt.none_int _ _,RcAt.none_int _ _,RcNeAt.none_int _ _⟩
  | str z=>obtain⟨t,rfl⟩:=l;cases h;exact⟨EqAt.none_str _ _,RcAt.none_str _ _,RcNeAt.none_str _ _⟩
  | tup C E=>
   cases l;cases h;obtain⟨G,_,p,_⟩:=I.tuple (.inl (.inl C));exact⟨EqAt.none_tuple p m,RcAt.none_tuple p m,RcNeAt.none_tuple p m⟩
  | _=>cases h
 | bl a=>
  cases B
  cases o with
  | non=>cases l;cases h;exact⟨EqAt.bool_none _,RcAt.bool_none _,RcNeAt.bool_none _⟩
  | bl c=>cases l;cases h;exact⟨EqAt.bool_bool _ _,RcAt.bool_bool _ _,RcNeAt.bool_bool _ _⟩
  | _=>cases h
 | int a=>
  obtain⟨t,rfl⟩:=B
  cases o with
  | non=>cases l;cases h;exact⟨EqAt.int_none _ _,RcAt.int_none _ _,RcNeAt.int_none _ _⟩
  | int i=>obtain⟨J,rfl⟩:=l;cases h;exact⟨EqAt.int_int _ _ _ _,RcAt.int_int _ _ _ _,RcNeAt.int_int _ _ _ _⟩
  | tup C E=>
   cases l;cases h;obtain⟨G,_,p,_⟩:=I.tuple (.inl (.inl C));exact⟨EqAt.int_tuple _ _ p m,RcAt.int_tuple _ _ p m,RcNeAt.int_tuple _ _ p m⟩
  | _=>cases h
 | str a=>
  obtain⟨t,rfl⟩:=B
  cases o with
  | non=>cases l;cases h;exact⟨EqAt.str_none _ _,RcAt.str_none _ _,RcNeAt.str_none _ _⟩
  | str i=>obtain⟨J,rfl⟩:=l;cases h;exact⟨EqAt.str_str _ _ _ _,RcAt.str_str _ _ _ _,RcNeAt.str_str _ _ _ _⟩
  | _=>cases h
 | tup C E=>
  cases B;obtain⟨G,_,p,_⟩:=I.tuple (.inl (.inl C))
  cases o with
  | non=>cases l;cases h;exact⟨EqAt.tuple_none p m,RcAt.tuple_none p m,RcNeAt.tuple_none p m⟩
  | int i=>obtain⟨J,rfl⟩:=l;cases h;exact⟨EqAt.tuple_int _ _ p m,RcAt.tuple_int _ _ p m,RcNeAt.tuple_int _ _ p m⟩
  | _=>cases h
 | _=>cases h
def bV(I:Inv X ζ σ H s):∀(n:Nat) (A:Bg) (x y:D) (b:Bool) (l m:V) (u v:AG),A.units+n < DE->eqP n x y=some b->CA X.K ρ H x l->CA X.K ρ H y m->RelV l u->RelV m v->EqAt A s u v b:=by
 intro n
 induction n with
 | zero=>exact λA x y b l m u v R h B C E G=>(Qp I (by omega) h B C E G).1
 | succ n S=>
  intro A x y b l m u v R h B C E G
  by_cases T:∃J L,x=.tup J/\y=.tup L
  ·obtain⟨J,L,rfl,rfl⟩:=T
   cases B with
   | @tup _ a vs N O=>
    cases C with
    | @tup _ c ws P Q=>
     cases E;cases G
     by_cases o:a=c
     ·subst o
      rw[lF (n+1) (.tup N O) (.tup P Q) h];exact EqAt.same _
     ·obtain⟨my,U,p,_⟩:=I.tuple (.inl (.inl N))
      obtain⟨zf,Y,Z,_⟩:=I.tuple (.inl (.inl P));obtain⟨e,he,rfl⟩:=XH (λx y b l m u v g1 g2 g3 g4 g5=>S A.in1 x y b l m u v (by rw[II];lia) g1 g2 g3 g4 g5) h O Q U Y;exact EqAt.of_refs o (wM p Z (by lia) he)
  ·have hf:NA x y=some b:=by
    cases x <;> cases y <;> first | exact h | ext
   exact(Qp I (by lia) hf B C E G).1
noncomputable def Od(d:D)(S:Sto):Option (List D):=match d with
 | .fro l=>some l
 | .ref n=>match S[n]? with
  | some (.lst l)=>some l
  | _=>none
 | _=>none
def eqB(x y:D)(S:Sto):Option Bool:=match Od x S,Od y S with
 | some l,some m=>if l.length=m.length then eqL (eqP 8) l m else some false
 | none,none=>eqP 8 x y
 | some _,none=>match y with
  | .tup _=>some false
  | .non=>some false
  | _=>none
 | none,some _=>match x with
  | .tup _=>some false
  | .non=>some false
  | _=>none
def eqD(neg:Bool)(x y:D)(S:Sto):Res D:=match eqB x y S with
 | some b=>.ok (.bl (if neg then !b else b)) S
 | none=>.bad
def J4{K}{S}{d}{x}{l}(hs:CS K ρ S H)(r:CA K ρ H d x)(h:Od d S=some l):∃p xs,x=.ref p/\Av K ρ H l xs/\SqL K H p xs:=by
 cases r with
 | fro m A=>cases h;exact⟨_,_,rfl,A,m.sq⟩
 | @ref n a B=>
  obtain⟨o,C,E⟩:=hs.there B;unfold Od at h;simp only[C]at h
  cases o with
  | lst I=>cases h;obtain⟨J,e,G⟩:=E;exact⟨_,_,rfl,G,.inl (.inl e)⟩
  | _=>cases h
 | _=>cases h
def lH{S}{x y}{b}{O P}{u v}(I:Inv X ζ σ H s)(hu:X.A.units+64 < DE)(hs:CS X.K ρ S H)(Q:CA X.K ρ H x O)(R:CA X.K ρ H y P)(T:RelV O u)(U:RelV P v)(h:eqB x y S=some b) :
  RcAt X.A s u v b/\RcNeAt X.A s u v (!b):=by
 unfold eqB at h;split at h
 ·rename_i Y ys h1 h2
  obtain⟨p,vs,rfl,Z,sq⟩:=J4 hs Q h1;obtain⟨p',vs',rfl,G,sq'⟩:=J4 hs R h2;cases T;cases U;obtain⟨C,J,l,_⟩:=I.list sq;obtain⟨L,N,B,_⟩:=I.list sq';split at h
  ·rename_i o
   obtain⟨e,he,rfl⟩:=XH (λx y b O P u v g1 g2 g3 g4 g5=>bV I 8 X.A.in1 x y b O P u v (by rw[II];lia) g1 g2 g3 g4 g5) h Z G J N
   have m:C.toArray.size=L.toArray.size:=by
    simp only[BR];rw[<-J.length,<-N.length,<-Z.length,<-G.length];exact o
   have e1:((BO (min C.toArray.size L.toArray.size)).all e&&C.toArray.size==L.toArray.size)=(BO C.toArray.size).all e:=by
    rw[<-m,Nat.min_self,beq_self_eq_true,Bool.and_true]
   rw[e1];exact⟨RcAt.lists l.isList B.isList m (by lia) he,RcNeAt.lists l.isList B.isList m (by lia) he⟩
  ·rename_i o
   cases h
   have m:(C.toArray.size != L.toArray.size)=true:=by
    simp only[BR];rw[<-J.length,<-N.length,<-Z.length,<-G.length];simpa using o
   exact⟨RcAt.lists_lengths l.isList B.isList m (by lia),RcNeAt.lists_lengths l.isList B.isList m (by lia)⟩
 ·by_cases ht:∃Y ys,x=.tup Y/\y=.tup ys
  ·obtain⟨Y,ys,rfl,rfl⟩:=ht
   cases Q with
   | tup a1 a2=>
    cases R with
    | tup b1 b2=>
     cases T;cases U;obtain⟨C,J,p,_⟩:=I.tuple (.inl (.inl a1));obtain⟨L,zJ,E,_⟩:=I.tuple (.inl (.inl b1));obtain⟨e,he,rfl⟩:=XH (λx y b O P u v g1 g2 g3 g4 g5=>bV I 7 X.A.in1 x y b O P u v (by rw[II];lia) g1 g2 g3 g4 g5) h a2 b2 J zJ;exact⟨wM p E (by lia) he,RcNeAt.tuples p E (by lia) he⟩
  ·have hf:NA x y=some b:=by
    cases x <;> cases y <;> first | exact h | lia
   exact(Qp I (by lia) hf Q R T U).2
 ·rename_i Y h1 h2
  obtain⟨p,vs,rfl,Z,sq⟩:=J4 hs Q h1;cases T;obtain⟨C,J,l,_⟩:=I.list sq;split at h
  ·cases h
   cases R with
   | tup b1 b2=>
    cases U;obtain⟨L,zJ,E,_⟩:=I.tuple (.inl (.inl b1));exact⟨RcAt.list_tuple l.isList E (by lia),RcNeAt.list_tuple l.isList E (by lia)⟩
  ·cases h
   cases R;cases U;exact⟨RcAt.list_none l.isList (by lia),RcNeAt.list_none l.isList (by lia)⟩
  ·cases h
 ·rename_i Y h1 h2
  obtain⟨p,vs,rfl,Z,sq⟩:=J4 hs R h2;cases U;obtain⟨C,J,l,_⟩:=I.list sq;split at h
  ·cases h
   cases Q with
   | tup b1 b2=>
    cases T;obtain⟨L,zJ,E,_⟩:=I.tuple (.inl (.inl b1));exact⟨RcAt.tuple_list E l.isList (by lia),RcNeAt.tuple_list E l.isList (by lia)⟩
  ·cases h
   cases Q;cases T;exact⟨RcAt.none_list l.isList (by lia),RcNeAt.none_list l.isList (by lia)⟩
  ·cases h
def Mo(o:X.A.units+64 < DE):OpR X (Cd .Eq) (rD X.K (eqD false)):=by
 intro ζ s σ H x y v u Q I B C h;obtain⟨ρ,S,a,b,d,L,m,E,G,l,k⟩:=h;unfold eqD at l;split at l
 ·rename_i c J
  cases l;exact(lH I o m E G B C J).1 _ _ _ _ ⟨.bl c,H,I,rfl,k ρ H _ .refl m (.bl _)⟩
 ·cases l
def rE(o:X.A.units+64 < DE):OpR X (Cd .NotEq) (rD X.K (eqD true)):=by
 intro ζ s σ H x y v u Q I B C h;obtain⟨ρ,S,a,b,d,L,m,E,G,l,k⟩:=h;unfold eqD at l;split at l
 ·rename_i c J
  cases l;exact(lH I o m E G B C J).2 _ _ _ _ ⟨.bl (!c),H,I,rfl,k ρ H _ .refl m (.bl _)⟩
 ·cases l
def OM(x:D):List D->Option Bool
 | []=>some false
 | d :: l=>match eqP 8 d x,OM x l with
  | some a,some b=>some (a||b)
  | _,_=>none
def inD(neg:Bool)(x y:D)(S:Sto):Res D:=match Ga y S with
 | some l=>match OM x l with
  | some b=>.ok (.bl (if neg then !b else b)) S
  | none=>.bad
 | none=>.bad
def be(h:OM x (d :: l)=some b):∃a c,eqP 8 d x=some a/\OM x l=some c/\b=(a||c):=by
 unfold OM at h;split at h
 ·ext
 ·cases h
open Classical in
def P3(I:Inv X ζ σ H s)(R:A.units+8 < DE)(S:CA X.K ρ H x T)(U:RelV T v):∀{o:List D} {vs:List V} {us:List AG} {b:Bool},Av X.K ρ H o vs->Bk vs us->OM x o=some b ->
  ∃e:AG->Bool,(∀y∈us,EqAt A s y v (e y))/\b=us.any e:=by
 intro o vs us b r q h
 let e:AG->Bool:=λy=>decide (∃d w,d∈o/\CA X.K ρ H d w/\RelV w y/\eqP 8 d x=some true)
 have all:∀{B:List D} {m:List V} {l:List AG} {C:Bool},(∀d∈B,d∈o)->Av X.K ρ H B m->Bk m l->OM x B=some C->(∀y∈l,EqAt A s y v (e y))/\C=l.any e:=by
  intro B
  induction B with
  | nil=>intro m l C _ r q h;cases r;cases q;cases h;ext
  | cons d B Y=>
   intro m l C O r q h
   cases r with
   | cons J Z=>
    cases q with
    | @cons w y _ _ L q2=>
     obtain⟨a,c,N,h2,rfl⟩:=be h;obtain⟨i1,i2⟩:=Y (λz E=>O z (AT _ E)) Z q2 h2
     have P:e y=a:=by
      by_cases G:∃d w,d∈o/\CA X.K ρ H d w/\RelV w y/\eqP 8 d x=some true
      ·obtain⟨d',w',_,Q,g2,g3⟩:=id G
       rw[RelV.inj g2 L]at Q;have:=qK 8 Q J g3 N;rw[<-this];exact wX G
      ·have:a=false:=by
        cases a with
        | false=>rfl
        | true=>exact(G ⟨d,_,O d Ae,J,L,N⟩).elim
       rw[this];exact wY G
     refine⟨λz E=>?_,by rw[O3,P,<-i2]⟩
     rcases Aw.mp E with rfl | E
     ·rw[P]
      exact bV I 8 A d x a _ _ _ _ R N J S L U
     ext
 obtain⟨e1,e2⟩:=all (λ_ h=>h) r q h;exact⟨e,e1,e2⟩
def rF(U:X.A.units+64 < DE):OpR X (Cd .In) (rD X.K (inD false)):=by
 intro ζ s σ H x y v u Q I G O h;obtain⟨ρ,S,a,b,d,Y,m,J,P,l,k⟩:=h;unfold inD at l;split at l
 ·rename_i Z R
  split at l
  ·rename_i c L
   cases l;obtain⟨p,xs,rfl,N,sq⟩:=SH m P R;cases O
   rcases sq with sq | sq
   ·obtain⟨o,B,C,_⟩:=I.list sq
    obtain⟨e,E,rfl⟩:=P3 I (A:=X.A.in1) (by rw[II];lia) J G N B L;exact in_listAt e C.isList (λz T=>E z (by ext)) ⟨.bl (o.toArray.any e),H,I,rfl,by rw[Ly];exact k ρ H _ .refl m (.bl _)⟩
   ·obtain⟨o,B,C,_⟩:=I.tuple sq
    obtain⟨e,E,rfl⟩:=P3 I (A:=X.A.in1) (by rw[II];lia) J G N B L;exact in_tupleAt e C (λz T=>E z (by grind)) ⟨.bl (o.toArray.any e),H,I,rfl,by rw[Ly];exact k ρ H _ .refl m (.bl _)⟩
  ·cases l
 ·cases l
def Y4(U:X.A.units+64 < DE):OpR X (Cd .NotIn) (rD X.K (inD true)):=by
 intro ζ s σ H x y v u Q I G O h;obtain⟨ρ,S,a,b,d,Y,m,J,P,l,k⟩:=h;unfold inD at l;split at l
 ·rename_i Z R
  split at l
  ·rename_i c L
   cases l;obtain⟨p,xs,rfl,N,sq⟩:=SH m P R;cases O
   rcases sq with sq | sq
   ·obtain⟨o,B,C,_⟩:=I.list sq
    obtain⟨e,E,rfl⟩:=P3 I (A:=X.A.in1) (by rw[II];lia) J G N B L;exact notIn_listAt e C.isList (λz T=>E z (by grind)) ⟨.bl (!o.toArray.any e),H,I,rfl,by rw[Ly];exact k ρ H _ .refl m (.bl _)⟩
   ·obtain⟨o,B,C,_⟩:=I.tuple sq
    obtain⟨e,E,rfl⟩:=P3 I (A:=X.A.in1) (by rw[II];lia) J G N B L;exact notIn_tupleAt e C (λz T=>E z (by grind)) ⟨.bl (!o.toArray.any e),H,I,rfl,by rw[Ly];exact k ρ H _ .refl m (.bl _)⟩
  ·cases l
 ·cases l
end
def Nr(mo ma:ME):ME:=λe S=>(mo e S).bind λd l=>match d with
 | .ref n=>match l[n]? with
  | some (.lst _)=>(ma e l).bind λy m=>match m[n]? with
   | some (.lst o)=>if o.length < sizeLine then .ok .non (m.set n (.lst (o++[y])))else .bad
   | _=>.bad
  | _=>.bad
 | _=>.bad
section
variable{X:Cx}{E:EW}{o e:Expr}{mo ma:ME}
def cS{K}{ρ}{S}{H}{n}{x}{xs}(s:CS K ρ S H)(r:CA K ρ H (.ref n) x)(h:S[n]?=some (.lst xs)):∃a vs,x=.ref a/\ρ[n]?=some a/\H a=some (.lst vs)/\Av K ρ H xs vs:=by
 cases r with
 | ref l=>
  obtain⟨vs,e,m⟩:=s.ob n _ _ h l;exact⟨_,vs,rfl,l,e,m⟩
def Gy(ho:GE X E o mo)(Z:GE X E e ma)(zi:FE o "append" X.env (CO o X.env)=CO o X.env:=by rfl)
  (My:((E1 C (AW [e] X.env)).all (λx=>!x.1)&&(U9 C (MC [] X.env)).all (λx=>x.1.isSome)
    &&decide ([e].length+([]:List Q3).length+(if ([]:List Q3).isEmpty then 0 else 1) < 30))=true:=by rfl)
  (zj:(B.endLine==C.line)=true:=by rfl) (hs:AW [e] X.env=(false,CO e X.env) :: AW [] X.env:=by rfl) (zy:(E1 C (AW [] X.env)).any (·.1)=false:=by rfl) :
  GE X E (.Call (.Attribute o "append" B) [e] [] C) (Nr mo ma):=(jk Kk PySem.F.slot_list_append PySem.F.type_list_append WJ ho (Fy Z IG hs) zi My zj hs zy).imp<|by
 rintro σ H Q ⟨ρ,l,S,L,hs,m⟩
 refine⟨ρ,l,S,L,hs,m.seq λx S1 m G H1 v I N r1=>?_⟩
 cases x <;> first | exact m.elim | skip
 rename_i n;dsimp only at m;split at m
 ·rename_i xs0 h0
  obtain⟨a,vs,rfl,hn,e0,_⟩:=cS N r1 h0;refine⟨.inl ⟨rfl,vs,.inl (.inl e0)⟩,G,l,S1,L.mono I,N,(m.later I).seq λy S2 m A O u P R r2=>?_⟩;split at m
  ·rename_i xs h3
   split at m
   ·rename_i hz
    have J:=P.pre n a hn;obtain⟨T,U,Y⟩:=R.ob n _ _ h3 J;have le:Le X.K A O A (upd O a (.lst (T++[u]))):=Le.write J (by rw[U];trivial);obtain⟨s3,l3⟩:=R.write (o:=.lst (xs++[y])) J ⟨_,Bz,(Y.append (.cons r2 .nil)).mono le⟩ le;exact⟨a,T,u,rfl,rfl,U,by rw[<-Y.length];exact hz,m A _ _ (I.trans (P.trans l3)) s3 .non⟩
   ·exact m.elim
  ·exact m.elim
 ·exact m.elim
end
noncomputable def An{l β:Type}[DecidableEq l](m:List (l×β))(k:l):Option β:=(m.find? λo=>decide (o.1=k)).map (·.2)
noncomputable def CJ{m o:Type}[DecidableEq m](A:List (m×o))(k:m)(v:o):List (m×o):=
 if (A.any λl=>decide (l.1=k))=true then A.map (λl=>if l.1=k then(l.1,v)else l)else A++[(k,v)]
section
variable{κ:Type}[DecidableEq κ]{K:AI}{ρ:List AU}{H:Hp}
def KVR.val(k:κ){x:List (κ×D)}{y:List (κ×V)}(u:KVR K ρ H x y):(An x k=none->LN y k=none)/\∀d,An x k=some d->∃v,LN y k=some v/\CA K ρ H d v:=by
 induction u with
 | nil=>exact⟨λ_=>rfl,λd h=>by cases h⟩
 | @cons a b _ _ r t I=>
  obtain⟨g,a⟩:=a;obtain⟨m,b⟩:=b;obtain⟨l,o⟩:=r;dsimp only at l;subst l;unfold An LN at I ⊢;rw[Dv,Dv]
  by_cases e:g=k
  ·ext
  ·simp only[e,decide_false]
   exact I
theorem KVR.any(k:κ){x:List (κ×D)}{y:List (κ×V)}(u:KVR K ρ H x y):(x.any λl=>decide (l.1=k))=y.any λl=>decide (l.1=k):=by
 induction u with
 | nil=>rfl
 | cons r _ I=>rw[O3,O3,I,r.1]
theorem KVR.repl(k:κ)(m:CA K ρ H d v){x:List (κ×D)}{y:List (κ×V)}(u:KVR K ρ H x y):KVR K ρ H (x.map λl=>if l.1=k then(l.1,d)else l) (y.map λl=>if l.1=k then(l.1,v)else l):=by
 induction u with
 | nil=>exact .nil
 | @cons a b _ _ r t I=>
  obtain⟨g,a⟩:=a;obtain⟨A,b⟩:=b;obtain⟨o,B⟩:=r;dsimp only at o;subst o;rw[Ap,Ap];refine .cons ?_ I
  grind
def KVR.put(k:κ)(l:CA K ρ H d v)(h:KVR K ρ H x y):KVR K ρ H (CJ x k d) (Nn y k v):=by
 unfold CJ Nn;rw[KVR.any k h];split
 ·exact KVR.repl k l h
 ·exact Zp h ⟨rfl,l⟩
end
noncomputable def kQ:D->Option Key
 | .int i=>some (.inl i)
 | .str x=>some (.inr x)
 | _=>none
def OH:List D->Option (List Key)
 | []=>some []
 | d :: l=>match kQ d,OH l with
  | some k,some m=>some (k :: m)
  | _,_=>none
def SL{K}{ρ}{H}{d}{v}{k}(r:CA K ρ H d v)(h:kQ d=some k):v=kV k:=by
 cases r <;> first | (cases h;done) | (cases h;rfl)
theorem Po{K}{ρ}{H}{l:List D}{vs:List V}{ks:List Key}(a:Av K ρ H l vs)(h:OH l=some ks):vs=ks.map kV:=by
 cases a with
 | nil=>cases h;rfl
 | cons r t=>
  unfold OH at h;split at h
  ·rename_i k ks m o
   cases h;rw[SL r m,Po t o];rfl
  ·cases h
def L6(x y:D)(S:Sto):Option (Option D):=match x with
 | .ref n=>match S[n]? with
  | some (.dK l)=>match kQ y with
   | some k=>some (An l k)
   | none=>none
  | some (.dT l)=>match y with
   | .tup m=>match OH m with
    | some o=>some (An l o)
    | none=>none
   | _=>none
  | some (.fK l)=>match kQ y with
   | some k=>some (An l k)
   | none=>none
  | some (.fT l)=>match y with
   | .tup m=>match OH m with
    | some o=>some (An l o)
    | none=>none
   | _=>none
  | _=>none
 | _=>none
def Xp{K}{ρ}{S}{H}{x y}{P Q}{o}(s:CS K ρ S H)(R:CA K ρ H x P)(I:CA K ρ H y Q)(h:L6 x y S=some o) :
  ∃a o',P=.ref a/\P6 H a Q o'/\(o=none->o'=none)/\∀d,o=some d->∃v,o'=some v/\CA K ρ H d v:=by
 unfold L6 at h;split at h
 ·rename_i n
  cases R with
  | @ref _ a J=>
   split at h
   ·rename_i L l
    split at h
    ·rename_i k m
     cases h;obtain⟨A,e,r⟩:=s.ob n _ _ l J;rw[SL I m];obtain⟨B,C⟩:=KVR.val k r;exact⟨a,LN A k,rfl,P6.k e,B,C⟩
    ·cases h
   ·rename_i L l
    split at h
    ·rename_i T
     split at h
     ·rename_i E m
      cases h;obtain⟨A,e,r⟩:=s.ob n _ _ l J
      cases I with
      | tup G N=>
       obtain⟨B,C⟩:=KVR.val E r;rw[Po N m]at G;exact⟨a,LN A E,rfl,P6.t e G,B,C⟩
     ·cases h
    ·cases h
   ·rename_i L l
    split at h
    ·rename_i k m
     cases h;obtain⟨O,A,e,r⟩:=s.ob n _ _ l J;rw[SL I m];obtain⟨B,C⟩:=KVR.val k r;exact⟨a,LN A k,rfl,(.inl ⟨_,_,.inr ⟨O,e⟩,rfl,rfl⟩),B,C⟩
    ·cases h
   ·rename_i L l
    split at h
    ·rename_i T
     split at h
     ·rename_i E m
      cases h;obtain⟨O,A,e,r⟩:=s.ob n _ _ l J
      cases I with
      | tup G N=>
       obtain⟨B,C⟩:=KVR.val E r;rw[Po N m]at G;exact⟨a,LN A E,rfl,(.inr ⟨_,_,_,.inr ⟨O,e⟩,rfl,G,rfl⟩),B,C⟩
     ·cases h
    ·cases h
   ·cases h
 ·cases h
def UZ(x y:D)(S:Sto):Res D:=match L6 x y S with
 | some (some d)=>.ok d S
 | _=>.bad
def NC(neg:Bool)(y x:D)(S:Sto):Res D:=match L6 x y S with
 | some o=>.ok (.bl (if neg then !o.isSome else o.isSome)) S
 | none=>.bad
section
variable{X:Cx}{E:EW}{mo mi mv:ME}
def p8(P:X.A.units+1 < DE)(ho:GE X E o mo)(hi:GE X E i mi)(hs:ve i:=by intro _ _;rfl):GE X E (.Subscript o i R) (m2 UZ mo mi):=(pD P ho hi hs).imp λT H Q h=>by
 refine(OS h:tOp (rD X.K UZ) (gE X.K E mo) (gE X.K E mi) T H Q) |> λt=>?_
 obtain⟨U,l,S,Y,hs,k⟩:=t;refine⟨U,l,S,Y,hs,k.imp λx S1 k B Z u l1 s1 r1=>?_⟩;obtain⟨C,l2,S2,Υ,zB,G⟩:=k B Z u l1 s1 r1;refine⟨C,l2,S2,Υ,zB,G.imp λy S3 G I L v l3 s3 r3=>?_⟩;obtain⟨J,S4,x4,y4,d,S5,N,r4,r5,m,k4⟩:=G I L v l3 s3 r3;unfold UZ at m;split at m
 ·rename_i d' hd
  cases m;obtain⟨a,o',rfl,g,_,g2⟩:=Xp N r4 r5 hd;obtain⟨O,rfl,zJ⟩:=g2 _ rfl;exact⟨a,O,rfl,g,k4 J L O .refl N zJ⟩
 ·cases m
def cM{o}{H}{Q}(h:gE X.K E (m2 (NC false) mi mo) o H Q):wu (gE X.K E mi) (gE X.K E mo) o H Q:=by
 obtain⟨P,l,S,R,T,k⟩:=(OS h:tOp (rD X.K (NC false)) (gE X.K E mi) (gE X.K E mo) o H Q);refine⟨P,l,S,R,T,k.imp λx S1 k A U u Y Z r1=>?_⟩;obtain⟨B,l2,S2,Υ,zB,C⟩:=k A U u Y Z r1;refine⟨B,l2,S2,Υ,zB,C.imp λy S3 C G J v l3 s3 r3=>?_⟩;obtain⟨I,S4,x4,y4,d,S5,L,r4,r5,m,k4⟩:=C G J v l3 s3 r3;unfold NC at m;split at m
 ·rename_i N hd
  cases m;obtain⟨a,O,rfl,g,g1,g2⟩:=Xp L r5 r4 hd;refine⟨a,O,rfl,g,?_⟩
  have:O.isSome=N.isSome:=by
   cases N with
   | none=>ext
   | some d=>grind
  rw[this];exact k4 I J _ .refl L (.bl _)
 ·cases m
def TJ{o}{H}{Q}(h:gE X.K E (m2 (NC true) mi mo) o H Q):cL (gE X.K E mi) (gE X.K E mo) o H Q:=by
 obtain⟨P,l,S,R,T,k⟩:=(OS h:tOp (rD X.K (NC true)) (gE X.K E mi) (gE X.K E mo) o H Q);refine⟨P,l,S,R,T,k.imp λx S1 k A U u Y Z r1=>?_⟩;obtain⟨B,l2,S2,Υ,zB,C⟩:=k A U u Y Z r1;refine⟨B,l2,S2,Υ,zB,C.imp λy S3 C G J v l3 s3 r3=>?_⟩;obtain⟨I,S4,x4,y4,d,S5,L,r4,r5,m,k4⟩:=C G J v l3 s3 r3;unfold NC at m;split at m
 ·rename_i N hd
  cases m;obtain⟨a,O,rfl,g,g1,g2⟩:=Xp L r5 r4 hd;refine⟨a,O,rfl,g,?_⟩
  have:O.isSome=N.isSome:=by
   cases N with
   | none=>ext
   | some d=>grind
  rw[this];exact k4 I J _ .refl L (.bl _)
 ·cases m
def vB(l:X.A.units+1 < DE)(hi:GE X E i mi)(ho:GE X E o mo)(m:CN .In o=false:=by rfl):GE X E (.Compare i [.In] [o] B) (m2 (NC false) mi mo):=(jj (jl l hi ho) m).imp λ_ _ _ h=>cM h
def gK(l:X.A.units+1 < DE)(hi:GE X E i mi)(ho:GE X E o mo)(m:CN .NotIn o=false:=by rfl):GE X E (.Compare i [.NotIn] [o] B) (m2 (NC true) mi mo):=(jj (WD l hi ho) m).imp λ_ _ _ h=>TJ h
def kC{K}{m}{B}{H}{Q}(h:gT K E (mB m) B H Q):gE K E m B H λx H1=>∃c,x=.bl c/\Q c H1:=by
 obtain⟨C,l,S,G,I,o⟩:=h;refine⟨C,l,S,G,I,o.seq λd O o A H1 x J L N=>?_⟩
 cases d <;> first | exact o.elim | skip
 cases N;exact⟨_,rfl,o A H1 J L⟩
def uw(l:X.A.units+1 < DE)(hi:GE X E i mi)(ho:GE X E o mo)(m:CN .In o=false:=by rfl):GT X E (.Compare i [.In] [o] B) (mB (m2 (NC false) mi mo)):=(jU (jl l hi ho) m).imp λ_ _ _ h=>cM (kC h)
def gH(l:X.A.units+1 < DE)(hi:GE X E i mi)(ho:GE X E o mo)(m:CN .NotIn o=false:=by rfl):GT X E (.Compare i [.NotIn] [o] B) (mB (m2 (NC true) mi mo)):=(jU (WD l hi ho) m).imp λ_ _ _ h=>TJ (kC h)
noncomputable def Jf:ME:=λ_ S=>.ok (.ref S.length) (S++[.dK []])
noncomputable def Oc:ME:=λ_ S=>.ok (.ref S.length) (S++[.dT []])
def M0:GE X E (.Dict [] [] A) Jf:=(ji).imp<|by
 rintro J H Q ⟨L,l,S,N,B,k⟩ p C
 obtain⟨G,I,m⟩:=B.alloc (o:=.dK []) C ⟨[],Bz,.nil⟩;exact k _ _ _ I G (.ref m)
def Pv:GE X E (.Dict [] [] A) Oc:=(jh).imp<|by
 rintro J H Q ⟨L,l,S,N,B,k⟩ p C
 obtain⟨G,I,m⟩:=B.alloc (o:=.dT []) C ⟨[],Bz,.nil⟩;exact k _ _ _ I G (.ref m)
def Qt(x y v:D)(S:Sto):Option Sto:=match x with
 | .ref n=>match S[n]? with
  | some (.dK l)=>match kQ y with
   | some k=>if l.length < sizeLine then some (S.set n (.dK (CJ l k v)))else none
   | none=>none
  | some (.dT l)=>match y with
   | .tup m=>match OH m with
    | some o=>if l.length < sizeLine then some (S.set n (.dT (CJ l o v)))else none
    | none=>none
   | _=>none
  | _=>none
 | _=>none
def Cb(mo mi mv:ME):MS:=λe S=>(mv e S).lift e λv l=>(mo e l).lift e λx m=>(mi e m).lift e λy o=>match Qt x y v o with
 | some A=>.ok (.nx e) A
 | none=>.bad
def Gj(hu:X.A.units+1 < DE)(ho:GE X E o mo)(hi:GE X E i mi)(hv:GE X E value mv)(hs:G1 value (some (.Subscript o i N)) Y.line X.env=pure false:=by rfl):GS X E (.Assign [.Subscript o i N] value Y) (Cb mo mi mv):=(oh hu ho hi hv hs).imp<|by
 rintro D σ H ⟨ρ,l,S,J,hs,C⟩
 refine⟨ρ,l,S,J,hs,C.lift J .refl λv S1 C Z H1 vv G s1 r1=>⟨Z,l,S1,J.mono G,s1,(C.later G).lift (J.mono G) G λx S2 C ρ2 H2 xv I s2 r2=>⟨ρ2,l,S2,J.mono (G.trans I),s2,(C.later I).lift (J.mono (G.trans I)) (G.trans I) λy S3 C B T yv O U r3=>?_⟩⟩⟩;have P:=r1.mono (I.trans O);have r2':=r2.mono O;have Q:=J.mono (G.trans (I.trans O));split at C
 ·rename_i S4 m
  unfold Qt at m;split at m
  ·rename_i n
   cases r2' with
   | @ref _ a L=>
    split at m
    ·rename_i f' h4
     split at m
     ·rename_i ky hk
      split at m
      ·rename_i hz
       cases m;obtain⟨vp,e,r⟩:=U.ob n _ _ h4 L;rw[SL r3 hk];have le:Le X.K B T B (upd T a (.dK (Nn vp ky vv))):=Le.write L (by rw[e];trivial);obtain⟨s5,R⟩:=U.write (o:=.dK (CJ f' ky v)) L ⟨_,Bz,(KVR.put ky P r).mono le⟩ le;exact⟨a,_,rfl,Zk.k e (by rw[<-KVR.length r];exact hz),C B _ σ (G.trans (I.trans (O.trans R))) s5 (Q.mono R)⟩
      ·cases m
     ·cases m
    ·rename_i f' h4
     split at m
     ·rename_i ds
      split at m
      ·rename_i ks hk
       split at m
       ·rename_i hz
        cases m;obtain⟨vp,e,r⟩:=U.ob n _ _ h4 L
        cases r3 with
        | tup b1 b2=>
         rw[Po b2 hk]at b1;have le:Le X.K B T B (upd T a (.dT (Nn vp ks vv))):=Le.write L (by rw[e];trivial);obtain⟨s5,R⟩:=U.write (o:=.dT (CJ f' ks v)) L ⟨_,Bz,(KVR.put ks P r).mono le⟩ le;exact⟨a,_,rfl,Zk.t e b1 (by rw[<-KVR.length r];exact hz),C B _ σ (G.trans (I.trans (O.trans R))) s5 (Q.mono R)⟩
       ·cases m
      ·cases m
     ·cases m
    ·cases m
  ·cases m
 ·exact C.elim
end
section
variable{X:Cx}{E:EW}{a b c:Expr}{pos:Pos}
def eY{K}{f g}{P}{H}{Q}(h:gE K E (m3 f g ma mb mc) P H Q):i7 (rD K f) (rD K g) (gE K E ma) (gE K E mb) (gE K E mc) P H Q:=by
 obtain⟨ρ,l,S,I,hs,m⟩:=h;refine⟨ρ,l,S,I,hs,m.seq λx S1 m J H1 u o s1 r1=>⟨J,l,S1,I.mono o,s1,(m.later o).seq λy R m L H2 v A s2 T=>?_⟩⟩
 cases G:f x y R with
 | bad=>rw[G]at m;exact m.elim
 | err _ _=>rw[G]at m;exact m.elim
 | ok z U=>
  rw[G]at m;dsimp only[okR,Res.bind]at m;refine⟨L,R,x,y,z,U,s2,r1.mono A,T,G,λB H3 w C Y r3=>?_⟩
  cases z with
  | bl k=>
   cases r3;refine⟨k,rfl,?_⟩
   cases k with
   | true=>
    rw[qX rfl];refine⟨B,l,U,I.mono (o.trans (A.trans C)),Y,Cj.seq (m.later (A.trans C)) λw S4 m N H4 wv Z s4 r4=>?_⟩;obtain⟨d,S',e,k⟩:=m.okR;exact⟨N,S4,y,w,d,S',s4,T.mono (C.trans Z),r4,e,λO H' z l' s' r'=>k O H' z (o.trans (A.trans (C.trans (Z.trans l')))) s' r'⟩
   | false=>rw[qY Ab];exact m B H3 _ (o.trans (A.trans C)) Y (.bl false)
  | _=>exact m.elim
def UK(ho:OpR X (Cd m) (rD X.K f))(o:OpR X (Cd l) (rD X.K g))(A:GE X E a ma)(hb:GE X E b B)(C:GE X E c G)
  (H:lastMarks [m,l] [b,c]=false:=by with_unfolding_all rfl):GT X E (.Compare a [m,l] [b,c] pos) (mB (m3 f g ma B G)):=(jV ho o A hb C H).imp λ_ _ _ h=>eY (kC h)
def ff(m:ME):ME:=λe S=>(m e S).bind λd l=>match d with
 | .int i=>.ok (.int (-i)) l
 | _=>.bad
def bQ(h:GE X E a ma):GE X E (.UnaryOp .USub a pos) (ff ma):=(xP sh h).imp<|by
 rintro N H Q ⟨A,l,S,B,C,m⟩
 refine⟨A,l,S,B,C,m.seq λd O m o G x I J L=>?_⟩
 cases d <;> first | exact m.elim | skip
 cases L;exact⟨_,rfl,m o G _ I J (.int _)⟩
end
abbrev MO:=Lo->Sto->Res (Option Int)
def gO(K:AI)(E:EW)(m:MO):TO:=λC H Q=>∃A e S,Gg K A H e C/\CS K A S H/\Cj K (λc=>E c C) A H (m e S) λo G=>∀l B,Le K A H l B->CS K l G B->Q o B
abbrev GO(X:Cx)(E:EW)(e:Option Expr)(m:MO):Prop:=PO X e (gO X.K E m)
noncomputable def Y6:MO:=λ_ S=>.ok none S
def Tx(m:ME):MO:=λe S=>(m e S).bind λd l=>match d with
 | .int i=>.ok (some i) l
 | _=>.bad
def Nu{α:Type}(xs:List α)(lo hi:Option Int):List α:=(xs.drop (HT.sIx xs.length 0 lo)).take (HT.sIx xs.length xs.length hi - HT.sIx xs.length 0 lo)
section
variable{X:Cx}{E:EW}{e:Expr}{lo hi:Option Expr}{m:ME}
def PO.imp(h:PO X o t)(i:∀l H Q,t' l H Q->t l H Q):PO X o t':=λA s l H Q I q=>h A s l H Q I (i l H Q q)
def Xg:GO X E none Y6:=PO.imp oq<|by rintro C H Q ⟨o,l,S,G,A,B⟩;exact B o H .refl A
def SO(h:GE X E e m):GO X E (some e) (Tx m):=PO.imp (oo h)<|by
 rintro O H Q ⟨B,l,S,C,G,o⟩
 refine⟨B,l,S,C,G,o.seq λd P o A I x J L N=>?_⟩
 cases d <;> first | exact o.elim | skip
 cases N;exact⟨_,rfl,o A I J L⟩
def lS{K}{ρ}{H}{l}{vs}(r:Av K ρ H l vs)(lo hi:Option Int):Av K ρ H (Nu l lo hi) (gc vs lo hi):=by
 unfold Nu gc;rw[r.length];exact(r.drop _).take _
end
section
variable{X:Cx}{E:EW}{e:Expr}{p pos:Pos}{m:ME}
def Je(m:ME):ME:=λe S=>(m e S).bind λd l=>match Ga d l with
 | some o=>.ok (.tup o) l
 | none=>.bad
def Ji(Z:Gl X "tuple") (C:X.mg "tuple" = none) (h:GE X E e m) (T:AW [e] X.env=(false,CO e X.env) :: AW [] X.env:=by rfl):GE X E (.Call (.Name "tuple" p) [e] [] pos) (Je m):=
 (Qe Vg Z C yc (Fy h IG T) (by decide) (by decide) T rfl).imp<|by
 rintro σ H Q ⟨ρ,l,S,hl,hs,C⟩
 refine⟨ρ,l,S,hl,hs,C.seq λd S1 C J G x U N r1=>?_⟩
 cases A:Ga d S1 with
 | none=>rw[A]at C;exact C.elim
 | some ds=>
  rw[A]at C
  have I:∀a B,x=.ref a->SqL X.K G a B->Av X.K J G ds B->∃p O,[x]=[.ref p]/\((SqL X.K G p O/\∀l,G l=none->Q (.ref l) (upd G l (.tup O)))∨(SqT X.K G p O/\Q (.ref p) G)):=λa B e sq P=>by
   subst e;refine⟨a,B,rfl,.inl ⟨sq,λq A=>?_⟩⟩;obtain⟨s2,Y⟩:=JH N A;exact C _ _ _ (U.trans Y) s2 (.tup Bz (P.mono Y))
  cases r1 with
  | @tup _ a B L R=>cases A;exact⟨a,B,rfl,.inr ⟨.inl (.inl L),C J G _ U N (.tup L R)⟩⟩
  | @fro _ a B L R=>cases A;exact I a B rfl L.sq R
  | @ref n a hn=>
   obtain⟨o,ho,ro⟩:=N.there hn;unfold Ga at A;simp only[ho]at A
   cases o with
   | lst es=>cases A;obtain⟨B,e,P⟩:=ro;exact I a B rfl (.inl (.inl e)) P
   | _=>cases A
  | _=>cases A
noncomputable def atL(d:D)(S:Sto):Option (Nat×List D):=match d with
 | .ref n=>match S[n]? with
  | some (.lst l)=>some (n,l)
  | _=>none
 | _=>none
def Ol{K}{ρ}{S}{H}{d}{x}{n}{xs}(s:CS K ρ S H)(r:CA K ρ H d x)(h:atL d S=some (n,xs)):d=.ref n/\S[n]?=some (.lst xs)/\∃a vs,x=.ref a/\ρ[n]?=some a/\H a=some (.lst vs)/\Av K ρ H xs vs:=by
 unfold atL at h;split at h
 ·split at h
  ·rename_i o l
   cases h;exact⟨rfl,l,cS s r l⟩
  ·cases h
 ·cases h
def XM{K}{ρ}{S}{H}{n}{a}{vs l}{o}(s:CS K ρ S H)(A:ρ[n]?=some a)(e:H a=some (.lst vs))(r:Av K ρ H o l) :
  CS K ρ (S.set n (.lst o)) (upd H a (.lst l))/\Le K ρ H ρ (upd H a (.lst l)):=by
 have le:Le K ρ H ρ (upd H a (.lst l)):=Le.write A (by rw[e];trivial);exact s.write A ⟨_,Bz,r.mono le⟩ le
end
section
variable{X:Cx}
def range_getD{l:Type}(d:l)(bs:List l):(BO bs.length).map (λi=>bs.getD i d)=bs:=by
 apply Dt
 intro i;rw[AX]
 by_cases h:i < bs.length
 ·rw[D8 h]
  simp[List.getD,h]
 ext
def ny{bs:List Bool}{l:List AG}(r:Bk (bs.map V.bl) l){i:Nat}{v:AG}(h:l.toArray[i]?=some v):v=.bool (bs.getD i false):=by
 have m:l[i]?=some v:=by simpa using h
 obtain⟨B,e⟩:=AB.mp m
 have hb:i < bs.length:=by have:=r.length;simp at this;ext
 obtain⟨u,o,A⟩:=r.get (show(bs.map V.bl)[i]?=some (V.bl bs[i]) by simp[hb]);rw[m]at o;cases o;rw[show v=VC bs[i]from A];ext
def ag(K:AI)(f:List Bool->Bool):List V->Hp->VK->Prop:=λl H Q=>∃p bs,l=[.ref p]/\(SqL K H p (bs.map V.bl)∨SqT K H p (bs.map V.bl))/\Q (.bl (f bs)) H
def Ud{O:List (AU×Obj)}{s:AK}{S:St}{H:Hp}{p:AU}{bs:List Bool}{R:AG->AK->Prop}{E:AG->AK->Prop}(Z:X.calm=true)(I:Inv X O S H s)(B:SqL X.K H p (bs.map V.bl)∨SqT X.K H p (bs.map V.bl))
  (h:∀C L,(∃I fp wr n P St T,C=BB I/\Walks X.prog X.w X.A.in1 I fp wr n P St/\St 0 L.heap/\TruthOf X.prog X.w X.A.in1 P T/\(BO n).map T=bs /\
   ∀(h':B0) (N:Nat),(∀b o,¬b∈wr->L.heap.get? b=some o->h'.get? b=some o)->Inv X O S H { L with heap:=h',toks:=N })->R C L) :
  Ak (Ac X.prog X.w) X.A.in1 (Sa (.ref p)) R E s:=by
 have U:X.A.in1.handled=none:=I.ok.hd Z
 have fin:∀(l:List AG),Bk (bs.map V.bl) l->(BO l.toArray.size).map (λi=>bs.getD i false)=bs:=λl r=>by
  have:l.toArray.size=bs.length:=by have:=r.length;simp at this;simpa using this.symm
  rw[this,range_getD]
 have G:∀(l:List AG),Bk (bs.map V.bl) l->TruthOf X.prog X.w X.A.in1 (λi v=>l.toArray[i]?=some v) (λi=>bs.getD i false):=λl r i v s Q E hv q=>by
  rw[ny r hv];exact DA q
 have kp:∀(Y:Obj) (h':B0) (N:Nat),(∀b o,¬b∈[s.heap.objs.size]->(s.heap.push Y).get? b=some o->h'.get? b=some o)->Inv X O S H { s with heap:=h',toks:=N }:=λY h' N k=>
  I.kept λb o e=>k b o (by simpa using Au (Aa e)) (AE _ e)
 rcases B with B | B
 ·obtain⟨l,J,m,hz⟩:=I.list B
  refine Ux m.isList (h _ _ ⟨s.heap.objs.size,_,_,_,_,_,_,rfl,wL U _ p (Au (Aa m.isList.choose_spec.1)) l.toArray,⟨⟨_,AS _ rfl,rfl,rfl⟩,?_⟩,G l J,fin l J,kp _⟩)
  exact m.isList.at λo e=>AE _ e
 ·obtain⟨l,J,m,hz⟩:=I.tuple B
  have pt:=m;refine Hy pt (h _ _ ⟨s.heap.objs.size,_,_,_,_,_,_,rfl,Walks.tuple U _ p (Au m.lt) l.toArray,⟨⟨_,AS _ rfl,rfl,rfl⟩,?_⟩,G l J,fin l J,kp _⟩);obtain⟨o,e,c⟩:=pt;exact⟨o,AE _ e,c⟩
def gk(m:X.calm=true):Jo X (.builtin "all") (ag X.K λbs=>bs.all id):=by
 intro O s R H S T Q I r h;obtain⟨p,bs,rfl,o,q⟩:=h;obtain⟨u,rfl,A⟩:=vals1 r;cases A;refine call_all_walk (Ud m I o ?_);rintro B U ⟨J,C,wr,n,P,St,E,e,W,st,l,G,kp⟩;refine⟨J,C,wr,n,P,St,E,e,W,st,l,?_⟩;rintro L N k;refine⟨.bl _,H,kp L N k,rfl,?_⟩;rw[<-G]at q;dsimp only at q;rw[wB]at q;exact q
def gj(m:X.calm=true):Jo X (.builtin "any") (ag X.K λbs=>bs.any id):=by
 intro O s R H S T Q I r h;obtain⟨p,bs,rfl,o,q⟩:=h;obtain⟨u,rfl,A⟩:=vals1 r;cases A;refine call_any_walk (Ud m I o ?_);rintro B U ⟨J,C,wr,n,P,St,E,e,W,st,l,G,kp⟩;refine⟨J,C,wr,n,P,St,E,e,W,st,l,?_⟩;rintro L N k;refine⟨.bl _,H,kp L N k,rfl,?_⟩;rw[<-G]at q;dsimp only at q;rw[Zs]at q;exact q
noncomputable def Xy:List D->Option (List Bool)
 | []=>some []
 | .bl b :: l=>(Xy l).map (b :: ·)
 | _ :: _=>none
theorem dX{K}{ρ}{H}{l:List D}{vs:List V}{bs:List Bool}(a:Av K ρ H l vs)(h:Xy l=some bs):vs=bs.map V.bl:=by
 cases a with
 | nil=>cases h;rfl
 | @cons _ _ l _ r t=>
  cases r with
  | bl b=>
   unfold Xy at h
   cases m:Xy l with
   | none=>ext
   | some o=>rw[m]at h;cases h;rw[dX t m];rfl
  | _=>cases h
def gl(f:List Bool->Bool)(l:List D)(S:Sto):Res D:=match Xy l with
 | some bs=>.ok (.bl (f bs)) S
 | none=>.bad
def Yp:vd X.K (ag X.K f) (gl f):=λm H S B q C d E Q o A sq l k=>by
 unfold gl at l;split at l
 ·rename_i bs hb
  cases l;rw[dX A hb]at sq;exact⟨q,bs,rfl,sq,k m H _ .refl o (.bl _)⟩
 ·cases l
abbrev lr:=gl λbs=>bs.all id
abbrev gn:=gl λbs=>bs.any id
noncomputable def VX:ZLi->Int:=λl=>Sb (λi=>l.getD i 0) l.length
theorem LW:∀(n:Nat),(∀i,i < n->f i=g i)->Sb f n=Sb g n
 | 0,_=>rfl
 | n+1,h=>by
  show Sb f n+f n=Sb g n+g n;rw[LW n λi l=>h i (by lia),h n (by ext)]
theorem RN(x:Int)(f:Nat->Int):∀n:Nat,Sb (λi=>match i with | 0=>x | j+1=>f j) (n+1)=x+Sb f n
 | 0=>by show(0:Int)+x=x+0;ext
 | n+1=>by
  show Sb _ (n+1)+f n=x+(Sb f n+f n);rw[RN x f n]
  lia
theorem XB:∀l:ZLi,VX l=l.sum
 | []=>rfl
 | n :: l=>by
  have:=XB l;unfold VX at this ⊢;rw[List.sum_cons,<-this,Az,<-RN]
  refine LW _ λi m=>?_
  cases i <;> simp
def Vd{l:ZLi}{m:List AG}(r:Bk (l.map V.int) m):∃xs:Array (Int×Tok),m.toArray=intItems xs/\xs.size=l.length/\∀i,i < l.length->numAt xs i=l.getD i 0:=by
 induction l generalizing m with
 | nil=>
  cases r;exact⟨#[],by simp[intItems],rfl,λi o=>zX o (by simp)⟩
 | cons n l B=>
  cases r with
  | cons C E=>
   obtain⟨xs,A,G,H⟩:=B E;obtain⟨t,rfl⟩:=C;refine⟨#[(n,t)]++xs,?_,by simp[G];lia,λi o=>?_⟩
   ·unfold intItems at A ⊢
    rw[Array.map_append,<-A];simp
   ·cases i with
    | zero=>
     unfold numAt;rw[Array.getElem?_append_left (by simp)];simp
    | succ i=>
     have:=H i (by simpa using o);unfold numAt at this ⊢;rw[Array.getElem?_append_right (by simp)];simpa using this
def xH(K:AI)(f:ZLi->Int):List V->Hp->VK->Prop:=λm H Q=>∃p l,m=[.ref p]/\SqL K H p (l.map V.int)/\Q (.int (f l)) H
def ge(l:X.calm=true):Jo X (.builtin "sum") (xH X.K VX):=by
 intro N s O H m P Q I r h;obtain⟨p,R,rfl,o,q⟩:=h;obtain⟨u,rfl,A⟩:=vals1 r;cases A;obtain⟨S,B,C,T⟩:=I.list o;obtain⟨m,E,G,J⟩:=Vd B
 refine sum_intListG (I.ok.hd l) (by rw[<-E];exact C.isList) λU Y L kp=>⟨.int _,H,I.kept kp,⟨L,rfl⟩,?_⟩
 rw[G,LW _ J];exact q
noncomputable def Ih:List D->Option ZLi
 | []=>some []
 | .int b :: l=>(Ih l).map (b :: ·)
 | _ :: _=>none
theorem Pr:∀{l:List D} {m:ZLi},Ih l=some m->l=m.map D.int
 | [],_,h=>by cases h;rfl
 | .int b :: l,m,h=>by
  unfold Ih at h
  cases o:Ih l with
  | none=>ext
  | some A=>rw[o]at h;cases h;rw[Pr o];rfl
 | .non :: _,_,h=>by cases h
 | .bl _ :: _,_,h=>by cases h
 | .str _ :: _,_,h=>by cases h
 | .tup _ :: _,_,h=>by cases h
 | .fro _ :: _,_,h=>by cases h
 | .ref _ :: _,_,h=>by cases h
 | .exc _ :: _,_,h=>by cases h
@[simp] def gB:∀l:ZLi,Ih (l.map D.int)=some l
 | []=>rfl
 | n :: l=>by rw[Ap,Ih,gB l];rfl
@[simp] def lX:∀l:List Bool,Xy (l.map D.bl)=some l
 | []=>rfl
 | n :: l=>by rw[Ap,Xy,lX l];rfl
def j9(m:ME):ME:=λe S=>(m e S).bind λd l=>match Od d l with
 | some o=>match Ih o with
  | some A=>.ok (.int (VX A)) l
  | none=>.bad
 | none=>.bad
def kr(L:X.calm=true)(N:Gl X "sum") (o:X.mg "sum" = none) (h:GE X E e m) (G:AW [e] X.env=(false,CO e X.env) :: AW [] X.env:=by rfl):GE X E (.Call (.Name "sum" p) [e] [] O) (j9 m):=
 (Pc (ge L) N o yd (Fy h IG G) (by decide) (by decide) G rfl).imp<|by
 rintro σ H Q ⟨P,l,S,R,T,o⟩
 refine⟨P,l,S,R,T,o.seq λd U o A Y x Z I r1=>?_⟩
 cases B:Od d U with
 | none=>rw[B]at o;exact o.elim
 | some ds=>
  rw[B]at o;dsimp only at o
  cases C:Ih ds with
  | none=>rw[C]at o;exact o.elim
  | some ns=>
   rw[C]at o;obtain⟨p,xs,rfl,J,sq⟩:=J4 I r1 B;rw[Pr C]at J;rw[J.ints]at sq;exact⟨p,ns,rfl,sq,o A Y _ Z I (.int _)⟩
end
noncomputable def Jc{α:Type}(r l:Res α):Res α:=match r with
 | .bad=>l
 | r=>r
def fV{l:Type}(r r':Res l):Jc r r'=r∨Jc r r'=r':=by cases r <;> simp[Jc]
noncomputable def op2(f g:D->D->Sto->Res D):D->D->Sto->Res D:=λx y S=>Jc (f x y S) (g x y S)
def ZI(f g:D->D->Sto->Res D)(ma m:ME)(l:Lo)(S:Sto):m2 (op2 f g) ma m l S=m2 f ma m l S∨m2 (op2 f g) ma m l S=m2 g ma m l S:=by
 unfold m2
 cases ma l S with
 | ok x A=>
  dsimp only[Res.bind]
  cases m l A with
  | ok y o=>
   dsimp only[Res.bind];unfold op2
   rcases fV (f x y o) (g x y o)with e | e <;> rw[e] <;> simp
  | err c o=>ext
  | bad=>ext
 | err c A=>exact .inl rfl
 | bad=>exact .inl rfl
section
def bR{m o m2}(L:GE X E e o)(N:GE X E e m2)(h:∀l S,m l S=o l S∨m l S=m2 l S):GE X E e m:=by
 rintro A s B H Q I ⟨C,l,S,G,J,a⟩
 rcases h l S with q | q
 ·rw[q]at a;exact L A s B H Q I ⟨C,l,S,G,J,a⟩
 ·rw[q]at a;exact N A s B H Q I ⟨C,l,S,G,J,a⟩
def kl(G:GT X E e J)(L:GT X E e N)(h:∀l S,t l S=J l S∨t l S=N l S):GT X E e t:=by
 rintro m s o H Q I ⟨A,l,S,B,C,a⟩
 rcases h l S with q | q
 ·rw[q]at a;exact G m s o H Q I ⟨A,l,S,B,C,a⟩
 ·rw[q]at a;exact L m s o H Q I ⟨A,l,S,B,C,a⟩
def u7(G:GI X E tg e J)(L:GI X E tg e N)(h:∀l S,t l S=J l S∨t l S=N l S):GI X E tg e t:=by
 rintro m s o H R I ⟨A,l,S,B,C,a⟩
 rcases h l S with q | q
 ·rw[q]at a;exact G m s o H R I ⟨A,l,S,B,C,a⟩
 ·rw[q]at a;exact L m s o H R I ⟨A,l,S,B,C,a⟩
def rH{m o m2}(h:∀l S,m l S=o l S∨m l S=m2 l S)(l:Lo)(S:Sto):mB m l S=mB o l S∨mB m l S=mB m2 l S:=by
 unfold mB
 grind
abbrev inA(neg:Bool):=op2 (inD neg) (NC neg)
def rX(m:X.A.units+64 < DE)(hi:GE X E i mi)(ho:GE X E o mo)(l:CN .In o=false:=by with_unfolding_all rfl):GE X E (.Compare i [.In] [o] B) (m2 (inA false) mi mo):=
 bR (Xl (rF m) hi ho l) (vB (by lia) hi ho l) λ_ _=>ZI _ _ _ _ _ _
def kt(m:X.A.units+64 < DE)(hi:GE X E i mi)(ho:GE X E o mo)(l:CN .NotIn o=false:=by with_unfolding_all rfl):GE X E (.Compare i [.NotIn] [o] B) (m2 (inA true) mi mo):=
 bR (Xl (Y4 m) hi ho l) (gK (by lia) hi ho l) λ_ _=>ZI _ _ _ _ _ _
def ZS(m:X.A.units+64 < DE)(hi:GE X E i mi)(ho:GE X E o mo)(l:CN .In o=false:=by with_unfolding_all rfl):GT X E (.Compare i [.In] [o] B) (mB (m2 (inA false) mi mo)):=
 kl (FJ (rF m) hi ho l) (uw (by lia) hi ho l) (rH λ_ _=>ZI _ _ _ _ _ _)
def HU(m:X.A.units+64 < DE)(hi:GE X E i mi)(ho:GE X E o mo)(l:CN .NotIn o=false:=by with_unfolding_all rfl):GT X E (.Compare i [.NotIn] [o] B) (mB (m2 (inA true) mi mo)):=
 kl (FJ (Y4 m) hi ho l) (gH (by lia) hi ho l) (rH λ_ _=>ZI _ _ _ _ _ _)
abbrev ixA:=op2 ixD UZ
def Df(m:X.A.units+64 < DE)(ho:GE X E o mo)(hi:GE X E i mi)(hs:X3 i:=by intro _ _;rfl):GE X E (.Subscript o i l) (m2 ixA mo mi):=
 bR (yF xZ ho hi hs) (p8 (by lia) ho hi hs) λ_ _=>ZI _ _ _ _ _ _
def Hr(d:D):P4:=match d with
 | .tup l=>JE l
 | d=>Q9 d
def DM(m:ME):MI:=λe S=>(m e S).bind λd l=>match Hr d l with
 | some _=>.ok (Hr d) l
 | none=>.bad
def Ch(h:GE X E e m):GI X E tg e (DM m):=u7 (u6 h) (u0 h) λl S=>by
 unfold DM xy rW
 cases m l S with
 | ok d o=>
  dsimp only[Res.bind]
  cases d <;> first | exact .inl rfl | exact .inr rfl
 | err c o=>exact .inl rfl
 | bad=>exact .inl rfl
def Nq(m:ME):ME:=λe S=>(m e S).bind λd l=>match Ga d l with
 | some o=>.ok (.int o.length) l
 | none=>.bad
def Mz(A:Gl X "len") (B:X.mg "len" = none) (h:GE X E e m) (C:AW [e] X.env=(false,CO e X.env) :: AW [] X.env:=by rfl):GE X E (.Call (.Name "len" p) [e] [] G) (Nq m):=
 (Xj Xx tJ A B PySem.boot_len (dA h) (by decide) (by decide) C).imp<|by
  rintro N H Q ⟨I,l,S,J,L,a⟩;refine⟨I,l,S,J,L,?_⟩
  have q:mQ xl (Mr m) l S=Nq m l S:=by
   unfold mQ Mr Nq
   cases m l S with
   | ok d o=>
    dsimp only[Res.bind]
    cases Ga d o <;> rfl
   | err c o=>rfl
   | bad=>rfl
  rw[q];exact a
def SR(m:X.calm=true)(o:Gl X "min") (A:X.mg "min" = none) (h:GA X E [a,b] ml) (B:AW [a,b] X.env=(false,CO a X.env) :: AW [b] X.env:=by rfl) (C:(E1 l (AW [b] X.env)).any (·.1)=false:=by rfl):GE X E (.Call (.Name "min" p) [a,b] [] l) (mQ OE ml):=
 dF (gg m) qf o A yg h (by decide) (by decide) B C
def dC(m:X.calm=true)(o:Gl X "max") (A:X.mg "max" = none) (h:GA X E [a,b] ml) (B:AW [a,b] X.env=(false,CO a X.env) :: AW [b] X.env:=by rfl) (C:(E1 l (AW [b] X.env)).any (·.1)=false:=by rfl):GE X E (.Call (.Name "max" p) [a,b] [] l) (mQ RP ml):=
 dF (gh m) qg o A yh h (by decide) (by decide) B C
def Xk(l:Gl X "list") (o:X.mg "list" = none) (h:GE X E e m) (A:AW [e] X.env=(false,CO e X.env) :: AW [] X.env:=by rfl):GE X E (.Call (.Name "list" p) [e] [] B) (DF (mN WN (Mr m))):=
 CH (pq Xw oM l o yi (dA h) (by decide) (by decide) A)
def ku(l:X.calm=true)(o:Gl X "all") (A:X.mg "all" = none) (h:GE X E e m) (B:AW [e] X.env=(false,CO e X.env) :: AW [] X.env:=by rfl):GE X E (.Call (.Name "all" p) [e] [] C) (mQ lr (Mr m)):=
 Xj (gk l) Yp o A ym (dA h) (by decide) (by decide) B
def vC(l:X.calm=true)(o:Gl X "any") (A:X.mg "any" = none) (h:GE X E e m) (B:AW [e] X.env=(false,CO e X.env) :: AW [] X.env:=by rfl):GE X E (.Call (.Name "any" p) [e] [] C) (mQ gn (Mr m)):=
 Xj (gj l) Yp o A yk (dA h) (by decide) (by decide) B
end
def Nb(mo ma:ME):ME:=λe S=>(mo e S).bind λd m=>match atL d m with
 | some (n,_)=>(ma e m).bind λy l=>match atL d l,atL y l with
  | some (_,o),some (k,A)=>if k≠n/\o.length+A.length<=sizeLine then .ok .non (l.set n (.lst (o++A)))else .bad
  | _,_=>.bad
 | none=>.bad
section
def WS(ho:GE X E o mo)(ha:GE X E e ma)(zi:FE o "extend" X.env (CO o X.env)=CO o X.env:=by rfl)
  (My:((E1 B (AW [e] X.env)).all (λx=>!x.1)&&(U9 B (MC [] X.env)).all (λx=>x.1.isSome)
    &&decide ([e].length+([]:List Q3).length+(if ([]:List Q3).isEmpty then 0 else 1) < 30))=true:=by rfl)
  (zj:(A.endLine==B.line)=true:=by rfl) (hs:AW [e] X.env=(false,CO e X.env) :: AW [] X.env:=by rfl) (zy:(E1 B (AW [] X.env)).any (·.1)=false:=by rfl) :
  GE X E (.Call (.Attribute o "extend" A) [e] [] B) (Nb mo ma):=(jk Kk PySem.F.slot_list_extend PySem.F.type_list_extend fb ho (Fy ha IG hs) zi My zj hs zy).imp<|by
 rintro σ H Q ⟨ρ,l,S,O,hs,m⟩
 refine⟨ρ,l,S,O,hs,m.seq λd P m C H1 v G R T=>?_⟩
 cases I:atL d P with
 | none=>rw[I]at m;exact m.elim
 | some z=>
  obtain⟨n,xs0⟩:=z;rw[I]at m;obtain⟨rfl,h0,a,J,rfl,hn,e0,_⟩:=Ol R T I;refine⟨.inl ⟨rfl,J,.inl (.inl e0)⟩,C,l,P,O.mono G,R,(m.later G).seq λy S2 m L H2 u U N r2=>?_⟩;split at m
  ·rename_i n' xs k ys h2 h3
   split at m
   ·rename_i hz
    obtain⟨e',h4,a',vs,ea,zQ,Y,Z⟩:=Ol N (T.mono U) h2;cases e';cases ea;obtain⟨ey,h5,p,ws,rfl,hk,e3,zJ⟩:=Ol N r2 h3;obtain⟨s3,l3⟩:=XM N zQ Y (Z.append zJ);exact⟨a,p,vs,ws,rfl,rfl,Y,e3,by rw[<-Z.length,<-zJ.length];exact hz.2,m L _ _ (G.trans (U.trans l3)) s3 .non⟩
   ·exact m.elim
  ·exact m.elim
end
noncomputable def nV(l:VD)(x:Str):Bool:=decide (l.names.lookup x=some .local)||decide (l.names.lookup x=some .cell)||decide (l.names.lookup x=some .free)
def bX(X:Cx)(scope:VD)(own N':List Str):Bool:=
 decide (scope.kind=.function)&&scope.names.all (λy=>!decide (y.2=.local)||decide (scope.names.lookup y.1=some .local)) &&
 scope.names.all (λy=>!decide (y.2=.free)||decide (X.env.kindOf y.1=some .cell)||decide (X.env.kindOf y.1=some .free))&&decide (N'.length=own.length+X.N.length) &&
 ((N'.drop own.length).zip X.N).all (λp=>!nV (Kh scope X.env) p.1||(decide (p.1=p.2)&&nV X.env.scope p.1&&(decide ((Kh scope X.env).names.lookup p.1=some .cell)||decide ((Kh scope X.env).names.lookup p.1=some .free))&&!decide (X.env.kindOf p.1=some .local)&&!scope.names.any (λz=>decide (z=(p.1,DV)))&&scope.names.any (λz=>decide (z=(p.1,GU))))) &&
 (Kh scope X.env).names.all (λy=>(!decide (y.2=.cell)&&!decide (y.2=.free))||scope.names.any (λz=>decide (z=(y.1,GU)))||scope.names.any (λz=>decide (z=(y.1,DV))))
def YV:nV l x=true↔Vis l x:=by
 unfold nV Vis
 lia
def Px(h:bX X scope own N'=true):Os X scope own N':=by
 unfold bX at h;simp only[DZ]at h;obtain⟨⟨⟨⟨⟨H,I⟩,m⟩,o⟩,A⟩,B⟩:=h;rw[Im]at I m A B;refine⟨of_decide_eq_true H,λy C e=>?_,λy C e=>?_,of_decide_eq_true o,λi x e v=>?_,λx l=>?_⟩
 ·grind
 ·have:=m y C
  ext
 ·have E:=of_decide_eq_true o
  have T:=(AB.mp e).1
  have l:i < X.N.length:=by ext
  have J:(x,X.N[i])∈(N'.drop own.length).zip X.N:=by
   rw[List.mem_iff_getElem?];refine⟨i,?_⟩;rw[Kf];exact⟨by rw[Ju];exact e,by simp[l]⟩
  have:=A _ J;rw[YV.mpr v]at this;simp only[sD,sE,DZ,MU,decide_eq_true_eq,Bool.not_eq_true',decide_eq_false_iff_not]at this;obtain⟨⟨⟨⟨⟨L,O⟩,P⟩,Q⟩,G⟩,U⟩:=this;refine⟨⟨by rw[L];simp[l],YV.mp O,P,Q⟩,λq=>?_,?_⟩
  ·rw[iF]at G
   exact G _ q (wX rfl)
  ext
 ·have R:∀k,(Kh scope X.env).names.lookup x=some k->(k=.cell∨k=.free)->(x,GU)∈scope.names∨(x,DV)∈scope.names:=λk e S=>by
   have:=B _ (Dw e)
   rcases S with rfl | rfl
   ·simpa using this
   ·simpa using this
  grind
structure Dfn(K:AI)(mg:Str->Option AG)(x qual:Str)(st:C2)(ps:List Str) where
 f:AU
 fd:LG
 F:Fun K x qual st f fd
 b:Binds K fd ps []
 m:mg x=some (.ref f)
def Dfn.kp{K}{m}{x l}{st}{o}(d:Dfn K m x l st o):Fd K (.ref d.f)=true:=d.F.kp
structure Mtd(K:AI)(x qual:Str)(st:C2)(ps:List Str) where
 f:AU
 fd:LG
 F:Fun K x qual st f fd
 b:Binds K fd ps []
structure Own(K:AI)(mg:Str->Option AG)(x:Str)(C f:AU):Prop where
 cl:Cls K C
 mk':Mk K C f
 m:mg x=some (.ref C)
abbrev wN:Nat:=1000000
end L2
namespace Srt
structure Ord(U:BP->Prop)(lt:BP->BP->Bool):Prop where
 asym:∀x y,U x->U y->lt x y=true->lt y x=false
 ntr:∀x y z,U x->U y->U z->lt y x=false->lt z y=false->lt z x=false
def Ord.irr(o:Ord U lt)(h:U x):lt x x=false:=by
 cases e:lt x x with
 | false=>rfl
 | true=>exact(o.asym x x h h e).symm.trans e |>.symm▸rfl
noncomputable def ix(xs:Array BP)(i:Nat):BP:=xs.getD i (.none,.none)
def K0(h:xs[i]?=l[j]?):ix xs i=ix l j:=by
 unfold ix;ext
def Er(h:i < xs.size):xs[i]?=some (ix xs i):=by
 unfold ix;ext
def fx(hs:l < xs.size)(o:d<=l)(k:Nat) :
  ix (bubble xs l d) k=if k=l - d then ix xs l else if l - d < k/\k<=l then ix xs (k - 1)else ix xs k:=by
 have e:=getElem?_bubble hs d o k;split
 ·rename_i h;rw[qX h]at e;exact K0 e
 ·rename_i h
  rw[qY h]at e;split
  ·rename_i m;rw[qX m]at e;exact K0 e
  ·rename_i m;rw[qY m]at e;exact K0 e
def E5(l:j<=xs.size)(k:Nat) :
  ix (Sd xs i j ((j - i) / 2)) k=if i<=k/\k < j then ix xs (i+j - 1 - k)else ix xs k:=by
 have e:=getElem?_mirror_all (i:=i) l k;split
 ·rename_i h;rw[qX h]at e;exact K0 e
 ·rename_i h;rw[qY h]at e;exact K0 e
section
def L1(prog:BN)(w:Bo)(A:Bg)(s:AK)(l:Array BP)(m:QE)(lt:BP->BP->Bool):Prop:=
 ∀x y,x∈l->y∈l->∀(Q:Bool->AK->Prop) (E:AG->AK->Prop),Q (lt x y) s->Ak (Ac prog w) A (keyLt' m x.1 y.1) Q E s
structure Good(a₀:Array BP)(κ:QE)(st:BL):Prop where
 perm:(Af st).Perm a₀
 kind:kindOf st=κ
 failed:Jq st=none
def Good.size{st:BL}(g:Good l m st):(Af st).size=l.size:=g.perm.size_eq
def Good.mem{st:BL}(g:Good a₀ m st){i:Nat}(h:i < a₀.size):ix (Af st) i∈a₀:=by
 have l:i < (Af st).size:=by rw[g.size];exact h
 have e:=Er l;have:=Cv e;exact BU.mp ((Fu.mp g.perm).mem_iff.mp (BU.mpr this))
def Good.setArr{st:BL}(g:Good l m st){xs:Array BP}(o:xs.Perm (Af st)):Good l m (setArr st xs):=⟨o.trans g.perm,g.kind,g.failed⟩
def Sm{st:BL}{x y:BP}{Q:Option Bool->BL->Prop}(C:L1 prog w A s l m lt)(g:Good l m st)(o:x∈l)(B:y∈l)(h:Q (some (lt x y)) st):wpS (Ac prog w) A E s (lt' x y) Q st:=by
 rw[lt'_eq];refine Ah (Io ?_);rw[g.kind];refine Ah (wpS_lift (GC ?_));refine C x y o B _ _ ⟨rfl,?_⟩;exact Ai h
def QM{st:BL}{i j:Nat}{Q:Option Bool->BL->Prop}(C:L1 prog w A s l o lt)(g:Good l o st)(hi:i < l.size)(m:j < l.size)(h:Q (some (lt (ix (Af st) i) (ix (Af st) j))) st) :
  wpS (Ac prog w) A E s (vw i j) Q st:=by
 rw[ltAt'_eq];refine Ah (Io ?_);show wpS _ _ _ _ (do let x <-elem' (Af st) i;let y <-elem' (Af st) j;lt' x y) Q st;rw[mU,mU,Er (by rw[g.size];exact hi),Er (by rw[g.size];exact m)];exact Ah (Ai (Ah (Ai (Sm C g (g.mem hi) (g.mem m) h))))
def Up(lt:BP->BP->Bool)(xs:Array BP)(lo hi:Nat):Prop:=∀i j,lo<=i->i<=j->j < hi->lt (ix xs j) (ix xs i)=false
def Dn(lt:BP->BP->Bool)(xs:Array BP)(lo hi:Nat):Prop:=∀i j,lo<=i->i<=j->j < hi->lt (ix xs i) (ix xs j)=false
def Out(xs l:Array BP)(lo hi:Nat):Prop:=∀i,(i < lo∨hi<=i)->ix l i=ix xs i
def Out.refl{xs:Array BP}{lo hi:Nat}:Out xs xs lo hi:=λ_ _=>rfl
def Out.trans{xs l m:Array BP}{lo hi:Nat}(a:Out xs l lo hi)(b:Out l m lo hi):Out xs m lo hi:=λi h=>(b i h).trans (a i h)
def Up.out{xs m:Array BP}{lo hi l h:Nat}(u:Up lt xs l h)(o:Out xs m lo hi)(d:h<=lo∨hi<=l):Up lt m l h:=λi j A B C=>by
 rw[o i (by lia),o j (by lia)];exact u i j A B C
def Up.grow{st:BL}(O:Ord (·∈l) lt)(g:Good l C st){lo hi:Nat}(hs:hi < l.size)(u:Up lt (Af st) lo hi)(E:lo < hi)(h:lt (ix (Af st) hi) (ix (Af st) (hi - 1))=false):Up lt (Af st) lo (hi+1):=λi j m o G=>by
 by_cases A:j < hi
 ·exact u i j m o A
 ·have:j=hi:=by lia
  subst this
  by_cases B:i=j
  ·subst B;exact O.irr (g.mem hs)
  ·exact O.ntr _ _ _ (g.mem (by lia)) (g.mem (by lia)) (g.mem hs) (u i (j - 1) m (by lia) (by lia)) h
def wpS_binarySort{st:BL}{lo n ok:Nat}{Q:Bool->BL->Prop}(C:L1 prog w A s o T lt)(O:Ord (·∈o) lt)(hn:lo+n<=o.size)(hok:ok<=n)(g:Good o T st)(u:Up lt (Af st) lo (lo+ok))
  (h:∀m,Good o T m->Up lt (Af m) lo (lo+n)->Out (Af st) (Af m) lo (lo+n)->Ag m=Ag st->Q true m):wpS (Ac prog w) A E s (binarySort' lo n ok) Q st:=by
 rw[binarySort'_eq]
 refine Ah (Hj (Do (I:=λk c m=>c=(none,())/\Good o T m/\Up lt (Af m) lo (lo+min k n)/\Out (Af st) (Af m) lo (lo+n)/\Ag m=Ag st)
  (Q:=λc m=>c=(none,())/\Good o T m/\Up lt (Af m) lo (lo+n)/\Out (Af st) (Af m) lo (lo+n)/\Ag m=Ag st) ?step ?fin ?init) ?post)
 case post=>
  rintro c m ⟨rfl,Y,Z,o',p'⟩;exact Ai (h m Y Z o' p')
 case init=>
  refine⟨rfl,g,λi j S U h3=>?_,.refl,rfl⟩
  by_cases h0:ok=0
  ·have:i=j:=by lia
   subst this;exact O.irr (g.mem (by lia))
  ·exact u i j S U (by lia)
 case fin=>
  rintro c m ⟨hc,Y,Z,o',p'⟩;refine⟨hc,Y,?_,o',p'⟩;rwa [show min (max (max ok 1) n) n=n by lia]at Z
 case step=>
  rintro k c J hak hkn ⟨rfl,H,X,o1,p1⟩;rw[show min k n=k by lia]at X
  have P:lo+k < o.size:=by lia
  refine Ah (Hj (Do (I:=λx c B=>B=J/\∃l r,c=(none,l,r)/\l<=r/\r<=k/\r - l<=k - x /\
    (∀i,i < l->lt (ix (Af J) (lo+k)) (ix (Af J) (lo+i))=false)/\(∀i,r<=i->i < k->lt (ix (Af J) (lo+k)) (ix (Af J) (lo+i))=true))
   (Q:=λc B=>B=J/\∃l r,c=(none,l,r)/\l<=k /\
    (∀i,i < l->lt (ix (Af J) (lo+k)) (ix (Af J) (lo+i))=false)/\(∀i,l<=i->i < k->lt (ix (Af J) (lo+k)) (ix (Af J) (lo+i))=true)) ?istep ?ifin ?iinit) ?ipost)
  case iinit=>exact⟨rfl,0,k,rfl,by ext,by ext,by ext,λi hi=>by ext,λi S U=>by lia⟩
  case ifin=>
   rintro c B ⟨rfl,l,r,rfl,hlr,L,hm,R,G⟩
   have:l=r:=by grind
   subst this;exact⟨rfl,l,l,rfl,L,R,G⟩
  case istep=>
   rintro x c B _ hxk ⟨rfl,l,r,rfl,hlr,L,hm,R,G⟩
   by_cases zE:l ≥ r
   ·rw[qX zE]
    have:l=r:=by lia
    subst this;exact Ai ⟨rfl,l,l,rfl,L,R,G⟩
   ·rw[qY zE]
    refine Ah (QM C H P (by lia) ?_)
    cases N:lt (ix (Af B) (lo+k)) (ix (Af B) (lo+(l+r) / 2))with
    | true=>
     refine Ai ⟨rfl,l,(l+r) / 2,rfl,by lia,by lia,by grind,R,λi S U=>?_⟩
     cases e:lt (ix (Af B) (lo+k)) (ix (Af B) (lo+i))with
     | true=>rfl
     | false=>
      have:=O.ntr _ _ _ (H.mem (by lia)) (H.mem (by lia)) (H.mem P) (X (lo+(l+r) / 2) (lo+i) (by ext) (by ext) (by ext)) e
      ext
    | false=>
     refine Ai ⟨rfl,(l+r) / 2+1,r,rfl,by lia,by omega,by grind,λi S=>?_,G⟩;exact O.ntr _ _ _ (H.mem (by lia)) (H.mem (by lia)) (H.mem P) (X (lo+i) (lo+(l+r) / 2) (by ext) (by lia) (by lia)) N
  case ipost=>
   rintro c B ⟨rfl,l,r,rfl,hlk,R,G⟩;show wpS _ _ _ _ (do moveDown' (lo+k) (lo+l);pure (IX (none,()))) _ _;rw[moveDown'_eq]
   have hks:lo+k < (Af B).size:=by rw[H.size];exact P
   have e:∀i,ix (bubble (Af B) (lo+k) (lo+k - (lo+l))) i=if i=lo+l then ix (Af B) (lo+k)else if lo+l < i/\i<=lo+k then ix (Af B) (i - 1)else ix (Af B) i:=λi=>by
    rw[fx hks (by ext),show lo+k - (lo+k - (lo+l))=lo+l by lia]
   refine Ah (EI (Ai ⟨rfl,H.setArr (bubble_perm _ _ _),?_,o1.trans λi hi=>?_,p1⟩))
   ·rw[show min (k+1) n=k+1 by lia]
    intro i j S U h3;rw[e,e]
    repeat' split
    all_goals first
     | (exfalso;grind)
     | exact O.irr (H.mem P)
     | (have q:=R (i - lo) (by lia);rw[show lo+(i - lo)=i by ext]at q;exact q)
     | (have q:=G (j - 1 - lo) (by grind) (by grind);rw[show lo+(j - 1 - lo)=j - 1 by lia]at q;exact O.asym _ _ (H.mem P) (H.mem (by grind)) q)
     | exact X _ _ (by lia) (by grind) (by lia)
   ·rw[e,qY (by lia),qY (by lia)]
end
section
def Kp{l:Type}{M:Z9}{r:String}{Q:PUnit->l->Prop}{st:l}(h:Q ⟨⟩ st):wpS M A E s (liftM (rule r):StateT l Sem PUnit) Q st:=wpS_lift (SY ⟨rfl,h⟩)
def Dn.flip{xs:Array BP}{lo hi:Nat}(hs:hi<=xs.size)(d:Dn lt xs lo hi):Up lt (Sd xs lo hi ((hi - lo) / 2)) lo hi:=λi j l m o=>by
 rw[E5 hs,E5 hs,qX (by lia),qX (by lia)];exact d _ _ (by lia) (by omega) (by lia)
def Dn.part{xs:Array BP}{lo hi m:Nat}(hs:hi<=xs.size)(o:lo<=m)(l:m<=hi)(d:Dn lt xs lo hi)(e:Up lt xs m hi):Dn lt (Sd xs m hi ((hi - m) / 2)) lo hi:=λi j A B C=>by
 rw[E5 hs,E5 hs]
 by_cases E:m<=i
 ·rw[qX (by lia),qX (by lia)]
  exact e _ _ (by lia) (by lia) (by lia)
 ·rw[qY (by lia)]
  split
  ·exact d _ _ (by omega) (by lia) (by lia)
  ·exact d _ _ (by omega) (by omega) (by omega)
def La{xs:Array BP}{i j lo hi:Nat}(l:j<=xs.size)(m:lo<=i)(o:j<=hi):Out xs (Sd xs i j ((j - i) / 2)) lo hi:=λk A=>by
 rw[E5 l,qY (by lia)]
def Dn.grow{st:BL}(O:Ord (·∈l) lt)(g:Good l C st){lo hi:Nat}(hs:hi < l.size)(u:Dn lt (Af st) lo hi)(E:lo < hi)(h:lt (ix (Af st) (hi - 1)) (ix (Af st) hi)=false):Dn lt (Af st) lo (hi+1):=λi j m o G=>by
 by_cases A:j < hi
 ·exact u i j m o A
 ·have:j=hi:=by lia
  subst this
  by_cases B:i=j
  ·subst B;exact O.irr (g.mem hs)
  ·exact O.ntr _ _ _ (g.mem hs) (g.mem (by omega)) (g.mem (by lia)) h (u i (j - 1) m (by lia) (by lia))
def aL(O:Ord (·∈l) lt){st:BL}(g:Good l A st){lo:Nat}(h:lo < l.size):Up lt (Af st) lo (lo+1):=λi j B C E=>by
 have m:i=lo:=by lia
 have o:j=lo:=by lia
 rw[m,o];exact O.irr (g.mem h)
def nN{st:BL}{lo yu n:Nat}{Q:Option Nat->BL->Prop}(C:L1 prog w A s m B lt)(O:Ord (·∈m) lt)(P:1<=n)(R:n<=yu)(S:lo+yu<=m.size)(g:Good m B st)(u:Up lt (Af st) lo (lo+n))
  (h:∀n,1<=n->n<=yu->Up lt (Af st) lo (lo+n)->Q (some n) st):wpS (Ac prog w) A E s (do
   let mut n:=n
   for _ in [n:yu] do
    let some G <-vw (lo+n) (lo+n - 1) | return none
    if G then break
    n:=n+1
   return some n) Q st:=by
 refine Ah (Hj (Do (I:=λx c l=>l=st/\c=(none,x)/\Up lt (Af st) lo (lo+x))
  (Q:=λc l=>l=st/\∃n,c=(none,n)/\1<=n/\n<=yu/\Up lt (Af st) lo (lo+n)) ?step ?fin ⟨rfl,rfl,u⟩) ?post)
 case fin=>
  rintro c l ⟨rfl,rfl,u⟩
  have e:max n yu=yu:=by ext
  rw[e]at u ⊢;exact⟨rfl,yu,rfl,by lia,AJ _,u⟩
 case step=>
  rintro x c l H J ⟨rfl,rfl,u⟩;refine Ah (QM C g (by lia) (by lia) ?_)
  cases L:lt (ix (Af l) (lo+x)) (ix (Af l) (lo+x - 1))with
  | true=>exact Ai ⟨rfl,x,rfl,by lia,by lia,u⟩
  | false=>exact Ai ⟨rfl,rfl,Up.grow O g (by lia) u (by lia) L⟩
 case post=>
  rintro c l ⟨rfl,n,rfl,o,N,u⟩;exact Ai (h n o N u)
def wpS_countRun{st}{lo yu}{Q}(C:L1 prog w A s o L lt)(O:Ord (·∈o) lt)(h1:1<=yu)(hn:lo+yu<=o.size)(g:Good o L st)
  (h:∀l n,Good o L l->1<=n->n<=yu->Up lt (Af l) lo (lo+n)->Out (Af st) (Af l) lo (lo+yu)->Ag l=Ag st->Q (some n) l):wpS (Ac prog w) A E s (countRun' lo yu) Q st:=by
 rw[countRun'_eq]
 refine Ah (Hj (Do (I:=λx c l=>l=st/\c=(none,x)/\Up lt (Af st) lo (lo+x))
  (Q:=λc l=>l=st/\∃n,c=(none,n)/\1<=n/\n<=yu/\Up lt (Af st) lo (lo+n)/\(n=yu∨lt (ix (Af st) (lo+n)) (ix (Af st) (lo+n - 1))=true)) ?step ?fin ?init) ?post)
 case init=>
  refine⟨rfl,rfl,λi j a1 a2 a3=>?_⟩
  have:i=j:=by lia
  subst this;exact O.irr (g.mem (by lia))
 case fin=>
  ext
 case step=>
  rintro x c l hx1 hx2 ⟨rfl,rfl,u⟩;refine Ah (QM C g (by lia) (by lia) ?_)
  cases T:lt (ix (Af l) (lo+x)) (ix (Af l) (lo+x - 1))with
  | true=>exact Ai ⟨rfl,x,rfl,hx1,by lia,u,.inr T⟩
  | false=>exact Ai ⟨rfl,rfl,Up.grow O g (by lia) u (by lia) T⟩
 case post=>
  rintro c l ⟨rfl,n,rfl,hn1,zQ,u,hd⟩;dsimp only
  by_cases hnn:n=yu
  ·rw[qX (by ext)]
   exact Ai (h l n g hn1 zQ u .refl rfl)
  ·rw[qY (by simpa using hnn)]
   have ϝ:=hd.resolve_left hnn
   have U:∀(ze:BL),Good o L ze->Dn lt (Af ze) lo (lo+(n+1))->Out (Af l) (Af ze) lo (lo+yu)->Ag ze=Ag l ->
     wpS (Ac prog w) A E s (do
      liftM (rule "list.sort.descending-run")
      let mut n:=n+1
      let mut neq:=0
      for _ in [n:yu] do
       let some zg <-vw (lo+n) (lo+n - 1) | return none
       if zg then
        if neq > 0 then R4 (lo+n - (neq+1)) (lo+n)
        neq:=0
       else
        let some N <-vw (lo+n - 1) (lo+n) | return none
        if N then break
        neq:=neq+1
       n:=n+1
      if neq > 0 then R4 (lo+n - (neq+1)) (lo+n)
      R4 lo (lo+n)
      for _ in [n:yu] do
       let some zg <-vw (lo+n) (lo+n - 1) | return none
       if zg then break
       n:=n+1
      return some n) Q ze:=by
    intro ze g1 d1 o1 p1;refine Ah (Kp ?_)
    refine Ah (Hj (Do (I:=λx c G=>Good o L G/\∃q,c=(none,x,q)/\q+1<=x/\Dn lt (Af G) lo (lo+x)/\Up lt (Af G) (lo+x - (q+1)) (lo+x)/\Out (Af l) (Af G) lo (lo+yu)/\Ag G=Ag l)
     (Q:=λc G=>Good o L G/\∃n q,c=(none,n,q)/\n<=yu/\q+1<=n/\Dn lt (Af G) lo (lo+n)/\Up lt (Af G) (lo+n - (q+1)) (lo+n)/\Out (Af l) (Af G) lo (lo+yu)/\Ag G=Ag l) ?dstep ?dfin ?dinit) ?dpost)
    case dinit=>
     refine⟨g1,0,rfl,by ext,d1,?_,o1,p1⟩;have:=aL O g1 (lo:=lo+n) (by lia)
     assumption
    case dfin=>
     rintro c G ⟨H,q,rfl,T,d2,X,P,S⟩
     have e:max (n+1) yu=yu:=by lia
     rw[e]at d2 X T ⊢;exact⟨H,yu,q,rfl,AJ _,T,d2,X,P,S⟩
    case dstep=>
     rintro x c G hx1 hx2 ⟨H,q,rfl,T,d2,X,P,S⟩;refine Ah (QM C H (by lia) (by lia) ?_)
     cases hs:lt (ix (Af G) (lo+x)) (ix (Af G) (lo+x - 1))with
     | true=>
      dsimp only;rw[qX rfl];have yw:=O.asym _ _ (H.mem (by lia)) (H.mem (by lia)) hs
      by_cases J:q > 0
      ·rw[qX J,Ni]
       have B:lo+x<=(Af G).size:=by rw[H.size];lia
       have Z:Good o L (setArr G (Sd (Af G) (lo+x - (q+1)) (lo+x) ((lo+x - (lo+x - (q+1))) / 2))):=H.setArr (X8 _ _ _ _);have d3:=Dn.part B (by lia) (by ext) d2 X;refine Ah (EI (Ai ⟨Z,0,rfl,by lia,?_,?_,P.trans (La B (by lia) (by lia)),S⟩))
       ·refine Dn.grow O Z (by lia) d3 (by lia) ?_
        show lt (ix (Sd (Af G) (lo+x - (q+1)) (lo+x) ((lo+x - (lo+x - (q+1))) / 2)) (lo+x - 1)) (ix (Sd (Af G) (lo+x - (q+1)) (lo+x) ((lo+x - (lo+x - (q+1))) / 2)) (lo+x))=false;rw[E5 B,E5 B,qX (by lia),qY (by ext)];exact O.ntr _ _ _ (H.mem (by lia)) (H.mem (by lia)) (H.mem (by lia)) yw (d2 _ _ (by lia) (by omega) (by lia))
       ·have:=aL O Z (lo:=lo+x) (by lia)
        assumption
      ·rw[qY J]
       refine Ai ⟨H,0,rfl,by lia,Dn.grow O H (by lia) d2 (by lia) yw,?_,P,S⟩;have:=aL O H (lo:=lo+x) (by lia)
       assumption
     | false=>
      dsimp only;rw[qY Ab];refine Ah (QM C H (by lia) (by lia) ?_)
      cases hl:lt (ix (Af G) (lo+x - 1)) (ix (Af G) (lo+x))with
      | true=>exact Ai ⟨H,x,q,rfl,by lia,T,d2,X,P,S⟩
      | false=>
       refine Ai ⟨H,q+1,rfl,by ext,Dn.grow O H (by lia) d2 (by lia) hl,?_,P,S⟩;rw[show lo+(x+1) - (q+1+1)=lo+x - (q+1) by lia];exact Up.grow (hi:=lo+x) O H (by lia) X (by omega) hs
    case dpost=>
     rintro c G ⟨H,m,q,rfl,hm,T,d2,X,P,S⟩;dsimp only
     have B:lo+m<=(Af G).size:=by rw[H.size];lia
     have last:∀D',Good o L D'->Dn lt (Af D') lo (lo+m)->Out (Af l) (Af D') lo (lo+yu)->Ag D'=Ag l->∀(R:StateT BL Sem (Option Nat)),R=(do
        let mut n:=m
        for _ in [n:yu] do
         let some zg <-vw (lo+n) (lo+n - 1) | return none
         if zg then break
         n:=n+1
        return some n)->wpS (Ac prog w) A E s (do R4 lo (lo+m);R) Q D':=by
      rintro D' Z d3 o3 p3 R rfl
      have Y:lo+m<=(Af D').size:=by rw[Z.size];lia
      rw[Ni];refine Ah (EI ?_);have g4:Good o L (setArr D' (Sd (Af D') lo (lo+m) ((lo+m - lo) / 2))):=Z.setArr (X8 _ _ _ _)
      exact nN C O (by lia) hm hn g4 (Dn.flip Y d3) λk k1 k2 k3=>h _ k g4 k1 k2 k3 (o3.trans (La Y (by lia) (by ext))) p3
     by_cases J:q > 0
     ·rw[qX J,Ni]
      refine Ah (EI ?_);exact last _ (H.setArr (X8 _ _ _ _)) (Dn.part B (by lia) (by ext) d2 X) (P.trans (La B (by lia) (by lia))) S _ rfl
     ·rw[qY J]
      exact last _ H d2 P S _ rfl
   have yw:=O.asym _ _ (g.mem (by lia)) (g.mem (by grind)) ϝ
   by_cases hn0:n > 1
   ·rw[qX hn0]
    refine Ah (QM C g (by lia) (by lia) ?_)
    cases hr:lt (ix (Af l) lo) (ix (Af l) (lo+n - 1))with
    | true=>exact Ai (h l n g hn1 zQ u .refl rfl)
    | false=>
     dsimp only;rw[qY Ab,Ni]
     have B:lo+n<=(Af l).size:=by rw[g.size];lia
     have g1:Good o L (setArr l (Sd (Af l) lo (lo+n) ((lo+n - lo) / 2))):=g.setArr (X8 _ _ _ _)
     have al:∀i j,lo<=i->i < lo+n->lo<=j->j < lo+n->lt (ix (Af l) i) (ix (Af l) j)=false:=λi j i1 i2 j1 j2=>by
      have q1:=u j (lo+n - 1) (by omega) (by grind) (by lia);have q2:=u lo i (by lia) (by omega) (by omega);exact O.ntr _ _ _ (g.mem (by lia)) (g.mem (by lia)) (g.mem (by lia)) (O.ntr _ _ _ (g.mem (by lia)) (g.mem (by lia)) (g.mem (by lia)) q1 hr) q2
     refine Ah (EI ?_);refine U _ g1 ?_ (La B (by lia) (by grind)) rfl;refine Dn.grow (hi:=lo+n) O g1 (by lia) (λi j a1 a2 a3=>?_) (by lia) ?_
     ·rw[E5 B,E5 B,qX (by lia),qX (by lia)]
      exact al _ _ (by lia) (by lia) (by lia) (by lia)
     ·rw[E5 B,E5 B,qX (by lia),qY (by ext),show lo+(lo+n) - 1 - (lo+n - 1)=lo by grind]
      exact O.ntr _ _ _ (g.mem (by lia)) (g.mem (by lia)) (g.mem (by lia)) yw hr
   ·rw[qY hn0]
    have e:n=1:=by lia
    subst e;refine U _ g (Dn.grow O g (by lia) (λi j a1 a2 a3=>?_) (by lia) yw) .refl rfl
    have e1:i=lo:=by lia
    have e2:j=lo:=by lia
    rw[e1,e2];exact O.irr (g.mem (by lia))
end
noncomputable def yG:Bool->BP->Array BP->Nat->Nat->Nat->StateT BL Sem (Option Nat):=sortPriv% PySem.Builtin.gallop
section
abbrev BS:=Option (Option Nat)×Nat×Nat
def qU{st:BL}{p:Nat->Bool}{n lo hi:Nat}{F:Nat->BS->StateT BL Sem (ForInStep BS)}{T:BS->StateT BL Sem (Option Nat)}{Q:Option Nat->BL->Prop}(H:lo<=hi)(J:hi<=n)
  (P:∀i,i < lo->p i=true) (L:∀i,hi<=i->i < n->p i=false) (mono:∀i j,i<=j->j < n->p j=true->p i=true)
  (S:∀x l h (R:ForInStep BS->BL->Prop),l<=h->h<=n->(l ≥ h->R (.done (none,l,h)) st)->(l < h->p (l+(h - l) / 2)=true->R (.yield (none,l+(h - l) / 2+1,h)) st)->(l < h->p (l+(h - l) / 2)=false->R (.yield (none,l,l+(h - l) / 2)) st) ->
   wpS (Ac prog w) A E s (F x (none,l,h)) R st)
  (Z:∀l h,h<=n->(∀i,i < h->p i=true)->(∀i,h<=i->i < n->p i=false)->wpS (Ac prog w) A E s (T (none,l,h)) Q st):wpS (Ac prog w) A E s (forIn [0:n] (none,lo,hi) F >>= T) Q st:=by
 refine Ah (Hj (Do (I:=λx c m=>m=st/\∃l h,c=(none,l,h)/\l<=h/\h<=n/\h - l<=n - x/\(∀i,i < l->p i=true)/\(∀i,h<=i->i < n->p i=false))
  (Q:=λc m=>m=st/\∃l h,c=(none,l,h)/\h<=n/\(∀i,i < h->p i=true)/\(∀i,h<=i->i < n->p i=false)) ?step ?fin ⟨rfl,lo,hi,rfl,H,J,by grind,P,L⟩) ?post)
 case fin=>
  rintro c m ⟨rfl,l,h,rfl,O,o,U,B,C⟩
  have:l=h:=by lia
  subst this;exact⟨rfl,l,l,rfl,o,B,C⟩
 case step=>
  rintro x c m _ hx ⟨rfl,l,h,rfl,O,o,U,B,C⟩
  refine S x l h _ O o (λzE=>?_) (λX G=>?_) λX G=>?_
  ·have:l=h:=by lia
   subst this;exact⟨rfl,l,l,rfl,o,B,C⟩
  ·exact⟨rfl,_,_,rfl,by grind,o,by grind,λi hi=>mono i (l+(h - l) / 2) (by lia) (by lia) G,C⟩
  ·refine⟨rfl,_,_,rfl,by ext,by grind,by grind,B,λi Y N=>?_⟩
   cases e:p i with
   | false=>rfl
   | true=>rw[mono _ i Y N e]at G;cases G
 ext
def dG{st:BL}{q:Nat->Bool}{n mx:Nat}{F:Nat->BS->StateT BL Sem (ForInStep BS)}{T:BS->StateT BL Sem (Option Nat)}{Q:Option Nat->BL->Prop}(N:mx<=n)(H:q 0=true)
  (J:∀x a b (R:ForInStep BS->BL->Prop),a < b->(b ≥ mx->R (.done (none,a,b)) st)->(b < mx->q b=false->R (.done (none,a,b)) st)->(b < mx->q b=true->R (.yield (none,b,2 * b+1)) st)->wpS (Ac prog w) A E s (F x (none,a,b)) R st)
  (O:∀a b,a < b->q a=true->(a=0∨a < mx)->(b < mx->q b=false)->wpS (Ac prog w) A E s (T (none,a,b)) Q st):wpS (Ac prog w) A E s (forIn [0:n] (none,0,1) F >>= T) Q st:=by
 refine Ah (Hj (Do (I:=λx c l=>l=st/\∃a b,c=(none,a,b)/\a < b/\x+1<=b/\q a=true/\(a=0∨a < mx))
  (Q:=λc l=>l=st/\∃a b,c=(none,a,b)/\a < b/\q a=true/\(a=0∨a < mx)/\(b < mx->q b=false)) ?step ?fin ⟨rfl,0,1,rfl,by ext,by decide,H,.inl rfl⟩) ?post)
 case fin=>
  rintro c l ⟨rfl,a,b,rfl,m,L,o,B⟩;exact⟨rfl,a,b,rfl,m,o,B,λh=>by lia⟩
 case step=>
  rintro x c l _ P ⟨rfl,a,b,rfl,m,L,o,B⟩
  refine J x a b _ m (λS=>?_) (λG C=>?_) λG C=>?_
  ·exact⟨rfl,a,b,rfl,m,o,B,λh=>by lia⟩
  ·exact⟨rfl,a,b,rfl,m,o,B,λ_=>C⟩
  ·exact⟨rfl,b,2 * b+1,rfl,by lia,by lia,C,.inr G⟩
 ext
def IC{st:BL}{left:Bool}{key:BP}{arr:Array BP}{base n hint:Nat}{Q:Option Nat->BL->Prop}(C:L1 prog w A s B κ lt)(g:Good B κ st)(p:Nat->Bool)
  (Ϟ:key∈B) (S:∀i,i < n->base+i < arr.size/\ix arr (base+i)∈B) (hp:∀i,i < n->p i=if left=true then lt (ix arr (base+i)) key else !lt key (ix arr (base+i)))
  (mono:∀i j,i<=j->j < n->p j=true->p i=true) (hh:hint < n)
  (h:∀k,k<=n->(∀i,i < k->p i=true)->(∀i,k<=i->i < n->p i=false)->Q (some k) st):wpS (Ac prog w) A E s (yG left key arr base n hint) Q st:=by
 have G:∀i,i < n->∀R:Option Bool->BL->Prop,R (some (p i)) st->wpS (Ac prog w) A E s (do let x <-elem' arr (base+i);if left=true then lt' x key else do let y <-lt' key x;pure (y.map (!·))) R st:=by
  intro i H R Z;obtain⟨U,P⟩:=S i H;rw[mU,Er U];refine Ah (Ai ?_);rw[hp i H]at Z
  cases left with
  | true=>exact Sm C g P Ϟ Z
  | false=>exact Ah (Sm C g Ϟ P (Ai Z))
 refine(Ah ?_:wpS _ _ _ _ (yG left key arr base n hint) Q st);refine G hint hh _ ?_
 have fin:∀(lo H:Nat) {F:Nat->BS->StateT BL Sem (ForInStep BS)} {T:BS->StateT BL Sem (Option Nat)},lo<=H->H<=n->(∀i,i < lo->p i=true)->(∀i,H<=i->i < n->p i=false) ->
   (∀x l m (R:ForInStep BS->BL->Prop),l<=m->m<=n->(l ≥ m->R (.done (none,l,m)) st)->(l < m->p (l+(m - l) / 2)=true->R (.yield (none,l+(m - l) / 2+1,m)) st)->(l < m->p (l+(m - l) / 2)=false->R (.yield (none,l,l+(m - l) / 2)) st) ->
    wpS (Ac prog w) A E s (F x (none,l,m)) R st)->(∀l m,T (none,l,m)=pure (some m))->wpS (Ac prog w) A E s (forIn [0:n] (none,lo,H) F >>= T) Q st:=λlo H F T U P h3 h4 hF hT=>
  qU U P h3 h4 mono hF λl m q1 q2 q3=>by rw[hT];exact Ai (h m q1 q2 q3)
 cases hq:p hint with
 | true=>
  dsimp only;rw[qX rfl]
  refine dG (q:=λi=>decide (hint+i < n)&&p (hint+i)) (mx:=n - hint) (by ext) (by simp[hq,hh]) (λx a b R ς J L N=>?_) λa b ς I ha hb=>?_
  ·by_cases o:b ≥ n - hint
   ·rw[qX o];exact Ai (J o)
   ·rw[qY o]
    refine Ah (G (hint+b) (by grind) _ ?_);have O:decide (hint+b < n)=true:=wX (by lia)
    cases e:p (hint+b)with
    | true=>exact Ai (N (by lia) (by simp[O,e]))
    | false=>exact Ai (L (by lia) (by simp[O,e]))
  ·have pa:p (hint+a)=true:=by simp at I;exact I.2
   have X:hint+a < n:=by simp at I;exact I.1
   refine fin (hint+a+1) (hint+min b (n - hint)) (by omega) (by omega) (λi H=>mono i (hint+a) (by lia) X pa) (λi U P=>?_) (λx l m R l1 l2 J L N=>?_) λl m=>rfl
   ·by_cases Y:b < n - hint
    ·grind
    ·grind
   ·by_cases o:l ≥ m
    ·rw[qX o];exact Ai (J o)
    ·rw[qY o]
     refine Ah (G (l+(m - l) / 2) (by grind) _ ?_)
     cases e:p (l+(m - l) / 2)with
     | true=>exact Ai (L (by ext) e)
     | false=>exact Ai (N (by lia) e)
 | false=>
  dsimp only;rw[qY Ab]
  refine dG (q:=λi=>decide (i<=hint)&&!p (hint - i)) (mx:=hint+1) (by assumption) (by simp[hq]) (λx a b R ς J L N=>?_) λa b ς I ha hb=>?_
  ·by_cases o:b ≥ hint+1
   ·rw[qX o];exact Ai (J o)
   ·rw[qY o]
    refine Ah (G (hint - b) (by grind) _ ?_);have O:decide (b<=hint)=true:=wX (by lia)
    cases e:p (hint - b)with
    | true=>exact Ai (L (by ext) (by simp[O,e]))
    | false=>exact Ai (N (by lia) (by simp[O,e]))
  ·have pa:p (hint - a)=false:=by simp at I;exact I.2
   have X:a<=hint:=by simp at I;exact I.1
   refine fin (hint+1 - min b (hint+1)) (hint - a) (by omega) (by grind) (λi H=>?_) (λi U P=>?_) (λx l m R l1 l2 J L N=>?_) λl m=>rfl
   ·by_cases Y:b < hint+1
    ·have:=hb Y
     have O:decide (b<=hint)=true:=wX (by lia);rw[O,Bool.true_and]at this;exact mono i (hint - b) (by grind) (by grind) (by simpa using this)
    ·ext
   ·grind
   ·by_cases o:l ≥ m
    ·rw[qX o];exact Ai (J o)
    ·rw[qY o]
     refine Ah (G (l+(m - l) / 2) (by lia) _ ?_)
     cases e:p (l+(m - l) / 2)with
     | true=>exact Ai (L (by lia) e)
     | false=>exact Ai (N (by lia) e)
end
structure MI(R:BP->BP->Prop)(T o ra rb:List BP):Prop where
 perm:(o++(ra++rb)).Perm T
 srt:o.Pairwise R
 low:∀x∈o,∀y∈ra++rb,R x y
 sa:ra.Pairwise R
 sb:rb.Pairwise R
structure L8(R:BP->BP->Prop)(T r:List BP):Prop where
 perm:r.Perm T
 srt:r.Pairwise R
section
def MI.takeA(m:MI R T o (xs++C) rb)(h:∀x∈xs,∀y∈rb,R x y):MI R T (o++xs) C rb:=by
 have B:=BV.mp m.sa;refine⟨by simpa[Bc]using m.perm,BV.mpr ⟨m.srt,B.1,λx l y A=>m.low x l y (by simp[A])⟩,λx l y A=>?_,B.2.1,m.sb⟩
 rcases Ax.mp l with l | l
 ·exact m.low x l y (by rcases Ax.mp A with h | h <;> simp[h])
 grind
def MI.takeB(m:MI R T o B (xs++rb))(h:∀x∈xs,∀y∈B,R x y):MI R T (o++xs) B rb:=by
 have C:=BV.mp m.sb;refine⟨?_,BV.mpr ⟨m.srt,C.1,λx l y A=>m.low x l y (by simp[A])⟩,λx l y A=>?_,m.sa,C.2.1⟩
 ·refine FC.trans ?_ m.perm
  rw[Bc];refine Hi o ?_;rw[<-Bc,<-Bc];exact VJ rb aA
 ·rcases Ax.mp l with l | l
  ·exact m.low x l y (by rcases Ax.mp A with h | h <;> simp[h])
  grind
def MI.endA(m:MI R T o l []):L8 R T (o++l):=by
 refine⟨by simpa using m.perm,BV.mpr ⟨m.srt,m.sa,λx A y B=>m.low x A y (by simp[B])⟩⟩
def MI.endB(m:MI R T o [] l):L8 R T (o++l):=by
 refine⟨by simpa using m.perm,BV.mpr ⟨m.srt,m.sb,λx A y B=>m.low x A y (by simp[B])⟩⟩
def MI.last(m:MI R T o l A)(h:∀y∈A,∀x∈l,R y x):L8 R T (o++(A++l)):=by
 refine⟨(Hi o aA).trans m.perm,BV.mpr ⟨m.srt,BV.mpr ⟨m.sb,m.sa,h⟩,λx B y C=>m.low x B y (by grind)⟩⟩
end
def SU(h:i < a.size):a.toList.drop i=ix a i :: a.toList.drop (i+1):=by
 rw[DS (by simpa using h)]
 congr 1
 have:=Er h;ext
def Jm{a:Array BP}{i k:Nat}(h:i+k<=a.size):a.toList.drop i=(a.extract i (i+k)).toList++a.toList.drop (i+k):=by
 have e:(a.extract i (i+k)).toList=(a.toList.drop i).take k:=by simp[Zr]
 rw[e,<-Vx,DW]
def SI(h:i+k<=a.size)(l:x∈(a.extract i (i+k)).toList):∃j,j < k/\x=ix a (i+j):=by
 rw[BU,R9]at l;obtain⟨j,m,rfl⟩:=l;refine⟨j,by ext,?_⟩;have:=Er (xs:=a) (i:=i+j) (by lia);rw[getElem?_pos a _ (by lia)]at this;ext
def Nd(a:Array BP)(i:Nat):(a.extract i a.size).toList=a.toList.drop i:=by
 simp[Zr];exact Cn (by simp)
def Gv(l:x∈a.toList.drop i):∃j,i<=j/\j < a.size/\x=ix a j:=by
 obtain⟨k,m,rfl⟩:=GF.mp l;simp at m;refine⟨i+k,by lia,by grind,?_⟩;have:=Er (xs:=a) (i:=i+k) (by omega);rw[getElem?_pos a _ (by omega)]at this;ext
def SB{l:Type}{M:Z9}{A:Bg}{E:AG->AK->Prop}{s:AK}{c:Prop}[Decidable c]{a b:StateT BL Sem l}{Q:l->BL->Prop}{st:BL}(m:c->wpS M A E s a Q st)(hb:¬c->wpS M A E s b Q st):wpS M A E s (if c then a else b) Q st:=by
 lia
def ET{l:Type}{M:Z9}{A:Bg}{E:AG->AK->Prop}{s:AK}{x y:Nat}{a b:StateT BL Sem l}{Q:l->BL->Prop}{st:BL}(m:x=y->wpS M A E s a Q st)(hb:¬x=y->wpS M A E s b Q st):wpS M A E s (if (x==y)=true then a else b) Q st:=SB (λh=>m (by simpa using h)) λh=>hb (by simpa using h)
def Kq{M:Z9}{A:Bg}{E:AG->AK->Prop}{s:AK}{m o C:Type}{a b:Nat}{f:Nat->o->StateT m Sem (ForInStep o)}{k:o->StateT m Sem C}{R:C->m->Prop}(I:Nat->o->m->Prop){Q:o->m->Prop}
  (step:∀F,f=F->∀(i:Nat) (c:o) (st:m),a<=i->i < b->I i c st->wpS M A E s (F i c) (λr l=>match r with | .done B=>Q B l | .yield B=>I (i+1) B l) st)
  (fin:∀c st,I (max a b) c st->Q c st) {c:o} {st:m} (init:I a c st) (post:∀K,k=K->∀c l,Q c l->wpS M A E s (K c) R l):wpS M A E s (forIn [a:b] c f >>= k) R st:=Ah (Hj (Do I (step f rfl) fin init) (post k rfl))
def iK{m l:Type}{M:Z9}{A:Bg}{E:AG->AK->Prop}{s:AK}{c:l->Prop}{d:∀i,Decidable (c i)}{F t:l->StateT BL Sem m}{Q:m->BL->Prop}{st:BL}(h:∀i,wpS M A E s (F i) Q st)(o:(∀i,wpS M A E s (F i) Q st)->∀i,wpS M A E s (t i) Q st)(i:l):wpS M A E s (if c i then t i else F i) Q st:=SB (λ_=>o h i) λ_=>h i
def SA{o l m:Type}{M:Z9}{A:Bg}{E:AG->AK->Prop}{s:AK}{c:l->m->Prop}{d:∀i j,Decidable (c i j)}{F t:l->m->StateT BL Sem o}{x:l}{y:m}{Q:o->BL->Prop}{st:BL}(I:l->m->Prop)(h:∀i j,I i j->wpS M A E s (F i j) Q st)(B:(∀i j,I i j->wpS M A E s (F i j) Q st)->c x y->wpS M A E s (t x y) Q st)(C:¬c x y->I x y):∀i,x=i->∀j,y=j->wpS M A E s (if c i j then t i j else F i j) Q st:=λ_ e _ f=>e▸f▸SB (B h) λn=>h x y (C n)
def QK{l:Type}{M:Z9}{A:Bg}{E:AG->AK->Prop}{s:AK}{c:Prop}{d:Decidable c}{x:l}{Q:ForInStep l->BL->Prop}{st:BL}(h:Q (.done x) st/\Q (.yield x) st):wpS M A E s (if c then pure (.done x)else pure (.yield x)) Q st:=SB (λ_=>Ai h.1) λ_=>Ai h.2
section
variable{prog:BN}{w:Bo}{A:Bg}{E:AG->AK->Prop}{s:AK}{a₀:Array BP}{κ:QE}{lt:BP->BP->Bool}
def Sn{st:BL}{a:Array BP}{i:Nat}{Q:BP->BL->Prop}(h:i < a.size)(l:Q (ix a i) st):wpS (Ac prog w) A E s (elem' a i) Q st:=by
 rw[mU,Er h];exact Ai l
def Cq{l:Type}{st:BL}{a:Array BP}{i:Nat}{f:BP->StateT BL Sem l}{Q:l->BL->Prop}(h:i < a.size)(m:wpS (Ac prog w) A E s (f (ix a i)) Q st):wpS (Ac prog w) A E s (elem' a i >>= f) Q st:=Ah (Sn h m)
noncomputable def mLo:Array BP->Array BP->StateT BL Sem (Array BP):=sortPriv% PySem.Builtin.mergeLo
noncomputable def mHi:Array BP->Array BP->StateT BL Sem (Array BP):=sortPriv% PySem.Builtin.mergeHi
structure P5(a₀:Array BP)(κ:QE)(st st':BL):Prop where
 good:Good a₀ κ st'
 arr:Af st'=Af st
 pend:Ag st'=Ag st
def P5.gal{st l:BL}(h:P5 a₀ κ st l)(n:Nat):P5 a₀ κ st (Jp (kindOf l) (Af l) (Ag l) n (Jq l)):=⟨⟨h.good.perm,h.good.kind,h.good.failed⟩,h.arr,h.pend⟩
abbrev Rl(lt:BP->BP->Bool)(x y:BP):Prop:=lt y x=false
def Yj(O:Ord (·∈a₀) lt){a:Array BP}(ma:∀i,i < a.size->ix a i∈a₀)(m:a.toList.Pairwise (Rl lt)):∀i j,i<=j->j < a.size->Rl lt (ix a i) (ix a j):=λi j o l=>by
 by_cases e:i=j
 ·subst e;exact O.irr (ma i l)
 ·have B:=SU (a:=a) (i:=i) (by lia)
  have:=m.sublist (List.drop_sublist i a.toList);rw[B]at this;refine(G9.mp this).1 _ ?_;rw[show a.toList.drop (i+1)=(a.extract (i+1) (i+1+(j - (i+1)))).toList++a.toList.drop (i+1+(j - (i+1)))from Jm (by lia),show i+1+(j - (i+1))=j by grind,SU l];simp
def Xa(ma:∀x∈a.toList,x∈a₀):∀i,i < a.size->ix a i∈a₀:=λi l=>ma _ (BU.mpr (Cv (Er l)))
def SC{st:BL}{n:Nat}{Q:Unit->BL->Prop}(h:Q () (Jp (kindOf st) (Af st) (Ag st) n (Jq st))):wpS (Ac prog w) A E s ((sortPriv% PySem.Builtin.setMinGallop) n) Q st:=EI h
abbrev GL(M:Array BP->Nat->Nat->Prop)(p q n t:Nat)(o:Array BP)(i j:Nat):Prop:=M o i j/\i+1 < p/\j < q/\t+n<=i+j
def nL{st:BL}{a b:Array BP}{Q:Array BP->BL->Prop}(C:L1 prog w A s a₀ κ lt)(O:Ord (·∈a₀) lt)(g:Good a₀ κ st)
  (ma:∀x∈a.toList,x∈a₀) (mb:∀x∈b.toList,x∈a₀) (sa:a.toList.Pairwise (Rl lt)) (sb:b.toList.Pairwise (Rl lt)) (na:0 < a.size) (nb:0 < b.size)
  (h0:∀x∈a.toList,Rl lt (ix b 0) x) (h1:∀y∈b.toList,Rl lt y (ix a (a.size - 1)))
  (h:∀r B,P5 a₀ κ st B->L8 (Rl lt) (a.toList++b.toList) r.toList->Q r B):wpS (Ac prog w) A E s (mLo a b) Q st:=by
 have R:=Xa ma;have S:=Xa mb;have ua:=Yj O R sa;have ub:=Yj O S sb
 have tr:∀x y z:BP,x∈a₀->y∈a₀->z∈a₀->Rl lt x y->Rl lt y z->Rl lt x z:=λx y z Z hy hz h1 h2=>O.ntr x y z Z hy hz h1 h2
 let M (out:Array BP) (l ib:Nat):Prop:=MI (Rl lt) (a.toList++b.toList) out.toList (a.toList.drop l) (b.toList.drop ib)
 have tA:∀out l ib,M out l ib->l < a.size->(∀j,ib<=j->j < b.size->Rl lt (ix a l) (ix b j))->M (out.push (ix a l)) (l+1) ib:=λout l ib m hia hr=>by
  have N:MI (Rl lt) (a.toList++b.toList) out.toList ([ix a l]++a.toList.drop (l+1)) (b.toList.drop ib):=by rw[FZ,<-SU hia];exact m
  have:=N.takeA λx Z y hy=>by
   obtain⟨j,P,H,rfl⟩:=Gv hy;rw[Ay.mp Z];exact hr j P H
  simpa[M]using this
 have tB:∀out l ib,M out l ib->ib < b.size->(∀j,l<=j->j < a.size->Rl lt (ix b ib) (ix a j))->M (out.push (ix b ib)) l (ib+1):=λout l ib m hib hr=>by
  have N:MI (Rl lt) (a.toList++b.toList) out.toList (a.toList.drop l) ([ix b ib]++b.toList.drop (ib+1)):=by rw[FZ,<-SU hib];exact m
  have:=N.takeB λx Z y hy=>by
   obtain⟨j,P,H,rfl⟩:=Gv hy;rw[Ay.mp Z];exact hr j P H
  simpa[M]using this
 have sA:∀out l ib k,M out l ib->l+k<=a.size->(∀i j,i < k->ib<=j->j < b.size->Rl lt (ix a (l+i)) (ix b j))->M (out++a.extract l (l+k)) (l+k) ib:=λout l ib k m hk hr=>by
  have N:MI (Rl lt) (a.toList++b.toList) out.toList ((a.extract l (l+k)).toList++a.toList.drop (l+k)) (b.toList.drop ib):=by rw[<-Jm hk];exact m
  have:=N.takeA λx Z y hy=>by
   obtain⟨j,P,H,rfl⟩:=Gv hy;obtain⟨i,i1,rfl⟩:=SI hk Z;exact hr i j i1 P H
  grind
 have sB:∀out l ib k,M out l ib->ib+k<=b.size->(∀i j,i < k->l<=j->j < a.size->Rl lt (ix b (ib+i)) (ix a j))->M (out++b.extract ib (ib+k)) l (ib+k):=λout l ib k m hk hr=>by
  have N:MI (Rl lt) (a.toList++b.toList) out.toList (a.toList.drop l) ((b.extract ib (ib+k)).toList++b.toList.drop (ib+k)):=by rw[<-Jm hk];exact m
  have:=N.takeB λx Z y hy=>by
   obtain⟨j,P,H,rfl⟩:=Gv hy;obtain⟨i,i1,rfl⟩:=SI hk Z;exact hr i j i1 P H
  grind
 have eB:∀out l ib,M out l ib->ib=b.size->L8 (Rl lt) (a.toList++b.toList) (out++a.extract l a.size++b.extract ib b.size).toList:=λout l ib m e=>by
  subst e
  have N:MI (Rl lt) (a.toList++b.toList) out.toList (a.toList.drop l) []:=by
   have:b.toList.drop b.size=[]:=by simp
   rw[<-this];exact m
  rw[FB,FB,Nd,Nd,show b.toList.drop b.size=[] by simp,Bp];exact N.endA
 have eA:∀out l ib,M out l ib->l=a.size->L8 (Rl lt) (a.toList++b.toList) (out++a.extract l a.size++b.extract ib b.size).toList:=λout l ib m e=>by
  subst e
  have N:MI (Rl lt) (a.toList++b.toList) out.toList [] (b.toList.drop ib):=by
   have:a.toList.drop a.size=[]:=by simp
   rw[<-this];exact m
  rw[FB,FB,Nd,Nd,show a.toList.drop a.size=[] by simp,Bp];exact N.endB
 have eL:∀out l ib,M out l ib->l+1=a.size->L8 (Rl lt) (a.toList++b.toList) (out++b.extract ib b.size++a.extract l a.size).toList:=λout l ib m e=>by
  have:=m.last λy hy x Z=>by
   obtain⟨j,P,H,rfl⟩:=Gv Z;obtain⟨i,i1,i2,rfl⟩:=Gv hy
   have:j=a.size - 1:=by lia
   grind
  rw[FB,FB,Nd,Nd,Bc];exact this
 have m0:M #[] 0 0:=⟨by simp,by simp,by simp,by simpa using sa,by simpa using sb⟩
 have m1:M #[ix b 0] 0 1:=by
  have:=tB #[] 0 0 m0 nb λj _ hj=>h0 _ (BU.mpr (Cv (Er hj)))
  simpa using this
 let F (r:Array BP):Prop:=L8 (Rl lt) (a.toList++b.toList) r.toList
 refine(Ah (Kp ?_):wpS _ _ _ _ (mLo a b) Q st);refine Cq nb ?_;refine(?_)
 refine ET (λc1=>Ai (h _ st ⟨g,rfl,rfl⟩ (eB _ _ _ m1 c1))) λc1=>?_
 refine ET (λc2=>Ai (h _ st ⟨g,rfl,rfl⟩ (eL _ _ _ m1 c2))) λc2=>?_
 refine Ah (Io ?_)
 refine Kq (I:=λx c B=>P5 a₀ κ st B/\∃out l ib mg,c=(none,out,l,ib,mg)/\GL M a.size b.size x 1 out l ib)
  (Q:=λc B=>P5 a₀ κ st B/\∃r z,c=(some r,z)/\F r) ?step ?fin ?init ?post
 case init=>exact⟨⟨g,rfl,rfl⟩,_,_,_,_,rfl,m1,by lia,by lia,by ext⟩
 case fin=>
  rintro c B ⟨_,out,l,ib,mg,_,_,k1,k2,k3⟩
  lia
 case post=>
  rintro F hF c B ⟨s1,r,z,rfl,f⟩;subst hF;exact Ai (h r B s1 f)
 case step=>
  rintro G hG x c ze _ _ ⟨s1,out,l,ib,mg,rfl,m,k1,k2,k3⟩;subst hG
  refine Kq (I:=λy c B=>B=ze/\∃U J zL X Y,c=(none,U,J,zL,X,Y)/\GL M a.size b.size y (l+ib) U J zL)
   (Q:=λc B=>B=ze/\((∃r z,c=(some r,z)/\F r)∨∃U J zL X Y,c=(none,U,J,zL,X,Y)/\GL M a.size b.size 1 (l+ib) U J zL)) ?step1 ?fin1 ?init1 ?post1
  case init1=>exact⟨rfl,out,l,ib,0,0,rfl,m,k1,k2,by ext⟩
  case fin1=>
   rintro c B ⟨rfl,U,J,zL,X,Y,rfl,N,q1,q2,q3⟩;exact⟨rfl,.inr ⟨U,J,zL,X,Y,rfl,N,q1,q2,by lia⟩⟩
  case step1=>
   rintro G hG y c B _ _ ⟨rfl,U,J,zL,X,Y,rfl,N,q1,q2,q3⟩;subst hG
   have q4:J < a.size:=by lia
   refine Cq q2 (Cq q4 (Ah (Sm C s1.good (S _ q2) (R _ q4) ?_)))
   cases e:lt (ix b zL) (ix a J)with
   | true=>
    have m2:=tB U J zL N q2 λj P H=>tr _ _ _ (S _ q2) (R _ q4) (R _ H) (O.asym _ _ (S _ q2) (R _ q4) e) (ua J j P H)
    refine Cq q2 (ET (λd=>Ai ⟨rfl,.inl ⟨_,_,rfl,eB _ _ _ m2 d⟩⟩) λd=>QK ?_)
    have z:zL+1 < b.size/\l+ib+(y+1)<=J+(zL+1):=by lia
    exact⟨⟨rfl,.inr ⟨_,J,zL+1,_,_,rfl,m2,q1,z.1,by lia⟩⟩,rfl,_,J,zL+1,_,_,rfl,m2,q1,z⟩
   | false=>
    have m2:=tA U J zL N q4 λj P H=>tr _ _ _ (R _ q4) (S _ q2) (S _ H) e (ub zL j P H)
    refine Cq q4 (ET (λd=>Ai ⟨rfl,.inl ⟨_,_,rfl,eL _ _ _ m2 d⟩⟩) λd=>QK ?_)
    have z:J+1+1 < a.size/\l+ib+(y+1)<=J+1+zL:=by lia
    exact⟨⟨rfl,.inr ⟨_,J+1,zL,_,_,rfl,m2,z.1,q2,by lia⟩⟩,rfl,_,J+1,zL,_,_,rfl,m2,z.1,q2,z.2⟩
  case post1=>
   rintro G hG c B ⟨rfl,⟨r,z,rfl,f⟩ | ⟨U,J,zL,X,Y,rfl,N⟩⟩ <;> subst hG
   ·exact Ai ⟨s1,_,_,rfl,f⟩
   refine Ah (Kp ?_)
   refine Kq (I:=λy c tx=>P5 a₀ κ st tx/\∃zb L zV U' X Y,c=(none,zb,L,zV,U',X,Y)/\GL M a.size b.size 1 (l+ib) zb L zV)
    (Q:=λc tx=>P5 a₀ κ st tx/\((∃r z,c=(some r,z)/\F r)∨∃zb L zV U' X Y,c=(none,zb,L,zV,U',X,Y)/\GL M a.size b.size 1 (l+ib) zb L zV)) ?step2 ?fin2 ?init2 ?post2
   case init2=>exact⟨s1,U,J,zL,mg+1,X,Y,rfl,N⟩
   case fin2=>exact λc tx h=>⟨h.1,.inr h.2⟩
   case post2=>
    rintro G hG c tx ⟨s2,⟨r,z,rfl,f⟩ | ⟨zb,L,zV,U',ac2,bc2,rfl,m2,p1,p2,p3⟩⟩ <;> subst hG
    ·exact Ai ⟨s2,_,_,rfl,f⟩
    ·exact Ah (SC (Ai ⟨s2.gal _,zb,L,zV,U'+1,rfl,m2,p1,p2,by lia⟩))
   case step2=>
    rintro G hG y c tx _ _ ⟨s2,zb,L,zV,U',ac2,bc2,rfl,m2,p1,p2,p3⟩;subst hG;dsimp only
    revert U'
    refine iK (λmg3=>?_) λt i=>t _
    refine Ah (SC (Cq p2 ?_));have s3:=s2.gal mg3;refine Ah (IC C s3.good (λi=>!lt (ix b zV) (ix a (L+i))) (S _ p2) (λi hi=>⟨by lia,R _ (by lia)⟩) (λi hi=>rfl) (λi j hij hj e=>?_) (by grind) λk hk k1 k2=>?_)
    ·have e':lt (ix b zV) (ix a (L+j))=false:=by simpa using e
     have:=tr _ _ _ (R _ (by lia)) (R _ (by lia)) (S _ p2) (ua (L+i) (L+j) (by ext) (by lia)) e'
     ext
    have far:∀j,L+k<=j->j < a.size->Rl lt (ix b zV) (ix a j):=λj P H=>by
     have:=k2 (j - L) (by lia) (by lia);rw[show L+(j - L)=j by lia]at this;exact O.asym _ _ (S _ p2) (R _ H) (by ext)
    have m5:=sA zb L zV k m2 (by lia) λi j hi P H=>tr _ _ _ (R _ (by lia)) (S _ p2) (S _ H) (by simpa using k1 i hi) (ub zV j P H)
    generalize ho:zb=o;generalize hi:L=i
    revert o i
    refine SA (λo i=>M o i zV/\i+1 < a.size/\i=L+k) ?_ (λt hk0=>?_) λhk0=>⟨m2,p1,by ext⟩
    case refine_2=>
     refine ET (λd=>Ai ⟨s3,.inl ⟨_,_,rfl,eL _ _ _ m5 d⟩⟩) λd1=>?_
     exact ET (λd=>Ai ⟨s3,.inl ⟨_,_,rfl,eA _ _ _ m5 d⟩⟩) λd2=>t _ _ ⟨m5,by grind,rfl⟩
    rintro out3 T ⟨m3,c1,hi3⟩
    have c3:l+ib+1<=T+zV:=by lia
    have c4:T < a.size:=by lia
    have m4:=tB _ _ _ m3 p2 λj h=>far j (hi3▸h)
    refine Cq p2 (ET (λd=>Ai ⟨s3,.inl ⟨_,_,rfl,eB _ _ _ m4 d⟩⟩) λd=>Cq c4 ?_)
    have c5:zV+1 < b.size:=by lia
    have c6:l+ib+1+1<=T+(zV+1):=by grind
    generalize out3.push (ix b zV)=out4 at m4 ⊢;generalize zV+1=ib4 at m4 c5 c6 ⊢;refine Ah (IC C s3.good (λi=>lt (ix b (ib4+i)) (ix a T)) (R _ c4) (λi hi=>⟨by lia,S _ (by lia)⟩) (λi hi=>rfl) (λi j hij hj e=>?_) (by grind) λk3 hk3 k4 k5=>?_)
    ·cases e2:lt (ix b (ib4+i)) (ix a T)with
     | true=>rfl
     | false=>
      have:=tr _ _ _ (R _ c4) (S _ (by lia)) (S _ (by lia)) e2 (ub (ib4+i) (ib4+j) (by lia) (by lia))
      ext
    have far2:∀j,ib4+k3<=j->j < b.size->Rl lt (ix a T) (ix b j):=λj P H=>by
     have:=k5 (j - ib4) (by lia) (by lia);rwa [show ib4+(j - ib4)=j by lia]at this
    have m6:=sB _ T ib4 k3 m4 (by lia) λi j hi P H=>tr _ _ _ (S _ (by lia)) (R _ c4) (R _ H) (O.asym _ _ (S _ (by lia)) (R _ c4) (k4 i hi)) (ua T j P H)
    generalize ho:out4=o;generalize hi:ib4=i
    revert o i
    refine SA (λo j=>M o T j/\j < b.size/\j=ib4+k3) ?_ (λt hk3=>ET (λd=>Ai ⟨s3,.inl ⟨_,_,rfl,eB _ _ _ m6 d⟩⟩) λd=>t _ _ ⟨m6,by grind,rfl⟩) λhk3=>⟨m4,c5,by lia⟩
    rintro out5 ib5 ⟨m5,c7,hi5⟩
    have m7:=tA _ _ _ m5 c4 λj h=>far2 j (hi5▸h)
    refine Cq c4 (ET (λd=>Ai ⟨s3,.inl ⟨_,_,rfl,eL _ _ _ m7 d⟩⟩) λd=>QK ?_)
    have z:T+1+1 < a.size/\ib5 < b.size/\l+ib+1<=T+1+ib5:=by lia
    exact⟨⟨s3,.inr ⟨_,T+1,ib5,_,_,_,rfl,m7,z⟩⟩,s3,_,T+1,ib5,_,_,_,rfl,m7,z⟩
end
def MI.last2(m:MI R T o l A)(h:∀x∈l,∀y∈A,R x y):L8 R T (o++(l++A)):=by
 refine⟨m.perm,BV.mpr ⟨m.srt,BV.mpr ⟨m.sa,m.sb,h⟩,λx B y C=>m.low x B y C⟩⟩
def L8.rev(f:L8 (λx y=>Rl lt y x) T r):L8 (Rl lt) T r.reverse:=⟨r.reverse_perm.trans f.perm,List.pairwise_reverse.mpr f.srt⟩
def cK(h:i < a.size):(a.toList.take (i+1)).reverse=ix a i :: (a.toList.take i).reverse:=by
 have:=Er h;rw[getElem?_pos a i h]at this;rw[Fe,show a.toList[i]?=some (ix a i) by ext];simp
def Yk{a:Array BP}{i n:Nat}(h:i<=n)(l:n<=a.size):(a.toList.take n).reverse=(a.extract i n).toList.reverse++(a.toList.take i).reverse:=by
 have e:(a.extract i n).toList=(a.toList.take n).drop i:=by simp[Zr,List.drop_take]
 rw[e,<-List.reverse_append]
 congr 1
 have:=DW i (a.toList.take n)
 grind
def Gu(l:x∈(a.toList.take n).reverse):∃j,j < n/\j < a.size/\x=ix a j:=by
 rw[mH]at l;obtain⟨k,m,rfl⟩:=GF.mp l;simp at m;refine⟨k,by grind,by grind,?_⟩;have:=Er (xs:=a) (i:=k) (by lia);rw[getElem?_pos a _ (by lia)]at this;ext
def ZE(l:x∈(a.extract i n).toList.reverse):∃j,i<=j/\j < n/\j < a.size/\x=ix a j:=by
 rw[mH,BU,R9]at l;obtain⟨j,m,rfl⟩:=l;refine⟨i+j,by lia,by lia,by lia,?_⟩;have:=Er (xs:=a) (i:=i+j) (by omega);rw[getElem?_pos a _ (by omega)]at this;ext
def wE(a:Array BP)(n:Nat):(a.extract 0 n).toList=a.toList.take n:=by ext
section
abbrev GH(M:Array BP->Nat->Nat->Prop)(p q n t:Nat)(o:Array BP)(i j:Nat):Prop:=M o i j/\0 < i/\1 < j/\i<=p/\j<=q/\i+j+n<=t
def nM{st:BL}{a b:Array BP}{Q:Array BP->BL->Prop}(C:L1 prog w A s B κ lt)(O:Ord (·∈B) lt)(g:Good B κ st)
  (ma:∀x∈a.toList,x∈B) (mb:∀x∈b.toList,x∈B) (sa:a.toList.Pairwise (Rl lt)) (sb:b.toList.Pairwise (Rl lt)) (pa:0 < a.size) (pb:0 < b.size)
  (h0:∀x∈a.toList,Rl lt (ix b 0) x) (h1:∀y∈b.toList,Rl lt y (ix a (a.size - 1)))
  (h:∀r H,P5 B κ st H->L8 (Rl lt) (a.toList++b.toList) r.toList->Q r H):wpS (Ac prog w) A E s (mHi a b) Q st:=by
 have R:=Xa ma;have S:=Xa mb;have ua:=Yj O R sa;have ub:=Yj O S sb
 have tr:∀x y z:BP,x∈B->y∈B->z∈B->Rl lt x y->Rl lt y z->Rl lt x z:=λx y z hx hy hz h1 h2=>O.ntr x y z hx hy hz h1 h2
 let M (out:Array BP) (l nb:Nat):Prop:=MI (λx y=>Rl lt y x) (a.toList++b.toList) out.toList (a.toList.take l).reverse (b.toList.take nb).reverse
 have tA0:∀out l nb,M out (l+1) nb->l < a.size->nb<=b.size->(∀j,j < nb->Rl lt (ix b j) (ix a l))->M (out.push (ix a l)) l nb:=λout l nb m ϥ Ϧ hr=>by
  have P:MI (λx y=>Rl lt y x) (a.toList++b.toList) out.toList ([ix a l]++(a.toList.take l).reverse) (b.toList.take nb).reverse:=by rw[FZ,<-cK ϥ];exact m
  have:=P.takeA λx hx y hy=>by
   obtain⟨j,T,j2,rfl⟩:=Gu hy;rw[Ay.mp hx];exact hr j T
  simpa[M]using this
 have tB0:∀out l nb,M out l (nb+1)->nb < b.size->l<=a.size->(∀j,j < l->Rl lt (ix a j) (ix b nb))->M (out.push (ix b nb)) l nb:=λout l nb m Ϧ ϥ hr=>by
  have P:MI (λx y=>Rl lt y x) (a.toList++b.toList) out.toList (a.toList.take l).reverse ([ix b nb]++(b.toList.take nb).reverse):=by rw[FZ,<-cK Ϧ];exact m
  have:=P.takeB λx hx y hy=>by
   obtain⟨j,T,j2,rfl⟩:=Gu hy;rw[Ay.mp hx];exact hr j T
  simpa[M]using this
 have tA:∀out l nb,M out l nb->0 < l->l<=a.size->nb<=b.size->(∀j,j < nb->Rl lt (ix b j) (ix a (l - 1)))->M (out.push (ix a (l - 1))) (l - 1) nb:=λout l nb m h0 ϥ Ϧ hr=>
  tA0 out (l - 1) nb (by rw[show l - 1+1=l by lia];exact m) (by grind) Ϧ hr
 have tB:∀out l nb,M out l nb->0 < nb->nb<=b.size->l<=a.size->(∀j,j < l->Rl lt (ix a j) (ix b (nb - 1)))->M (out.push (ix b (nb - 1))) l (nb - 1):=λout l nb m h0 Ϧ ϥ hr=>
  tB0 out l (nb - 1) (by rw[show nb - 1+1=nb by lia];exact m) (by grind) ϥ hr
 have sA:∀out l nb k,M out l nb->k<=l->l<=a.size->nb<=b.size->(∀i j,k<=i->i < l->j < nb->Rl lt (ix b j) (ix a i))->M (out++(a.extract k l).reverse) k nb:=λout l nb k m hk ϥ Ϧ hr=>by
  have P:MI (λx y=>Rl lt y x) (a.toList++b.toList) out.toList ((a.extract k l).toList.reverse++(a.toList.take k).reverse) (b.toList.take nb).reverse:=by rw[<-Yk hk ϥ];exact m
  have:=P.takeA λx hx y hy=>by
   obtain⟨j,T,j2,rfl⟩:=Gu hy;obtain⟨i,i1,i2,i3,rfl⟩:=ZE hx;exact hr i j i1 i2 T
  show MI _ _ (out++(a.extract k l).reverse).toList _ _;ext
 have sB:∀out l nb k,M out l nb->k<=nb->nb<=b.size->l<=a.size->(∀i j,k<=i->i < nb->j < l->Rl lt (ix a j) (ix b i))->M (out++(b.extract k nb).reverse) l k:=λout l nb k m hk Ϧ ϥ hr=>by
  have P:MI (λx y=>Rl lt y x) (a.toList++b.toList) out.toList (a.toList.take l).reverse ((b.extract k nb).toList.reverse++(b.toList.take k).reverse):=by rw[<-Yk hk Ϧ];exact m
  have:=P.takeB λx hx y hy=>by
   obtain⟨j,T,j2,rfl⟩:=Gu hy;obtain⟨i,i1,i2,i3,rfl⟩:=ZE hx;exact hr i j i1 i2 T
  show MI _ _ (out++(b.extract k nb).reverse).toList _ _;ext
 have eA:∀out l nb,M out l nb->l=0->L8 (Rl lt) (a.toList++b.toList) (a.extract 0 l++b.extract 0 nb++out.reverse).toList:=λout l nb m e=>by
  subst e
  have P:MI (λx y=>Rl lt y x) (a.toList++b.toList) out.toList [] (b.toList.take nb).reverse:=by simpa[M]using m
  have:=P.endB.rev;ext
 have eB:∀out l nb,M out l nb->nb=0->L8 (Rl lt) (a.toList++b.toList) (a.extract 0 l++b.extract 0 nb++out.reverse).toList:=λout l nb m e=>by
  subst e
  have P:MI (λx y=>Rl lt y x) (a.toList++b.toList) out.toList (a.toList.take l).reverse []:=by simpa[M]using m
  have:=P.endA.rev;ext
 have eF:∀out l nb,M out l nb->nb=1->L8 (Rl lt) (a.toList++b.toList) (b.extract 0 nb++a.extract 0 l++out.reverse).toList:=λout l nb m e=>by
  have:=m.last2 λx hx y hy=>by
   obtain⟨j,T,j2,rfl⟩:=Gu hx;obtain⟨i,i1,i2,rfl⟩:=Gu hy
   have:i=0:=by ext
   subst this;exact h0 _ (BU.mpr (Cv (Er j2)))
  have:=this.rev;ext
 have m0:M #[] a.size b.size:=by
  refine⟨?_,by simp,by simp,?_,?_⟩
  ·rw[Cn (by simp),Cn (by simp)]
   simpa using FC.append a.toList.reverse_perm b.toList.reverse_perm
  ·grind
  ·grind
 have m1:M #[ix a (a.size - 1)] (a.size - 1) b.size:=by
  have:=tA #[] a.size b.size m0 pa (AJ _) (AJ _) λj hj=>h1 _ (BU.mpr (Cv (Er hj)))
  simpa using this
 let F (r:Array BP):Prop:=L8 (Rl lt) (a.toList++b.toList) r.toList
 refine(Ah (Kp ?_):wpS _ _ _ _ (mHi a b) Q st);refine Cq (i:=a.size - 1) (by omega) ?_;refine(show wpS (Ac prog w) A E s (if (a.size - 1==0)=true then _ else _) Q st from ?_)
 refine ET (λc1=>Ai (h _ st ⟨g,rfl,rfl⟩ (eA _ _ _ m1 c1))) λc1=>?_
 refine ET (λc2=>Ai (h _ st ⟨g,rfl,rfl⟩ (eF _ _ _ m1 c2))) λc2=>?_
 refine Ah (Io ?_)
 refine Kq (I:=λx c H=>P5 B κ st H/\∃out l nb mg,c=(none,l,nb,out,mg)/\GH M a.size b.size (1+x) (a.size+b.size) out l nb)
  (Q:=λc H=>P5 B κ st H/\∃r z,c=(some r,z)/\F r) ?step ?fin ?init ?post
 case init=>exact⟨⟨g,rfl,rfl⟩,_,a.size - 1,b.size,_,rfl,m1,by lia,by lia,by ext,by ext,by lia⟩
 case fin=>
  rintro c H ⟨_,out,l,nb,mg,_,_,k1,k2,k3,k4,k5⟩
  lia
 case post=>
  rintro G hG c H ⟨s1,r,z,rfl,f⟩;subst hG;exact Ai (h r H s1 f)
 case step=>
  rintro G hG x c ze _ _ ⟨s1,out,l,nb,mg,rfl,m,k1,k2,k3,k4,k5⟩;subst hG
  refine Kq (I:=λy c H=>H=ze/\∃X J L Y Z,c=(none,J,L,X,Y,Z)/\GH M a.size b.size y (l+nb) X J L)
   (Q:=λc H=>H=ze/\((∃r z,c=(some r,z)/\F r)∨∃X J L Y Z,c=(none,J,L,X,Y,Z)/\GH M a.size b.size 1 (l+nb) X J L)) ?step1 ?fin1 ?init1 ?post1
  case init1=>exact⟨rfl,out,l,nb,0,0,rfl,m,k1,k2,k3,k4,by lia⟩
  case fin1=>
   rintro c H ⟨rfl,X,J,L,Y,Z,rfl,P,q1,q2,q3,q4,q5⟩;exact⟨rfl,.inr ⟨X,J,L,Y,Z,rfl,P,q1,q2,q3,q4,by grind⟩⟩
  case step1=>
   rintro G hG y c H _ _ ⟨rfl,X,J,L,Y,Z,rfl,P,q1,q2,q3,q4,q5⟩;subst hG
   have q6:J - 1 < a.size:=by grind
   have q7:L - 1 < b.size:=by grind
   refine Cq q7 (Cq q6 (Ah (Sm C s1.good (S _ q7) (R _ q6) ?_)))
   cases e:lt (ix b (L - 1)) (ix a (J - 1))with
   | true=>
    have m2:=tA X J L P q1 q3 q4 λj T=>tr _ _ _ (S _ (by lia)) (S _ q7) (R _ q6) (ub j (L - 1) (by grind) q7) (O.asym _ _ (S _ q7) (R _ q6) e)
    refine Cq q6 (ET (λd=>Ai ⟨rfl,.inl ⟨_,_,rfl,eA _ _ _ m2 d⟩⟩) λd=>QK ?_)
    have z:0 < J - 1/\J - 1<=a.size/\J - 1+L+(y+1)<=l+nb:=by lia
    exact⟨⟨rfl,.inr ⟨_,J - 1,L,_,_,rfl,m2,z.1,q2,z.2.1,q4,by lia⟩⟩,rfl,_,J - 1,L,_,_,rfl,m2,z.1,q2,z.2.1,q4,z.2.2⟩
   | false=>
    have m2:=tB X J L P (by lia) q4 q3 λj T=>tr _ _ _ (R _ (by lia)) (R _ q6) (S _ q7) (ua j (J - 1) (by grind) q6) e
    refine Cq q7 (ET (λd=>Ai ⟨rfl,.inl ⟨_,_,rfl,eF _ _ _ m2 d⟩⟩) λd=>QK ?_)
    have z:1 < L - 1/\L - 1<=b.size/\J+(L - 1)+(y+1)<=l+nb:=by lia
    exact⟨⟨rfl,.inr ⟨_,J,L - 1,_,_,rfl,m2,q1,z.1,q3,z.2.1,by lia⟩⟩,rfl,_,J,L - 1,_,_,rfl,m2,q1,z.1,q3,z.2.1,z.2.2⟩
  case post1=>
   rintro G hG c H ⟨rfl,⟨r,z,rfl,f⟩ | ⟨X,J,L,Y,Z,rfl,P⟩⟩ <;> subst hG
   ·exact Ai ⟨s1,_,_,rfl,f⟩
   refine Ah (Kp ?_)
   refine Kq (I:=λy c tx=>P5 B κ st tx/\∃zb V' N U' Y Z,c=(none,V',N,zb,U',Y,Z)/\GH M a.size b.size 1 (l+nb) zb V' N)
    (Q:=λc tx=>P5 B κ st tx/\((∃r z,c=(some r,z)/\F r)∨∃zb V' N U' Y Z,c=(none,V',N,zb,U',Y,Z)/\GH M a.size b.size 1 (l+nb) zb V' N)) ?step2 ?fin2 ?init2 ?post2
   case init2=>exact⟨s1,X,J,L,mg+1,Y,Z,rfl,P⟩
   case fin2=>exact λc tx h=>⟨h.1,.inr h.2⟩
   case post2=>
    rintro G hG c tx ⟨s2,⟨r,z,rfl,f⟩ | ⟨zb,V',N,U',ac2,bc2,rfl,m2,p1,p2,p3,p4,p5⟩⟩ <;> subst hG
    ·exact Ai ⟨s2,_,_,rfl,f⟩
    ·exact Ah (SC (Ai ⟨s2.gal _,zb,V',N,U'+1,rfl,m2,p1,p2,p3,p4,by lia⟩))
   case step2=>
    rintro G hG y c tx _ _ ⟨s2,zb,V',N,U',ac2,bc2,rfl,m2,p1,p2,p3,p4,p5⟩;subst hG;dsimp only
    revert U'
    refine iK (λmg3=>?_) λt i=>t _
    have s3:=s2.gal mg3
    have p6:N - 1 < b.size:=by lia
    refine Ah (SC (Cq p6 ?_));refine Ah (IC (base:=0) (n:=V') (hint:=V' - 1) (arr:=a) (key:=ix b (N - 1)) (left:=false) C s3.good (λi=>!lt (ix b (N - 1)) (ix a (0+i))) (S _ p6) (λi hi=>⟨by lia,R _ (by lia)⟩) (λi hi=>rfl) (λi j hij hj e=>?_) (by lia) λk hk k1 k2=>?_)
    ·have e':lt (ix b (N - 1)) (ix a (0+j))=false:=by simpa using e
     have:=tr _ _ _ (R _ (by lia)) (R _ (by lia)) (S _ p6) (ua (0+i) (0+j) (by ext) (by lia)) e'
     ext
    have near:∀j,j < k->Rl lt (ix a j) (ix b (N - 1)):=λj T=>by
     grind
    have m5:=sA zb V' N k m2 hk p3 p4 λi j i1 i2 T=>by
     have:=k2 i i1 i2;rw[Z6]at this;exact tr _ _ _ (S _ (by lia)) (S _ p6) (R _ (by lia)) (ub j (N - 1) (by lia) p6) (O.asym _ _ (S _ p6) (R _ (by lia)) (by lia))
    dsimp only;generalize hk6:V' - k=k6;generalize ho:zb=o;generalize hi:V'=i
    revert o i
    refine SA (λo i=>M o i N/\0 < i/\i=k) ?_ (λt hk0=>ET (λd=>Ai ⟨s3,.inl ⟨_,_,rfl,eA _ _ _ m5 d⟩⟩) λd=>t (zb++(a.extract k V').reverse) k ⟨m5,by lia,rfl⟩) λhk0=>⟨m2,p1,by grind⟩
    rintro out3 U ⟨m3,c1,hi3⟩
    have c4:U - 1 < a.size:=by grind
    have c5:U<=V':=by ext
    have m4:=tB _ _ _ m3 (by lia) p4 (by lia) λj h=>near j (hi3▸h)
    refine Cq p6 (ET (λd=>Ai ⟨s3,.inl ⟨_,_,rfl,eF _ _ _ m4 d⟩⟩) λd=>Cq c4 ?_)
    have c6:1 < N - 1/\N - 1 < b.size/\U+(N - 1)+2<=l+nb:=by lia
    generalize out3.push (ix b (N - 1))=out4 at m4 ⊢;generalize N - 1=nb4 at m4 c6 ⊢;obtain⟨c6,c7,c8⟩:=c6;refine Ah (IC (base:=0) (n:=nb4) (hint:=nb4 - 1) (arr:=b) (key:=ix a (U - 1)) (left:=true) C s3.good (λi=>lt (ix b (0+i)) (ix a (U - 1))) (R _ c4) (λi hi=>⟨by lia,S _ (by lia)⟩) (λi hi=>rfl) (λi j hij hj e=>?_) (by lia) λk3 hk3 k4 k5=>?_)
    ·cases e2:lt (ix b (0+i)) (ix a (U - 1))with
     | true=>rfl
     | false=>
      have:=tr _ _ _ (R _ c4) (S _ (by lia)) (S _ (by lia)) e2 (ub (0+i) (0+j) (by lia) (by lia))
      ext
    have near2:∀j,j < k3->Rl lt (ix b j) (ix a (U - 1)):=λj T=>by
     have:=k4 j T;rw[Z6]at this;exact O.asym _ _ (S _ (by lia)) (R _ c4) this
    have m6:=sB _ U nb4 k3 m4 hk3 (by lia) (by lia) λi j i1 i2 T=>by
     have:=k5 i i1 i2;rw[Z6]at this;exact tr _ _ _ (R _ (by lia)) (R _ c4) (S _ (by lia)) (ua j (U - 1) (by grind) c4) this
    dsimp only;generalize hk7:nb4 - k3=k7;generalize ho:out4=o;generalize hi:nb4=i
    revert o i
    refine SA (λo j=>M o U j/\1 < j/\j<=nb4/\j=k3) ?_ (λt hk4=>?_) λhk4=>⟨m4,c6,AJ _,by lia⟩
    case refine_2=>
     refine ET (λd=>Ai ⟨s3,.inl ⟨_,_,rfl,eF _ _ _ m6 d⟩⟩) λd2=>?_
     exact ET (λd=>Ai ⟨s3,.inl ⟨_,_,rfl,eB _ _ _ m6 d⟩⟩) λd4=>t (out4++(b.extract k3 nb4).reverse) k3 ⟨m6,by lia,by ext,rfl⟩
    rintro out5 nb5 ⟨m5,c9,c10,hi5⟩
    have m7:=tA _ _ _ m5 c1 (by lia) (by grind) λj h=>near2 j (hi5▸h)
    refine Cq c4 (ET (λd=>Ai ⟨s3,.inl ⟨_,_,rfl,eA _ _ _ m7 d⟩⟩) λd=>QK ?_)
    have z:0 < U - 1/\1 < nb5/\U - 1<=a.size/\nb5<=b.size/\U - 1+nb5+1<=l+nb:=by grind
    exact⟨⟨s3,.inr ⟨_,U - 1,nb5,_,_,_,rfl,m7,z⟩⟩,s3,_,U - 1,nb5,_,_,_,rfl,m7,z⟩
end
noncomputable def wr(arr:Array BP)(m:Nat)(l:List (BP×Nat)):Array BP:=l.foldl (λa (x:BP×Nat)=>match x with | (p,j)=>a.setIfInBounds (m+j) p) arr
theorem Wz(m:Nat):∀(l:List BP) (k:Nat) (arr:Array BP),m+k+l.length<=arr.size->(wr arr m (l.zipIdx k)).toList=arr.toList.take (m+k)++l++arr.toList.drop (m+k+l.length)
 | [],k,arr,h=>by simp[wr]
 | x :: l,k,arr,h=>by
  rw[Az]at h;have e:wr arr m ((x :: l).zipIdx k)=wr (arr.setIfInBounds (m+k) x) m (l.zipIdx (k+1)):=rfl;rw[e,Wz m l (k+1) _ (by simp;lia)]
  have o:m+k < arr.toList.length:=by simp;lia
  rw[VP,Az,show m+(k+1)=m+k+1 by rfl];rw[Fe,List.take_set_of_le (AJ _),Ao o,List.drop_set_of_lt (by lia)];simp[show m+k+1+l.length=m+k+(l.length+1) by lia]
def ix_list(a:Array BP)(i:Nat):ix a i=(a.toList[i]?).getD (.none,.none):=by
 unfold ix;ext
def kX(h:sa+m.size<=arr.size)(i:Nat):ix (wr arr sa m.toList.zipIdx) i=if i < sa then ix arr i else if i < sa+m.size then ix m (i - sa)else ix arr i:=by
 have e:=Wz sa m.toList 0 arr (by simpa using h);rw[ix_list,show m.toList.zipIdx=m.toList.zipIdx 0 from rfl,e,wQ]
 have o:(arr.toList.take sa).length=sa:=by simp;lia
 split
 ·rename_i l
  rw[Bc,AV (by ext),YD l,ix_list]
 ·rename_i l
  split
  ·rename_i A
   rw[Bc,BA (by ext),o,AV (by simp;grind),ix_list]
  ·rename_i A
   rw[BA (by simp;ext),Ju,ix_list];ext
def o0{arr m:Array BP}{l:Nat}(h:l+m.size<=arr.size)(o:m.toList.Perm (arr.extract l (l+m.size)).toList):(wr arr l m.toList.zipIdx).Perm arr:=by
 rw[Fu];have e:=Wz l m.toList 0 arr (by simpa using h);rw[show m.toList.zipIdx=m.toList.zipIdx 0 from rfl,e,wQ]
 have A:arr.toList=arr.toList.take l++(arr.extract l (l+m.size)).toList++arr.toList.drop (l+m.toList.length):=by
  rw[Bc,Aj,<-Jm h,DW]
 conv=>rhs;rw[A]
 exact VJ _ (Hi _ o)
def bH{a:Array BP}{lo hi i:Nat}(h:hi<=a.size)(l:i < hi - lo):ix (a.extract lo hi) i=ix a (lo+i):=by
 apply K0
 ext
section
variable{prog:BN}{w:Bo}{A:Bg}{E:AG->AK->Prop}{s:AK}{a₀:Array BP}{κ:QE}{lt:BP->BP->Bool}
def im{a:Array BP}{lo hi:Nat}(h:hi<=a.size)(u:Up lt a lo hi):(a.extract lo hi).toList.Pairwise (Rl lt):=by
 rw[Ke];intro i j o B C;simp at o B
 have e:∀k (l:k < (a.extract lo hi).toList.length),(a.extract lo hi).toList[k]=ix a (lo+k):=λk l=>by
  have m:k < (a.extract lo hi).size:=by rw[Aj]at l;exact l
  have:=Er m;rw[getElem?_pos (a.extract lo hi) k m]at this
  have G:(a.extract lo hi).size=hi - lo:=by simp;ext
  rw[<-bH h (by lia)]
  ext
 rw[e,e];exact u _ _ (by lia) (by lia) (by grind)
def nK{st l:BL}{Q:PUnit->BL->Prop}(h:Q ⟨⟩ l):wpS (Ac prog w) A E s (set l:StateT BL Sem PUnit) Q st:=Ai h
def YR{st}{i l m pw sb I pw2}{Q}(C:L1 prog w A s a₀ κ lt)(O:Ord (·∈a₀) lt)(g:Good a₀ κ st)
  (e1:(Ag st)[i]?=some (l,m,pw)) (e2:(Ag st)[i+1]?=some (sb,I,pw2)) (ς:sb=l+m) (ϥ:1<=m) (Ϧ:1<=I) (hs:sb+I<=a₀.size)
  (ua:Up lt (Af st) l (l+m)) (ub:Up lt (Af st) sb (sb+I))
  (h:∀o,Good a₀ κ o->Ag o=((Ag st).setIfInBounds i (l,m+I,pw)).eraseIdxIfInBounds (i+1)->Up lt (Af o) l (l+(m+I))->Out (Af st) (Af o) l (l+(m+I))->Q true o) :
  wpS (Ac prog w) A E s (mergeAt' i) Q st:=by
 subst ς;have hsz:=g.size
 have mem:∀j,j < a₀.size->ix (Af st) j∈a₀:=λj hj=>g.mem hj
 have tr:∀x y z:BP,x∈a₀->y∈a₀->z∈a₀->Rl lt x y->Rl lt y z->Rl lt x z:=λx y z hx hy B J H=>O.ntr x y z hx hy B J H
 refine(Ah (Io ?_):wpS _ _ _ _ (mergeAt' i) Q st);rw[show(sortPriv% PySem.Builtin.SortState.pending) st=Ag st from rfl,e1,e2];refine Ah (nK ?_);generalize L:((sortPriv% PySem.Builtin.SortState.mk) (kindOf st) (Af st) (((Ag st).setIfInBounds i (l,m+I,pw)).eraseIdxIfInBounds (i+1)) (gallopOf st) (Jq st))=ze
 have g1:Good a₀ κ ze:=by subst L;exact⟨g.perm,g.kind,g.failed⟩
 have a1:Af ze=Af st:=by subst L;rfl
 have p1:Ag ze=((Ag st).setIfInBounds i (l,m+I,pw)).eraseIdxIfInBounds (i+1):=by subst L;rfl
 refine Ah (Sn (by lia) ?_);refine Ah (IC C g1 (λj=>!lt (ix (Af st) (l+m)) (ix (Af st) (l+j))) (mem _ (by lia)) (λj hj=>⟨by lia,mem _ (by lia)⟩) (λj hj=>rfl) (λx y hxy hy e=>?_) (by assumption) λk hk k1 k2=>?_)
 ·have e':lt (ix (Af st) (l+m)) (ix (Af st) (l+y))=false:=by simpa using e
  have:=tr _ _ _ (mem _ (by lia)) (mem _ (by lia)) (mem _ (by lia)) (ua (l+x) (l+y) (by lia) (by lia) (by lia)) e'
  ext
 have low:∀j,l<=j->j < l+k->Rl lt (ix (Af st) j) (ix (Af st) (l+m)):=λj G T=>by
  have:=k1 (j - l) (by grind);rw[show l+(j - l)=j by lia]at this
  lia
 have Y:∀i j,l<=i->i < l+k->l+m<=j->j < l+m+I->Rl lt (ix (Af st) i) (ix (Af st) j):=λi j X i2 G T=>tr _ _ _ (mem _ (by lia)) (mem _ (by lia)) (mem _ (by lia)) (low i X i2) (ub _ _ (by ext) (by omega) (by omega))
 have N:(∀j,l<=j->j < l+m->Rl lt (ix (Af st) j) (ix (Af st) (l+m)))->Up lt (Af st) l (l+(m+I)):=λhh x y J H h3=>by
  by_cases c1:y < l+m
  ·exact ua x y J H c1
  by_cases c2:x < l+m
  ·exact tr _ _ _ (mem _ (by lia)) (mem _ (by lia)) (mem _ (by lia)) (hh x J c2) (ub _ _ (by lia) (by ext) (by lia))
  ·exact ub x y (by lia) H (by lia)
 refine(show wpS (Ac prog w) A E s (if (m - k==0)=true then _ else _) Q ze from ?_)
 by_cases c1:m - k=0
 ·rw[qX (by simpa using c1)]
  refine Ai (h ze g1 p1 ?_ (by rw[a1];exact .refl));rw[a1]
  exact N λj G T=>low j G (by grind)
 rw[qY (by simpa using c1)];refine Ah (Sn (a:=Af st) (by grind) ?_);rw[show l+k+(m - k) - 1=l+m - 1 by lia];refine Ah (IC C g1 (λj=>lt (ix (Af st) (l+m+j)) (ix (Af st) (l+m - 1))) (mem _ (by lia)) (λj hj=>⟨by lia,mem _ (by lia)⟩) (λj hj=>rfl) (λx y hxy hy e=>?_) (by lia) λk3 hk3 k4 k5=>?_)
 ·cases e2:lt (ix (Af st) (l+m+x)) (ix (Af st) (l+m - 1))with
  | true=>rfl
  | false=>
   have:=tr _ _ _ (mem _ (by lia)) (mem _ (by lia)) (mem _ (by lia)) e2 (ub (l+m+x) (l+m+y) (by ext) (by ext) (by ext))
   ext
 have Z:∀j,l+m+k3<=j->j < l+m+I->Rl lt (ix (Af st) (l+m - 1)) (ix (Af st) j):=λj G T=>by
  have:=k5 (j - (l+m)) (by lia) (by lia);rwa [show l+m+(j - (l+m))=j by lia]at this
 refine(show wpS (Ac prog w) A E s (if (k3==0)=true then _ else _) Q ze from ?_)
 by_cases c2:k3=0
 ·rw[qX (by simpa using c2)]
  refine Ai (h ze g1 p1 ?_ (by rw[a1];exact .refl));rw[a1]
  exact N λj G T=>tr _ _ _ (mem _ (by lia)) (mem _ (by lia)) (mem _ (by lia)) (ua j (l+m - 1) (by omega) (by lia) (by grind)) (Z _ (by ext) (by lia))
 rw[qY (by simpa using c2)]
 let x:=(Af st).extract (l+k) (l+m)
 let y:=(Af st).extract (l+m) (l+m+k3)
 have xs:x.size=m - k:=by simp[x];lia
 have ys:y.size=k3:=by simp[y];lia
 have ixx:∀j,j < m - k->ix x j=ix (Af st) (l+k+j):=λj hj=>bH (by lia) (by lia)
 have ixy:∀j,j < k3->ix y j=ix (Af st) (l+m+j):=λj hj=>bH (by lia) (by ext)
 have R:∀z∈x.toList,∃j,j < m - k/\z=ix (Af st) (l+k+j):=λz B=>by
  have B:z∈((Af st).extract (l+k) (l+k+(m - k))).toList:=by rw[show l+k+(m - k)=l+m by grind];exact B
  exact SI (by grind) B
 have S:∀z∈y.toList,∃j,j < k3/\z=ix (Af st) (l+m+j):=λz B=>SI (by lia) B
 have fin:∀(r:Array BP) (o:BL),P5 a₀ κ ze o->L8 (Rl lt) (x.toList++y.toList) r.toList->∀tx:BL,Af tx=wr (Af o) (l+k) r.toList.zipIdx->kindOf tx=kindOf o->Jq tx=Jq o->Ag tx=Ag o->Q true tx:=by
  intro r o U f tx q1 q2 q3 q4
  have hr:r.size=m - k+k3:=by
   have:=f.perm.length_eq;simp only[AY,Aj]at this
   ext
  have ha:=U.arr.trans a1;rw[ha]at q1
  have hb:l+k+r.size<=(Af st).size:=by grind
  have mm:∀t,t < r.size->∃t',ix r t=ix (Af st) t'/\l+k<=t'/\t' < l+m+k3:=λt ht=>by
   have:ix r t∈r.toList:=BU.mpr (Cv (Er ht))
   rcases Ax.mp (f.perm.mem_iff.mp this)with h | h
   ·obtain⟨j,G,e⟩:=R _ h
    exact⟨_,e,by lia,by grind⟩
   ·obtain⟨j,G,e⟩:=S _ h
    exact⟨_,e,by lia,by lia⟩
  have rs:=Yj O (λt ht=>by
   obtain⟨t',e,_,_⟩:=mm t ht;rw[e]
   exact mem _ (by lia)) f.srt
  refine h tx ⟨?_,?_,?_⟩ (q4.trans (U.pend.trans p1)) ?_ ?_
  ·rw[q1]
   refine(o0 hb (f.perm.trans ?_)).trans g.perm
   have:(Af st).toList.drop (l+k)=x.toList++(Af st).toList.drop (l+m):=by
    have:=Jm (a:=Af st) (i:=l+k) (k:=m - k) (by lia);rw[show l+k+(m - k)=l+m by grind]at this;exact this
   have H:(Af st).toList.drop (l+m)=y.toList++(Af st).toList.drop (l+m+k3):=Jm (by lia);have h3:=Jm hb;rw[this,H,<-Bc,show l+k+r.size=l+m+k3 by grind]at h3;rw[show l+k+r.size=l+m+k3 by lia];exact FC.of_eq (List.append_cancel_right h3)
  ·rw[q2];exact U.good.kind
  ·rw[q3];exact U.good.failed
  ·rw[q1]
   intro i j J H h3;rw[kX hb,kX hb]
   by_cases X:i < l+k
   ·rw[qX X]
    by_cases G:j < l+k
    ·rw[qX G];exact ua i j J H (by lia)
    rw[qY G]
    by_cases T:j < l+k+r.size
    ·rw[qX T]
     obtain⟨t,e,t1,t2⟩:=mm (j - (l+k)) (by lia);rw[e]
     by_cases t3:t < l+m
     ·exact ua i t J (by lia) t3
     ·exact Y i t J X (by lia) (by lia)
    ·rw[qY T];exact Y i j J X (by grind) (by lia)
   rw[qY X,qY (by lia)]
   by_cases i2:i < l+k+r.size
   ·rw[qX i2]
    by_cases T:j < l+k+r.size
    ·rw[qX T];exact rs _ _ (by grind) (by lia)
    ·rw[qY T]
     obtain⟨t,e,t1,t2⟩:=mm (i - (l+k)) (by lia);rw[e]
     by_cases t3:t < l+m
     ·exact tr _ _ _ (mem _ (by lia)) (mem _ (by lia)) (mem _ (by lia)) (ua t (l+m - 1) (by lia) (by lia) (by lia)) (Z j (by grind) (by lia))
     ·exact ub t j (by lia) (by grind) (by lia)
   ·rw[qY i2,qY (by grind)]
    exact ub i j (by lia) H (by lia)
  ·rw[q1]
   intro i hi;rw[kX hb]
   by_cases X:i < l+k
   ·rw[qX X]
   ·rw[qY X,qY (by grind)]
 have args:∀{P:Prop},((∀z∈x.toList,z∈a₀)->(∀z∈y.toList,z∈a₀)->x.toList.Pairwise (Rl lt)->y.toList.Pairwise (Rl lt)->0 < x.size->0 < y.size->(∀z∈x.toList,Rl lt (ix y 0) z)->(∀z∈y.toList,Rl lt z (ix x (x.size - 1)))->P)->P:=by
  intro P hP
  refine hP (λz B=>?_) (λz B=>?_) (im (by lia) λi j J H h3=>ua i j (by lia) H h3) (im (by lia) λi j J H h3=>ub i j J H (by lia)) (by lia) (by lia) (λz B=>?_) λz B=>?_
  ·obtain⟨j,G,rfl⟩:=R z B
   exact mem _ (by grind)
  ·obtain⟨j,G,rfl⟩:=S z B
   exact mem _ (by lia)
  ·obtain⟨j,G,rfl⟩:=R z B
   rw[ixy 0 (by lia)];have:=k2 (k+j) (by lia) (by grind);rw[show l+(k+j)=l+k+j by lia]at this;exact O.asym _ _ (mem _ (by lia)) (mem _ (by lia)) (by ext)
  ·obtain⟨j,G,rfl⟩:=S z B
   rw[xs,ixx _ (by lia),show l+k+(m - k - 1)=l+m - 1 by lia];exact O.asym _ _ (mem _ (by lia)) (mem _ (by lia)) (k4 j G)
 refine(?_);split
 ·refine Ah (args λb1 b2 b3 b4 b5 b6 b7 b8=>nL C O g1 b1 b2 b3 b4 b5 b6 b7 b8 λr o U f=>?_)
  refine Ah (EI (Ah (Io (Ai ?_))));have q:=fin r o U f (setArr o (wr (Af o) (l+k) r.toList.zipIdx)) rfl rfl rfl rfl;rw[<-show(Jq o).isNone=true by rw[U.good.failed];rfl]at q;exact q
 ·refine Ah (args λb1 b2 b3 b4 b5 b6 b7 b8=>nM C O g1 b1 b2 b3 b4 b5 b6 b7 b8 λr o U f=>?_)
  refine Ah (EI (Ah (Io (Ai ?_))));have q:=fin r o U f (setArr o (wr (Af o) (l+k) r.toList.zipIdx)) rfl rfl rfl rfl;rw[<-show(Jq o).isNone=true by rw[U.good.failed];rfl]at q;exact q
end
def pZ[Decidable c](h:1 < z):(if c then z - 2 - 1 else z - 2)+1 < z:=by split <;> omega
def Stk(lt:BP->BP->Bool)(arr:Array BP):List (Nat×Nat×Nat)->Nat->Nat->Prop
 | [],lo,l=>lo=l
 | (s,n,_) :: r,lo,l=>s=lo/\1<=n/\Up lt arr s (s+n)/\Stk lt arr r (s+n) l
section
theorem Stk.le:∀{l:List (Nat×Nat×Nat)} {lo hi:Nat},Stk lt arr l lo hi->lo+l.length<=hi
 | [],lo,hi,h=>by cases h;simp
 | (s,n,_) :: r,lo,hi,⟨o,A,_,m⟩=>by
  have:=Stk.le m;rw[Az]
  lia
theorem Stk.app:∀{l r:List (Nat×Nat×Nat)} {lo hi:Nat},Stk lt arr (l++r) lo hi↔∃m,Stk lt arr l lo m/\Stk lt arr r m hi
 | [],r,lo,hi=>⟨λh=>⟨lo,rfl,h⟩,λ⟨_,e,h⟩=>by cases e;exact h⟩
 | (s,n,_) :: l,r,lo,hi=>by
  constructor
  ·rintro⟨o,A,B,C⟩
   obtain⟨m,a,b⟩:=Stk.app.mp C;exact⟨m,⟨o,A,B,a⟩,b⟩
  ·rintro⟨m,⟨o,A,B,C⟩,b⟩
   exact⟨o,A,B,Stk.app.mpr ⟨m,C,b⟩⟩
theorem Stk.pw(hf:∀x,(f x).1=x.1/\(f x).2.1=x.2.1):∀{l:List (Nat×Nat×Nat)} {lo hi:Nat} (i:Nat),Stk lt arr l lo hi->Stk lt arr (l.modify i f) lo hi
 | [],lo,hi,i,h=>by ext
 | (s,n,p) :: r,lo,hi,0,h=>by
  obtain⟨m,o⟩:=hf (s,n,p);show Stk lt arr (f (s,n,p) :: r) lo hi;generalize f (s,n,p)=q at m o;obtain⟨G,H,I⟩:=q;subst m o;exact h
 | (s,n,p) :: r,lo,hi,i+1,⟨A,B,C,E⟩=>⟨A,B,C,Stk.pw hf i E⟩
theorem Stk.out:∀{l:List (Nat×Nat×Nat)} {lo hi x y:Nat},Stk lt arr l lo hi->Out arr arr' x y->(hi<=x∨y<=lo)->Stk lt arr' l lo hi
 | [],lo,hi,x,y,h,o,d=>h
 | (s,n,_) :: r,lo,hi,x,y,⟨A,B,C,m⟩,o,d=>by
  have:=m.le;exact⟨A,B,C.out o (by lia),Stk.out m o (by lia)⟩
end
section
def Out.wide(o:Out xs m l h)(B:A<=l)(C:h<=h'):Out xs m A h':=λi E=>o i (by lia)
def LI{st:BL}{i hi:Nat}{Q:Bool->BL->Prop}(C:L1 prog w A s o S lt)(O:Ord (·∈o) lt)(g:Good o S st)(k:Stk lt (Af st) (Ag st).toList 0 hi)(hs:hi<=o.size)(Φ:i+1 < (Ag st).size)
  (h:∀m,Good o S m->Stk lt (Af m) (Ag m).toList 0 hi->(Ag m).size+1=(Ag st).size->Out (Af st) (Af m) 0 hi->Q true m):wpS (Ac prog w) A E s (mergeAt' i) Q st:=by
 obtain⟨B,G,pw,T⟩:∃B G pw,(Ag st)[i]?=some (B,G,pw):=⟨_,_,_,getElem?_pos (Ag st) i (by lia)⟩
 obtain⟨J,H,I,U⟩:∃B G pw,(Ag st)[i+1]?=some (B,G,pw):=⟨_,_,_,getElem?_pos (Ag st) (i+1) Φ⟩
 obtain⟨l,r,L,hl⟩:∃l r,(Ag st).toList=l++(B,G,pw) :: (J,H,I) :: r/\l.length=i:=by
  have a1:(Ag st).toList[i]?=some (B,G,pw):=by simpa using T
  have a2:(Ag st).toList[i+1]?=some (J,H,I):=by simpa using U
  obtain⟨b1,c1⟩:=AB.mp a1;obtain⟨b2,c2⟩:=AB.mp a2;refine⟨(Ag st).toList.take i,(Ag st).toList.drop (i+2),?_,by rw[By];lia⟩
  conv=>lhs;rw[<-DW i (Ag st).toList,DS b1,DS b2,c1,c2]
 rw[L]at k;obtain⟨N,X,⟨q1,q2,q3,⟨q4,q5,q6,P⟩⟩⟩:=Stk.app.mp k;have hle:=P.le;have Y:=X.le
 refine YR C O g T U q4 q2 q5 (by lia) q3 q6 λm g' p' u' R=>?_
 have Z:(Ag m).toList=l++(B,G+H,pw) :: r:=by
  rw[p',Array.toList_eraseIdxIfInBounds,VP,L];rw[List.set_append_right _ _ (by ext),hl,IA,List.set_cons_zero,List.eraseIdx_append_of_length_le (by ext),show i+1 - l.length=1 by ext];rfl
 refine h m g' ?_ ?_ (R.wide (by lia) (by lia))
 ·rw[Z]
  refine Stk.app.mpr ⟨N,X.out R (.inl (by ext)),q1,by lia,u',?_⟩
  have e:J+H=B+(G+H):=by lia
  rw[e]at P;exact P.out R (.inr (by simp))
 ·have z1:=congrArg Ev Z
  have z2:=congrArg Ev L;simp at z1 z2
  grind
def wpS_sortRuns{st:BL}{Q:Unit->BL->Prop}(C:L1 prog w A s m N lt)(O:Ord (·∈m) lt)(g:Good m N st)(hp:Ag st = #[])
  (h:∀B,Good m N B->Up lt (Af B) 0 m.size->Q () B):wpS (Ac prog w) A E s sortRuns' Q st:=by
 rw[sortRuns'_eq];refine Ah (Io ?_);dsimp only;rw[g.size];generalize minRun' m.size m.size 0=U
 refine Ah (Hj (Do (I:=λx c B=>∃lo,c=(none,lo)/\Good m N B/\Stk lt (Af B) (Ag B).toList 0 lo/\lo<=m.size/\min x m.size<=lo)
  (Q:=λc B=>c=(none,m.size)/\Good m N B/\Stk lt (Af B) (Ag B).toList 0 m.size) ?step ?fin ?init) ?post)
 case init=>exact⟨0,rfl,g,by rw[hp];rfl,by ext,by ext⟩
 case fin=>
  rintro c B ⟨lo,rfl,g',k',h1,h2⟩
  have:lo=m.size:=by lia
  ext
 case step=>
  rintro x c ze _ hx ⟨lo,rfl,g1,X,h1,h2⟩
  by_cases zE:lo ≥ m.size
  ·rw[qX zE]
   have:lo=m.size:=by lia
   subst this;exact Ai ⟨rfl,g1,X⟩
  rw[qY zE];refine Ah (wpS_countRun C O (by grind) (by ext) g1 λtx n Y P T u2 o2 p2=>?_);dsimp only
  have k2:Stk lt (Af tx) (Ag tx).toList 0 lo:=by
   rw[p2];exact X.out o2 (.inl (AJ _))
  by_cases hm:n < U
  ·rw[qX hm]
   refine Ah (Kp ?_);refine Ah (wpS_binarySort C O (by grind) (by grind) Y u2 λD' g3 u3 o3 p3=>?_)
   have k3:Stk lt (Af D') (Ag D').toList 0 lo:=by
    rw[p3];exact k2.out o3 (.inl (AJ _))
   rw[qY (by simp)];refine Ah (Io ?_)
   cases hb:(Ag D').back? with
   | none=>
    refine Ah (EI (Ai ⟨lo+min (m.size - lo) U,rfl,⟨g3.perm,g3.kind,g3.failed⟩,?_,by lia,by grind⟩));rw[Hn];exact Stk.app.mpr ⟨lo,k3,rfl,by grind,u3,rfl⟩
   | some t=>
    obtain⟨Z,P,z⟩:=t;dsimp only;generalize power' m.size (2 * Z+P) (2 * Z+P+P+min (m.size - lo) U) m.size=pw
    refine Ah (Hj (Do (I:=λ_ c o=>c=(none,())/\Good m N o/\Stk lt (Af o) (Ag o).toList 0 lo/\Up lt (Af o) lo (lo+min (m.size - lo) U))
     ?_ (λc o h=>h) ⟨rfl,g3,k3,u3⟩) ?_)
    ·rintro x' c' o _ _ ⟨rfl,G,H,J⟩
     refine Ah (Io ?_)
     by_cases L:(Ag o).size > 1
     ·rw[qX L]
      obtain⟨s2,T,R,S⟩:∃s2 T R,(Ag o)[(Ag o).size - 2]?=some (s2,T,R):=⟨_,_,_,getElem?_pos (Ag o) ((Ag o).size - 2) (by grind)⟩
      rw[S];dsimp only
      by_cases ho:R<=pw
      ·rw[qX ho]
       exact Ai ⟨rfl,G,H,J⟩
      ·rw[qY ho]
       refine Ah (LI C O G H (by omega) (by lia) λϙ g5 k5 _ o5=>?_);exact Ai ⟨rfl,g5,k5,J.out o5 (.inr (by lia))⟩
     ·rw[qY L]
      exact Ai ⟨rfl,G,H,J⟩
    ·rintro c' o ⟨rfl,G,H,J⟩
     refine Ah (EI (Ah (EI (Ai ⟨lo+min (m.size - lo) U,rfl,⟨G.perm,G.kind,G.failed⟩,?_,by lia,by lia⟩))));rw[Hn,cA];exact Stk.app.mpr ⟨lo,Stk.pw (f:=λx=>(x.fst,x.2.fst,pw)) (λx=>⟨rfl,rfl⟩) _ H,rfl,by omega,J,rfl⟩
  ·rw[qY hm]
   refine Ah (Io ?_)
   cases hb:(Ag tx).back? with
   | none=>
    refine Ah (EI (Ai ⟨lo+n,rfl,⟨Y.perm,Y.kind,Y.failed⟩,?_,by grind,by grind⟩));rw[Hn];exact Stk.app.mpr ⟨lo,k2,rfl,by omega,u2,rfl⟩
   | some t=>
    obtain⟨Z,P,z⟩:=t;dsimp only;generalize power' m.size (2 * Z+P) (2 * Z+P+P+n) m.size=pw
    refine Ah (Hj (Do (I:=λ_ c o=>c=(none,())/\Good m N o/\Stk lt (Af o) (Ag o).toList 0 lo/\Up lt (Af o) lo (lo+n))
     ?_ (λc o h=>h) ⟨rfl,Y,k2,u2⟩) ?_)
    ·rintro x' c' o _ _ ⟨rfl,G,H,J⟩
     refine Ah (Io ?_)
     by_cases L:(Ag o).size > 1
     ·rw[qX L]
      obtain⟨s2,T,R,S⟩:∃s2 T R,(Ag o)[(Ag o).size - 2]?=some (s2,T,R):=⟨_,_,_,getElem?_pos (Ag o) ((Ag o).size - 2) (by lia)⟩
      rw[S];dsimp only
      by_cases ho:R<=pw
      ·rw[qX ho]
       exact Ai ⟨rfl,G,H,J⟩
      ·rw[qY ho]
       refine Ah (LI C O G H (by omega) (by lia) λϙ g5 k5 _ o5=>?_);exact Ai ⟨rfl,g5,k5,J.out o5 (.inr (by lia))⟩
     ·rw[qY L]
      exact Ai ⟨rfl,G,H,J⟩
    ·rintro c' o ⟨rfl,G,H,J⟩
     refine Ah (EI (Ah (EI (Ai ⟨lo+n,rfl,⟨G.perm,G.kind,G.failed⟩,?_,by lia,by lia⟩))));rw[Hn,cA];exact Stk.app.mpr ⟨lo,Stk.pw (f:=λx=>(x.fst,x.2.fst,pw)) (λx=>⟨rfl,rfl⟩) _ H,rfl,by omega,J,rfl⟩
 case post=>
  rintro c ze ⟨rfl,g1,X⟩
  refine Ah (Hj (Do (I:=λx c o=>c=(none,())/\Good m N o/\Stk lt (Af o) (Ag o).toList 0 m.size/\((Ag o).size<=1∨(Ag o).size+x<=m.size))
   (Q:=λc o=>c=(none,())/\Good m N o/\Stk lt (Af o) (Ag o).toList 0 m.size/\(Ag o).size<=1) ?_ ?_ ?_) ?_)
  ·rintro x c o _ _ ⟨rfl,G,H,d⟩
   refine Ah (Io ?_)
   by_cases L:(Ag o).size<=1
   ·rw[qX L]
    exact Ai ⟨rfl,G,H,L⟩
   ·rw[qY L]
    refine Ah (LI C O G H (AJ _) (pZ (by ext)) λϙ g5 k5 z5 o5=>?_);exact Ai ⟨rfl,g5,k5,.inr (by grind)⟩
  ·rintro c o ⟨rfl,G,H,d⟩
   exact⟨rfl,G,H,by lia⟩
  ·refine⟨rfl,g1,X,.inr ?_⟩
   have:=X.le;ext
  ·rintro c o ⟨rfl,G,H,d⟩
   refine Ai (h o G ?_);generalize hl:(Ag o).toList=l at H
   have hd:l.length<=1:=by rw[<-hl];simpa using d
   match l,H,hd with
   | [],H,_=>exact λi j h1 h2 h3=>by have:(0:Nat)=m.size:=H;lia
   | [(s,n,_)],⟨e1,_,u,S⟩,_=>
    have S:=S;rw[S,e1]at u;exact u
end
noncomputable def ltL:ZLi->ZLi->Bool
 | [],[]=>false
 | [],_ :: _=>true
 | _ :: _,[]=>false
 | x :: l,y :: m=>if x=y then ltL l m else decide (x < y)
theorem UA:∀x y,ltL x y=true->ltL y x=false
 | [],[],h=>by cases h
 | [],_ :: _,_=>rfl
 | _ :: _,[],h=>by cases h
 | x :: l,y :: m,h=>by
  unfold ltL at h ⊢
  by_cases e:x=y
  ·rw[qX e]at h;rw[qX e.symm];exact UA l m h
  ·rw[qY e]at h;rw[qY (Bw e)];simp at h ⊢;lia
theorem XX:∀x y z,ltL y x=false->ltL z y=false->ltL z x=false
 | [],y,[],_,_=>rfl
 | [],[],_ :: _,_,_=>rfl
 | [],_ :: _,_ :: _,_,_=>rfl
 | x :: B,[],z,h,_=>by cases h
 | _,y :: C,[],_,h=>by cases h
 | x :: B,y :: C,z :: G,l,m=>by
  unfold ltL at l m ⊢
  by_cases o:y=x
  ·rw[qX o]at l
   subst o
   by_cases A:z=y
   ·rw[qX A]at m ⊢
    exact XX B C G l m
   ext
  ·rw[qY o]at l
   by_cases A:z=y
   ·ext
   ·rw[qY A]at m
    by_cases E:z=x
    ·subst E;simp at l m;lia
    ·rw[qY E];simp at l m ⊢;grind
theorem cg:∀x y,ltL x y=false->ltL y x=false->x=y
 | [],[],_,_=>rfl
 | [],_ :: _,h,_=>by cases h
 | _ :: _,[],_,h=>by cases h
 | x :: o,y :: A,l,m=>by
  unfold ltL at l m
  by_cases e:x=y
  ·rw[qX e]at l;rw[qX e.symm]at m;rw[e,cg o A l m]
  ·rw[qY e]at l;rw[qY (Bw e)]at m;simp at l m;lia
def ltK(f:AG->ZLi)(x y:BP):Bool:=ltL (f x.1) (f y.1)
def pH(f:AG->ZLi)(U:BP->Prop):Ord U (ltK f):=⟨λx y _ _ h=>UA _ _ h,λx y z _ _ _ l m=>XX _ _ _ l m⟩
section
def ak(o:Bool)(h:Q (decide (a < b)) s):Ak (Ac prog w) A (oneLt' o (.int a t) (.int b u)) Q E s:=by
 cases o with
 | true=>exact oneLt_int h
 | false=>
  rw[oneLt'_eq];exact AA (wpAny_lt_int (DA h))
def bj(s:AK)(v:AG)(m:ZLi):Prop:=∃a l,v=.ref a/\s.heap.IsTuple a l/\G5 l.toList m
noncomputable def yM(o:Bool):(AG×AG)×Nat->Option Bool×Unit->Sem (ForInStep (Option Bool×Unit)):=λe _=>match e with
 | ((p,q),i)=>eqBool p q >>= λc=>if (!c)=true then oneLt' (o&&i==0) p q >>= λb=>pure (.done (some b,()))else pure (.yield (none,()))
def kO(o:Bool)(x y:AG):keyLt' (vk o) x y=(Jw x >>= λr=>Jw y >>= λq=>forIn (r.toList.zip q.toList).zipIdx ((none,()):Option Bool×Unit) (yM o) >>= λz=>match z.1 with
  | some b=>pure b
  | none=>pure (decide (r.size < q.size))):=by kernel_rfl
def lV(o:Bool):∀{is B:List AG} {H I:ZLi} (k:Nat) {Q:Bool->AK->Prop},G5 is H->G5 B I->Q (ltL H I) s ->
  Ak (Ac prog w) A (forIn ((is.zip B).zipIdx k) ((none,()):Option Bool×Unit) (yM o) >>= λz=>match z.1 with
   | some b=>pure b
   | none=>pure (decide (n0+is.length < n0+B.length))) Q E s:=by
 intro is
 induction is with
 | nil=>
  intro B H I k Q C G l;cases C;rw[List.zip_nil_left,mZ,Vv];refine AA (AD (AD ?_))
  cases G with
  | nil=>simpa[ltL]using l
  | cons m t h=>simpa[ltL]using l
 | cons v is J=>
  intro B H I k Q C G l
  cases C with
  | cons n t C=>
   cases G with
   | nil=>
    rw[List.zip_nil_right,mZ,Vv];refine AA (AD (AD ?_));rw[wY (by ext)];exact l
   | cons m u G=>
    rw[Jt,List.zipIdx_cons,mf];rw[bind_assoc];unfold ltL at l;refine AA ?_;refine AA (wG ?_)
    by_cases e:n=m
    ·rw[qX e]at l
     rw[qY (by simp[e])];refine AD ?_;have:=J (k+1) C G l;ext
    ·rw[qY e]at l
     rw[qX (by simp[e])];refine AA (ak _ (AD ?_));exact AA (AD (AD l))
end
section
def QT(h:bj s v B):∃l:Array AG,G5 l.toList B/\s.TypeIs v "tuple"/\∀(E:AG->AK->Prop) (Q:Array AG->AK->Prop),Q l s->Ak (Ac prog w) A (Jw v) Q E s:=by
 obtain⟨a,l,rfl,⟨o,m,C,n,G⟩,H⟩:=h;exact⟨l,H,⟨o,m,C⟩,λE Q q=>U2 m G q⟩
def qP(o:Bool)(l:bj s x m)(B:bj s y C)(h:Q (ltL m C) s):Ak (Ac prog w) A (keyLt' (vk o) x y) Q E s:=by
 obtain⟨r,G,_,wr⟩:=QT l;obtain⟨q,H,_,I⟩:=QT B;rw[kO];refine AA (wr E _ (AA (I E _ ?_)));have:=lV (prog:=prog) (w:=w) (A:=A) (E:=E) (n0:=0) o 0 G H h;ext
def gR(h:bj s v (n :: B))(C:∀t,Q (some (.int n t)) s):Ak (Ac prog w) A (dj v) Q E s:=by
 obtain⟨r,m,ty,wr⟩:=QT h;refine(AA (Kg ty ?_):Ak _ _ (dj v) Q E s);refine(?_);rw[qY (by simp)];refine AA (wr E _ (AD ?_));generalize o:r.toList=l at m
 cases m with
 | cons _ t G=>
  have:r[0]?=some (.int n t):=by
   rw[<-Bt,o];rfl
  ext
theorem UQ:∀{vs:List AG},(∀v∈vs,∃n l,bj s v (n :: l))->∀{Q:List (Option AG)->AK->Prop},(∀is l,G5 is l->is.length=vs.length->Q (is.map some) s)->Ak (Ac prog w) A (vs.mapM dj) Q E s
 | [],_,Q,h=>by
  rw[List.mapM_nil];exact AD (h [] [] .nil rfl)
 | v :: vs,m,Q,h=>by
  obtain⟨n,l,o⟩:=m v Ae;rw[List.mapM_cons];refine AA (gR o λt=>AA (UQ (λv B=>m v (AT _ B)) λis C G H=>AD ?_));exact h (.int n t :: is) (n :: C) (.cons n t G) (by ext)
def XQ(h:G5 is l)(m:is≠[]):oneTypeOnly' is.toArray=pure (some (.type "int")):=by
 rw[oneTypeOnly'_eq,iE,mapM_typeOf_ints h];simp only[map_pure,pure_bind]
 cases is with
 | nil=>ext
 | cons v is=>
  ext
def kM(m:∀v∈vs,∃n l,bj s v (n :: l))(G:vs≠[])(h:Q (vk true) s):Ak (Ac prog w) A (keyKind' vs.toArray) Q E s:=by
 rw[keyKind'_eq,iE];refine AA ?_;rw[map_eq_pure_bind];refine AA (UQ m λis l o H=>AD ?_)
 have B:((is.map some).toArray.all λx=>x.isSome)=true:=by simp
 rw[qX B];refine AA (SY ?_)
 have C:(is.map some).toArray.filterMap id=is.toArray:=by simp
 rw[C,XQ o (by grind)];refine AA (AD (AD ?_));exact h
end
section
def IF(h:x∈OP vs):x.1∈vs/\x.1=x.2:=by
 have:x∈(OP vs).toList:=BU.mpr h;rw[pairsOf_toList]at this;exact⟨(mem_zip_self this).2,(mem_zip_self this).1⟩
def fU(vs:List AG):(OP vs).map (·.2)=vs.toArray:=by
 apply Array.ext'
 rw[IY,pairsOf_toList];simp[mI]
def X2(prog:BN)(w:Bo)(A:Bg)(s:AK)(vs:List AG)(f:AG->ZLi):Prop:=
 ∃l:QE,(∀(Q:QE->AK->Prop) (E:AG->AK->Prop),Q l s->Ak (Ac prog w) A (keyKind' vs.toArray) Q E s)/\L1 prog w A s (OP vs) l (ltK f)
def OG(ho:s.heap.get? a=some (JQ "list" vs.toArray n)) (hz:vs.length<=sizeLine)
  (U:2<=vs.length->∀s':AK,(∀b o,b≠a->s.heap.get? b=some o->s'.heap.get? b=some o)->X2 prog w A s' vs f)
  (h:∀out:Array AG,out.toList.Perm vs->out.toList.Pairwise (λx y=>ltL (f y) (f x)=false)->P (.done (.ret .none)) { s with heap:=Zw s.heap a vs out }) :
  Ak (Ac prog w) A (Builtin.«list.sort» ⟨[.ref a],[]⟩) P E s:=by
 have ha:=Aa ho
 have X:vs.toArray.size=vs.length:=by simp
 obtain⟨O,I⟩:∃O,(s.heap.update a (E2 λ_=>#[])).get? a=some (JQ "list" #[] O):=⟨_,get?_update_seq ho (λ_=>#[])⟩
 have B:(((s.heap.update a (E2 λ_=>#[])).push (JQ "tuple" vs.toArray 0)).push (JQ "list" #[] 0)).get? a=some (JQ "list" #[] O):=
  AE _ (AE _ I)
 have R:∀b o,b≠a->s.heap.get? b=some o->(((s.heap.update a (E2 λ_=>#[])).push (JQ "tuple" vs.toArray 0)).push (JQ "list" #[] 0)).get? b=some o:=λb o hb Y=>
  AE _ (AE _ (by rw[dy _ _ _ _ hb];exact Y))
 have fin:∀m:BL,(Af m).Perm (OP vs)->(Af m).toList.Pairwise (Rl (ltK f))->P (.done (.ret .none)) { s with heap:=Zw s.heap a vs ((Af m).map (·.2)) }:=by
  intro m H L
  have G:∀x∈(Af m).toList,x.1=x.2:=λx S=>by
   have:x∈(OP vs).toList:=(Fu.mp H).mem_iff.mp S;exact(IF (BU.mp this)).2
  refine h _ ?_ ?_
  ·have:=(Fu.mp H).map (·.2)
   rw[<-IY,<-IY,fU]at this
   omega
  ·rw[IY,Bb]
   refine L.imp_of_mem λ{x y} S Z r=>?_
   rw[<-G x S,<-G y Z];exact r
 have last:∀m:BL,(Af m).Perm (OP vs)->Jq m=none->(Af m).toList.Pairwise (Rl (ltK f))->(((Af m).map (·.2)).size<=sizeLine+1):=λm H _ _=>by
  rw[nF,H.size_eq,pairsOf_size]
  lia
 rw[list_sort_plain];refine AA (U2 ho rfl (AA (R5 ho rfl (AA (mR I rfl (AA (wpAny_newTuple (AA (de (Dp ?_)))))) ) (by assumption) (Bu _))));dsimp only
 by_cases N:vs.toArray.size < 2
 ·rw[qX N,qX N]
  refine AA (AD ?_);rw[StateT.run_pure]
  have J:(Af (Jp Z1 (vs.toArray.zip vs.toArray) #[] 7 none)).toList.Pairwise (Rl (ltK f)):=by
   have:(Af (Jp Z1 (vs.toArray.zip vs.toArray) #[] 7 none)).toList.length < 2:=by
    rw[Aj];show(OP vs).size < 2;rw[pairsOf_size];omega
   generalize (Af (Jp Z1 (vs.toArray.zip vs.toArray) #[] 7 none)).toList=l at this
   match l,this with
   | [],_=>exact .nil
   | [x],_=>ext
   | _ :: _ :: _,h=>simp at h;lia
  refine AA (AD (AA (mR B rfl (AA (R5 B rfl ?_ (Bu _) (last (Jp Z1 (vs.toArray.zip vs.toArray) #[] 7 none) (QA _) rfl J))))));simp only[bne_self_eq_false,Eb,if_false];exact AD (fin (Jp Z1 (vs.toArray.zip vs.toArray) #[] 7 none) (QA _) J)
 ·rw[qY N,qY N]
  obtain⟨κ,kk,C⟩:=U (by ext) { s with heap:=((s.heap.update a (E2 λ_=>#[])).push (JQ "tuple" vs.toArray 0)).push (JQ "list" #[] 0) } R;refine AA (kk _ _ ?_)
  refine AA (Gk (Srt.wpS_sortRuns
   (Q:=λ_ m=>(Af m).Perm (OP vs)/\Jq m=none/\(Af m).toList.Pairwise (Rl (ltK f))) C (pH f _) ⟨QA _,rfl,rfl⟩ rfl λm g u=>⟨g.perm,g.failed,?_⟩) ?_ λ_ _ e=>e)
  ·have:=im (AJ _) (by rw[g.size];exact u)
   ext
  rintro⟨⟨⟩,m⟩ s' ⟨rfl,H,T,L⟩;refine AA (mR B rfl (AA (R5 B rfl ?_ (Bu _) (last m H T L))));rw[T];simp only[bne_self_eq_false,Eb,if_false];exact AD (fin m H L)
def ei(h:∀v∈vs,bj s v (f v)/\f v≠[])(l:vs≠[]):X2 prog w A s vs f:=
 ⟨vk true,λQ E q=>kM (λv m=>by
  obtain⟨C,G⟩:=h v m
  cases e:f v with
  | nil=>ext
  | cons n H=>grind) l q,λx y o B Q E q=>qP true (h _ (IF o).1).1 (h _ (IF B).1).1 q⟩
noncomputable def jt(v:AG):ZLi:=[numOf v]
def eu(h:G5 vs H)(B:2<=vs.length):X2 prog w A s vs jt:=by
 refine⟨oneType',λQ E q=>?_,λx y C G Q E q=>?_⟩
 ·match vs,B,h with
  | v :: u :: r,_,h=>rw[keyKind_ints h];exact AD q
 ·obtain⟨n,t,l⟩:=h.all _ (IF C).1
  obtain⟨m,u,o⟩:=h.all _ (IF G).1;rw[keyLt'_oneType,l,o];refine oneLt_int ?_
  have:ltK jt x y=decide (n < m):=by
   unfold ltK jt;rw[l,o];show(if n=m then false else decide (n < m))=_;split
   ·rename_i e;simp[e]
   ·rfl
  ext
end
def Vm(h:B0)(d:AU)(es:Array Q4)(ep:Nat):Prop:=∃o,h.get? d=some o/\o.ExactDict/\o.data=.dict es ep
def Vm.at'(x:Vm h d es ep)(e:∀o,h.get? d=some o->h'.get? d=some o):Vm h' d es ep:=let ⟨o,l,r⟩:=x;⟨o,e _ l,r⟩
def Vm.ty{s:AK}{d:AU}{es:Array Q4}{ep:Nat}(x:Vm s.heap d es ep):s.TypeIs (.ref d) "dict":=let ⟨o,l,m,_⟩:=x;⟨o,l,m.1⟩
section
def Yy{Q:AG->AK->Prop}(G:(d==EJ)=false)(B:Vm s.heap d es ep)
  (H:Q (.ref s.heap.objs.size) { s with heap:=s.heap.push { cls:=.type "dict_keyiterator",data:=.fields #[.ref d,.int 0 0,.int es.size 0,.int ep 0] } }):Ak (Ac prog w) A (Sa (.ref d)) Q E s:=by
 have m:=B.ty;obtain⟨o,C,I,l⟩:=B;refine Uw m Wq (Bl Wq m PySem.F.entry_dict_iter ?_ (PySem.F.args_dict_iter_1 _));unfold Builtin.«dict.__iter__»;refine AA ?_;unfold yr;refine AA (wpAny_notOrdered_dict m (AD ?_));refine(show Ak _ _ (Sk d >>= _) _ _ s from ?_);unfold Sk;rw[qY (by simp[G])];refine AA (AD (AA (Uy C l (AA (YH C l (AA (BW (AD ⟨_,rfl, "dict_keyiterator",_,⟨_,AS _ rfl,rfl⟩,C9.lookup,?_⟩))))))))
 assumption
def Yx(l:s.heap.IsKeyIter it d i es.size ep)(I:Vm s.heap d es ep)(hi:i < es.size)
  (J:∀h',h'.IsKeyIter it d (i+1) es.size ep->EG it s.heap h'->Q (some es[i].key) { s with heap:=h' }):Ak (Ac prog w) A (HB (.ref it)) Q E s:=by
 obtain⟨o,H,L,m⟩:=id l;obtain⟨N,B,O,C⟩:=I;unfold HB;refine AA (GC (Bn l.typeIs C9 (Bl C9 l.typeIs Nz (AA (AD (AA (AA ?_)))) (Nl _))))
 first | refine AA (FX l.typeIs (AD (AA (FO H m ?_)))) | refine AA (Hk l.typeIs (AD (AA (FO H m ?_))))
 refine(show Ak _ _ (if (BB d==Dq)=true then _ else _) _ _ s from ?_);rw[qY (λz:(BB d==Dq)=true=>Ab z)];refine AA (AD (AA (Uy B C ?_)));rw[qY (by simp)];refine AA (AD (AA (YH B C ?_)));rw[qY (by simp)];refine AD ?_;simp only[show ¬((i:Int) < 0) by ext,if_false,As,Bv hi];refine AA ?_
 first | refine AA (FX l.typeIs (AD (AA (Ox l.typeIs ?_)))) | refine AA (Hk l.typeIs (AD (AA (Ox l.typeIs ?_))))
 refine(show Ak _ _ (setField (.ref it) 1 (OO ((i:Int)+1)) >>= _) _ _ s from ?_);have G:(s.heap.update it (Obj.mapFields (·.setIfInBounds 1 (OO ((i:Int)+1))))).IsKeyIter it d (i+1) es.size ep:=⟨_,Cz _ H (bw (KH m _)),(mE ..).trans L,by rw[KH m];simp[OO]⟩;refine AA (Ip H m (by simp) (AA (Dp (AA (Ox G.typeIs ?_)))));exact(AD (AD ⟨_,rfl,AD (J _ G (CM ..))⟩))
def cU(H:A.handled=none)(l:s.heap.IsKeyIter it d i es.size ep)(I:Vm s.heap d es ep)(hi:es.size<=i)
  (J:∀h',N2 it s.heap h'->Q none { s with heap:=h' }):Ak (Ac prog w) A (HB (.ref it)) Q E s:=by
 obtain⟨o,C,L,G⟩:=id l;obtain⟨N,m,O,B⟩:=I;unfold HB;refine AA (GC (Bn l.typeIs C9 (Bl C9 l.typeIs Nz (AA (AD (AA (AA ?_)))) (Nl _))))
 first | refine AA (FX l.typeIs (AD (AA (FO C G ?_)))) | refine AA (Hk l.typeIs (AD (AA (FO C G ?_))))
 refine(show Ak _ _ (if (BB d==Dq)=true then _ else _) _ _ s from ?_);rw[qY (λz:(BB d==Dq)=true=>Ab z)];refine AA (AD (AA (Uy m B ?_)));rw[qY (by simp)];refine AA (AD (AA (YH m B ?_)));rw[qY (by simp)];refine AD ?_;simp only[show ¬((i:Int) < 0) by lia,if_false,As,L5 hi];refine AA ?_
 first | refine AA (FX l.typeIs (AD (show Ak _ _ (setField (.ref it) 0 .none >>= _) _ _ s from ?_))) | refine AA (Hk l.typeIs (AD (?_)))
 refine AA (Ip C G (by simp) (AA ?_));refine AA (BW (AA (MA (by first | rfl | (simp only[QD];rfl)) (BW ?_ (by size_fits)))) (by size_fits));refine AA (Rz ?_);rw[show A.in1.handled=none from H];refine AA (AD (X5 ?_));refine AA (JP ⟨_,AS _ rfl,rfl⟩ QC (AD ?_));exact J _ (((CM ..).extBut.push _).push _)
def fL(J:A.handled=none)(I:AU)(L:d≠I):Walks prog w A I [I,d] [I] es.size (λi v=>∃h:i < es.size,v=es[i].key) (λi h=>h.IsKeyIter I d i es.size ep/\Vm h d es ep) where
 sub:=λx N=>by ext
 frame:=λ_ _ _ st keep=>⟨st.1.at λo e=>keep I (by simp) o e,st.2.at' λo e=>keep d (by simp) o e⟩
 item:=λi s Q E H st l=>Yx st.1 st.2 H λB C m=>l _ B s.toks ⟨H,rfl⟩ ⟨C,st.2.at' λo e=>m.extBut d o L e⟩ λb o hb e=>m.extBut b o (λh=>hb (by simp[h])) e
 done:=λs Q E st l=>cU J st.1 st.2 (AJ _) λB G=>l B s.toks λb o hb e=>G b o (λh=>hb (by simp[h])) e
 self:=λ_ _ _ _ st l=>mL st.1 l
def cT(lo:(d==EJ)=false):PySem.W.KdlSrc prog w "dict" d d es.size (λi v=>∃h:i < es.size,v=es[i].key) (λh=>Vm h d es ep) where
 type:=λ_ l=>l.ty
 there:=λ_ l=>⟨let ⟨_,m,_⟩:=l;Aa m,let ⟨_,m,_⟩:=l;Aa m⟩
 keep:=λ_ _ l B=>l.at' λo e=>B d (.inl rfl) o e
 notList:=by decide
 notTuple:=by decide
 hint:=λ_ _ _ _ l A=>PySem.W.kdl_hint_dict l.ty A
 iter:=λ_ _ C l=>⟨_,_,(λ_ _ A=>Yy lo l A),fL C _ (Au (let ⟨_,m,_⟩:=l;Aa m)),⟨⟨_,AS _ rfl,rfl,rfl⟩,l.at' λo e=>AE _ e⟩⟩
end
end Srt
namespace PySem.SetTable
def Up(xs:Array Nat):Prop:=xs.toList.Pairwise (· < ·)
def Up.lt(u:Up xs)(h:i < k)(l:k < xs.size):xs[i] < xs[k]:=by
 have:=Ke.mp u i k (by rw[Aj];omega) (by rw[Aj];exact l) h;assumption
structure At(xs:Array Nat)(j r:Nat):Prop where
 le:r<=xs.size
 lo:∀i (h:i < xs.size),i < r->xs[i] < j
 hi:∀i (h:i < xs.size),r<=i->j<=xs[i]
def At.eq(a:At xs j r)(b:At xs j r'):r=r':=by
 rcases mF r r' with h | h | h
 ·have l:=AR h b.le
  have m:=b.lo r l h;have o:=a.hi r l (AJ _);lia
 ·exact h
 ·have l:=AR h a.le
  have m:=a.lo r' l h;have o:=b.hi r' l (AJ _);lia
theorem Uf(u:Up xs)(j:Nat):∀(fuel lo hi:Nat),lo<=hi->hi<=xs.size->hi - lo<=fuel ->
  (∀i (h:i < xs.size),i < lo->xs[i] < j)->(∀i (h:i < xs.size),hi<=i->j<=xs[i])->At xs j (GR.go xs j fuel lo hi)
 | 0,lo,hi,G,l,H,m,o=>by
  have:lo=hi:=by grind
  subst this;exact⟨l,m,o⟩
 | fuel+1,lo,hi,G,l,H,m,o=>by
  unfold GR.go
  by_cases h:lo < hi
  ·rw[qX h]
   have B:(lo+hi) / 2 < xs.size:=by lia
   have e:xs.getD ((lo+hi) / 2) j=xs[(lo+hi) / 2]:=by simp[VQ,B]
   simp only[e]
   by_cases A:xs[(lo+hi) / 2] < j
   ·rw[qX A]
    refine Uf u j fuel _ _ (by lia) l (by grind) (λi C I=>?_) o
    by_cases E:i=(lo+hi) / 2
    ·ext
    ·exact Rf (u.lt (by lia:i < (lo+hi) / 2) B) A
   ·rw[qY A]
    refine Uf u j fuel _ _ (by lia) (by lia) (by grind) m λi C I=>?_
    by_cases E:i=(lo+hi) / 2
    ·subst E;ext
    ·have:=u.lt (by lia:(lo+hi) / 2 < i) C;lia
  ·rw[qY h]
   have:lo=hi:=by lia
   subst this;exact⟨l,m,o⟩
def NF(u:Up xs)(j:Nat):At xs j (GR xs j):=
 Uf u j _ _ _ (Bu _) (AJ _) (by ext) (λ_ _ h=>zX h (by ext)) λi h l=>zX h (by lia)
def ba(u:Up xs):GR xs 0=0:=(NF u 0).eq ⟨Bu _,λ_ _ h=>zX h (by lia),λ_ _ _=>Bu _⟩
def bb(u:Up xs)(h:i < xs.size):GR xs (xs[i]+1)=i+1:=
 (NF u _).eq ⟨h,λk l m=>by
  by_cases e:k=i
  ·subst e;ext
  ·have:=u.lt (by lia:k < i) h;lia,λk l m=>u.lt (by assumption:i < k) l⟩
def eR(u:Up xs)(h:xs[GR xs j]?≠some j):Up (insertAt xs (GR xs j) j):=by
 have a:=NF u j;unfold Up;rw[toList_insertAt,BV,G9];refine⟨wR u,⟨λy o=>?_,wS u⟩,λx C y o=>?_⟩
 ·obtain⟨k,l,e⟩:=GF.mp o
  have m:GR xs j+k < xs.size:=by simp at l;grind
  have B:xs[GR xs j+k]=y:=by simpa using e
  have E:=a.hi _ m (by ext)
  by_cases G:k=0
  ·subst G
   grind
  ·have hb:GR xs j < xs.size:=by lia
   have I:=a.hi _ hb (AJ _);have J:=u.lt (by lia:GR xs j < GR xs j+k) m
   lia
 ·have H:x < j:=by
   obtain⟨k,l,e⟩:=GF.mp C
   have m:k < xs.size:=by simp at l;lia
   have A:k < GR xs j:=by simp at l;lia
   have B:xs[k]=x:=by simpa using e
   have:=a.lo k m A
   ext
  rcases Aw.mp o with e | o
  ·ext
  ·obtain⟨k,l,e⟩:=GF.mp o
   have m:GR xs j+k < xs.size:=by simp at l;grind
   have B:xs[GR xs j+k]=y:=by simpa using e
   have E:=a.hi _ m (by lia)
   lia
end PySem.SetTable
namespace PySem
open SetTable
def pW{mask finger moves}{led plain}{hs}{t}{o}(e:laid mask finger moves led plain hs=some (t,o)):Up t.place/\t.led=led:=by
 unfold laid at e
 cases l:layClean mask hs with
 | none=>rw[l]at e;cases e
 | some ow=>
  rw[l]at e;cases e;refine⟨?_,rfl⟩;unfold Up;simp only[g9];refine Q2 _ (λa A h b hb B m=>?_) MH;ext
theorem Oj{m:Type}:∀(l:List m) (i:Nat) (h:i < l.length),FC (l[i] :: l.eraseIdx i) l
 | [],i,h=>zX h (NQ _)
 | a :: l,0,_=>.rfl
 | a :: l,i+1,h=>(dw _ _ _).trans ((Oj l i (Nat.lt_of_succ_lt_succ h)).cons a)
theorem cV{m:Type}(next:Nat->Nat):∀(fuel k:Nat) (left:List m) (out:Array m),left.length=fuel->FC (U0 next fuel k left out).toList (out.toList++left)
 | 0,k,left,out,h=>by
  have:left=[]:=Sj h;subst this;simp[U0]
 | fuel+1,k,left,out,h=>by
  unfold U0;have l:next k % left.length < left.length:=QG _ (by ext);rw[AM l];refine(cV next fuel (k+1) _ _ (by rw[Vu l];ext)).trans ?_;rw[Hn,Bc];refine Hi _ ?_;exact Oj _ _ l
def fO{l:Type}(next:Nat->Nat)(xs:Array l):FC (gr next xs).toList xs.toList:=by
 have:=cV next xs.size 0 xs.toList #[] (by simp)
 assumption
open PySem.Sem (wp)
open SetTable
section
def Vf(a:AG) 
  (h:Q₁ (.ref s.heap.objs.size) { s with heap:=s.heap.push { cls:=.type "set",dict:=none,data:=.set #[] 0 (.fresh 0 0 (!(w.params.followText "set-order"))) } }) :
  Ho (Ac prog w) A (.call (.builtin "set.__new__") ⟨[.type "set",a],[]⟩) (wants Q₁ E) s:=by
 refine yZ ?_;refine AA (MA (F.newCall_set_1 a) (AD ⟨Hl wD _,FA F.entry_set_new ?_⟩));rw[Dg wD _];unfold Builtin.«set.__new__» nD;have l:=sub_set_self;obtain⟨m,g,d,o,os⟩:=s
 wp_walk
 refine G0 (AD ?_);refine AA (wpAny_alloc (AD ?_));exact AD h
end
def WG:Manifest.owners.lookup (String.ofList ['r','o','t','a','r','e','t','i','_','t','e','s'].reverse)=some Manifest.sig_set_iterator:=by kernel_rfl
def Ct:Slot "set_iterator" "__next__" "set_iterator.__next__" :=
 .of (owner:="set_iterator") (n:="__next__") (by rfl) (by rfl) (by rfl) (by rfl)
  (by first | exact .inl (by rfl) | exact .inr (by decide +kernel)) (by rfl)
def N7:Slot "set_iterator" "__iter__" "set_iterator.__iter__" :=
 .of (owner:="set_iterator") (n:="__iter__") (by rfl) (by rfl) (by rfl) (by rfl)
  (by first | exact .inl (by rfl) | exact .inr (by decide +kernel)) (by rfl)
def He:mT table "set_iterator.__next__" = some Builtin.«set_iterator.__next__»:=wJ (by kernel_rfl)
def UW:mT table "set_iterator.__iter__" = some Builtin.«dict_keyiterator.__iter__»:=entryFor_alias (id':="dict_keyiterator.__iter__") (by kernel_rfl) rfl (by decide +kernel) (by kernel_rfl)
def UX:mT table "set.__iter__" = some Builtin.«frozenset.__iter__»:=entryFor_alias (id':="frozenset.__iter__") (by kernel_rfl) rfl (by decide +kernel) (by kernel_rfl)
def IU(a:AG):argsOk "set_iterator.__next__" ⟨[a],[]⟩:=by
 unfold argsOk;rw[signature?_of (n:=['_','_','t','x','e','n','_','_']) (by kernel_rfl) WG];kernel_rfl
def Vi(a:AG):argsOk "set_iterator.__iter__" ⟨[a],[]⟩:=by
 unfold argsOk;rw[signature?_of (n:=['_','_','r','e','t','i','_','_']) (by kernel_rfl) WG];kernel_rfl
def Qv(h:B0)(a:AU)(es:Array (Int×AG))(ep:Nat)(t:Es):Prop:=∃o,h.get? a=some o/\o.ExactSet/\o.data=.set es ep t/\t.fits es.size=true
def SIt(h:B0)(it:AU)(f:AG)(i:Nat)(a:AU)(n ep:Nat):Prop:=h.get? it=some { cls:=.type "set_iterator",dict:=none,data:=.fields #[f,.int i 0,.ref a,.int n 0,.int ep 0],slots:=#[] }
def Qv.at'(x:Qv h a es ep t)(e:∀o,h.get? a=some o->h'.get? a=some o):Qv h' a es ep t:=let ⟨o,l,r⟩:=x;⟨o,e _ l,r⟩
section
variable{prog:BN}{w:Bo}{A:Bg}{E:AG->AK->Prop}{s:AK}{a it:AU}{es:Array (Int×AG)}{ep i:Nat}{t:Es}
def SIt.ty(x:SIt s.heap it f i a n ep):s.TypeIs (.ref it) "set_iterator":=⟨_,x,rfl⟩
def Nxt(prog:BN)(w:Bo)(a:AU)(es:Array (Int×AG))(ep:Nat)(t:Es)(sl i:Nat)(r:Option (AG×Nat)):Prop:=
 ∀(A:Bg) (E:AG->AK->Prop) (s:AK) (Q:Option (AG×Nat)->AK->Prop),Qv s.heap a es ep t->Q r s->Ak (Ac prog w) A (setNext a sl i ep) Q E s
def Y7(hb:w.params.followText "set-order" = true):Nxt prog w a es ep t 0 i (((gr (w.params.setOrder a ep) es)[i]?).map λe=>(e.2,0)):=by
 intro A E s Q C G;obtain⟨o,l,hex,m,B⟩:=C;unfold setNext;refine AA (DR l m B ?_);unfold Zy;refine AA (AA (G0 (AD ?_)));rw[show(Ac prog w).w.params.followText "set-order" = true from hb];simp only[if_true,bne_self_eq_false,Eb,if_false];unfold setWalk Zy;refine AA ?_;refine AA (DR l m B ?_);refine AA (AA (G0 (AD ?_)));rw[show(Ac prog w).w.params.followText "set-order" = true from hb];refine AA (G0 (AD ?_));exact AD G
def Y8(hb:w.params.followText "set-order" = false) (B:t.led=true) (l:t.plain=true∨es.size<=1) (sl:Nat) :
  Nxt prog w a es ep t sl i (match es[GR t.place sl]?,t.place[GR t.place sl]? with | some (_,x),some j=>some (x,j+1) | _,_=>none):=by
 intro A E s Q C G;obtain⟨o,H,hex,I,J⟩:=C;unfold setNext;refine AA (DR H I J ?_);unfold Zy;refine AA (AA (G0 (AD ?_)));rw[show(Ac prog w).w.params.followText "set-order" = false from hb]
 have m:(!t.plain&&decide (es.size > 1))=false:=by
  rcases l with l | l
  ·rw[l];rfl
  ·ext
 refine(show Ak _ _ (if (!t.plain&&decide (es.size > 1))=true then _ else _) _ _ s from ?_);rw[m];refine AA (show Ak _ _ (if (!t.led&&!es.isEmpty)=true then _ else _) _ _ s from ?_);rw[B];exact AD (AD G)
def jD{sl l:Nat}{x:AG}{Q:Option AG->AK->Prop}(m:SIt s.heap it (.int sl 0) i a es.size ep)(C:Qv s.heap a es ep t)(hN:Nxt prog w a es ep t sl i (some (x,l)))
  (G:∀h',SIt h' it (.int l 0) (i+1) a es.size ep->EG it s.heap h'->Q (some x) { s with heap:=h' }):Ak (Ac prog w) A (HB (.ref it)) Q E s:=by
 obtain⟨o,H,hex,I,J⟩:=id C;unfold HB;refine AA (GC (Bn m.ty Ct (Bl Ct m.ty He ?_ (IU _))));unfold Builtin.«set_iterator.__next__» Zx;refine AA (AD ?_);refine AA (FO m rfl ?_);refine AA (HA H I J ?_);rw[qY (by simp)];refine AA (hN _ _ _ _ C ?_);refine AA (LB m (by simp) λN L ϧ=>?_);refine AA (LB L (by simp) λO P B=>?_);refine AD ⟨_,rfl,AD (G _ ?_ (ϧ.trans B))⟩
 assumption
def oO{sl:Nat}{Q:Option AG->AK->Prop}(B:A.handled=none)(l:SIt s.heap it (.int sl 0) i a es.size ep)(m:Qv s.heap a es ep t)(hN:Nxt prog w a es ep t sl i none)
  (C:∀h',N2 it s.heap h'->Q none { s with heap:=h' }):Ak (Ac prog w) A (HB (.ref it)) Q E s:=by
 obtain⟨o,G,hex,H,I⟩:=id m;unfold HB;refine AA (GC (Bn l.ty Ct (Bl Ct l.ty He ?_ (IU _))));unfold Builtin.«set_iterator.__next__» Zx;refine AA (AD ?_);refine AA (FO l rfl ?_);refine AA (HA G H I ?_);rw[qY (by simp)];refine AA (hN _ _ _ _ m ?_);refine AA (Ip l rfl (by simp) (AA ?_));refine AA (BW (AA (MA (by first | rfl | (simp only[QD];rfl)) (BW ?_ (by size_fits)))) (by size_fits));refine AA (Rz ?_);rw[show A.in1.handled=none from B];refine AA (AD (X5 ?_));refine AA (JP ⟨_,AS _ rfl,rfl⟩ QC (AD ?_));exact C _ (((CM ..).extBut.push _).push _)
end
section
def VR(m:n≠0)(h:∀d',Q (M.w.draws l (s.drawn.get l) % n) { s with drawn:=d' }):Ak M A (choose l n) Q E s:=λ_ _ _=>⟨m,h _⟩
theorem WZ{B:Type}:∀(n:Nat) (xs:List B) (s:AK) (Q:List B->AK->Prop),xs.length=n->(∀o d',FC o xs->Q o { s with drawn:=d' })->Ak (Ac prog w) A (wK n xs) Q E s
 | 0,xs,s,Q,l,h=>by
  have:xs=[]:=Sj l;subst this;unfold wK;exact AD (h [] s.drawn .nil)
 | n+1,[],s,Q,l,h=>by cases l
 | n+1,x :: xs,s,Q,l,h=>by
  unfold wK;refine AA (VR (by simp) λd1=>?_);have m:(Ac prog w).w.draws P7 (s.drawn.get P7) % (x :: xs).length < (x :: xs).length:=QG _ (by simp);generalize (Ac prog w).w.draws P7 (s.drawn.get P7) % (x :: xs).length=i at m;rw[AM m];refine AA (WZ n _ _ _ (by rw[Vu m];ext) λo d' C=>?_);exact AD (h _ d' ((C.cons _).trans (Oj _ _ m)))
def TP(h:B0)(T:AU)(l:List Nat):Prop:=∃o c,h.get? T=some o/\o.data=.seq (l.map λ(i:Nat)=>LD i 0).toArray c
def TP.at'(x:TP h T ps)(e:∀o,h.get? T=some o->h'.get? T=some o):TP h' T ps:=let ⟨o,c,l,r⟩:=x;⟨o,c,e _ l,r⟩
def fA(l:SIt s.heap it (.ref T) i a es.size ep)(L:Qv s.heap a es ep t)(N:TP s.heap T G)(O:G[i]?=some p)(P:es[p]?=some e)
  (R:∀h',SIt h' it (.ref T) (i+1) a es.size ep->EG it s.heap h'->Q (some e.2) { s with heap:=h' }):Ak (Ac prog w) A (HB (.ref it)) Q E s:=by
 obtain⟨o,H,hex,I,J⟩:=id L;obtain⟨S,c,m,B⟩:=N;unfold HB;refine AA (GC (Bn l.ty Ct (Bl Ct l.ty He ?_ (IU _))));unfold Builtin.«set_iterator.__next__» Zx;refine AA (AD ?_);refine AA (FO l rfl ?_);refine AA (HA H I J ?_);rw[qY (by simp)];refine AA (Iq m B ?_);dsimp only
 have C:(G.map λ(i:Nat)=>LD i 0).toArray[(Int.toNat (i:Int))]?=some (.int p 0):=by
  rw[As];simp[O]
 rw[C];unfold setNextDrawn;refine AA (AA (DR H I J ?_));dsimp only;rw[qY (by simp),As,P];refine AD ?_;refine AA (LB l (by simp) λU X ϧ=>?_);refine AD ⟨_,rfl,AD (R _ ?_ ϧ)⟩
 assumption
def jE(I:A.handled=none)(l:SIt s.heap it (.ref T) i a es.size ep)(J:Qv s.heap a es ep t)(L:TP s.heap T G)(H:G[i]?=none)
  (N:∀h',N2 it s.heap h'->Q none { s with heap:=h' }):Ak (Ac prog w) A (HB (.ref it)) Q E s:=by
 obtain⟨o,O,hex,P,R⟩:=id J;obtain⟨U,c,m,B⟩:=L;unfold HB;refine AA (GC (Bn l.ty Ct (Bl Ct l.ty He ?_ (IU _))));unfold Builtin.«set_iterator.__next__» Zx;refine AA (AD ?_);refine AA (FO l rfl ?_);refine AA (HA O P R ?_);rw[qY (by simp)];refine AA (Iq m B ?_);dsimp only
 have C:(G.map λ(i:Nat)=>LD i 0).toArray[(Int.toNat (i:Int))]?=none:=by
  rw[As];simp at H ⊢;exact H
 rw[C];refine AA (LB l (by simp) λX S ϧ=>?_);refine AA (Ip S rfl (by simp) (AA ?_));refine AA (BW (AA (MA (by first | rfl | (simp only[QD];rfl)) (BW ?_ (by size_fits)))) (by size_fits));refine AA (Rz ?_);rw[show A.in1.handled=none from I];refine AA (AD (X5 ?_));refine AA (JP ⟨_,AS _ rfl,rfl⟩ QC (AD ?_));exact N _ (((ϧ.trans (CM ..)).extBut.push _).push _)
def Yn(l:SIt s.heap it f i a n ep)(h:Q (.ref it) s):Ak (Ac prog w) A (Sa (.ref it)) Q E s:=by
 refine Uw l.ty N7 (Bl N7 l.ty UW ?_ (Vi _));exact AD ⟨_,rfl, "set_iterator",_,l.ty,Ct.lookup,h⟩
def YS(J:A.handled=none)(L:a≠it)(sl:Nat->Nat)(ord:List AG)(I:ord.length=es.size)
  (hN:∀i x,ord[i]?=some x->Nxt prog w a es ep t (sl i) i (some (x,sl (i+1)))) (N:Nxt prog w a es ep t (sl es.size) es.size none) :
  Walks prog w A it [it,a] [it] es.size (λi v=>ord[i]?=some v) (λi h=>SIt h it (.int (sl i) 0) i a es.size ep/\Qv h a es ep t) where
 sub:=λx B=>by grind
 frame:=λ_ _ _ st keep=>⟨keep it (by simp) _ st.1,st.2.at' λo e=>keep a (by simp) o e⟩
 item:=λi s Q E O st l=>by
  have B:ord[i]?=some ord[i]:=AM (by omega)
  exact jD st.1 st.2 (hN i _ B) λC G m=>l _ C s.toks B ⟨G,st.2.at' λo e=>m.extBut a o L e⟩ λb o hb e=>m.extBut b o (λh=>hb (by simp[h])) e
 done:=λs Q E st l=>oO J st.1 st.2 N λC H=>l C s.toks λb o hb e=>H b o (λh=>hb (by simp[h])) e
 self:=λ_ _ _ _ st l=>Yn st.1 l
def eE(O:A.handled=none)(P:a≠it)(G:T≠it)(m:List Nat)(C:FC m (BO es.size)) :
  Walks prog w A it [it,a,T] [it] es.size (λi v=>(m.filterMap λp=>(es[p]?).map (·.2))[i]?=some v) (λi h=>SIt h it (.ref T) i a es.size ep/\Qv h a es ep t/\TP h T m) where
 sub:=λx hx=>by ext
 frame:=λ_ _ _ st keep=>⟨keep it (by simp) _ st.1,st.2.1.at' λo e=>keep a (by simp) o e,st.2.2.at' λo e=>keep T (by simp) o e⟩
 item:=λi s Q E hi st H=>by
  have R:m.length=es.size:=by have:=C.length_eq;simpa using this
  have S:∀p∈m,p < es.size:=λp h=>by simpa using C.mem_iff.mp h
  have I:m[i]?=some (m[i]'(by ext)):=AM (by lia);have U:=S _ (CD (by lia:i < m.length));have X:=Bv U
  have Y:∀(l:List Nat),(∀p∈l,p < es.size)->(l.filterMap λp=>(es[p]?).map (·.2))=l.map λp=>(es.getD p (0,.none)).2:=λl=>by
   induction l with
   | nil=>intro _;rfl
   | cons p l Z=>
    intro h;have C:=h p Ae;rw[Ez (b:=(es[p]).2) (by simp[C]),Z λq hq=>h q (AT _ hq)];simp[VQ,C]
  refine fA st.1 st.2.1 st.2.2 I X λJ L B=>H _ J s.toks ?_ ⟨L,st.2.1.at' λo e=>B.extBut a o P e,st.2.2.at' λo e=>B.extBut T o G e⟩ λb o hb e=>B.extBut b o (λh=>hb (by simp[h])) e
  ext
 done:=λs Q E st H=>by
  have R:m.length=es.size:=by have:=C.length_eq;simpa using this
  exact jE O st.1 st.2.1 st.2.2 (IW (by ext)) λJ N=>H J s.toks λb o hb e=>N b o (λh=>hb (by simp[h])) e
 self:=λ_ _ _ _ st H=>Yn st.1 H
def Sq(l:Qv s.heap a es ep t)(m:Q (!(w.params.followText "set-order")&&(!t.plain&&decide (es.size > 1))) s):Ak (Ac prog w) A (setDrawn a) Q E s:=by
 obtain⟨o,B,hex,C,G⟩:=l;unfold setDrawn Zy;refine AA (DR B C G ?_);refine AA (AA (G0 (AD ?_)));exact AD m
noncomputable def aX(t:Es):Nat->Nat
 | 0=>0
 | i+1=>t.place.getD i 0+1
def Ue(l:Up t.place):∀{i:Nat},i<=t.place.size->GR t.place (aX t i)=i
 | 0,_=>ba l
 | i+1,h=>by
  have:t.place.getD i 0=t.place[i]'(by assumption):=by simp[VQ,show i < t.place.size by lia]
  show GR t.place (t.place.getD i 0+1)=i+1;rw[this];exact bb l _
def jG(O:A.handled=none)(C:Qv s.heap a es ep t)(Z:Up t.place)(hl:t.led=(!(w.params.followText "set-order"))) (hz:es.size<=sizeLine)
  (P:∀(h':B0) (d':_) (I:AU) (fp:List AU) (St:Nat->B0->Prop) (ord:List AG),FC ord (es.toList.map (·.2))->(∀b o,s.heap.get? b=some o->h'.get? b=some o) ->
   (∀b∈fp,b=a∨s.heap.objs.size<=b)->s.heap.objs.size<=I->Walks prog w A I fp [I] es.size (λi v=>ord[i]?=some v) St->St 0 h'->Q (.ref I) { s with heap:=h',drawn:=d' }) :
  Ak (Ac prog w) A (Sa (.ref a)) Q E s:=by
 obtain⟨o,G,hex,R,l⟩:=id C;have hT:s.TypeIs (.ref a) "set":=⟨o,G,hex.1⟩;have S:=Aa G
 have hps:t.place.size=es.size:=by
  unfold Uq at l;simp at l;exact l.1
 refine Uw hT wC (Bl wC hT UX ?_ (F.args_set_iter_1 _));unfold Builtin.«frozenset.__iter__» nB Zx nE nC;refine AA (AD ?_);refine AA (AA (HA G R l (AD ?_)));refine AA (Sq C ?_)
 by_cases hb:(!(w.params.followText "set-order")&&(!t.plain&&decide (es.size > 1)))=true
 ·rw[qX hb]
  refine AA (WZ es.size (BO es.size) s _ (by simp) λU d' m=>?_)
  have X:U.length=es.size:=by have:=m.length_eq;simpa using this
  unfold newTuple;refine AA (BW ?_ (show _<=sizeLine by ext));unfold setEpoch;refine AA (AA (DR (AE _ G) R l (AD ?_)));unfold newFields;refine AA (BW (AD ⟨_,rfl, "set_iterator",_,⟨_,AS _ rfl,rfl⟩,Ct.lookup,?_⟩) (by size_fits));refine P _ d' _ _ _ (U.filterMap λp=>(es[p]?).map (·.2)) ?_ (λb o e=>AE _ (AE _ e)) ?_ ?_ (eE O (a:=a) (T:=s.heap.objs.size) (t:=t) (ep:=ep) ?_ ?_ U m) ⟨?_,?_,?_⟩
  ·refine(m.filterMap _).trans ?_
   have:(BO es.size).filterMap (λp=>(es[p]?).map (·.2))=es.toList.map (·.2):=by
    have e:=filterMap_getElem?_range es;rw[<-e,g9]
   rw[this]
  ·simp
  ·ext
  ·rw[DJ];exact Au (Ey S)
  ·ext
  ·exact AS _ rfl
  ·exact C.at' λo e=>AE _ (AE _ e)
  ·exact⟨_,_,AE _ (AS _ rfl),rfl⟩
 ·rw[qY hb]
  refine AA (AD ?_);unfold setEpoch;refine AA (AA (DR G R l (AD ?_)));unfold newFields;refine AA (BW (AD ⟨_,rfl, "set_iterator",_,⟨_,AS _ rfl,rfl⟩,Ct.lookup,?_⟩) (by size_fits))
  have H:∀b∈[s.heap.objs.size,a],b=a∨s.heap.objs.size<=b:=λb hb=>by
   grind
  cases B:w.params.followText "set-order" with
  | true=>
   have m:=fO (w.params.setOrder a ep) es
   have Y:(gr (w.params.setOrder a ep) es).size=es.size:=by have:=m.length_eq;simpa using this
   refine P _ s.drawn _ _ _ ((gr (w.params.setOrder a ep) es).toList.map (·.2)) (m.map _) (λb o e=>AE _ e) H (AJ _)
    (YS O (Au S) (λ_=>0) _ (by simp[Y]) (λi x J=>?_) ?_) ⟨AS _ rfl,C.at' λo e=>AE _ e⟩
   ·have:=Y7 (prog:=prog) (a:=a) (es:=es) (ep:=ep) (i:=i) (t:=t) B
    rw[AX,Bt]at J
    grind
   ·have:=Y7 (prog:=prog) (a:=a) (es:=es) (ep:=ep) (i:=es.size) (t:=t) B
    ext
  | false=>
   have L:t.led=true:=by rw[hl,B];rfl
   have X:t.plain=true∨es.size<=1:=by
    rw[B]at hb
    cases hh:t.plain with
    | true=>exact .inl rfl
    | false=>ext
   refine P _ s.drawn _ _ _ (es.toList.map (·.2)) .rfl (λb o e=>AE _ e) H (AJ _)
    (YS O (Au S) (aX t) _ (by simp) (λi x J=>?_) ?_) ⟨AS _ rfl,C.at' λo e=>AE _ e⟩
   ·have:=Y8 (prog:=prog) (a:=a) (ep:=ep) (i:=i) B L X (aX t i)
    rw[AX,Bt]at J
    have hi:i < es.size:=by
     rcases IB i es.size with h | h
     ·exact h
     ·ext
    have N:GR t.place (aX t i)=i:=Ue Z (by lia);rw[N,Bv hi,Bv (by lia:i < t.place.size)]at this;rw[Bv hi]at J;cases J
    have e2:t.place.getD i 0=t.place[i]'(by lia):=by simp[VQ,show i < t.place.size by lia]
    show Nxt prog w a es ep t (aX t i) i (some (_,t.place.getD i 0+1));rw[e2];exact this
   ·have:=Y8 (prog:=prog) (a:=a) (ep:=ep) (i:=es.size) B L X (aX t es.size)
    have N:GR t.place (aX t es.size)=es.size:=Ue Z (by ext);ext
end
section
def kf(m:s.TypeIs (.ref a) "set") (h:Q false s):Ak (Ac prog w) A (O7 (.ref a)) Q E s:=by
 unfold O7;refine AA (YF m PySem.F.slot_set_len.lookup ?_);generalize l:("set.__len__" : String)=id0
 wp_delta
 rw[show splitId id0=some ("set", "__len__")from by subst l;rfl];subst l;refine AA (JP (b:=true) m (by rfl) ?_);refine YG (λo=>zX o (by decide)) (λ_=>?_);refine YG (λ_=>?_) (λo=>zX (by rfl) o);refine AA (Kg m ?_);exact AD h
def aZ(hh:A.handled=none)(T:Qv s.heap a es ep t)(hu:Up t.place)(hl:t.led=(!(w.params.followText "set-order"))) (hz:es.size<=sizeLine)
  (S:AU) (U:S≠a) (res:AG) (C:Nat) (hL:s.heap.get? S=some { cls:=.type "list",data:=.seq #[] C })
  (hR:∀h' Q d' (G:Array AG) J (ord:List AG),FC ord (es.toList.map (·.2))->(∀b o,b≠S->s.heap.get? b=some o->h'.get? b=some o)->h'.get? S=some { cls:=.type "list",dict:=none,data:=.seq G J,slots:=#[] } ->
   G.toList=ord->R (.ok (.ret res)) { s with heap:=h',toks:=Q,drawn:=d' }) :
  Ak (Ac prog w) A.in1 (O8 (.ref S) (.ref a) res)
   (λfin s'=>match fin with | .done f=>R (.ok f) s' | .again J=>J.quiet=true/\Ho (Ac prog w) A J R s') (λe s'=>R (.error e) s') s:=by
 have hT:s.TypeIs (.ref a) "set":=let ⟨o,X,hex,_⟩:=T;⟨o,X,hex.1⟩
 have hSl:=Aa hL;unfold O8;refine AA (Kg hT ?_)
 have h1:Q5 (.ref S) (.ref a)=false:=by simp[Q5,U]
 simp only[h1,show(G4 "set"==G4 "list")=false by decide,show(G4 "set"==G4 "tuple")=false by decide,Bool.or_false,Eb,if_false];refine AA (jG hh T hu hl hz λh1 d1 I fp St ord hp L hfp hI W st=>?_)
 have N:S∉fp:=λh=>by
  grind
 have O:∀(h:B0) (m Q:Nat),St 0 h->(∀b o,b≠S->s.heap.get? b=some o->h.get? b=some o) ->
   h.get? S=some { cls:=.type "list",data:=.seq #[] m }->Ho (Ac prog w) A (.builtin "list.extend.loop" ⟨[.ref S,.ref I,res],[]⟩) R { s with heap:=h,toks:=Q,drawn:=d1 }:=by
  intro h m Q zx L l
  refine codeAny_extend_loopS W.toS hz S N res es.size 0 _ #[] m rfl (Bu _) zx l (ItemsOf.nil _) λs' G J hm Cs Y=>?_
  rw[Moved.eq_with hm];refine hR s'.heap s'.toks d1 G J ord hp (λb o hb e=>hm.heap b o (λE=>?_) (L b o hb e)) Cs ?_
  ·rcases Aw.mp E with e' | E
   ·exact hb e'
   ·exact zX (Aa e) (by ext)
  ·have hol:ord.length=es.size:=by have:=hp.length_eq;simpa using this
   apply Dt
   intro j
   by_cases hj:j < es.size
   ·have Z:j < G.size:=by rw[Y.1];exact hj
    have:=Y.2 j G[j] (by simp[Z]);rw[this];simp[Z]
   ·have Z:¬j < G.size:=by rw[Y.1];exact hj
    ext
 have l:=L S _ hL;refine AA (Dp (kf (let ⟨o,X,hex,_⟩:=T;⟨o,L _ _ X,hex.1⟩) ?_));refine YG (λ_=>?_) (λ_=>AD ⟨Hl Us _,O _ C _ st (λb o _ e=>L b o e) l⟩);refine AA (SY ?_);refine AA ?_;refine AA (yX l rfl ?_);have B:=Cz (E2 (·.push Dq)) l rfl;refine yX B rfl ?_;have H:=Cz (E2 (·.pop)) B rfl;refine AD ⟨Hl Us _,O _ _ _ ?_ (λb o hb e=>?_) H⟩
 ·refine W.frame 0 _ _ st λb hb o e=>?_
  have P:b≠S:=λh=>N (h▸hb)
  exact(EF _ _ (Bw P)).trans ((EF _ _ (Bw P)).trans e)
 ·exact(EF _ _ (Bw hb)).trans ((EF _ _ (Bw hb)).trans (L b o e))
end
open SetTable
noncomputable def Rv(m:Nat)(p:YA):YA:=if p.more > 0 then{ p with j:=p.j+1,more:=p.more - 1 } else{ p with j:=(YJ m p.i p.perturb).1,more:=Gm m (YJ m p.i p.perturb).1 - (YJ m p.i p.perturb).1,i:=(YJ m p.i p.perturb).1,perturb:=(YJ m p.i p.perturb).2 }
def bg(t:Es)(p:YA):t.advance p=Rv t.mask p:=by rfl
noncomputable def itq(m:Nat):Nat->YA->YA
 | 0,p=>p
 | s+1,p=>Rv m (itq m s p)
def bK(m a b:Nat)(p:YA):itq m (a+b) p=itq m b (itq m a p):=by
 induction b with
 | zero=>rfl
 | succ b l=>exact congrArg (Rv m) l
noncomputable def TN(m i pt:Nat):YA:=⟨i,Gm m i - i,i,pt,none⟩
noncomputable def lpq(m:Nat):Nat->Nat×Nat->Nat×Nat
 | 0,x=>x
 | k+1,x=>YJ m (lpq m k x).1 (lpq m k x).2
def tQ(m i:Nat):Gm m i - i<=9:=by unfold Gm;split <;> ext
theorem bJ{m i pt:Nat}:∀q,q<=Gm m i - i->itq m q (TN m i pt)=⟨i+q,Gm m i - i - q,i,pt,none⟩
 | 0,_=>rfl
 | q+1,h=>by
  show Rv m (itq m q (TN m i pt))=_;rw[bJ q (by lia)];unfold Rv;rw[qX (by show Gm m i - i - q > 0;lia)];rfl
def cw{m i pt:Nat}:itq m (Gm m i - i+1) (TN m i pt)=TN m (YJ m i pt).1 (YJ m i pt).2:=by
 show Rv m (itq m (Gm m i - i) (TN m i pt))=_;rw[bJ _ (AJ _)];unfold Rv;rw[qY (by ext)];rfl
theorem rP{m i pt:Nat}:∀k,∃s,s<=10 * k/\itq m s (TN m i pt)=TN m (lpq m k (i,pt)).1 (lpq m k (i,pt)).2
 | 0=>⟨0,AJ _,rfl⟩
 | k+1=>by
  obtain⟨s,o,l⟩:=rP k;refine⟨s+(Gm m (lpq m k (i,pt)).1 - (lpq m k (i,pt)).1+1),?_,?_⟩
  ·have:=tQ m (lpq m k (i,pt)).1;lia
  ·rw[bK,l,cw];rfl
theorem rK{m i pt:Nat}:∀k,(lpq m k (i,pt)).2=pt / 32 ^ k
 | 0=>by simp[lpq]
 | k+1=>by
  show(lpq m k (i,pt)).2 / 32=_;rw[rK k,Nat.div_div_eq_div_mul,MP]
theorem kD{m:Nat}{x:Nat×Nat}(a:Nat):∀b,lpq m (a+b) x=lpq m b (lpq m a x)
 | 0=>rfl
 | b+1=>by
  show YJ m (lpq m (a+b) x).1 (lpq m (a+b) x).2=_;rw[kD a b];rfl
noncomputable def lcq(m:Nat):Nat->Nat->Nat
 | 0,i=>i
 | k+1,i=>(lcq m k i * 5+1) % (m+1)
theorem XZ{m:Nat}(a i:Nat):∀b,lcq m (a+b) i=lcq m b (lcq m a i)
 | 0=>rfl
 | b+1=>by show(lcq m (a+b) i * 5+1) % (m+1)=_;rw[XZ a i b];rfl
theorem ci{m i:Nat}:∀k,lpq m k (i,0)=(lcq m k i,0)
 | 0=>rfl
 | k+1=>by show YJ m (lpq m k (i,0)).1 (lpq m k (i,0)).2=_;rw[ci k];simp[YJ,lcq]
noncomputable def orbq(m:Nat):Nat->Nat->List Nat
 | 0,_=>[]
 | k+1,i=>i :: orbq m k ((i * 5+1) % (m+1))
theorem jp{m:Nat}:∀(k i j:Nat),j∈orbq m k i->∃b,b < k/\lcq m b i=j
 | 0,_,_,h=>by cases h
 | k+1,i,j,h=>by
  rcases Aw.mp h with rfl | h
  ·exact⟨0,by ext,rfl⟩
  ·obtain⟨b,o,l⟩:=jp k _ j h
   exact⟨1+b,by lia,by rw[XZ];exact l⟩
def Msk(m:Nat):Prop:=m=7∨m=31∨m=127
def Msk.orb{m:Nat}(h:Msk m):(∀j,j < m+1->∃b,b < m+1/\lcq m b 0=j)/\lcq m (m+1) 0=0:=by
 have l:∀m,(BO (m+1)).all (λj=>(PySem.orbq m (m+1) 0).contains j)=true->∀j,j < m+1->∃b,b < m+1/\lcq m b 0=j:=λm e j o=>jp _ _ _ (by
  ext)
 rcases h with rfl | rfl | rfl
 ·exact⟨l _ (by rfl),by rfl⟩
 ·exact⟨l _ (by rfl),by rfl⟩
 ·exact⟨l _ (by decide +kernel),by rfl⟩
def qT(h:Int):bits h < 2 ^ 64:=by
 unfold bits
 lia
def ke{m:Nat}(B:Msk m)(h:Int){j:Nat}(C:j < m+1):∃k,k < m+14/\(lpq m k (bits h % (m+1),bits h)).1=j:=by
 obtain⟨l,E⟩:=B.orb
 have o:lpq m 13 (bits h % (m+1),bits h)=((lpq m 13 (bits h % (m+1),bits h)).1,0):=by
  have:(lpq m 13 (bits h % (m+1),bits h)).2=0:=by
   rw[rK];exact Nat.div_eq_of_lt (Rf (qT h) (by decide))
  rw[<-this]
 have A:(lpq m 13 (bits h % (m+1),bits h)).1 < m+1:=QG _ (Z8 _);generalize (lpq m 13 (bits h % (m+1),bits h)).1=i at o A;obtain⟨a,J,G⟩:=l i A;obtain⟨b,L,H⟩:=l j C
 have fin:∀r,r < m+1->lcq m (a+r) 0=j->∃k,k < m+14/\(lpq m k (bits h % (m+1),bits h)).1=j:=λr N I=>by
  refine⟨13+r,by lia,?_⟩;rw[kD,o,ci];rw[<-G,<-XZ];exact I
 by_cases c:a<=b
 ·exact fin (b - a) (by grind) (by ext)
 ·refine fin (m+1+b - a) (by lia) ?_
  rw[show a+(m+1+b - a)=(m+1)+b by lia,XZ,E];exact H
def ur{m:Nat}(l:Msk m)(h:Int){j:Nat}(o:j < m+1):∃s,s < 10 * (m+14)/\(itq m s (TN m (bits h % (m+1)) (bits h))).j=j:=by
 obtain⟨k,C,A⟩:=ke l h o;obtain⟨s,E,B⟩:=rP k;exact⟨s,by lia,by rw[B];exact A⟩
noncomputable def p0q(m:Nat)(h:Int):YA:=TN m (bits h % (m+1)) (bits h)
noncomputable def sqq(m:Nat)(h:Int)(s:Nat):Nat:=(itq m s (p0q m h)).j
def Rch(m:Nat)(l:List Nat)(q:Int×Nat):Prop:=∃s,sqq m q.1 s=q.2/\∀o,o < s->sqq m q.1 o∈l
structure Tbq(t:Es)(hs:ZLi):Prop where
 msk:Msk t.mask
 dm:t.dummies = #[]
 up:Up t.place
 sz:t.place.size=hs.length
 le:∀j∈t.place.toList,j<=t.mask
 few:hs.length * 5 < t.mask * 3
 rch:∀q∈hs.zip t.place.toList,Rch t.mask t.place.toList q
theorem rS(m:Nat)(p:YA):∀s,(itq m s p).dummy=p.dummy
 | 0=>rfl
 | s+1=>by
  have:=rS m p s;show(Rv m (itq m s p)).dummy=_;unfold Rv
  split <;> exact this
def QZ{m i:Nat}(h:i<=m):Gm m i<=m:=by unfold Gm;split <;> ext
def Qm(m i:Nat):i<=Gm m i:=by unfold Gm;split <;> ext
theorem rR{m:Nat}(h:Int):∀s,(itq m s (p0q m h)).j+(itq m s (p0q m h)).more<=m
 | 0=>by
  have l:bits h % (m+1)<=m:=Rh (QG _ (Z8 _));have o:=QZ l;have A:=Qm m (bits h % (m+1));show bits h % (m+1)+(Gm m (bits h % (m+1)) - bits h % (m+1))<=m
  ext
 | s+1=>by
  have B:=rR (m:=m) h s;show(Rv m (itq m s (p0q m h))).j+(Rv m (itq m s (p0q m h))).more<=m;unfold Rv;split
  ·dsimp only;lia
  ·have l:(YJ m (itq m s (p0q m h)).i (itq m s (p0q m h)).perturb).1<=m:=Rh (QG _ (Z8 _))
   have o:=QZ l;have A:=Qm m (YJ m (itq m s (p0q m h)).i (itq m s (p0q m h)).perturb).1;ext
def cO{m:Nat}(h:Int)(s:Nat):sqq m h s<=m:=by have:=rR (m:=m) h s;unfold sqq;lia
theorem uT{m:Type}[DecidableEq m]:∀{l k:List m},l.Nodup->(∀x∈l,x∈k)->l.length<=k.length
 | [],_,_,_=>Bu _
 | x :: l,k,A,h=>by
  have o:=h x Ae;obtain⟨B,C⟩:=Ba.mp A
  have:=uT C λy E=>(bx (λz:y=x=>B (by ext))).mpr (h y (AT _ E))
  rw[LA o]at this;have:=MJ o;rw[Az]
  grind
section
variable{t:Es}{hs:ZLi}{h:Int}
def NU(u:Up t.place){j i:Nat}(e:t.place[i]?=some j):t.slot j=.live i:=by
 have l:i < t.place.size:=by
  rcases IB i t.place.size with z | z
  ·exact z
  ·rw[L5 z]at e;cases e
 have o:t.place[i]=j:=by rw[Bv l]at e;exact CK e
 have hb:=(NF u j).eq ⟨Jr l,λk m z=>o▸u.lt z l,λk m z=>by
  rcases IB i k with c | c
  ·have:=u.lt c m;lia
  ·have:k=i:=by lia
   subst this;ext⟩
 unfold slot
 ext
def jC(l:t.dummies = #[]){j:Nat}(n:j∉t.place.toList):t.slot j=.empty:=by
 unfold slot;rw[qY,qY]
 ·rw[l];simp[has,GR]
 ·intro z
  have z:=eq_of_beq z
  exact n (by
   have:=Cv z
   ext)
def yP{j:Nat}(h:j∈t.place.toList):∃i:Nat,t.place[i]?=some j:=by
 obtain⟨i,l⟩:=Ew h
 grind
def Tbq.first(T:Tbq t hs)(h:Int):∃E,E < 10 * (t.mask+14)/\sqq t.mask h E∉t.place.toList/\∀s,s < E->sqq t.mask h s∈t.place.toList:=by
 have A:t.place.toList.length<=t.mask:=by rw[Aj,T.sz];have:=T.few;lia
 obtain⟨j,l,G⟩:∃j,j < t.mask+1/\j∉t.place.toList:=by
  refine EY λz=>?_
  have all:∀j∈BO (t.mask+1),j∈t.place.toList:=λj l=>EY λw=>z ⟨j,CU.mp l,w⟩
  have:=uT R7 all;rw[Km]at this
  lia
 obtain⟨s,L,H⟩:=ur T.msk h l
 have m:∀n,(∃s,s<=n/\sqq t.mask h s∉t.place.toList)->∃E,E<=n/\sqq t.mask h E∉t.place.toList/\∀s,s < E->sqq t.mask h s∈t.place.toList:=λn=>by
  induction n with
  | zero=>rintro⟨s,B,C⟩;exact⟨s,B,C,λN h=>zX h (by ext)⟩
  | succ n I=>
   rintro⟨s,B,C⟩
   by_cases c:∃s,s<=n/\sqq t.mask h s∉t.place.toList
   ·obtain⟨E,J,o⟩:=I c;exact⟨E,by lia,o⟩
   grind
 obtain⟨E,J,o⟩:=m s ⟨s,AJ _,by show(itq t.mask s (p0q t.mask h)).j∉_;rw[show(itq t.mask s (p0q t.mask h)).j=j from H];exact G⟩;exact⟨E,by lia,o⟩
theorem Tbq.go(T:Tbq t hs){E:Nat}(G:sqq t.mask h E∉t.place.toList)(H:∀s,s < E->sqq t.mask h s∈t.place.toList){m:Nat->Int}:∀(f s:Nat),s<=E->E < s+f ->
  (Nj t m h f (itq t.mask s (p0q t.mask h))=some (.empty (sqq t.mask h E) none)/\∀s' i,s<=s'->s' < E->t.place[i]?=some (sqq t.mask h s')->m i≠h) ∨
  ∃s' i,s<=s'/\s' < E/\t.place[i]?=some (sqq t.mask h s')/\m i=h/\Nj t m h f (itq t.mask s (p0q t.mask h))=some (.candidate (sqq t.mask h s') i (itq t.mask (s'+1) (p0q t.mask h)))/\∀l i,s<=l->l < s'->t.place[i]?=some (sqq t.mask h l)->m i≠h
 | 0,s,J,I=>zX I (by lia)
 | f+1,s,J,I=>by
  by_cases c:s=E
  ·subst c
   refine .inl ⟨?_,λs' _ A o=>zX o (by lia)⟩;unfold Nj;rw[show(itq t.mask s (p0q t.mask h)).j=sqq t.mask h s from rfl,jC T.dm G];rw[rS];rfl
  ·obtain⟨i,C⟩:=yP (H s (by lia))
   have e:Nj t m h (f+1) (itq t.mask s (p0q t.mask h))=if m i==h then some (.candidate (sqq t.mask h s) i (itq t.mask (s+1) (p0q t.mask h)))else Nj t m h f (itq t.mask (s+1) (p0q t.mask h)):=by
    conv=>lhs;unfold Nj
    rw[show(itq t.mask s (p0q t.mask h)).j=sqq t.mask h s from rfl,NU T.up C];rw[bg];rfl
   have one:∀k,t.place[k]?=some (sqq t.mask h s)->k=i:=λk L=>by
    have a:=NU T.up L;rw[NU T.up C]at a;cases a;rfl
   by_cases d:m i=h
   ·exact .inr ⟨s,i,AJ _,by lia,C,d,by ext,λl _ A o=>zX o (by lia)⟩
   ·have e:=e.trans (qY (by simp[d]))
    rw[e]
    have step:∀{l k:Nat},s<=l->t.place[k]?=some (sqq t.mask h l)->¬s+1<=l->m k≠h:=λ{l k} A o B=>by
     grind
    rcases Tbq.go T G H f (s+1) (by lia) (by lia)with⟨a,b⟩ | ⟨s',k,a,b,N,O,P,Q⟩
    ·exact .inl ⟨a,λs' k A o B=>by
      by_cases z:s+1<=s'
      ·exact b s' k z o B
      ·exact step A B z⟩
    ·exact .inr ⟨s',k,by lia,b,N,O,P,λl k A o B=>by
      by_cases z:s+1<=l
      ·exact Q l k z o B
      ·exact step A B z⟩
end
def Xb{m i pt S q:Nat}{h:Int}(e:itq m S (p0q m h)=TN m i pt)(l:q<=Gm m i - i):sqq m h (S+q)=i+q:=by
 unfold sqq;rw[bK,e,bJ q l]
abbrev Qw(o:Array (Option Nat))(j:Nat):Prop:=o[j]?=some none
def dJ{o:Array (Option Nat)}{j:Nat}(l:j < o.size):(o.getD j (some 0)).isNone=true↔Qw o j:=by
 rw[DG,Bv l];simp[Qw,l]
theorem dI{m:Nat}{h:Int}{o:Array (Option Nat)}(J:o.size=m+1):∀(f k S:Nat),itq m S (p0q m h)=TN m (lpq m k (bits h % (m+1),bits h)).1 (lpq m k (bits h % (m+1),bits h)).2->(∀s,s < S->¬Qw o (sqq m h s)) ->
  (∃K,k<=K/\K < k+f/\Qw o (lpq m K (bits h % (m+1),bits h)).1) ->
  ∃s,Js m o f (lpq m k (bits h % (m+1),bits h)).1 (lpq m k (bits h % (m+1),bits h)).2=some (sqq m h s)/\Qw o (sqq m h s)/\∀s',s' < s->¬Qw o (sqq m h s')
 | 0,k,S,_,_,⟨K,a,b,_⟩=>zX b (by lia)
 | f+1,k,S,l,G,⟨K,a,b,c⟩=>by
  have A:=dI (h:=h) J f (k+1)
  have B:(lpq m k (bits h % (m+1),bits h)).1<=m:=by
   have:=cO (m:=m) h S;unfold sqq at this;rw[l]at this;exact this
  have L:lpq m (k+1) (bits h % (m+1),bits h)=YJ m (lpq m k (bits h % (m+1),bits h)).1 (lpq m k (bits h % (m+1),bits h)).2:=rfl;rw[L]at A
  have C:K=k->Qw o (lpq m k (bits h % (m+1),bits h)).1:=λe=>e▸c
  generalize lpq m k (bits h % (m+1),bits h)=x at B l A C ⊢;obtain⟨i,pt⟩:=x;dsimp only at B l A C ⊢;have Q:=QZ B;have N:=Qm m i;unfold Js
  cases H:(BO (Gm m i+1 - i)).find? λk=>(o.getD (i+k) (some 0)).isNone with
  | some q=>
   obtain⟨E,I,O⟩:=List.find?_range_eq_some.mp H;have I:=CU.mp I;refine⟨S+q,by rw[Xb l (by grind)],by rw[Xb l (by lia)];exact(dJ (by grind)).mp E,λs' P=>?_⟩
   by_cases z:s' < S
   ·exact G s' z
   ·obtain⟨q',rfl⟩:∃q',s'=S+q':=⟨s' - S,by ext⟩
    rw[Xb l (by grind)];intro w;have:=O q' (by ext);ext
  | none=>
   have E:=P9.mp H
   have run:∀q,q<=Gm m i - i->¬Qw o (i+q):=λq R w=>E q (CU.mpr (by grind)) ((dJ (by grind)).mpr w)
   refine A (S+(Gm m i - i+1)) (by rw[bK,l,cw]) (λs P=>?_) ⟨K,?_,by lia,c⟩
   ·by_cases z:s < S
    ·exact G s z
    ·obtain⟨q',rfl⟩:∃q',s=S+q':=⟨s - S,by lia⟩
     rw[Xb l (by lia)];exact run q' (by lia)
   ·rcases IB k K with z | z
    ·exact z
    ·exact zX (C (by lia)) (run 0 (Bu _))
structure Uo(m:Nat)(o:Array (Option Nat))(l:ZLi):Prop where
 sz:o.size=m+1
 lt:∀(j x:Nat),o[j]?=some (some x)->x < l.length
 inj:∀(i j x:Nat),o[i]?=some (some x)->o[j]?=some (some x)->i=j
 has:∀(x:Nat) h,l[x]?=some h->∃s,o[sqq m h s]?=some (some x)/\∀s',s' < s->¬Qw o (sqq m h s')
def Uo.room{m:Nat}{o:Array (Option Nat)}{l:ZLi}(O:Uo m o l)(J:l.length<=m):∃j,j < m+1/\Qw o j:=by
 refine EY λz=>?_
 have all:∀j,j < m+1->∃x,o[j]?=some (some x):=λj B=>by
  have G:j < o.size:=by rw[O.sz];exact B
  cases e:o[j]with
  | none=>exact zX ⟨j,B,by show o[j]?=_;ext⟩ z
  | some x=>ext
 have C:((BO (m+1)).map λj=>((o[j]?).getD none).getD 0).Nodup:=by
  rw[Vt,Bb]
  refine R7.imp_of_mem λ{a b} H hb I e=>?_
  obtain⟨x,A⟩:=all a (CU.mp H);obtain⟨y,E⟩:=all b (CU.mp hb);rw[A,E]at e;have e:=e;subst e;exact I (O.inj _ _ _ A E)
 have:=uT C λx A=>by
  obtain⟨j,B,rfl⟩:=A9.mp A;obtain⟨x,A⟩:=all j (CU.mp B);rw[A];exact CU.mpr (O.lt _ _ A)
 rw[AH,Km,Km]at this
 lia
def Uo.nil(m:Nat):Uo m (mJ (m+1) none) []:=by
 have no:∀(j x:Nat),(mJ (m+1) (none:Option Nat))[j]?≠some (some x):=λj x e=>by
  rw[Array.getElem?_replicate]at e
  ext
 exact⟨by simp,λj x e=>zX e (no j x),λi j x e=>zX e (no i x),λx h e=>by simp at e⟩
def Uo.step{m:Nat}(Q:Msk m){o:Array (Option Nat)}{l:ZLi}(O:Uo m o l)(R:l.length<=m)(h:Int):∃j,Js m o (Zv m) (bits h % (m+1)) (bits h)=some j/\Uo m (o.setIfInBounds j (some l.length)) (l++[h]):=by
 obtain⟨j,S,T⟩:=O.room R;obtain⟨K,k1,U⟩:=ke Q h S;obtain⟨s,e,f,n⟩:=dI O.sz (Zv m) 0 0 rfl (λs J=>zX J (by lia)) ⟨K,Bu _,by unfold Zv;lia,by rw[U];exact T⟩
 have J:sqq m h s < o.size:=by rw[O.sz];exact mG (cO h s)
 have B:(o.setIfInBounds (sqq m h s) (some l.length))[sqq m h s]?=some (some l.length):=by rw[Array.getElem?_setIfInBounds];simp[J]
 have A:∀i,i≠sqq m h s->(o.setIfInBounds (sqq m h s) (some l.length))[i]?=o[i]?:=λi N=>by grind
 have P:∀i,¬Qw o i->¬Qw (o.setIfInBounds (sqq m h s) (some l.length)) i:=λi N w=>by
  by_cases z:i=sqq m h s
  ·lia
  ·rw[Qw,A i z]at w;exact N w
 refine⟨sqq m h s,e,by simp[O.sz],λj x q=>?_,λi j x E G=>?_,λx X q=>?_⟩
 ·by_cases z:j=sqq m h s
  ·ext
  ·rw[A j z]at q;have:=O.lt _ _ q;simp;lia
 ·by_cases H:i=sqq m h s <;> by_cases I:j=sqq m h s
  ·rw[H,I]
  ·rw[H,B]at E;rw[A j I]at G;cases E;have:=O.lt _ _ G;ext
  ·rw[I,B]at G;rw[A i H]at E;cases G;have:=O.lt _ _ E;lia
  ·rw[A i H]at E;rw[A j I]at G;exact O.inj _ _ _ E G
 ·by_cases z:x < l.length
  ·rw[AV z]at q
   obtain⟨r,Y,Z⟩:=O.has x X q;refine⟨r,?_,λL C=>P _ (Z L C)⟩;rw[A _ λw=>?_]
   ·exact Y
   lia
  ·have hx:x=l.length:=by
    have:=(AB.mp q).1;simp at this;lia
   subst hx;rw[BA (AJ _),IA]at q;cases q;exact⟨s,B,λL C=>P _ (n L C)⟩
def ZM{m:Nat}(J:Msk m){hs:Array Int}(C:hs.size<=m+1):∃o,layClean m hs=some o/\Uo m o hs.toList:=by
 have E:∀(r l:ZLi) (o:Array (Option Nat)),Uo m o l->l.length+r.length<=m+1 ->
   ∃B ,r.foldl (λ(G:Option (Array (Option Nat)×Nat)) h=>do
    let (A,k) <-G
    let j <-Js m A (Zv m) (bits h % (m+1)) (bits h)
    pure (A.setIfInBounds j (some k),k+1)) (some (o,l.length))=some (B,l.length+r.length)/\Uo m B (l++r):=by
  intro r
  induction r with
  | nil=>intro l o O _;exact⟨o,rfl,by rw[Bp];exact O⟩
  | cons h r L=>
   intro l o O C;rw[Az]at C;obtain⟨j,e,N⟩:=O.step J (by lia) h;obtain⟨B,H,I⟩:=L (l++[h]) _ N (by rw[AY,Aq];lia);refine⟨B,?_,by rw[Bc]at I;exact I⟩;rw[mj];show List.foldl _ ((Js m o (Zv m) (bits h % (m+1)) (bits h)).bind λj=>some (o.setIfInBounds j (some l.length),l.length+1)) r=_;rw[e];rw[AY,Aq]at H;rw[Az,show l.length+(r.length+1)=l.length+1+r.length by lia];exact H
 obtain⟨o,e,O⟩:=E hs.toList [] _ (Uo.nil m) (by simpa using C);refine⟨o,?_,by simpa using O⟩;unfold layClean
 ext
abbrev Iz(es:Array (Int×AG)):ZLi:=es.toList.map (·.1)
def aj{l:List Nat}{n:Nat}(m:l.Nodup)(o:∀x∈l,x < n)(A:∀x,x < n->x∈l):l.Perm (BO n):=
 (List.perm_ext_iff_of_nodup m R7).mpr λx=>⟨λh=>CU.mpr (o x h),λh=>A x (CU.mp h)⟩
def jQ{m:Type}(l:List m):(BO l.length).filterMap (λi=>l[i]?)=l:=by
 induction l with
 | nil=>rfl
 | cons a l o=>
  rw[Az,Zq,JS];simp only[YN,hV];exact congrArg (a :: ·) o
def pX{m fg mv:Nat}{led plain:Bool}(P:Msk m){es:Array (Int×AG)}(Z:es.size * 5 < m * 3) :
  ∃t ord,laid m fg mv led plain (es.map (·.1))=some (t,ord)/\t.mask=m/\t.led=led/\t.moves=mv/\FC (ord.filterMap (es[·]?)).toList es.toList/\Tbq t (Iz (ord.filterMap (es[·]?))):=by
 obtain⟨o,e,O⟩:=ZM P (hs:=es.map (·.1)) (by rw[nF];lia)
 have Q:(es.map (·.1)).toList.length=es.size:=by simp
 have A:∀j x,(j,x)∈(BO (m+1)).filterMap (λj=>(o.getD j none).map (j,·))↔o[j]?=some (some x):=λj x=>by
  rw[P8]
  constructor
  ·rintro⟨j',B,q⟩
   rw[DG]at q
   cases w:o[j']? with
   | none=>ext
   | some y=>
    ext
  ·intro q
   have B:j < o.size:=by
    rcases IB j o.size with z | z
    ·exact z
    ·ext
   exact⟨j,CU.mpr (by rw[<-O.sz];exact B),by ext⟩
 have R:((BO (m+1)).filterMap (λj=>(o.getD j none).map (j,·))).Pairwise λa b=>a.1 < b.1:=by
  refine Q2 _ (λa a' h b hb b' G=>?_) MH
  have k:∀(a:Nat) (b:Nat×Nat),(o.getD a none).map (a,·)=some b->b.1=a:=λa b q=>by
   cases w:o.getD a none with
   | none=>ext
   | some _=>rw[w]at q;cases q;rfl
  rw[k _ _ hb,k _ _ G];exact h
 have H:laid m fg mv led plain (es.map (·.1))=some ({ mask:=m,place:=(((BO (m+1)).filterMap λj=>(o.getD j none).map (j,·)).map (·.1)).toArray,dummies:=#[],finger:=fg,led,moves:=mv,plain },(((BO (m+1)).filterMap λj=>(o.getD j none).map (j,·)).map (·.2)).toArray):=by
  unfold laid;rw[e];rfl
 have S:=(pW H).1;generalize (BO (m+1)).filterMap (λj=>(o.getD j none).map (j,·))=lv' at A R H S
 have T:(lv'.map (·.2)).Perm (BO es.size):=by
  refine aj ?_ (λx C=>?_) λx C=>?_
  ·rw[Vt,Bb]
   refine R.imp_of_mem λ{a b} E hb za e=>?_
   have:=O.inj _ _ _ ((A a.1 a.2).mp E) (by rw[e];exact(A b.1 b.2).mp hb)
   ext
  ·obtain⟨⟨j,y⟩,I,rfl⟩:=A9.mp C
   have:=O.lt _ _ ((A j y).mp I);ext
  ·have:x < (es.map (·.1)).toList.length:=by rw[Q];exact C
   obtain⟨s,J,_⟩:=O.has x _ (AM this);exact A9.mpr ⟨_,(A _ _).mpr J,rfl⟩
 have ef:((lv'.map (·.2)).toArray.filterMap (es[·]?)).toList=(lv'.map (·.2)).filterMap (es.toList[·]?):=by
  rw[Array.toList_filterMap];simp
 have L:FC ((lv'.map (·.2)).toArray.filterMap (es[·]?)).toList es.toList:=by
  rw[ef]
  have:=T.filterMap λi=>es.toList[i]?
  rw[<-Aj,jQ]at this;exact this
 refine⟨_,_,H,rfl,rfl,rfl,L,P,rfl,S,?_,λj B=>?_,?_,λq l=>?_⟩
 ·rw[AH,L.length_eq,BR,AH,Aj]
  have:=T.length_eq
  ext
 ·have B:j∈lv'.map (·.1):=by simpa using B
  obtain⟨⟨j,y⟩,I,rfl⟩:=A9.mp B;have B:=(A j y).mp I
  rcases IB j o.size with z | z
  ·rw[O.sz]at z;exact Rh z
  ext
 ·rw[AH,L.length_eq,Aj];exact Z
 ·-- each entry is come to
  have l:q∈(((lv'.map (·.2)).filterMap (es.toList[·]?)).map (·.1)).zip (lv'.map (·.1)):=by
   rw[show Iz ((lv'.map (·.2)).toArray.filterMap (es[·]?))=((lv'.map (·.2)).filterMap (es.toList[·]?)).map (·.1) by ext]at l;simpa using l
  have N:∀k:List (Nat×Nat),(∀x∈k,x∈lv')->∀q∈(((k.map (·.2)).filterMap (es.toList[·]?)).map (·.1)).zip (k.map (·.1)),∃x,(q.2,x)∈lv'/\((es.map (·.1)).toList)[x]?=some q.1:=by
   intro k
   induction k with
   | nil=>intro _ q l;simp at l
   | cons a k ih=>
    intro U q l;have E:=U a Ae
    have X:a.2 < es.toList.length:=by
     have:=O.lt _ _ ((A a.1 a.2).mp E);rw[Q]at this;rw[Aj];exact this
    rw[Ap,JS,AM X,Ap,Ap,Jt]at l
    rcases Aw.mp l with rfl | l
    ·refine⟨a.2,E,?_⟩
     rw[IY,AX,AM X];rfl
    ·exact ih (λx C=>U x (AT _ C)) q l
  obtain⟨x,J,h2⟩:=N lv' (λ_ h=>h) q l;obtain⟨s,s1,s2⟩:=O.has x _ h2;refine⟨s,O.inj _ _ _ s1 ((A _ _).mp J),λY hs'=>?_⟩
  have hz:sqq m q.1 Y < o.size:=by rw[O.sz];exact mG (cO _ _)
  cases w:o[sqq m q.1 Y]with
  | none=>grind
  | some y=>
   ext
def IR{l:Type}(xs:Array l)(p:Nat)(x:l):(insertAt xs p x).toList=xs.toList.take p++x :: xs.toList.drop p:=by
 unfold insertAt;simp[Array.toList_extract,List.extract_eq_drop_take];exact Cn (by simp)
def Rch.mono{m:Nat}{l o:List Nat}{q:Int×Nat}(r:Rch m l q)(h:∀x∈l,x∈o):Rch m o q:=let ⟨s,a,b⟩:=r;⟨s,a,λA z=>h _ (b A z)⟩
theorem Tbq.put{t:Es}{es:Array (Int×AG)}{h:Int}{x:AG}(T:Tbq t (Iz es)){E:Nat}(G:sqq t.mask h E∉t.place.toList)(H:∀s,s < E->sqq t.mask h s∈t.place.toList) :
  (t.put (sqq t.mask h E)).1={ t with place:=insertAt t.place (GR t.place (sqq t.mask h E)) (sqq t.mask h E) } /\
  ((es.size+1) * 5 < t.mask * 3->Tbq (t.put (sqq t.mask h E)).1 (Iz (insertAt es (t.put (sqq t.mask h E)).2 (h,x)))):=by
 have C:(t.put (sqq t.mask h E)).1={ t with place:=insertAt t.place (GR t.place (sqq t.mask h E)) (sqq t.mask h E) }:=by
  show({ t with place:=insertAt t.place (GR t.place (sqq t.mask h E)) (sqq t.mask h E),dummies:=_ }:Es)=_;rw[T.dm];rfl
 refine⟨C,λI=>?_⟩;have J:(t.put (sqq t.mask h E)).2=GR t.place (sqq t.mask h E):=rfl;rw[C,J]
 have L:=eR T.up λz=>G (BU.mpr (Cv z))
 generalize GR t.place (sqq t.mask h E)=p at *
 have P:t.place.toList.length=(Iz es).length:=by rw[Aj];exact T.sz
 have m:=IR t.place p (sqq t.mask h E)
 have l:Iz (insertAt es p (h,x))=(Iz es).take p++h :: (Iz es).drop p:=by
  unfold Iz;rw[IR,BX,Ap,YC,rq]
 have sub:∀y∈t.place.toList,y∈(insertAt t.place p (sqq t.mask h E)).toList:=λy N=>by
  rw[m];rw[<-DW p t.place.toList]at N
  grind
 refine⟨T.msk,T.dm,L,?_,λj o=>?_,?_,λq A=>?_⟩
 ·rw[<-Aj,m,l]
  ext
 ·have o:=o
  rw[m]at o
  rcases Ax.mp o with z | z
  ·exact T.le j (GD z)
  ·rcases Aw.mp z with z | z
   ·rw[z];exact cO _ _
   ·exact T.le j (JD z)
 ·rw[l]
  have:(Iz es).length=es.size:=by unfold Iz;simp
  simp only[AY,Az,By,ES,this]
  grind
 ·have A:=A
  rw[l,m,Uu (by ext),Jt,show((Iz es).take p).zip (t.place.toList.take p)=((Iz es).zip t.place.toList).take p from List.take_zipWith.symm,show((Iz es).drop p).zip (t.place.toList.drop p)=((Iz es).zip t.place.toList).drop p from List.drop_zipWith.symm]at A
  rcases Ax.mp A with z | z
  ·exact(T.rch q (GD z)).mono sub
  ·rcases Aw.mp z with z | z
   ·rw[z];exact⟨E,rfl,λO B=>sub _ (H O B)⟩
   ·exact(T.rch q (JD z)).mono sub
section
variable{prog:BN}{w:Bo}{A:Bg}{E:AG->AK->Prop}{s:AK}
abbrev IsR(prog:BN)(w:Bo)(h:B0)(k:ZLi)(a:AU):Prop:=IsTupleKey (Zn prog w) h k a
def UH{k:ZLi}{vs:List AG}(h:ItemsAre (Zn prog w) k vs):∀v∈vs,∃i t,v=.int i t:=by
 induction h with
 | nil=>ext
 | cons m _ o=>
  intro v l
  rcases Aw.mp l with rfl | l
  ·obtain⟨t,e⟩:=gx m;exact⟨_,t,e⟩
  ext
def MV{k:ZLi}{a:AU}{Q:Bool->AK->Prop}(H:IsR prog w s.heap k a)(h:Q true s):Ak (Ac prog w) A (mS 8 (.ref a)) Q E s:=by
 have J:=H.typeIs;obtain⟨o,m,n,L,_,N,O⟩:=H;unfold mS;refine AA (YF J F.slot_tuple_hash.lookup ?_);refine AA (Iq L N ?_);dsimp only[Option.getD];refine AA ?_;rw[<-eC];refine Wl _ (λl r B=>r.1=none/\B=s/\∀v∈l,∃i t,v=.int i t) _ ?_ ?_ _ _ ⟨rfl,rfl,UH O⟩
 ·rintro v l r B ⟨C,rfl,I⟩
  obtain⟨i,t,rfl⟩:=I v Ae;refine AA (AD ?_);exact AD ⟨rfl,rfl,λu G=>I u (AT _ G)⟩
 ·rintro⟨P,R⟩ B ⟨C,rfl,_⟩
  simp only at C;subst C;exact AD h
def Q6{k:ZLi}{a:AU}{Q:Bool->AK->Prop}(J:IsR prog w s.heap k a)(h:Q false s):Ak (Ac prog w) A (MB 8 (.ref a)) Q E s:=by
 obtain⟨o,m,n,H,L,N,O⟩:=J;unfold MB;refine AA (wpAny_typeOf_ref H ?_);rw[L];refine AA (AD ?_);refine AA (Iq H N ?_);refine AA ?_;rw[<-eC];refine Wl _ (λl r B=>r.1=none/\B=s/\∀v∈l,∃i t,v=.int i t) _ ?_ ?_ _ _ ⟨rfl,rfl,UH O⟩
 ·rintro v l r B ⟨C,rfl,I⟩
  obtain⟨i,t,rfl⟩:=I v Ae
  have P:MB 7 (.int i t)=pure false:=by unfold MB;rfl
  rw[P];refine AA (AD ?_);exact AD ⟨rfl,rfl,λu G=>I u (AT _ G)⟩
 ·rintro⟨R,S⟩ B ⟨C,rfl,_⟩
  simp only at C;subst C;exact AD h
def nJ{k:ZLi}{a:AU}{G:List AG}{Q:Bool->AK->Prop}(H:IsR prog w s.heap k a)(J:∀y∈G,∃b m,y=.ref b/\IsR prog w s.heap m b)(h:Q false s):Ak (Ac prog w) A (vq (.ref a) G) Q E s:=by
 unfold vq;refine AA ?_;refine Wl _ (λl r o=>r.1=none/\o=s/\∀v∈l,∃b m,v=.ref b/\IsR prog w s.heap m b) _ ?_ ?_ _ _ ⟨rfl,rfl,J⟩
 ·rintro v l r o ⟨B,e,I⟩
  subst e;obtain⟨b,m,rfl,hb⟩:=I v Ae
  have nx:=λu (C:u∈l)=>I u (AT _ C)
  dsimp only;split
  ·exact AD ⟨rfl,rfl,nx⟩
  ·refine AA (mD H ?_)
   refine AA (mD hb ?_);refine AA (Q6 H ?_);refine AA (Q6 hb ?_);exact AD ⟨rfl,rfl,nx⟩
 ·rintro⟨L,N⟩ o ⟨B,rfl,_⟩
  simp only at B;subst B;exact AD h
end
abbrev hRq(prog:BN)(w:Bo)(k:ZLi):Int:=tupleKeyHash (Zn prog w) k
def EnR(prog:BN)(w:Bo)(h:B0)(p:(Int×AG)×ZLi):Prop:=∃b,p.1=(hRq prog w p.2,.ref b)/\IsR prog w h p.2 b
structure Rx(prog:BN)(w:Bo)(h:B0)(a:AU)(es:Array (Int×AG))(ep:Nat)(t:Es)(ps:List ((Int×AG)×ZLi)):Prop where
 ob:∃o,h.get? a=some o/\o.ExactSet/\o.data=.set es ep t
 tb:Tbq t (Iz es)
 led:t.led=(!(w.params.followText "set-order"))
 es':ps.map (·.1)=es.toList
 en:∀p∈ps,EnR prog w h p
def Tbq.fits{t:Es}{es:Array (Int×AG)}(T:Tbq t (Iz es)):t.fits es.size=true:=by
 have l:=T.sz;have m:=T.few
 have o:(Iz es).length=es.size:=by unfold Iz;simp
 rw[o]at l m;unfold Uq Ur;rw[T.dm,l];simp
 lia
def Msk.odd{m:Nat}(h:Msk m):(m % 2==0)=false:=by rcases h with rfl | rfl | rfl <;> rfl
section
variable{prog:BN}{w:Bo}{A:Bg}{E:AG->AK->Prop}{s:AK}{a b:AU}{es:Array (Int×AG)}{ep:Nat}{t:Es}{ps:List ((Int×AG)×ZLi)}{k:ZLi}
def Rx.state{Q:Array (Int×AG)×Nat×Es->AK->Prop}(S:Rx prog w s.heap a es ep t ps)(h:Q (es,ep,t) s):Ak (Ac prog w) A (setState a) Q E s:=by
 obtain⟨o,l,_,m⟩:=S.ob;exact DR l m S.tb.fits h
def Rx.at{i:Nat}(S:Rx prog w s.heap a es ep t ps)(hi:i < es.size):∃l m,es[i]?=some (hRq prog w l,.ref m)/\IsR prog w s.heap l m/\((hRq prog w l,BB m),l)∈ps/\ps[i]?=some ((hRq prog w l,.ref m),l):=by
 have o:i < ps.length:=by rw[<-AH,S.es',Aj];exact hi
 obtain⟨m,e,hb⟩:=S.en _ (CD o)
 have B:(ps.map (·.1))[i]?=some (ps[i]).1:=by rw[AX,AM o];rfl
 rw[S.es',Bt]at B
 grind
theorem V4(S:Rx prog w s.heap a es ep t ps)(hu:A.units+4 < DE)(T:IsR prog w s.heap k b){F:Nat}(hF:sqq t.mask (hRq prog w k) F∉t.place.toList)(hl:∀s,s < F->sqq t.mask (hRq prog w k) s∈t.place.toList)(U:F < 10 * Zv t.mask)
  {Q:SetFound->AK->Prop} (h1:(∃p∈ps,p.2=k)->Q (.there none) s) (h2:(∀p∈ps,p.2≠k)->Q (.free (sqq t.mask (hRq prog w k) F) false) s) :
  ∀(f s0:Nat) (st:Option YA),s0<=F->F < s0+f->st.getD (t.probeStart (hRq prog w k))=itq t.mask s0 (p0q t.mask (hRq prog w k)) ->
   (∀s' (i:Nat) p,s' < s0->t.place[i]?=some (sqq t.mask (hRq prog w k) s')->ps[i]?=some p->p.2≠k)->Ak (Ac prog w) A (R3 a (.ref b) (hRq prog w k) true f st) Q E s
 | 0,s0,st,q1,q2,_,_=>zX q2 (by lia)
 | f+1,s0,st,q1,q2,zx,H=>by
  have ih:=V4 S hu T hF hl U h1 h2 f
  have X:∀{i j:Nat},t.place[i]?=some j->i < es.size:=λ{i j} e=>by
   have:i < t.place.size:=by
    rcases IB i t.place.size with z | z
    ·exact z
    ·rw[L5 z]at e;cases e
   rw[S.tb.sz]at this;ext
  have I:∀{m:Met},Nj t (λi=>(es[i]?.map (·.1)).getD 0) (hRq prog w k) (10 * Zv t.mask) (itq t.mask s0 (p0q t.mask (hRq prog w k)))=some m->Es.probe t (λi=>(es[i]?.map (·.1)).getD 0) (hRq prog w k) (st.getD (t.probeStart (hRq prog w k)))=some m:=λe=>by rw[zx];exact e
  have met:∀p∈ps,p.2=k->∃s' i,s' < F/\t.place[i]?=some (sqq t.mask (hRq prog w k) s')/\ps[i]?=some p:=λp J e=>by
   obtain⟨i,L⟩:=Ew J
   have hz:i < es.size:=by
    have:=(AB.mp L).1;rw[<-AH,S.es',Aj]at this;exact this
   have Y:i < t.place.size:=by rw[S.tb.sz];simpa using hz
   obtain⟨O,b',N,_,_,P⟩:=S.at hz;rw[L]at P;cases P;have e:O=k:=e;rw[e]at N
   have Z:(hRq prog w k,t.place[i])∈(Iz es).zip t.place.toList:=by
    refine A0 (i:=i) ?_;rw[Kf];exact⟨by ext,by ext⟩
   obtain⟨r,r1,r2⟩:=S.tb.rch _ Z
   have hr:r < F:=by
    rcases mF r F with z | z | z
    ·exact z
    ·ext
    ·ext
   exact⟨r,i,hr,by rw[r1,Bv Y],L⟩
  unfold R3;refine AA (S.state ?_);dsimp only;unfold Es.gaveWay;rw[S.tb.msk.odd]
  rcases S.tb.go hF hl (10 * Zv t.mask) s0 q1 (by lia)with⟨e,C⟩ | ⟨s',i,a1,a2,a3,a4,e,a5⟩
  ·have e:=I e
   erw [e]
   refine AD (h2 λp J z=>?_);obtain⟨s',i,c1,c2,c3⟩:=met p J z
   by_cases c:s' < s0
   ·exact H s' i p c c2 c3 z
   ·refine C s' i (by ext) c1 c2 ?_
    obtain⟨O,b',N,_,_,P⟩:=S.at (X c2)
    grind
  ·have e:=I e
   erw [e]
   have L:=X a3;obtain⟨O,b',N,hb',hm,P⟩:=S.at L
   have cont:Ak (Ac prog w) A (do
     let some (_,y):=es[i]? | unsupported "internal:set-entry"
     let l <-MD [y] (eqBool y (.ref b))
     let (es',_,t') <-setState a
     if true&&l then return .there none
     let some same:=t'.sameMemory t.moves t.mask | unsupported "set.changed-during-lookup:is-the-new-block-at-the-old-address"
     let G <-match(if same then t'.slot (sqq t.mask (hRq prog w k) s')else .empty)with
      | .live B=>match es'[B]? with
       | some (_,y')=>do pure (if <-isSame y' y then some B else none)
       | none=>pure none
      | _=>pure none
     match G with
     | none=>rule "set.search.anew";R3 a (.ref b) (hRq prog w k) true f none
     | some B=>if l then return .there (some B)else R3 a (.ref b) (hRq prog w k) true f (some (itq t.mask (s'+1) (p0q t.mask (hRq prog w k))))) Q E s:=by
    rw[N];refine AA (Dp (SZ (by lia) hb' T ?_));refine AA (S.state ?_)
    by_cases c:O=k
    ·rw[wX c]
     exact AD (h1 ⟨_,hm,c⟩)
    ·rw[wY c]
     simp only[qv,Eb,if_false];rw[show t.sameMemory t.moves t.mask=some true by unfold Es.sameMemory;simp];simp only[if_true];rw[NU S.tb.up a3];dsimp only;rw[N];refine AA (wpAny_isSame_ref_self ?_);refine AA (AD ?_)
     refine ih (s'+1) _ (by lia) (by lia) rfl λR B p d1 d2 d3=>?_
     by_cases z:R < s0
     ·exact H R B p z d2 d3
     ·by_cases z2:R=s'
      ·subst z2
       have:B=i:=by
        have x:=NU S.tb.up d2;rw[NU S.tb.up a3]at x;cases x;rfl
       lia
      ·intro y
       refine a5 R B (by lia) (by lia) d2 ?_;obtain⟨k2,b2,f1,_,_,f4⟩:=S.at (X d2)
       grind
   cases hld:t.led with
   | true=>
    assumption
   | false=>
    refine AA (nJ T (λy hy=>?_) ?_)
    ·obtain⟨en,o,rfl⟩:=A9.mp hy
     have o:en∈es.toList:=by
      have:=BU.mp o;exact BU.mpr (Array.mem_filter.mp this).1
     rw[<-S.es']at o;obtain⟨p,J,rfl⟩:=A9.mp o;obtain⟨b2,q,Z⟩:=S.en p J;exact⟨b2,p.2,by rw[q],Z⟩
    ·exact cont
end
def WC{A G:Type}{f:A->G}{l k:List G}(h:l.Perm k):∀m:List A,m.map f=k->∃o:List A,o.Perm m/\o.map f=l:=by
 induction h with
 | nil=>simp
 | cons x _ I=>
  intro m e
  cases m with
  | nil=>cases e
  | cons p m=>
   rw[Ap,QI]at e;obtain⟨o,B,H⟩:=I m e.2;exact⟨p :: o,B.cons p,by ext⟩
 | swap x y l=>
  intro m e
  match m,e with
  | p :: q :: m,e=>
   rw[Ap,Ap,QI,QI]at e;exact⟨q :: p :: m,.swap _ _ _,by ext⟩
 | trans _ _ C E=>
  intro m e;obtain⟨o,B,H⟩:=E m e;obtain⟨J,L,N⟩:=C o H;exact⟨J,L.trans B,N⟩
section
variable{prog:BN}{w:Bo}{A:Bg}{E:AG->AK->Prop}{s:AK}{a b:AU}{es:Array (Int×AG)}{ep:Nat}{t:Es}{ps:List ((Int×AG)×ZLi)}{k:ZLi}
def IsR.keep{h h':B0}(x:IsR prog w h k b)(e:∀o,h.get? b=some o->h'.get? b=some o):IsR prog w h' k b:=let ⟨o,l,n,m,r⟩:=x;⟨o,l,n,e _ m,r⟩
def IsR.ne{h:B0}(x:IsR prog w h k b){o:Obj}(ho:h.get? a=some o)(m:o.data=.set es ep t):b≠a:=by
 rintro rfl;obtain⟨B,l,n,C,_,G,_⟩:=x
 ext
def Rx.store{h:B0}(S:Rx prog w h a es ep t ps){l:Array (Int×AG)}{t':Es}{Ψ:List ((Int×AG)×ZLi)}(C:Tbq t' (Iz l))(G:t'.led=t.led)(H:Ψ.map (·.1)=l.toList)(I:∀p∈Ψ,EnR prog w h p) :
  Rx prog w (h.update a (Dx l t')) a l (ep+1) t' Ψ:=by
 obtain⟨o,B,J,m⟩:=S.ob
 have L:(h.update a (Dx l t')).get? a=some { o with data:=.set l (ep+1) t' }:=by
  have:=Cz (Dx l t') B (by rw[Qx l t' m];rfl);rw[Qx l t' m]at this;exact this
 have N:=CM h a (Dx l t')
 exact⟨⟨_,L,J,rfl⟩,C,G.trans S.led,H,λp q=>by
  obtain⟨b,e,hb⟩:=I p q
  exact⟨b,e,hb.keep λO q=>(N.2 b (hb.ne B m)).trans q⟩⟩
def jP{h:B0}{es:Array (Int×AG)}{t:Es}(B:Msk t.mask)(G:(es.size - 1) * 5 < t.mask * 3)(C:¬es.size * 5 < t.mask * 3)(L:es.size<=76) :
  Ny (G8 es.size)<=sizeLine/\∃l ord,t.relaid (es.map (·.1)) (G8 es.size)=some (l,ord)/\l.led=t.led/\FC (ord.filterMap (es[·]?)).toList es.toList/\Tbq l (Iz (ord.filterMap (es[·]?))):=by
 have o:∀m,Msk m->Ny (G8 es.size)=m+1->es.size * 5 < m * 3->Ny (G8 es.size)<=sizeLine/\∃l ord,t.relaid (es.map (·.1)) (G8 es.size)=some (l,ord)/\l.led=t.led/\FC (ord.filterMap (es[·]?)).toList es.toList/\Tbq l (Iz (ord.filterMap (es[·]?))):=λm B e H=>by
  refine⟨by rw[e,X7];rcases B with rfl | rfl | rfl <;> decide,?_⟩;obtain⟨l,ord,N,_,I,_,e5,J⟩:=pX (fg:=t.finger) (mv:=t.movedTo m) (plain:=t.plain) B H;refine⟨l,ord,?_,I,e5,J⟩;unfold Es.relaid;ext
 rcases B with z | z | z
 ·have:es.size=5:=by rw[z]at G C;lia
  rw[this]at o ⊢;exact o 31 (.inr (.inl rfl)) (by decide) (by decide)
 ·have:es.size=19:=by rw[z]at G C;lia
  rw[this]at o ⊢;exact o 127 (.inr (.inr rfl)) (by decide) (by decide)
 ·rw[z]at C;omega
def vZ(S:Rx prog w s.heap a es ep t ps)(hu:A.units+4 < DE)(X:IsR prog w s.heap k b)(ψ:k∈ps.map (·.2)∨ps.length+1<=76){Q:Bool->AK->Prop}
  (h:∀h' bl es' ep' t' Ψ,EG a s.heap h'->Rx prog w h' a es' ep' t' Ψ->(Ψ.map (·.2)).Perm (if k∈ps.map (·.2)then ps.map (·.2)else ps.map (·.2)++[k])->(∀p∈Ψ,p∈ps∨p.1.2=.ref b)->Q bl { s with heap:=h' }) :
  Ak (Ac prog w) A (setAddHashed a (.ref b) (hRq prog w k)) Q E s:=by
 obtain⟨F,f1,f2,f3⟩:=S.tb.first (hRq prog w k)
 have hbig:10 * (t.mask+14) < 100000:=by rcases S.tb.msk with z | z | z <;> rw[z] <;> decide
 have hn:es.size=ps.length:=by rw[<-Aj,<-S.es',AH]
 have I:(Iz es).length=es.size:=by unfold Iz;simp
 unfold setAddHashed setAddHashedIn;refine Dp (AA (S.state ?_));dsimp only;rw[show byScan (.ref b) es=false from rfl];unfold setSearch;refine AA (V4 S hu X f2 f3 (by unfold Zv;lia) (λhex=>?_) (λhno=>?_) 100000 0 none (Bu _) (by lia) rfl λs' i p z=>zX z (by lia))
 ·obtain⟨p,hp,e⟩:=hex
  have Y:=A9.mpr ⟨p,hp,e⟩
  have:=h s.heap false es ep t ps (Ww a s.heap) S (by rw[qX Y]) λ_ h=>.inl h
  exact AD (by assumption)
 ·have Y:k∉ps.map (·.2):=λz=>by
   obtain⟨p,hp,e⟩:=A9.mp z;exact hno p hp e
  have room:es.size+1<=76:=by rw[hn];exact ψ.resolve_left Y
  rw[qY Y]at h;refine AA (S.state ?_);obtain⟨Z,pt⟩:=S.tb.put f2 f3
  have byv:∀{R:Bool->AK->Prop},R true s->Ak (Ac prog w) A (if (t.put (sqq t.mask (hRq prog w k) F)).1.plain=true then mS 8 (.ref b)else pure true) R E s:=λ{R} hr=>by
   split
   ·exact MV X hr
   ·exact AD hr
  have tail:Ak (Ac prog w) A (do
    storeSet a (Ov es (t.put (sqq t.mask (hRq prog w k) F)).2 (hRq prog w k,.ref b)) (t.put (sqq t.mask (hRq prog w k) F)).1
    if !false&&(t.put (sqq t.mask (hRq prog w k) F)).1.tooFull then setRelay a (G8 (es.size+1))
    return true) Q E s:=by
   have H:(t.put (sqq t.mask (hRq prog w k) F)).1.led=t.led:=by rw[Z]
   have L:(t.put (sqq t.mask (hRq prog w k) F)).1.mask=t.mask:=by rw[Z]
   have N:(t.put (sqq t.mask (hRq prog w k) F)).1.dummies = #[]:=by rw[Z];exact S.tb.dm
   have li:=IR es (t.put (sqq t.mask (hRq prog w k) F)).2 (hRq prog w k,BB b)
   have O:(t.put (sqq t.mask (hRq prog w k) F)).1.place.size=es.size+1:=by
    rw[Z];rw[<-Aj,IR];have:=S.tb.sz;rw[I]at this;simp only[AY,Az,By,ES,Aj,this]
    grind
   have p2:(t.put (sqq t.mask (hRq prog w k) F)).2<=es.size:=by
    have:=(NF S.tb.up (sqq t.mask (hRq prog w k) F)).le;rw[S.tb.sz,I]at this;exact this
   generalize (t.put (sqq t.mask (hRq prog w k) F)).1=B at *
   generalize (t.put (sqq t.mask (hRq prog w k) F)).2=p at *
   have m:(Ov es p (hRq prog w k,BB b)).size=es.size+1:=by
    rw[<-Aj,li];simp only[AY,Az,By,ES,Aj]
    grind
   generalize Ov es p (hRq prog w k,BB b)=l at *
   have P:∀q∈ps.take p++((hRq prog w k,BB b),k) :: ps.drop p,EnR prog w s.heap q:=λq hq=>by
    rcases Ax.mp hq with z | z
    ·exact S.en q (GD z)
    ·rcases Aw.mp z with rfl | z
     ·exact⟨b,rfl,X⟩
     ·exact S.en q (JD z)
   have e1:(ps.take p++((hRq prog w k,BB b),k) :: ps.drop p).map (·.1)=l.toList:=by
    rw[li,BX,Ap,YC,rq,S.es']
   have pk:((ps.take p++((hRq prog w k,BB b),k) :: ps.drop p).map (·.2)).Perm (ps.map (·.2)++[k]):=by
    have:(ps.take p++((hRq prog w k,BB b),k) :: ps.drop p).Perm (ps++[((hRq prog w k,BB b),k)]):=by
     refine List.perm_middle.trans ?_;rw[DW];exact(List.perm_append_singleton _ _).symm
    exact(this.map (·.2)).trans (by rw[BX])
   have T:∀q∈ps.take p++((hRq prog w k,BB b),k) :: ps.drop p,q∈ps∨q.1.2=.ref b:=λq hq=>by
    rcases Ax.mp hq with z | z
    ·exact .inl (GD z)
    ·rcases Aw.mp z with rfl | z
     ·exact .inr rfl
     ·exact .inl (JD z)
   generalize ps.take p++((hRq prog w k,BB b),k) :: ps.drop p=ps1 at *
   obtain⟨o,ho,hx,hd⟩:=S.ob;refine AA (vh ho hd ?_ (vx (by rw[m];unfold scanBound;lia)));have ϧ:=CM s.heap a (Dx l B)
   have tf:B.tooFull = !decide ((es.size+1) * 5 < t.mask * 3):=by
    unfold Es.tooFull Ur;rw[N,O,L,<-decide_not];simp
   rw[tf]
   by_cases G:(es.size+1) * 5 < t.mask * 3
   ·rw[wX G]
    exact AD (h _ true l (ep+1) B ps1 ϧ (S.store (pt G) H e1 P) pk T)
   ·rw[wY G]
    have J:(s.heap.update a (Dx l B)).get? a=some { o with data:=.set l (ep+1) B }:=by
     have:=Cz (Dx l B) ho (by rw[Qx l B hd];rfl);rw[Qx l B hd]at this;exact this
    have f0:=S.tb.few;rw[I]at f0
    have m7:7<=t.mask:=by rcases S.tb.msk with z | z | z <;> rw[z] <;> decide
    have ft:B.fits l.size=true:=by
     unfold Uq Ur;rw[N,O,m,L];simp
     lia
    obtain⟨r1,C,ord,r2,r3,r4,r5⟩:=jP (h:=s.heap) (by rw[L];exact S.tb.msk) (by rw[m,L];simpa using f0) (by rw[m,L];exact G) (by rw[m];exact room);rw[m]at r1 r2;refine AA ?_;unfold setRelay;refine AA (DR J rfl ft ?_);dsimp only;rw[qY (QF.mpr r1)];rw[r2]
    have U:(ord.filterMap (l[·]?)).size=l.size:=by rw[<-Aj,r4.length_eq,Aj]
    refine AA (MA (a:=(ord.filterMap (l[·]?),C)) ?_ ?_)
    ·show(if ((ord.filterMap (l[·]?)).size != l.size)=true then _ else _)=_
     rw[qY (by rw[U];simp)]
    ·refine vh J rfl ?_ (vx (by rw[U,m];unfold scanBound;lia))
     obtain⟨ps2,q1,q2⟩:=WC r4 ps1 e1
     have S2:Rx prog w ((s.heap.update a (Dx l B)).update a (Dx (ord.filterMap (l[·]?)) C)) a (ord.filterMap (l[·]?)) (ep+1+1) C ps2:=by
      have hg2:((s.heap.update a (Dx l B)).update a (Dx (ord.filterMap (l[·]?)) C)).get? a=some { o with data:=.set (ord.filterMap (l[·]?)) (ep+1+1) C }:=by
       have:=Cz (Dx (ord.filterMap (l[·]?)) C) J (by rw[Qx (ord.filterMap (l[·]?)) C rfl];rfl);rw[Qx (ord.filterMap (l[·]?)) C rfl]at this;exact this
      have sb2:=ϧ.trans (CM (s.heap.update a (Dx l B)) a (Dx (ord.filterMap (l[·]?)) C));refine⟨⟨_,hg2,hx,rfl⟩,r5,r3.trans (H.trans S.led),q2,λp q=>?_⟩;obtain⟨b',e,hb⟩:=P p (q1.mem_iff.mp q);exact⟨b',e,hb.keep λo' q=>(sb2.2 b' (hb.ne ho hd)).trans q⟩
     exact AD (h _ true _ _ C ps2 (ϧ.trans (CM _ a _)) S2 ((q1.map _).trans pk) λp q=>T p (q1.mem_iff.mp q))
  split
  ·refine AA (MV X ?_)
   exact tail
  assumption
end
open PySem.Sem (wp)
open SetTable
noncomputable def ddR(rows:List ZLi):List ZLi:=rows.foldl (λl k=>if k∈l then l else l++[k]) []
def ND(l:List ZLi)(k:ZLi):ddR (l++[k])=if k∈ddR l then ddR l else ddR l++[k]:=by unfold ddR;ext
def vR(l r:List ZLi):(ddR l).length<=(ddR (l++r)).length:=by
 induction r generalizing l with
 | nil=>ext
 | cons k r m=>
  have h:=m (l++[k]);rw[Bc]at h;refine Al ?_ h;rw[ND];split
  ·ext
  ·simp
noncomputable def AG.addr0:AG->AU
 | .ref a=>a
 | _=>0
section
variable{prog:BN}{w:Bo}{A:Bg}{E:AG->AK->Prop}{s:AK}
def Lu(prog:BN)(w:Bo)(h:B0)(vs:List AG)(rows:List ZLi):Prop:=vs.length=rows.length/\∀(i:Nat) v k,vs[i]?=some v->rows[i]?=some k->∃b,v=.ref b/\IsR prog w h k b
def Lu.at'{h:B0}{vs:List AG}{rows:List ZLi}(x:Lu prog w h vs rows){i:Nat}{v:AG}(e:vs[i]?=some v):∃b k,v=.ref b/\IsR prog w h k b:=by
 have l:i < rows.length:=by rw[<-x.1];exact(AB.mp e).1
 obtain⟨b,m,o⟩:=x.2 i v _ e (AM l);exact⟨b,_,m,o⟩
def Lu.row{h:B0}{vs:List AG}{rows:List ZLi}(x:Lu prog w h vs rows){i:Nat}{k:ZLi}(e:rows[i]?=some k):∃b,vs[i]?=some (.ref b)/\IsR prog w h k b:=by
 have l:i < vs.length:=by rw[x.1];exact(AB.mp e).1
 obtain⟨b,m,o⟩:=x.2 i _ k (AM l) e;ext
def Op(prog:BN)(w:Bo)(h:B0)(a:AU)(ks:List ZLi)(Ok:AU->Prop):Prop:=∃m o t l,Rx prog w h a m o t l/\(l.map (·.2)).Perm ks/\∀p∈l,∃b,p.1.2=.ref b/\Ok b
def Op.imp{h:B0}{a:AU}{ks:List ZLi}{Ok Ok':AU->Prop}(x:Op prog w h a ks Ok)(i:∀b,Ok b->Ok' b):Op prog w h a ks Ok':=let ⟨l,m,t,o,B,C,G⟩:=x;⟨l,m,t,o,B,C,λp H=>let ⟨b,I,J⟩:=G p H;⟨b,I,i b J⟩⟩
def Op.at'{h h':B0}{a:AU}{ks:List ZLi}{Ok:AU->Prop}(x:Op prog w h a ks Ok)(e:∀b o,h.get? b=some o->(b=a∨Ok b)->h'.get? b=some o):Op prog w h' a ks Ok:=by
 obtain⟨C,G,t,H,S,I,l⟩:=x;obtain⟨o,J,r⟩:=S.ob;refine⟨C,G,t,H,⟨⟨o,e _ _ J (.inl rfl),r⟩,S.tb,S.led,S.es',λp m=>?_⟩,I,l⟩;obtain⟨b,q,hb⟩:=S.en p m;obtain⟨L,B,ok⟩:=l p m;rw[q]at B;cases B;exact⟨b,q,hb.keep λo q=>e _ _ q (.inr ok)⟩
def aa{h:B0}{a:AU}{led:Bool}{Ok:AU->Prop}(m:led=(!(w.params.followText "set-order"))) (o:h.get? a=some { cls:=.type "set",dict:=none,data:=.set #[] 0 (.fresh 0 0 led) }):Op prog w h a [] Ok:=
 ⟨#[],0,_,[],⟨⟨_,o,⟨rfl,rfl,rfl⟩,rfl⟩,⟨.inl rfl,rfl,Vy,rfl,λj B=>(nomatch B),(by show 0 * 5 < 7 * 3;decide),λq C=>(nomatch C)⟩,m,rfl,λp l=>(nomatch l)⟩,.nil,λp l=>(nomatch l)⟩
def fD{R:iC->AK->Prop}{I:AU}{fp wr:List AU}{G:Array mz->Array mz->Prop}{n:Nat}{P:Nat->AG->Prop}{St:Nat->AK->Prop}{rows:List ZLi}{ad:Nat->AU}(W:WalksS prog w A.in1 I fp wr G n P St)(S:AU)(H:S∉fp)
  (hval:∀i v,P i v->v=.ref (ad i)) (hu:A.units+8 < DE) (hnot:∀(i:Nat) k,rows[i]?=some k->ad i∉S :: wr) (hb:(ddR rows).length<=76) (hn:n=rows.length) :
  ∀(k i:Nat) (s:AK),n - i=k->i<=n->St i s->(∀(j:Nat) k,rows[j]?=some k->IsR prog w s.heap k (ad j))->Op prog w s.heap S (ddR (rows.take i)) (λb=>∃(j:Nat) (k:ZLi),rows[j]?=some k/\b=ad j) ->
   (∀s',Moved (S :: wr) G s s'->Op prog w s'.heap S (ddR rows) (λb=>∃(j:Nat) (k:ZLi),rows[j]?=some k/\b=ad j)->R (.ok (.ret .none)) s') ->
   Ho (Ac prog w) A (.builtin "set.update.loop" ⟨[.ref S,.ref I],[]⟩) R s:=by
 have hSw:S∉wr:=λh=>H (W.sub _ h)
 have B':∀b∈wr,b∈S :: wr:=λb hb=>AT _ hb
 intro k
 induction k with
 | zero=>
  intro i s hk hi Y _ U hRq
  have Ω:i=n:=by grind
  subst Ω;refine FA b9 ?_;rw[Dg MR _];show Ak _ A.in1 (HB (.ref I) >>= _) _ _ s;refine AA (W.done s _ _ Y λs' C=>?_);show Ak _ A.in1 (ret Dq) _ _ s';rw[Cn (by ext)]at U;refine AD (hRq s' (C.mono B') (U.at' λb o e ok=>C.heap b o ?_ e))
  grind
 | succ k ih=>
  intro i s hk hi Y Z U hRq
  have yw:i < n:=by grind
  refine FA b9 ?_;rw[Dg MR _];show Ak _ A.in1 (HB (.ref I) >>= _) _ _ s;refine AA (W.item i s _ _ yw Y λv s' hP J C=>?_);obtain rfl:=hval i v hP
  have Cs:=U.at' λb o e ok=>C.heap b o (by
   grind) e
  have l:∀(j:Nat) k,rows[j]?=some k->IsR prog w s'.heap k (ad j):=λj k L=>(Z j k L).keep λo e=>C.heap _ o (λz=>hnot j k L (AT _ z)) e
  have hir:i < rows.length:=by ext
  have Ϩ:=AM hir;generalize rows[i]=m at Ϩ
  have N:rows.take (i+1)=rows.take i++[m]:=by rw[Vr,Ϩ];rfl
  show Ak _ A.in1 (MD [BB (ad i)] (setAdd S (.ref (ad i))) >>= _) _ _ s';refine AA (Dp ?_);unfold setAdd;refine Dp ?_;refine AA (wpAny_pyHash_tuple (knd:=Zn prog w) (ks:=m) (by simp;lia) (l i m Ϩ) ?_);obtain⟨es,ep,t,ps,S0,X,ok0⟩:=Cs
  have ψ:m∈ps.map (·.2)∨ps.length+1<=76:=by
   by_cases c:m∈ddR (rows.take i)
   ·exact .inl (X.mem_iff.mpr c)
   ·have h1:=vR (rows.take (i+1)) (rows.drop (i+1))
    rw[DW,N,ND,qY c,AY,<-X.length_eq,AH]at h1;exact .inr (by simp at h1;lia)
  refine vZ (s:={ s' with toks:=s'.toks+(m.length+1) }) S0 (by simp;lia) (l i m Ϩ) ψ λh' bl es' ep' t' Ψ B S1 O fr=>?_
  have e1:(Ψ.map (·.2)).Perm (ddR (rows.take (i+1))):=by
   rw[N,ND]
   by_cases c:m∈ddR (rows.take i)
   ·grind
   ·rw[qY c]
    rw[qY λz=>c (X.mem_iff.mp z)]at O;exact O.trans (X.append_right _)
  have hS2:Op prog w h' S (ddR (rows.take (i+1))) (λb=>∃(j:Nat) (k:ZLi),rows[j]?=some k/\b=ad j):=⟨es',ep',t',Ψ,S1,e1,λp hp=>by
   rcases fr p hp with z | z
   ·exact ok0 p z
   ·exact⟨_,z,i,m,Ϩ,rfl⟩⟩
  refine AD ⟨Hl MR _,ih (i+1) _ (by grind) yw (W.frame _ s' _ _ J (by ext) λb hb o e=>?_) (λj k L=>(l j k L).keep λo e=>(B.2 _ λz=>hnot j k L (by grind)).trans e) hS2 λzC Q T=>?_⟩
  ·rw[B.2 b (λh:b=S=>H (by ext))];exact e
  ·refine hRq zC (Moved.trans W.gtrans ((C.mono B').then_heap (by lia) λb o hb e=>?_) Q) T
   rw[B.2 b (λh:b=S=>hb (by ext))];exact e
def Xv{l:AU}{items:Array AG}{rows:List ZLi}{Q:AG->AK->Prop}(hh:A.handled=none)(hu:A.units+40 < DE)(hl:s.heap.IsList l items)(hi:Lu prog w s.heap items.toList rows)(hb:(ddR rows).length<=76)
  (h:∀(h':B0) (tk:Nat),Op prog w h' s.heap.objs.size (ddR rows) (λb=>BB b∈items.toList) ->
   (∀b o,b < s.heap.objs.size->s.heap.get? b=some o->h'.get? b=some o)->Q (.ref s.heap.objs.size) { s with heap:=h',toks:=tk }):Ak (Ac prog w) A (call (.type "set") [.ref l]) Q E s:=by
 obtain⟨c,tl,hmro⟩:=Go.mro;have hmade:=Go.made;have B':=Go.sub;refine Zu (yZ ?_);show Ak _ _ (callAny (.type "set") _) _ _ _;refine AD ⟨Code.quiet_builtin _ (by decide +kernel),FA F.entry_type_call ?_⟩;rw[Bg.under_plain (weight_type_call_type "set" [.ref l] []) rfl];have h1:=Go.notType;have h2:=Go.canCreate;have hct:=F.typeCall_set_1 (.ref l);(repeat(any_goals (first | assumption | wp_step)))
 refine Ir (Vf (.ref l) (E:=E) (Q₁:=λobj G=>∃led:Bool,led=(!(w.params.followText "set-order"))/\obj=.ref s.heap.objs.size/\G={ s with heap:=s.heap.push { cls:=.type "set",dict:=none,data:=.set #[] 0 (.fresh 0 0 led) } }) ⟨_,rfl,rfl,rfl⟩) λr G I=>?_
 cases r with
 | error e=>exact I
 | ok fl=>
  cases fl with
  | ret obj=>
   obtain⟨led,N,rfl,rfl⟩:=I;have hS:(s.heap.push { cls:=.type "set",dict:=none,data:=.set #[] 0 (.fresh 0 0 led) }).get? s.heap.objs.size=some { cls:=.type "set",dict:=none,data:=.set #[] 0 (.fresh 0 0 led) }:=AS _ rfl;have hT:AK.TypeIs { s with heap:=s.heap.push { cls:=.type "set",dict:=none,data:=.set #[] 0 (.fresh 0 0 led) } } (.ref s.heap.objs.size) "set":=⟨_,hS,rfl⟩;have hli:=Go.init.lookup;have hbi:=Go.init.bind (.ref s.heap.objs.size);(repeat(any_goals (first | assumption | wp_step)))
   refine Ir (mV (R:=wants (λr H=>r=.none/\∃h' tk,H={ s with heap:=h',toks:=tk } /\
     Op prog w h' s.heap.objs.size (ddR rows) (λb=>BB b∈items.toList) /\
     (∀b o,b < s.heap.objs.size->s.heap.get? b=some o->h'.get? b=some o)) E) Go.init.plain F.entry_set_init (check_set_init_1 hT ?_)) λO H m=>?_
   ·obtain⟨ol,P,A',nl,S⟩:=hl
    obtain⟨ocls,J,odata,C⟩:=ol;simp only at A' S;subst A';subst S;have T:(s.heap.push { cls:=.type "set",dict:=none,data:=.set #[] 0 (.fresh 0 0 led) }).get? l=some { cls:=.type "list",dict:=J,data:=.seq items nl,slots:=C }:=AE _ P
    have hsls:isSubtype (.type "list") (.type "set")=pure false:=by rw[isSubtype_type];kernel_rfl
    have hslf:isSubtype (.type "list") (.type "frozenset")=pure false:=by rw[isSubtype_type];kernel_rfl
    have za:(G4 "list"==G4 "dict")=false:=by decide
    have ϐ:(s.heap.push { cls:=.type "set",dict:=none,data:=.set #[] 0 (.fresh 0 0 led) }).IsList l items:=⟨_,T,rfl,nl,rfl⟩;unfold Builtin.«set.__init__» noKeywords nA;generalize hPI:Sa=PI
    wp_walk
    subst hPI;refine Ux ϐ (AA (wpAny_runValue ?_));have U:l < s.heap.objs.size:=Aa P
    have hh3:A.in1.in1.in1.handled=none:=by simp[hh]
    have X:l≠(s.heap.push { cls:=.type "set",dict:=none,data:=.set #[] 0 (.fresh 0 0 led) }).objs.size:=by
     rw[DJ];exact Au (Ey U)
    have hSf:s.heap.objs.size∉[(s.heap.push { cls:=.type "set",dict:=none,data:=.set #[] 0 (.fresh 0 0 led) }).objs.size,l]:=by
     rw[DJ];simp only[Aw,Ay,Il,or_false,not_or];exact⟨Au (Da _),EM U⟩
    have hln:items.size=rows.length:=by rw[<-Aj];exact hi.1
    refine fD (rows:=rows) (ad:=λi=>(AG.addr0 (items.getD i .none))) ((wL hh3 _ l X items).toS) s.heap.objs.size hSf (λi v B=>?hval) (by simp;lia) (λi k hk=>?hnot) hb hln (items.size - 0) 0 _ (by simp) (Bu _)
     ⟨⟨_,AS _ rfl,rfl,rfl⟩,(ϐ.push _)⟩ (λi k hk=>?hrow) ?hS0 ?hRq
    case hval=>
     obtain⟨b,k,e,_⟩:=hi.at' (i:=i) (by rw[Bt];exact B);rw[e]at B ⊢
     have:items.getD i .none=.ref b:=by rw[DG,B];rfl
     rw[this];rfl
    case hnot=>
     obtain⟨b,B,I⟩:=hi.row hk
     have:items.getD i .none=.ref b:=by rw[DG,<-Bt,B];rfl
     have lt:b < s.heap.objs.size:=by obtain⟨o,_,_,ho,_⟩:=I;exact Aa ho
     show(AG.addr0 (items.getD i .none))∉_;rw[this];show b∉_;rw[DJ]
     grind
    case hrow=>
     obtain⟨b,B,I⟩:=hi.row hk
     have:items.getD i .none=.ref b:=by rw[DG,<-Bt,B];rfl
     show IsR prog w _ k (AG.addr0 (items.getD i .none));rw[this]
     exact I.keep λo e=>AE _ (AE _ e)
    case hS0=>
     have Y:((s.heap.push { cls:=.type "set",dict:=none,data:=.set #[] 0 (.fresh 0 0 led) }).push { cls:=.type "list_iterator",data:=.fields #[.ref l,.int 0 0] }).get? s.heap.objs.size
       = some { cls:=.type "set",dict:=none,data:=.set #[] 0 (.fresh 0 0 led) }:=AE _ hS
     exact aa N Y
    case hRq=>
     intro s' hm Z;obtain⟨h',g',d',tk',os'⟩:=s';have eg:g'=s.gens:=hm.gens;have ed:d'=s.drawn:=hm.drawn;have eo:os'=s.os:=hm.os;subst eg;subst ed;subst eo;show Ak _ _ _ _ _ _;refine AD ?_;show Ak _ _ (ret Dq) _ _ _
     have Z:Op prog w h' s.heap.objs.size (ddR rows) (λb=>BB b∈items.toList):=Z.imp<|by
      rintro b ⟨j,k,hj,e⟩
      obtain⟨b2,B,_⟩:=hi.row hj;have e:b=(AG.addr0 (items.getD j .none)):=e
      have:items.getD j .none=.ref b2:=by rw[DG,<-Bt,B];rfl
      rw[this]at e;rw[e];exact A0 B
     refine AD ⟨rfl,h',tk',rfl,Z,λb o hb e=>?_⟩;have hb1:b≠s.heap.objs.size:=Au hb
     have hb2:b≠(s.heap.push { cls:=.type "set",dict:=none,data:=.set #[] 0 (.fresh 0 0 led) }).objs.size:=by
      rw[DJ];exact Au (Ey hb)
     exact hm.heap b o (by ext) (AE _ (AE _ e))
   ·cases O with
    | error e=>exact m
    | ok L=>
     cases L with
     | ret r=>
      obtain⟨rfl,h',tk,rfl,Z,zu⟩:=m;(repeat(any_goals (first | assumption | wp_step)));exact h _ _ Z zu
     | _=>exact m.elim
  | _=>exact I.elim
end
section
variable{prog:BN}{w:Bo}{A:Bg}{E:AG->AK->Prop}{s:AK}{a:AU}{es:Array (Int×AG)}{ep:Nat}{t:Es}
def XF{ks:List ZLi}{Ok:AU->Prop}{R:List AG->AK->Prop}(hh:A.handled=none)(hS:Op prog w s.heap a ks Ok)(hn:ks.length<=sizeLine)
  (h:∀(h':B0) (m:Nat) d' (J:List AG),(∀b o,s.heap.get? b=some o->h'.get? b=some o)->(∃B:List (AG×ZLi),B.map (·.1)=J/\(B.map (·.2)).Perm ks/\∀q∈B,∃b,q.1=.ref b/\Ok b/\IsR prog w s.heap q.2 b)->R J { s with heap:=h',toks:=m,drawn:=d' }) :
  Ak (Ac prog w) A (collect (.ref a)) R E s:=by
 obtain⟨es,ep,t,ps,C,Y,ok⟩:=hS;obtain⟨o,Z,hex,hd⟩:=C.ob;have hf:=C.tb.fits;have hu:=C.tb.up;have S:=C.led;have yw:=Aa Z
 have hz:es.size<=sizeLine:=by rw[<-Aj,<-C.es',AH,<-AH,Y.length_eq];exact hn
 unfold collect;refine AA (wpAny_runValue (FA entry_proto_collect' ?_));rw[Dg PySem.F.plain_proto_collect _];refine AA (BW ?_);refine AD ⟨Hl Vq _,FA entry_list_iadd' ?_⟩;rw[Dg Vq _];have G:(s.heap.push { cls:=.type "list",data:=.seq ([]:List AG).toArray }).get? s.heap.objs.size=some { cls:=.type "list",data:=.seq #[] }:=AS _ rfl
 have T:=aZ (prog:=prog) (s:={ s with heap:=s.heap.push { cls:=.type "list",data:=.seq ([]:List AG).toArray } })
  (R:=λ(q:iC) (U:AK)=>∃(h':B0) (m:Nat) (d':_) (H:Array AG) (L:Nat),q=.ok (.ret (.ref s.heap.objs.size))/\U={ s with heap:=h',toks:=m,drawn:=d' } /\
   (∀b o,s.heap.get? b=some o->h'.get? b=some o)/\h'.get? s.heap.objs.size=some { cls:=.type "list",dict:=none,data:=.seq H L,slots:=#[] }/\FC H.toList (es.toList.map (·.2)))
  hh ⟨o,AE _ Z,hex,hd,hf⟩ hu S hz s.heap.objs.size (EM yw) (.ref s.heap.objs.size) 0 G
  (λh' m d' H L ord I N O P=>⟨h',m,d',H,L,rfl,rfl,λb o e=>N b o (Au (Aa e)) (AE _ e),O,P▸I⟩)
 have fin:∀{l:List AG},FC l (es.toList.map (·.2))->∃B:List (AG×ZLi),B.map (·.1)=l/\(B.map (·.2)).Perm ks/\∀q∈B,∃b,q.1=.ref b/\Ok b/\IsR prog w s.heap q.2 b:=λ{l} S=>by
  rw[<-C.es',BF]at S;obtain⟨Ψ,h1,h2⟩:=WC S ps rfl;refine⟨Ψ.map λp=>(p.1.2,p.2),by rw[BF];exact h2,by rw[BF];exact(h1.map _).trans Y,λq hq=>?_⟩;obtain⟨p,I,rfl⟩:=A9.mp hq;have I:=h1.mem_iff.mp I;obtain⟨b,e,hb⟩:=C.en p I;obtain⟨b2,e2,X⟩:=ok p I;rw[e]at e2;cases e2;exact⟨b,by rw[e],X,hb⟩
 refine Gk T (λQ U x=>?_) λe U x=>?_
 ·cases Q with
  | done f=>
   obtain⟨h',m,d',H,L,e,rfl,N,O,P⟩:=x;cases e;refine AA (rh O ?_);exact AD (h h' m d' _ N (fin P))
  | again c₁=>
   refine⟨x.1,Ir x.2 λq s₂ y=>?_⟩;obtain⟨h',m,d',H,L,rfl,rfl,N,O,P⟩:=y;refine AA (rh O ?_);exact AD (h h' m d' _ N (fin P))
 ext
end
end PySem
namespace L2
open Srt (ltL)
def RO{G H:Type}{R:G->H->Prop}{I m:List H}(p:I.Perm m):∀{l1:List G},Gn R l1 I->∃o,Gn R o m/\o.Perm l1:=by
 induction p with
 | nil=>intro l1 h;cases h;exact⟨[],.nil,.refl _⟩
 | cons x _ J=>
  intro l1 h
  cases h with
  | cons r t=>
   obtain⟨L,A,B⟩:=J t;exact⟨_ :: L,.cons r A,B.cons _⟩
 | swap x y l=>
  intro l1 h
  cases h with
  | cons r t=>
   cases t with
   | cons N t=>exact⟨_ :: _ :: _,.cons N (.cons r t),dw _ _ _⟩
 | trans _ _ C E=>
  intro l1 h;obtain⟨a,A,B⟩:=C h;obtain⟨b,O,P⟩:=E A;exact⟨b,O,P.trans B⟩
def LX{l m A:Type}{R:l->m->Prop}{f:l->A}{g:m->A}{o:List l}{B:List m}(u:Gn R o B)(h:∀a∈o,∀b,R a b->g b=f a):B.map g=o.map f:=by
 induction u with
 | nil=>rfl
 | cons r _ I=>rw[Ap,Ap,h _ Ae _ r,I λa C=>h a (AT _ C)]
def To{m l:Type}{R:m->l->Prop}{o:List m}{A:List l}{b:l}(u:Gn R o A)(h:b∈A):∃a∈o,R a b:=by
 induction u with
 | nil=>cases h
 | cons r _ I=>
  rcases Aw.mp h with h | h
  ·ext
  ·obtain⟨a,B,e⟩:=I h
   exact⟨a,AT _ B,e⟩
noncomputable def Vc:V->Int
 | .int n=>n
 | _=>0
def jM(H:Hp):AG->ZLi
 | .int n _=>[n]
 | .ref b=>match H b with
  | some (.tup l)=>l.map Vc
  | _=>[]
 | _=>[]
def Qi(r:ZLi):(r.map V.int).map Vc=r:=by
 rw[BF];exact(D7 λa _=>rfl).trans (Q0 r)
def yS(K:AI)(H:Hp)(p:AU)(G:List V->Prop):Prop:=
 (∃m,(SqL K H p m∨SqT K H p m)/\G m)∨(∃l,H p=some (.dK l)/\G (l.map λx=>kV x.1)) ∨
  ∃l,H p=some (.dT l)/\∀bs:List AU,Gn (λ(k:List Key×V) b=>H b=some (.tup (k.1.map kV))) l bs->G (bs.map V.ref)
def Um(H:Hp)(f:V->ZLi)(vs:List V):Prop:=(∀v∈vs,∃n,v=.int n/\f v=[n])∨∀v∈vs,∃b,v=.ref b/\H b=some (.tup ((f v).map V.int))/\f v≠[]
def xE(K:AI):List V->Hp->VK->Prop:=λo H Q=>∃p,o=[.ref p]/\yS K H p λm=>∃f:V->ZLi,Um H f m /\
 ∀out,out.Perm m->out.Pairwise (λx y=>ltL (f y) (f x)=false)->∀l,H l=none->Q (.ref l) (upd H l (.lst out))
def Um.rel(h:Um H f vs):∀v∈vs,∀u,RelV v u->jM H u=f v:=λv l u r=>by
 rcases h with h | h
 ·obtain⟨n,rfl,e⟩:=h v l
  obtain⟨t,rfl⟩:=r;exact e.symm
 ·obtain⟨b,rfl,e,_⟩:=h v l
  cases r;show(match H b with | some (.tup m)=>m.map Vc | _=>[])=_;rw[e];exact Qi _
def Ym(hc:X.calm=true)(I:Inv X ζ σ H s)(h:yS X.K H p G) :
  ∃vs J,G vs/\Bk vs J/\J.length<=sizeLine/\∀(R:List AG->AK->Prop) (E:AG->AK->Prop),(∀(g:B0) (Y:Nat),(∀b o,s.heap.get? b=some o->g.get? b=some o)->R J { s with heap:=g,toks:=Y })->Ak (Ac X.prog X.w) X.A.in1 (collect (.ref p)) R E s:=by
 have hh:=I.ok.hd hc
 rcases h with⟨vs,sq,g⟩ | ⟨B,e,g⟩ | ⟨B,e,g⟩
 ·rcases sq with sq | sq
  ·obtain⟨J,T,pl,P⟩:=I.list sq
   refine⟨vs,J,g,T,by rw[<-T.length];exact P,λR E k=>collect_list pl.isList (k _ s.toks λb o e=>?_) (by rw[<-T.length];exact P)⟩;rw[dy _ _ _ _ (Au (Aa e))];exact AE _ e
  ·obtain⟨J,T,⟨o,ho,A',n,hd⟩,P⟩:=I.tuple sq
   have Z:J.length<=sizeLine:=by rw[<-T.length];exact P
   exact⟨vs,J,g,T,Z,λR E k=>wpAny_collect_seq p (.inr rfl) ho A' hd (λh' kp=>by simpa using k h' s.toks kp) (by simpa using Z)⟩
 ·obtain⟨P,sm,us,kv,o,C,ep,g1,g2,g3,g5,g6,_⟩:=(I.hok p _ e)
  have hlen:C.size=B.length:=by
   have a1:=g6.length;have a2:=FP kv;rw[Aj]at a1
   ext
  have hv:Bk (B.map λx=>kV x.1) (C.toList.map (·.key)):=by
   have Q:∀{l:List Q4} {us:List (Key×AG)} {B:List (Key×V)},Pairs (E0 X.prog X.w) l us->KV B us->Bk (B.map λx=>kV x.1) (l.map (·.key)):=by
    intro l us B hp
    induction hp generalizing B with
    | nil=>intro h;cases h;exact .nil
    | cons q1 q2 _ ih=>
     intro h
     cases h with
     | cons r t=>
      refine .cons ?_ (ih t);dsimp only;rw[r.1]
      rcases De q1 with⟨i,t,e1,U⟩ | ⟨x,t,e1,U⟩
      ·rw[e1,U];exact⟨t,rfl⟩
      ·rw[e1,U];exact⟨t,rfl⟩
   exact Q g6 kv
  refine⟨_,C.toList.map (·.key),g,hv,by ext,λR E k=>?_⟩
  refine Zo (Srt.cT sm) hh ⟨o,g1,g2,g3⟩ (by ext) λg' Y m kp S=>?_
  have:m.toList=C.toList.map (·.key):=by
   apply Dt
   intro j
   by_cases L:j < C.size
   ·have N:j < m.size:=by rw[S.1];exact L
    obtain⟨_,U⟩:=S.2 j m[j] (by simp[N]);ext
   ·have N:¬j < m.size:=by rw[S.1];exact L
    simp[L,N]
  rw[this];exact k g' Y kp
 ·obtain⟨P,sm,O,rr,o,C,ep,g1,g2,g3,g4,_⟩:=(I.hok p _ e)
  have hlen:C.size=B.length:=by
   have a1:=congrArg Ev g4;have a2:=FP rr;rw[Aj,AH]at a1
   ext
  have hb:Gn (λ(k:List Key×V) b=>H b=some (.tup (k.1.map kV))) B (O.map (·.2.1)):=by
   have Q:∀{B:List (List Key×V)} {O:List (List Key×AU×AG)},Gn (λ(p:List Key×V) (q:List Key×AU×AG)=>p.1=q.1/\H q.2.1=some (.tup (p.1.map kV))/\RelV p.2 q.2.2) B O->Gn (λ(k:List Key×V) b=>H b=some (.tup (k.1.map kV))) B (O.map (·.2.1)):=by
    intro B O h
    induction h with
    | nil=>exact .nil
    | cons r _ ih=>exact .cons r.2.1 ih
   exact Q rr
  have hk:C.toList.map (·.key)=(O.map (·.2.1)).map BB:=by
   rw[g4,BF,BF];rfl
  have hv:∀l:List AU,Bk (l.map V.ref) (l.map BB):=λl=>by
   induction l with
   | nil=>exact .nil
   | cons a l ih=>exact .cons rfl ih
  refine⟨_,(O.map (·.2.1)).map BB,g _ hb,hv _,by rw[AH,AH,<-FP rr];exact P,λR E k=>?_⟩
  refine Zo (Srt.cT sm) hh ⟨o,g1,g2,g3⟩ (by ext) λg' Y m kp S=>?_
  have:m.toList=(O.map (·.2.1)).map BB:=by
   rw[<-hk]
   apply Dt
   intro j
   by_cases L:j < C.size
   ·have N:j < m.size:=by rw[S.1];exact L
    obtain⟨_,U⟩:=S.2 j m[j] (by simp[N]);simp[L,N,U]
   ·have N:¬j < m.size:=by rw[S.1];exact L
    simp[L,N]
  rw[this];exact k g' Y kp
def RJ{X:Cx}{s:AK}{H:Hp}{f:V->ZLi}{vs:List V}{l:List AG}(I:∀b xs,H b=some (.tup xs)->∃is:List AG,Bk xs is/\mw s.heap b is.toArray)(h:Um H f vs)(J:Bk vs l)(O:2<=l.length){A:Bg}:Srt.X2 X.prog X.w A s l (jM H):=by
 rcases id h with P | R
 ·have:∃ns,G5 l ns:=by
   have G:∀{vs:List V} {l:List AG},Bk vs l->(∀v∈vs,∃n,v=.int n/\f v=[n])->∃ns,G5 l ns:=by
    intro vs l r
    induction r with
    | nil=>exact λ_=>⟨[],.nil⟩
    | cons r _ S=>
     intro B
     obtain⟨ns,C⟩:=S λv T=>B v (AT _ T)
     obtain⟨n,rfl,_⟩:=B _ Ae;obtain⟨t,rfl⟩:=r;exact⟨n :: ns,.cons n t C⟩
   exact G J P
  obtain⟨ns,C⟩:=this;obtain⟨U,Y,Z⟩:=Srt.eu C O;refine⟨U,Y,λx y L N Q E q=>Z x y L N Q E ?_⟩;obtain⟨n,t,e1⟩:=C.all _ (Srt.IF L).1;obtain⟨m,u,e2⟩:=C.all _ (Srt.IF N).1
  have e:Srt.ltK Srt.jt x y=Srt.ltK (jM H) x y:=by
   unfold Srt.ltK Srt.jt;rw[e1,e2];rfl
  ext
 ·refine Srt.ei (λu hu=>?_) (by intro e;ext)
  obtain⟨v,B,r⟩:=To J hu;rw[h.rel v B u r];obtain⟨b,rfl,e,ne⟩:=R v B;cases r;refine⟨⟨b,?_⟩,ne⟩;obtain⟨is,r,o,ho,A',n,hd⟩:=I b _ e;exact⟨is.toArray,rfl,⟨o,ho,A',n,hd⟩,by simpa using intsAre_of r⟩
def gf{X}(T:X.calm=true):Jo X (.builtin "sorted") (xE X.K):=by
 intro U s Y H Z us Q I r h;obtain⟨p,rfl,C⟩:=h;obtain⟨u,rfl,rx⟩:=vals1 r;cases rx;obtain⟨vs,A,⟨f,l,q⟩,E,G,col⟩:=Ym T I C;refine V0 kind_sorted plain_sorted entry_sorted (args_sorted1 _) ?_;unfold Builtin.«sorted»;refine AA (AD (AA (col _ _ λg O kp=>?_)));refine AA (de ?_ G);have J:Inv X U Y H { s with heap:=g,toks:=O }:=I.kept kp;have L:(g.push (JQ "list" A.toArray 0)).get? g.objs.size=some (JQ "list" A.toArray 0):=AS _ rfl;refine AA (Dp (Bl slot_list_sort ⟨_,L,rfl⟩ yY (Srt.OG (f:=jM H) L G (λh2 s' keep=>?_) λout po so=>⟨_,rfl,AD ⟨_,rfl,?_⟩⟩) (args_list_sort _)))
 ·refine RJ (λb Z e=>?_) l E h2
  obtain⟨_,is,r,o,P,A',n,hd⟩:=(J.hok b _ e);exact⟨is,r,o,keep b o (Au (Aa P)) (AE _ P),A',n,hd⟩
 ·obtain⟨B,S,pv⟩:=RO po.symm E
  have N:B.Pairwise (λx y=>ltL (f y) (f x)=false):=by
   have e:=LX S λa ha b rb=>l.rel a (pv.mem_iff.mp ha) b rb
   have:=(Bb (R:=λx y=>ltL y x=false)).mpr so;rw[e]at this;exact Bb.mp this
  obtain⟨k,hk⟩:=sortedHeap_at L
  have m:B.length<=sizeLine:=by rw[pv.length_eq,E.length];exact G
  have I2:=J.laid (o:=.lst B) (t':=O) (h':=Zw (g.push (JQ "list" A.toArray 0)) g.objs.size A out)
   (λb u z=>by
    have lt:=Aa z;rw[sortedHeap_old (Au lt) (by rw[size_push'];exact Ey lt)]
    exact AE _ z) (AJ _) ⟨m,out.toList,k,S,hk⟩
  exact⟨.ref g.objs.size,_,I2,rfl,q B pv N _ (J.hok.fresh (AJ _))⟩
noncomputable def Cp(l:ZLi):ZLi:=l.mergeSort (λa b=>decide (a<=b))
@[simp] def e8:Cp []=[]:=by unfold Cp;simp
def Et(ns:ZLi):(Cp ns).Perm ns:=dq ns _
def TR(l:ZLi):(Cp l).Pairwise (·<=·):=by
 have:=YL (le:=λa b:Int=>decide (a<=b)) (by intro a b c m o;simp at m o ⊢;lia) (by intro a b;simp;lia) l
 exact this.imp λh=>by simpa using h
def JW(l:List ZLi):List ZLi:=l.mergeSort (λa b=>!ltL b a)
def Dk(rs:List ZLi):(JW rs).Perm rs:=dq rs _
def PM(l:List ZLi):(JW l).Pairwise (λa b=>ltL b a=false):=by
 have:=YL (le:=λa b:ZLi=>!ltL b a) (by intro a b c m o;simp at m o ⊢;exact Srt.XX _ _ _ m o) (by
  intro a b
  cases e:ltL b a with
  | false=>simp
  | true=>simp[Srt.UA _ _ e]) l
 exact this.imp λh=>by simpa using h
def QX{l l':List ZLi}(p:l.Perm l')(h:l.Pairwise (λa b=>ltL b a=false))(h':l'.Pairwise (λa b=>ltL b a=false)):l=l':=
 p.eq_of_pairwise (λa b _ _ m o=>Srt.cg a b o m) h h'
noncomputable def bG:Key->D
 | .inl i=>.int i
 | .inr x=>.str x
def Mv(d:D)(S:Sto):Option (List D):=match d with
 | .fro l=>some l
 | .tup l=>some l
 | .ref n=>match S[n]? with
  | some (.lst l)=>some l
  | some (.dK m)=>some (m.map λx=>bG x.1)
  | some (.dT m)=>some (m.map λx=>.tup (x.1.map bG))
  | _=>none
 | _=>none
noncomputable def Kv(r:ZLi):D:=.tup (r.map D.int)
def IZ:List D->Option (List ZLi)
 | []=>some []
 | .tup l :: r=>match Ih l,IZ r with
  | some (n :: m),some o=>some ((n :: m) :: o)
  | _,_=>none
 | _ :: _=>none
def L0(l:List D):Option (List D):=match Ih l with
 | some m=>some ((Cp m).map D.int)
 | none=>match IZ l with
  | some o=>some ((JW o).map Kv)
  | none=>none
def FW(m:ME):ME:=λe S=>(m e S).bind λd l=>match Mv d l with
 | some o=>match L0 o with
  | some A=>.ok (.ref l.length) (l++[.lst A])
  | none=>.bad
 | none=>.bad
section
def pU(x y:Int):ltL [y] [x]=decide (y < x):=by
 show(if y=x then false else decide (y < x))=_;split
 ·ext
 ·rfl
def En(H:Hp):V->ZLi
 | .int n=>[n]
 | .ref b=>match H b with
  | some (.tup l)=>l.map Vc
  | _=>[]
 | _=>[]
theorem Mg{K}{ρ}{H}{l:List D}{m:List ZLi}{vs:List V}(h:IZ l=some m)(a:Av K ρ H l vs):vs.map (En H)=m/\∀v∈vs,∃b,v=.ref b/\H b=some (.tup ((En H v).map V.int))/\En H v≠[]:=by
 cases a with
 | nil=>cases h;ext
 | cons r t=>
  cases r with
  | @tup _ b L hb C=>
   unfold IZ at h;split at h
   ·rename_i n ns o A B
    cases h;obtain⟨I,J⟩:=Mg B t
    have:=Pr A;subst this;have:=C.ints;subst this
    have e:En H (.ref b)=n :: ns:=by
     show(match H b with | some (.tup E)=>E.map Vc | _=>[])=_;rw[hb];exact Qi _
    ext
   ·cases h
  | _=>cases h
theorem Ti{K}{ρ}{H}:∀{vs:List V},(∀v∈vs,∃b,v=.ref b/\H b=some (.tup ((En H v).map V.int))/\En H v≠[])->Av K ρ H ((vs.map (En H)).map Kv) vs
 | [],_=>.nil
 | v :: vs,h=>by
  obtain⟨b,e,hb,_⟩:=h v Ae;refine .cons ?_ (Ti λu l=>h u (AT _ l));subst e;exact .tup hb (Av.of_ints _)
def jA{K:AI}{ρ:List AU}{H:Hp}{C es:List D}{vs:List V}(h:L0 C=some es)(r:Av K ρ H C vs) :
  ∃f:V->ZLi,Um H f vs/\∀out,out.Perm vs->out.Pairwise (λx y=>ltL (f y) (f x)=false)->Av K ρ H es out:=by
 unfold L0 at h;split at h
 ·rename_i ns G
  cases h;have:=Pr G;subst this;have:=r.ints;subst this;refine⟨λv=>[Vc v],.inl λv m=>?_,λout o A=>?_⟩
  ·obtain⟨n,_,rfl⟩:=A9.mp m
   exact⟨n,rfl,rfl⟩
  ·have I:out=(out.map Vc).map V.int:=by
    rw[BF]
    conv=>lhs;rw[<-Si out]
    refine D7 λv m=>?_
    obtain⟨n,_,rfl⟩:=A9.mp (o.mem_iff.mp m);rfl
   have B:out.map Vc=Cp ns:=by
    have J:(out.map Vc).Perm (Cp ns):=by
     have:=o.map Vc;rw[Qi]at this;exact this.trans (Et ns).symm
    refine J.eq_of_pairwise (λa b _ _ L N=>Int.le_antisymm L N) ?_ (TR ns);rw[Bb]
    refine A.imp λ{x y} l=>?_
    rw[pU]at l;simp at l;exact l
   rw[I,B];exact Av.of_ints _
 ·split at h
  ·rename_i rs O
   cases h;obtain⟨P,E⟩:=Mg O r;refine⟨En H,.inr E,λout o A=>?_⟩
   have B:out.map (En H)=JW rs:=by
    refine QX ?_ (Bb.mpr A) (PM rs);have:=o.map (En H);rw[P]at this;exact this.trans (Dk rs).symm
   rw[<-B]
   exact Ti λv m=>E v (o.mem_iff.mp m)
  ·cases h
theorem UE{K}{ρ}{H}:∀ks:List Key,Av K ρ H (ks.map bG) (ks.map kV)
 | []=>.nil
 | .inl i :: ks=>.cons (.int i) (UE ks)
 | .inr x :: ks=>.cons (.str x) (UE ks)
def Pm{K}{ρ}{H}{l:List (Key×D)}{m:List (Key×V)}(u:KVR K ρ H l m):Av K ρ H (l.map λx=>bG x.1) (m.map λx=>kV x.1):=by
 induction u with
 | nil=>exact .nil
 | @cons a b _ _ r _ I=>
  rw[Ap,Ap,<-r.1]
  cases a.1 with
  | inl i=>exact .cons (.int i) I
  | inr x=>exact .cons (.str x) I
def UD{K}{ρ}{H}{l:List (List Key×D)}{m:List (List Key×V)}{bs:List AU}(u:KVR K ρ H l m)(w:Gn (λ(k:List Key×V) b=>H b=some (.tup (k.1.map kV))) m bs):Av K ρ H (l.map λx=>.tup (x.1.map bG)) (bs.map V.ref):=by
 induction u generalizing bs with
 | nil=>cases w;exact .nil
 | cons r _ I=>cases w with | cons o A=>rw[<-r.1]at o;exact .cons (.tup o (UE _)) (I A)
def Gx(hc:X.calm=true)(hg:Gl X "sorted") (G:X.mg "sorted" = none) (h:GE X E e m) (U:AW [e] X.env=(false,CO e X.env) :: AW [] X.env:=by rfl):GE X E (.Call (.Name "sorted" p) [e] [] pos) (FW m):=
 (Pc (gf hc) hg G ye (Fy h IG U) (by decide) (by decide) U rfl).imp<|by
 rintro σ H Q ⟨ρ,l,S,hl,hs,G⟩
 refine⟨ρ,l,S,hl,hs,G.seq λd S1 G I J x l1 Y r1=>?_⟩
 cases A:Mv d S1 with
 | none=>rw[A]at G;exact G.elim
 | some Z=>
  rw[A]at G;dsimp only at G
  cases N:L0 Z with
  | none=>rw[N]at G;exact G.elim
  | some es=>
   rw[N]at G
   have fin:∀B:List V,Av X.K I J es B->∀q,J q=none->Q (.ref q) (upd J q (.lst B)):=λB L q A=>by
    have le:Le X.K I J (I++[q]) (upd J q (.lst B)):=Le.alloc A;obtain⟨s4,l4,O⟩:=Y.alloc (o:=.lst es) A ⟨_,Bz,L.mono le⟩;exact G _ _ _ (l1.trans l4) s4 (.ref O)
   have out:∀B,Av X.K I J Z B->∃f:V->ZLi,Um J f B/\∀out,out.Perm B->out.Pairwise (λx y=>ltL (f y) (f x)=false)->∀l,J l=none->Q (.ref l) (upd J l (.lst out)):=λB L=>by
    obtain⟨f,k1,k2⟩:=jA N L;exact⟨f,k1,λout po so=>fin out (k2 out po so)⟩
   cases r1 with
   | fro P R=>cases A;exact⟨_,rfl,.inl ⟨_,.inl P.sq,out _ R⟩⟩
   | tup P R=>cases A;exact⟨_,rfl,.inl ⟨_,.inr (.inl (.inl P)),out _ R⟩⟩
   | @ref n a hn=>
    obtain⟨o,ho,T⟩:=Y.there hn;unfold Mv at A;simp only[ho]at A
    cases o with
    | lst ys=>cases A;obtain⟨B,e,L⟩:=T;exact⟨_,rfl,.inl ⟨B,.inl (.inl (.inl e)),out _ L⟩⟩
    | dK f'=>cases A;obtain⟨B,e,L⟩:=T;exact⟨_,rfl,.inr (.inl ⟨B,e,out _ (Pm L)⟩)⟩
    | dT f'=>cases A;obtain⟨B,e,L⟩:=T;exact⟨_,rfl,.inr (.inr ⟨B,e,λbs hb=>out _ (UD L hb)⟩)⟩
    | ins C fs=>cases A
    | fK _=>cases A
    | fT _=>cases A
    | mem _=>cases A
   | _=>cases A
end
def i9(K:AI):Sp:=λm H Q _=>∃(a:AU) (l:ZLi),m=[.ref a]/\Vo K H a (l.map V.int)/\l.length<=63/\∀o,Q (.bl true) o
def kJ{P}{w}{K}{m}{base}{k}{A}{fd}{f}(F:Hh P w K m base (CXG P w) k A fd ["script"] (spM K 1 f))
  (h:∀l:ZLi,l.length<=63->∃B,f [.fro (l.map D.int)] []=.ok (.bl true) B):Hh P w K m base (CXG P w) k A fd ["script"] (i9 K):=F.imp<|by
 rintro O H Q E ⟨a,l,e,C,G,q⟩
 subst e;obtain⟨B,e⟩:=h l G;refine⟨[],[.fro (l.map D.int)],[],rfl,.cons (.fro C (Av.of_ints l)) .nil,⟨rfl,λi j a I=>by simp at I,λn o a J=>by simp at J⟩,?_⟩;rw[e]
 exact λL N x _ _ r=>by cases r;exact q N
def vE{K:AI}{H:Hp}{a:AU}{l:ZLi}(m:qi H)(A:SqL K H a (l.map V.int)):Vo K H a (l.map V.int):=by
 rcases A with(h | h) | h
 ·rcases m a with z | ⟨o,B,z⟩ <;> rw[z]at h <;> cases h
 ·exact .inl h
 ·exact .inr h
def vT(h:CXG P w [] H s (λ_ _ _=>False) e s'):False:=by
 obtain⟨_,_,_,_,_,_,_,_,_,z⟩:=h;exact z
def re(I:Lo->Sto->Prop)(R:Fl->Sto->Prop)(f:Fl)(S:Sto):Prop:=match f with
 | .nx e=>I e S
 | .ct e=>I e S
 | .bk e=>R (.nx e) S
 | .rt d=>R (.rt d) S
 | .ex c e=>R (.ex c e) S
def qC(I:Nat->Lo->Sto->Prop)(R:Fl->Sto->Prop)(o:∀i e S,I i e S->v S=some xs)
  (step:∀i d e S,xs[i]?=some d->I i e S->∃e1 S1,g d e S=.ok e1 S1/\∃f l,b e1 S1=.ok f l/\re (I (i+1)) R f l)
  (fin:∀e S,I xs.length e S->R (.nx e) S):∀(k i:Nat) (e:Lo) (S:Sto),I i e S->i<=xs.length->xs.length<=i+k->∃f S',M1 v g b k i e S=.ok f S'/\R f S':=by
 intro k
 induction k with
 | zero=>
  intro i e S h C E
  have:i=xs.length:=by lia
  subst this;refine⟨.nx e,S,?_,fin e S h⟩;unfold M1;rw[o _ e S h];simp
 | succ k A=>
  intro i e S h C E;unfold M1;rw[o _ e S h];dsimp only
  by_cases G:i < xs.length
  ·have B:xs[i]?=some xs[i]:=by simp[G]
   rw[B];dsimp only;obtain⟨e1,S1,H,f,l,J,t⟩:=step i _ e S B h;rw[H];dsimp only[Res.bind];rw[J];dsimp only[Res.bind]
   cases f with
   | nx m=>exact A (i+1) m l t (by assumption) (by lia)
   | ct m=>exact A (i+1) m l t (by lia) (by lia)
   | bk m=>exact⟨_,_,rfl,t⟩
   | rt d=>exact⟨_,_,rfl,t⟩
   | ex c m=>exact⟨_,_,rfl,t⟩
  ·have:i=xs.length:=by lia
   subst this
   grind
def KU(I:Nat->Lo->Sto->Prop)(R:Fl->Sto->Prop)(l:I 0 e S)(m:∀i e S,I i e S->v S=some xs)
  (step:∀i d e S,xs[i]?=some d->I i e S->∃e1 S1,g d e S=.ok e1 S1/\∃f o,b e1 S1=.ok f o/\re (I (i+1)) R f o)
  (fin:∀e S,I xs.length e S->R (.nx e) S):∃f S',M1 v g b (D0 v S) 0 e S=.ok f S'/\R f S':=by
 have A:D0 v S=xs.length:=by unfold D0;rw[m 0 e S l]
 rw[A];exact qC I R m step fin _ _ _ _ l (Bu _) (by ext)
def lT(I:Nat->Lo->Sto->List D->Prop)(B:∀i e S l,I i e S l->v S=some xs)
  (step:∀i d e S l,xs[i]?=some d->I i e S l->l.length < sizeLine/\∃e1 S1,g d e S=.ok e1 S1/\∃b o,c e1 S1=.ok b o/\((b=true/\∃y A,m e1 o=.ok y A/\I (i+1) e1 A (l++[y]))∨(b=false/\I (i+1) e1 o l))) :
  ∀(k i:Nat) (e:Lo) (S:Sto) (l:List D),I i e S l->i<=xs.length->xs.length<=i+k->∃r C,Gz v g c m k i e S l=.ok r C/\∃H,I xs.length H C r:=by
 intro k
 induction k with
 | zero=>
  intro i e S l h J L
  have:i=xs.length:=by lia
  subst this;refine⟨l,S,?_,e,h⟩;unfold Gz;rw[B _ e S l h];simp
 | succ k E=>
  intro i e S l h J L;unfold Gz;rw[B _ e S l h];dsimp only
  by_cases N:i < xs.length
  ·have G:xs[i]?=some xs[i]:=by simp[N]
   rw[G];dsimp only;obtain⟨O,e1,S1,P,b,o,Q,t⟩:=step i _ e S l G h;rw[qX O,P];dsimp only[okR,Res.bind];rw[Q];dsimp only[okR,Res.bind]
   rcases t with⟨rfl,y,A,R,t⟩ | ⟨rfl,t⟩
   ·rw[qX rfl,R]
    exact E (i+1) e1 A _ t (by lia) (by lia)
   ·rw[qY Ab]
    exact E (i+1) e1 o l t (by lia) (by lia)
  ·have:i=xs.length:=by lia
   subst this;rw[show xs[xs.length]?=none by simp];exact⟨l,S,rfl,e,h⟩
def Xr(I:Nat->Lo->Sto->List D->Prop)(A:I 0 e S [])(B:∀i e S l,I i e S l->v S=some xs)
  (step:∀i d e S l,xs[i]?=some d->I i e S l->l.length < sizeLine/\∃e1 S1,g d e S=.ok e1 S1/\∃b o,c e1 S1=.ok b o/\((b=true/\∃y C,m e1 o=.ok y C/\I (i+1) e1 C (l++[y]))∨(b=false/\I (i+1) e1 o l))) :
  ∃r E,Gz v g c m (D0 v S) 0 e S []=.ok r E/\∃G,I xs.length G E r:=by
 have H:D0 v S=xs.length:=by unfold D0;rw[B 0 e S [] A]
 rw[H];exact lT I B step _ _ _ _ _ A (Bu _) (by lia)
def uZ(h:-1000000<=j):-(2 ^ 62)<=j:=Int.le_trans (by decide) h
def ut{j:Int}(h:j<=1000000):j < 2 ^ 62:=iH h (by decide)
def bM{ml:ML}{e:Lo}{S S1:Sto}{j:Int}(h:ml e S=.ok [.int j] S1)(l:-1000000<=j)(m:j<=1000000):iR1 ml e S=.ok (JE (JY 0 j.toNat)) S1:=by
 unfold iR1;rw[h];dsimp only[Res.bind];rw[qX ⟨uZ l,ut m⟩]
def uq{ml:ML}{e:Lo}{S S1:Sto}{i j:Int}(h:ml e S=.ok [.int i,.int j] S1)(l:-1000000<=i)(m:i<=1000000)(o:-1000000<=j)(A:j<=1000000):iR2 ml e S=.ok (JE (JY i (j - i).toNat)) S1:=by
 unfold iR2;rw[h];dsimp only[Res.bind];rw[qX ⟨uZ l,ut m,uZ o,ut A⟩]
def V9(lo:Int)(n:Nat):(JY lo n).length=n:=by simp[JY]
def Yv{lo:Int}{n i:Nat}{d:D}(h:(JY lo n)[i]?=some d):i < n/\d=.int (lo+i):=by
 rw[WA]at h
 ext
def xg(h:-1000000<=j)(l:j<=1000000):Zl i j:=.inr ⟨Int.lt_of_lt_of_le (by decide) h,iH l (by decide)⟩
def pQ(h:-1000000<=j)(l:j<=1000000):ay (.int i) (.int j) S=.ok (.int (i * j)) S:=by
 show(if Zl i j then _ else _)=_;rw[qX (xg h l)]
def lD(h:0 < j)(l:j<=1000000):Pw (.int i) (.int j) S=.ok (.int (i / j)) S:=by
 show(if lz i j then _ else _)=_;rw[qX ⟨h,by lia⟩]
def cY(h:0 < j):Qk (.int i) (.int j) S=.ok (.int (i % j)) S:=by
 show(if 0 < j then _ else _)=_;rw[qX h]
def D9(o:ma e S=.ok x S1)(hb:l e S1=.ok y m)(hf:f x y m=.ok d S3):m2 f ma l e S=.ok d S3:=by
 unfold m2;ext
def LQ(h:m e S=.ok d S1):Ce i m e S=.ok (.nx (e.set i (some d))) S1:=by
 unfold Ce xC;rw[h];rfl
def LS(h:m e S=.ok d S1):DL m e S=.ok (.rt d) S1:=by
 unfold DL;rw[h];rfl
def Lp(h:m e S=.ok d S1):Fj m e S=.ok (.nx e) S1:=by
 unfold Fj;rw[h];rfl
def Gw(h:t e S=.ok c S1):sIf t a b e S=if c=true then a e S1 else b e S1:=by
 unfold sIf;rw[h];rfl
def kY(h:t e S=.ok c S1):ZH t a b e S=if c=true then a e S1 else b e S1:=by
 unfold ZH;rw[h];rfl
def JA(h:m e S=.ok v S1):Em m g b e S=M1 v g b (D0 v S1) 0 e S1:=by
 unfold Em;rw[h];rfl
def J9(h:m e S=.ok l S1)(o:l.length=n):CF n f m e S=f l S1:=by
 unfold CF;ext
def B2(h:a e S=.ok (.nx e1) S1):BK a b e S=b e1 S1:=by unfold BK;rw[h];rfl
def XG(h:a e S=.ok (.rt d) S1):BK a b e S=.ok (.rt d) S1:=by unfold BK;rw[h];rfl
def Keeps(S l:Sto):Prop:=S.length<=l.length/\∀j,j < S.length->l[j]?=S[j]?
def Keeps.refl(S:Sto):Keeps S S:=⟨AJ _,λ_ _=>rfl⟩
def Keeps.trans(a:Keeps S S1)(b:Keeps S1 S2):Keeps S S2:=⟨Al a.1 b.1,λj h=>(b.2 j (AR h a.1)).trans (a.2 j h)⟩
def Keeps.app(S:Sto)(G:Sto):Keeps S (S++G):=⟨by simp,λj h=>AV h⟩
def Keeps.set(a:Keeps S S1)(h:S.length<=m)(o:Ob):Keeps S (S1.set m o):=⟨by simpa using a.1,λj l=>by rw[AZ (by lia)];exact a.2 j l⟩
def Keeps.at{S S1:Sto}(a:Keeps S S1){j:Nat}{o:Ob}(h:S[j]?=some o):S1[j]?=some o:=by
 rw[a.2 j (AB.mp h).1];exact h
def Xz(m:mo e S=.ok (.ref n) S1)(o:S1[n]?=some (.lst xs))(A:ma e S1=.ok y l)(B:l[n]?=some (.lst xs2))(C:xs2.length < sizeLine) :
  Nr mo ma e S=.ok .non (l.set n (.lst (xs2++[y]))):=by
 unfold Nr;ext
def gV(o:mo e S=.ok (.ref n) S1)(A:S1[n]?=some (.lst xs))(E:ma e S1=.ok (.ref k) l)(B:l[n]?=some (.lst xs2))(C:l[k]?=some (.lst m))(G:k≠n)(H:xs2.length+m.length<=sizeLine) :
  Nb mo ma e S=.ok .non (l.set n (.lst (xs2++m))):=by
 unfold Nb;rw[o];dsimp only[Res.bind]
 have I:atL (.ref n) S1=some (n,xs):=by unfold atL;dsimp only;rw[A]
 have J:atL (.ref n) l=some (n,xs2):=by unfold atL;dsimp only;rw[B]
 have L:atL (.ref k) l=some (k,m):=by unfold atL;dsimp only;rw[C]
 ext
def n9(h:xs.length+l.length<=sizeLine):GB (.tup xs) (.tup l) S=.ok (.tup (xs++l)) S:=by
 unfold GB
 ext
def DT(h:S[n]?=some (.lst xs)):Hr (.ref n) S=some xs:=by
 unfold Hr Q9;ext
def Ii(h:m e S=.ok (.ref n) S1)(l:S1[n]?=some (.lst xs)):DM m e S=.ok (Hr (.ref n)) S1:=by
 unfold DM;rw[h];dsimp only[Res.bind];rw[DT l]
def UJ(h:m e S=.ok (.tup xs) S1):DM m e S=.ok (JE xs) S1:=by
 unfold DM;rw[h];rfl
def aw(h:ml e S=.ok l S1):DF ml e S=.ok (.ref S1.length) (S1++[.lst l]):=by
 unfold DF;rw[h];rfl
def ER(S:Sto)(o:Ob):(S++[o])[S.length]?=some o:=by simp
def GZ(h:S[n]?=some (.lst ds)):Ga (.ref n) S=some ds:=by
 unfold Ga;ext
def Oe(h:S[n]?=some (.lst ds)):Mv (.ref n) S=some ds:=by
 unfold Mv;ext
def Ks(h:m e S=.ok d S1)(hi:Mv d S1=some l)(hs:L0 l=some es):FW m e S=.ok (.ref S1.length) (S1++[.lst es]):=by
 unfold FW;ext
def PL(h:m e S=.ok d S1)(o:Ga d S1=some l):Je m e S=.ok (.tup l) S1:=by
 unfold Je;ext
def bF(h:m e S=.ok d S1)(o:Ga d S1=some l):Nq m e S=.ok (.int l.length) S1:=by
 unfold Nq;ext
def SG(m:mv e S=.ok v S1)(ho:mo e S1=.ok (.ref n) l)(hs:l[n]?=some (.ins C fs))(o:fs.length < 1000) :
  J1 C f mo mv e S=.ok (.nx e) (l.set n (.ins C (KQ f v fs))):=by
 unfold J1;ext
def KW(h:m e S=.ok (.ref n) S1)(hs:S1[n]?=some (.ins C fs))(l:fs.lookup f=some v):D3 C f m e S=.ok v S1:=by
 unfold D3;ext
def cb(h:ml e S=.ok l S1)(m:l.length+1=n)(hf:f (.ref S1.length :: l) (S1++[.ins C []])=.ok .non S2):RS C n f ml e S=.ok (.ref S1.length) S2:=by
 unfold RS;ext
def C0(h:m e S=.ok d S1)(o:r e S1=.ok l S2):AO m r e S=.ok (d :: l) S2:=by
 unfold AO;ext
def SW(h:mi e S=.ok v S1):DI n mi g c m e S=Gz v g c m (D0 v S1) 0 (Bs n none++e) S1 []:=by
 unfold DI;rw[h];rfl
def Vp(h:m e S=.ok (.bl b) S1):mB m e S=.ok b S1:=by
 unfold mB;rw[h];rfl
def rJ(C:ma e S=.ok x S1)(hb:l e S1=.ok y m)(hf:f x y m=.ok (.bl true) o)(E:A e o=.ok w B)(G:g y w B=.ok d S5):m3 f g ma l A e S=.ok d S5:=by
 unfold m3;ext
def xi(o:ma e S=.ok x S1)(hb:l e S1=.ok y m)(hf:f x y m=.ok (.bl false) S3):m3 f g ma l A e S=.ok (.bl false) S3:=by
 unfold m3;ext
def kH(h:decide (i<=j)=b):leD (.int i) (.int j) S=.ok (.bl b) S:=by subst h;rfl
def uW(h:decide (i < j)=b):ltD (.int i) (.int j) S=.ok (.bl b) S:=by subst h;rfl
def vD(h:decide (j<=i)=b):geD (.int i) (.int j) S=.ok (.bl b) S:=by subst h;rfl
def vM(h:decide (i=j)=b):eqD false (.int i) (.int j) S=.ok (.bl b) S:=by
 subst h;rfl
def OY(h:m e S=.ok b S1):Oa m e S=.ok (!b) S1:=by
 unfold Oa;rw[h];rfl
def ir(h:ml e S=.ok l S1)(m:l.length<=1000):Ix ml e S=.ok (.tup l) S1:=by
 unfold Ix;rw[h];dsimp only[Res.bind];rw[qX (Al m (by decide))]
def uB(h:l e S=.ok false S1):mOr l m e S=m e S1:=by
 unfold mOr;rw[h];rfl
def X1(h:l e S=.ok true S1):Rt l m e S=m e S1:=by
 unfold Rt;rw[h];rfl
def dc(h:l e S=.ok false S1):Rt l m e S=.ok false S1:=by
 unfold Rt;rw[h];rfl
def w9(h:m e S=.ok d S1)(o:Ga d S1=some l):Mr m e S=.ok l S1:=by
 unfold Mr;ext
def fM(h:ml e S=.ok l S1)(hf:f l S1=.ok d S2):mQ f ml e S=.ok d S2:=by
 unfold mQ;ext
def Mt(h:S[n]?=some (.lst ds)):Od (.ref n) S=some ds:=by
 unfold Od;ext
noncomputable def pickG{α:Type}(xs:List α)(lo hi st:Option Int):List α:=(sliceRange (mO lo hi st xs.length).1 (mO lo hi st xs.length).2.1 (mO lo hi st xs.length).2.2).filterMap (xs[·]?)
def fP{l m:Type}(f:l->m)(xs:List l)(lo hi st:Option Int):pickG (xs.map f) lo hi st=(pickG xs lo hi st).map f:=by
 unfold pickG
 grind
def N8(l:List AG)(lo hi st:Option Int):slicePick l.toArray lo hi st=(pickG l lo hi st).toArray:=by
 unfold slicePick pickG;ext
theorem Bk.pickIx(r:Bk xs us):∀is:List Nat,Bk (is.filterMap (xs[·]?)) (is.filterMap (us[·]?))
 | []=>.nil
 | i :: is=>by
  have o:=Bk.pickIx r is
  cases l:xs[i]? with
  | none=>
   have m:us[i]?=none:=by
    rw[Wt]at l ⊢;rw[<-r.length];exact l
   ext
  | some x=>
   obtain⟨u,m,A⟩:=r.get l;rw[Ez (by simpa using l),Ez (by simpa using m)];exact .cons A o
def Bk.pickG(r:Bk xs us)(lo hi st:Option Int):Bk (L2.pickG xs lo hi st) (L2.pickG us lo hi st):=by
 unfold L2.pickG;rw[r.length];exact r.pickIx _
theorem Av.pickIx{K}{ρ}{H}{m}{vs}(r:Av K ρ H m vs):∀is:List Nat,Av K ρ H (is.filterMap (m[·]?)) (is.filterMap (vs[·]?))
 | []=>.nil
 | i :: is=>by
  have A:=Av.pickIx r is
  cases l:m[i]? with
  | none=>
   have o:vs[i]?=none:=by
    rw[Wt]at l ⊢;rw[<-r.length];exact l
   ext
  | some x=>
   obtain⟨u,o,B⟩:=r.get l;rw[Ez (by simpa using l),Ez (by simpa using o)];exact .cons B A
def Av.pickG{K}{ρ}{H}{l}{vs}(r:Av K ρ H l vs)(lo hi st:Option Int):Av K ρ H (L2.pickG l lo hi st) (L2.pickG vs lo hi st):=by
 unfold L2.pickG;rw[r.length];exact r.pickIx _
section
variable{X:Cx}{E:EW}{e st:Expr}{te:TE}{lo hi:Option Expr}{tl th ts:TO}{pos p2:Pos}{m:ME}{ml mh ms:MO}
def tSlS(K:AI)(te:TE)(tl th ts:TO):TE:=λo H Q=>te o H λx C=>tl o C λl G=>th o G λu I=>ts o I λc A=>
 ∃a B,x=.ref a/\SqL K A a B/\c≠some 0/\∀p,A p=none->Q (.ref p) (upd A p (.lst (pickG B l u c)))
def fS(S:PE X e te)(T:PO X lo tl)(U:PO X hi th)(Y:PO X (some st) ts):PE X (.Subscript e (.Slice lo hi (some st) p2) pos) (tSlS X.K te tl th ts):=by
 intro A s B H Q I h;refine Z5 (thn (S A s B H _ I h) ?_);rintro v Z ⟨x,H1,I1,r1,q1⟩;refine wpAny_Slice (thn (T A Z B H1 _ I1 q1) ?_);rintro vl s2 ⟨l,H2,I2,pl,q2⟩;refine thn (U A s2 B H2 _ I2 q2) ?_;rintro vu o ⟨u,G,J,pu,L⟩
 refine thn (Y A o B G _ J L) ?_;rintro vc o ⟨c,G,J,pc,L⟩
 have N:Inv X A B G { o with heap:=o.heap.push { cls:=.type "slice",data:=.fields #[vl,vu,vc] } }:=J.kept (t':=o.toks) λb ob q=>AE _ q
 obtain⟨a,P,rfl,hx,hc,q⟩:=L;cases r1;obtain⟨my,r,R,hz⟩:=N.list hx;refine tail_any R.isList.typeIs vm.lookup ?_ (by with_unfolding_all rfl);have C:=r.length;refine wpAny_getItem_list_slice R.isList (Uv ..) pl pu pc hc ?_ (by ext);rw[N8]
 have O:(pickG P l u c).length<=P.length:=by
  have:=slicePick_size_le my.toArray l u c;rw[N8,BR,BR,<-(r.pickG l u c).length,<-C]at this;exact this
 refine⟨.ref _,_,N.laid (t':=o.toks) (λb ob q=>AE _ q) (AJ _) ?_,rfl,q _ (N.hok.fresh (AJ _))⟩;exact⟨Al O hz,_,0,r.pickG l u c,AS _ rfl⟩
def SJ(m:ME)(ml mh ms:MO):ME:=λe S=>(m e S).bind λd o=>(ml e o).bind λlo A=>(mh e A).bind λhi B=>(ms e B).bind λst l=>match Od d l with
 | some C=>if st=some 0 then .bad else .ok (.ref l.length) (l++[.lst (pickG C lo hi st)])
 | none=>.bad
def gJ(he:GE X E e m)(B:GO X E lo ml)(hu:GO X E hi mh)(zx:GO X E (some st) ms):GE X E (.Subscript e (.Slice lo hi (some st) p2) pos) (SJ m ml mh ms):=(fS he B hu zx).imp<|by
 rintro σ H Q ⟨ρ,l,S,B,hs,A⟩
 refine⟨ρ,l,S,B,hs,A.seq λd S1 A N H1 x G s1 r1=>⟨N,l,S1,B.mono G,s1,(A.later G).seq λlo S2 A O H2 I s2=>⟨O,l,S2,B.mono (G.trans I),s2,(A.later I).seq λhi S3 A P H3 L s3=>⟨P,l,S3,B.mono (G.trans (I.trans L)),s3,(A.later L).seq λst S4 A J T U Y=>?_⟩⟩⟩⟩;have r4:=r1.mono (I.trans (L.trans U))
 cases C:Od d S4 with
 | none=>rw[C]at A;exact A.elim
 | some ds=>
  rw[C]at A;dsimp only at A;split at A
  ·exact A.elim
  ·rename_i hc
   obtain⟨p,Z,rfl,rr,sq⟩:=J4 Y r4 C;refine⟨p,Z,rfl,sq,hc,λq C=>?_⟩;have le:Le X.K J T (J++[q]) (upd T q (.lst (pickG Z lo hi st))):=Le.alloc C;obtain⟨s5,l5,R⟩:=Y.alloc (o:=.lst (pickG ds lo hi st)) C ⟨_,Bz,(rr.pickG lo hi st).mono le⟩;exact A _ _ _ (G.trans (I.trans (L.trans (U.trans l5)))) s5 (.ref R)
end
section
variable{X:Cx}{E:EW}{e:Expr}{p pos:Pos}{m:ME}
def kB(m:ME):ME:=λe S=>(m e S).bind λd l=>match d with
 | .int i=>.ok (.int i) l
 | .bl k=>.ok (.int (if k then 1 else 0)) l
 | _=>.bad
def dE(L:Gl X "int") (o:X.mg "int" = none) (h:GE X E e m) (B:AW [e] X.env=(false,CO e X.env) :: AW [] X.env:=by rfl):GE X E (.Call (.Name "int" p) [e] [] pos) (kB m):=
 (Qe gi L o yj (Fy h IG B) (by decide) (by decide) B rfl).imp<|by
 rintro R H Q ⟨N,l,S,O,P,o⟩
 refine⟨N,l,S,O,P,o.seq λd T o A C x G I J=>?_⟩
 cases d <;> first | exact o.elim | skip
 ·cases J
  exact .inr ⟨_,rfl,o A C _ G I (.int _)⟩
 ·cases J
  exact .inl ⟨_,rfl,o A C _ G I (.int _)⟩
end
end L2
namespace PySem
open PySem.Sem (wp)
def Mq(l:AU)(items:Array AG)(n:Nat)(o:Option AU)(sl:Array (Option AG)) :
  Meets (Builtin.«enumerate.__new__» ⟨[.type "enumerate",.ref l],[]⟩) (λ_ R s=>s.heap.get? l=some { cls:=.type "tuple",dict:=o,data:=.seq items n,slots:=sl } /\
   R (.ok (.ret (.ref (s.heap.push { cls:=.type "tuple_iterator",data:=.fields #[.ref l,.int 0 0] }).objs.size)))
    { s with heap:=(s.heap.push { cls:=.type "tuple_iterator",data:=.fields #[.ref l,.int 0 0] }).push { cls:=.type "enumerate",data:=.fields #[.none,.bool false,.ref s.heap.objs.size,OO 0,.none,.none] } }):=
 .of_wp λC w A R s h=>by
  obtain⟨E,g,d,G,os⟩:=s;obtain⟨m,h⟩:=h;have H:=sub_enumerate;have B:B0.IsTuple (AK.heap ⟨E,g,d,G,os⟩) l items:=⟨_,m,rfl,n,rfl⟩
  wp_walk using GX m
  refine wpAny_stack_any λst=>AD ?_
  split
  ·rename_i c _ _ _ _ _
   cases(c==G4 "enumerate")
   ·wp_walk using GX m,Hy B
    exact⟨_,rfl,h⟩
   ·wp_walk using GX m,Hy B
    exact⟨_,rfl,h⟩
  ·wp_walk using GX m,Hy B
   exact⟨_,rfl,h⟩
section
variable{w:Bo}{A:Bg}{E:AG->AK->Prop}{s:AK}
def NE(J:s.heap.IsTuple l m)
  (h:∀h',Wu h' (s.heap.objs.size+1) s.heap.objs.size 0 .none->h'.IsTupleIter s.heap.objs.size l 0->h'.objs.size=s.heap.objs.size+2 ->
   (∀b o,s.heap.get? b=some o->h'.get? b=some o)->Q (.ref (s.heap.objs.size+1)) { s with heap:=h' }) :
  Ak (Ac prog w) A (call (.type "enumerate") [.ref l]) Q E s:=by
 obtain⟨⟨c,B,L,sl⟩,N,C,n,G⟩:=J
 replace C:c=.type "tuple":=C
 replace G:L=.seq m n:=G
 subst C G
 refine callType_new F.called_enumerate (by decide) (F.typeCall_enumerate_1 _) (F.newCall_enumerate_1 _) (λobj=>F.args_object_init_2 obj _) F.entry_enumerate_new
  (Mq l m n B sl) ⟨N,?_⟩
 have H:(s.heap.push { cls:=.type "tuple_iterator",data:=.fields #[.ref l,.int 0 0] }).objs.size=s.heap.objs.size+1:=DJ ..;rw[H]
 have I:Wu ((s.heap.push { cls:=.type "tuple_iterator",data:=.fields #[.ref l,.int 0 0] }).push
   { cls:=.type "enumerate",data:=.fields #[.none,.bool false,.ref s.heap.objs.size,OO 0,.none,.none] }) (s.heap.objs.size+1) s.heap.objs.size 0 .none:=by
  have:=AS (s.heap.push { cls:=.type "tuple_iterator",data:=.fields #[.ref l,.int 0 0] })
   (o:={ cls:=.type "enumerate",data:=.fields #[.none,.bool false,.ref s.heap.objs.size,OO 0,.none,.none] }) rfl
  rw[H]at this;exact this
 refine⟨⟨_,I,rfl⟩,h _ I ⟨_,AE _ (AS _ rfl),rfl,rfl⟩ (by ext) λb o x=>AE _ (AE _ x)⟩
def Pk{it t}{i}{l}{x}{Q}(m:s.heap.IsTupleIter it t i)
  (I:s.heap.IsTuple t l) (J:l[i]?=some x)
  (L:∀h',h'.IsTupleIter it t (i+1)->EG it s.heap h'->Q x { s with heap:=h' }) :
  Ak (Ac prog w) A (FF (.ref it)) Q E s:=by
 obtain⟨o,C,N,B⟩:=id m;obtain⟨O,G,_,P,H⟩:=I;unfold FF
 refine AA (Bn m.typeIs GY
  (Bl GY m.typeIs YE ?_ (Wx _)))
 show Ak _ _ (field (.ref it) 0 >>= _) _ _ s;refine AA (IL C B rfl ?_);show Ak _ _ (if (BB t==Dq)=true then _ else _) _ _ s;rw[qY (show ¬((BB t==Dq)=true)from Ab)];refine AA (IL C B rfl ?_);refine AA (Iq G H ?_);simp only[As,J];refine AA (Ip C B (by simp) (AD ⟨x,rfl,AD (L _ ?_ (CM ..))⟩))
 exact⟨_,Cz _ C (bw (KH B _)),(mE ..).trans N,by
  rw[KH B];simp[OO]⟩
def Kz{it t}{i}{l}{Q}(I:A.handled=none)
  (m:s.heap.IsTupleIter it t i) (J:s.heap.IsTuple t l) (L:l[i]?=none)
  (N:∀h' e,N2 it s.heap h'->(∃o,h'.get? e=some o/\o.cls=.type "StopIteration")->E (.ref e) { s with heap:=h' }) :
  Ak (Ac prog w) A (FF (.ref it)) Q E s:=by
 obtain⟨o,B,O,C⟩:=id m;obtain⟨P,G,_,R,H⟩:=J;unfold FF
 refine AA (Bn m.typeIs GY
  (Bl GY m.typeIs YE ?_ (Wx _)))
 show Ak _ _ (field (.ref it) 0 >>= _) _ _ s;refine AA (IL B C rfl ?_);show Ak _ _ (if (BB t==Dq)=true then _ else _) _ _ s;rw[qY (show ¬((BB t==Dq)=true)from Ab)];refine AA (IL B C rfl ?_);refine AA (Iq G H ?_);simp only[As,L];refine AA (SY (AA (Ip B C (by simp) ?_)));refine AA ?_;refine AA (BW ?_ (by size_fits));refine AA (MA (by first | rfl | (simp only[QD];rfl)) ?_);refine BW ?_ (by size_fits);refine AA (Rz ?_)
 first | rw[show A.in1.handled=none from I] | rw[I]
 refine AA (AD (X5 ?_));exact N _ _ (((CM ..).extBut.push _).push _) ⟨_,AS _ rfl,rfl⟩
def Zj(J:A.handled=none)(it l:AU)(L:l≠it)(m:Array AG) :
  Draws prog w A it [it,l] m.size (λi v=>m[i]?=some v) (λi h=>h.IsTupleIter it l i/\h.IsTuple l m) where
 live:=λ_ _ st=>let ⟨o,G,_⟩:=st.1;⟨o,G⟩
 frame:=λ_ _ _ st H=>⟨st.1.at λo e=>H it (by simp) o e,let ⟨o,G,r⟩:=st.2;⟨o,H l (by simp) o G,r⟩⟩
 item:=λi s Q E I st N=>by
  refine Pk st.1 st.2 (x:=m[i]) (by simp[I]) λO B C=>?_
  exact N _ O s.toks (by simp[I]) ⟨B,st.2.extBut C.extBut L⟩ C
 done:=λs Q E st P=>Kz J st.1 st.2 (by simp) P
def No{e it l:AU}{i:Nat}{m:Array AG}{B:AG}{Q:Option AG->AK->Prop}(J:A.handled=none)
  (H:Wu s.heap e it i B) (C:s.heap.IsTupleIter it l i) (L:s.heap.IsTuple l m) (N:m[i]?=none)
  (O:∀h',N2 it s.heap h'->Q none { s with heap:=h' }):Ak (Ac prog w) A (HB (.ref e)) Q E s:=by
 have I:s.TypeIs (.ref e) "enumerate":=⟨_,H,rfl⟩;unfold HB
 refine AA (GC (Bn I hW
  (Bl hW I F.entry_enumerate_next ?_ (F.args_enumerate_next_1 _))))
 show Ak _ _ (field (.ref e) 2 >>= _) _ _ _;refine AA (IL H rfl rfl ?_);refine AA (Kz J C L N λh' x G ϩ=>?_);obtain⟨o,P,R⟩:=ϩ;refine AA (JP ⟨o,P,R⟩ QC ?_);exact AD (O _ G)
end
end PySem
namespace L2
def Inv.turned2(I:Inv X E L H s)(k:∀b u,b≠e->b≠it->s.heap.get? b=some u->h'.get? b=some u)
  (A:Oq X E H e) (B:Oq X E H it) (J:s.heap.objs.size<=a) (new:E9 X.prog X.w (upd H a o) h' a o):Inv X E L (upd H a o) { s with heap:=h',toks:=t' }:=by
 have C:=I.hok.fresh J
 have N:∀b u,H b=some u->b≠e/\b≠it:=λb u q=>⟨λz=>(by rw[z,A.1]at q;cases q),λz=>(by rw[z,B.1]at q;cases q)⟩
 have out:∀b:AU,b∉[e,it]->b≠e/\b≠it:=λb hb=>⟨λz=>hb (by simp[z]),λz=>hb (by simp[z])⟩
 refine I.step (g':=s.gens) (d':=s.drawn) (λb hb=>?_) (λb o _ _ l q _=>k b o (out b l).1 (out b l).2 q) (λb o _ _ l q _=>⟨o.slots,k b o (out b l).1 (out b l).2 q⟩) (λb o _ q n=>?_)
  (λb o l q=>⟨o,k b o (out b l).1 (out b l).2 q⟩) (λb O q=>by rw[Bi (DU q C)];exact q) (λb o u q=>by rw[Bi (DU q C)];exact q) (λb T q=>⟨#[],by rw[Bi (DU q C),q];simp⟩) (λm P=>?_) (λb u q=>?_) I.bare
 ·have G:b=e∨b=it:=by simpa using hb
  rcases G with z | z
  ·subst z;exact⟨A.2.2.2.1,A.2.1,A.2.2.2.2.1,A.2.2.2.2.2⟩
  ·subst z;exact⟨B.2.2.2.1,B.2.1,B.2.2.2.2.1,B.2.2.2.2.2⟩
 ·rw[Bi (Au (AR (Aa q) J))];exact n
 ·obtain⟨o,Q,R,S,r⟩:=P
  exact⟨o,Q,R,k _ o (Bw A.2.1) (Bw B.2.1) S,r⟩
 ·by_cases hb:b=a
  ·subst hb;rw[Bz]at q;ext
  ·rw[Bi hb]at q
   refine(I.hok b u q).stay (λc v l r=>?_) (λc r=>by rw[Bi (DU r C)];exact r) λc O r=>by rw[Bi (DU r C)];exact r
   grind
noncomputable def Ite(sq:Hp->List V->Prop):It:=
 ⟨λi H=>∃l x,sq H l/\l[i]?=some x,λi H y m=>∃p x,H p=none/\y=.ref p/\m=upd H p (.tup [.int i,x])/\∀l,sq H l->l[i]?=some x,λi H=>∃l,sq H l/\l.length<=i⟩
section
variable{P:BN}{w:Bo}{K:AI}{elts:List Expr}{x1:Nat}{pos:Pos}
def WW{X:Cx}{G:List (AU×Obj)}{O:St}{H:Hp}{s:AK}{E:AG->AK->Prop}{sq:Hp->List V->Prop}{e it:AU}{i:Nat}{x:V}{u:AG}{B:Nat}{h':B0}{tn:Nat->B0->Prop}
  (I:Inv X G O H s) (za:e≠it) (hf:∀b∈[e,it],Oq X G H b) (le:e < s.heap.objs.size) (T:it < s.heap.objs.size) (U:RelV x u) (Y:∀xs,sq H xs->xs[i]?=some x)
  (ho:IsEnumOut h' e it ((i:Int)+1) u s.heap.objs.size) (Q:h'.get? s.heap.objs.size=some { cls:=.type "tuple",data:=.seq #[.int i B,u] }) (Z:∀b o,b≠e->b≠it->s.heap.get? b=some o->h'.get? b=some o)
  (ht:∀C,EG e h' C->(∃J,Wu C e it ((i+1:Nat):Int) J)->tn (i+1) C) :
  Ak (Ac X.prog X.w) X.A (Ou (.Tuple elts x1 pos) (.ref e) (.ref s.heap.objs.size)) (λ_ R=>∃y L,Inv X G O L R/\RelV y (.ref s.heap.objs.size)/\(Ite sq).yld i H y L/\tn (i+1) R.heap/\∀b∈[e,it],L b=none) E { s with heap:=h',toks:=B+1 }:=by
 have m:=hf e (by simp);have S:=hf it (by simp);have ne:=Au le;have ni:=Au T
 have new:E9 X.prog X.w (upd H s.heap.objs.size (.tup [.int i,x])) h' s.heap.objs.size (.tup [.int i,x]):=
  ⟨⟨Al (show 2<=1000 by decide) (by decide),_,Q,rfl⟩,[.int i B,u],.cons ⟨B,rfl⟩ (.cons U .nil),_,Q,rfl,_,rfl⟩
 have I1:=I.turned2 (t':=B+1) Z m S (AJ _) new
 refine wpAny_letOwnedTupleGo_enum ho λC Ϫ zB=>?_
 have l:=zB;have I2:=I1.turned (t':=B+1) (h':=C) (λb o hb q=>(l.2 b hb).trans q) (by rw[Bi ne];exact m.1) m.2.1 m.2.2.2.1 m.2.2.2.2.1 m.2.2.2.2.2;refine⟨.ref s.heap.objs.size,_,I2,rfl,⟨s.heap.objs.size,x,I.hok.fresh (AJ _),rfl,rfl,Y⟩,ht C l ⟨u,by assumption⟩,λb hb=>?_⟩
 have N:b=e∨b=it:=by simpa using hb
 rcases N with z | z
 ·rw[z,Bi ne];exact m.1
 ·rw[z,Bi ni];exact S.1
def aQ(a e it:AU)(G:e≠it):Vl P w K (.Tuple elts x1 pos) (Ite λH xs=>SqL K H a xs) [e,it] e (λi h=>(∃l,Wu h e it i l)/\h.IsListIter it a i) where
 mem:=by simp
 obj:=λi h st b hb=>by
  have J:b=e∨b=it:=by simpa using hb
  rcases J with z | z
  ·grind
  ·subst z
   obtain⟨_,o,e,c,d⟩:=st
   grind
 keep:=λi h T st k=>⟨st.1.imp λl A=>k e (by simp) _ A,st.2.at λo q=>k it (by simp) o q⟩
 item:=by
  intro X L hw N U i Y s Z H E I O st Q;subst L hw N;obtain⟨xs,x,C,R⟩:=Q;obtain⟨my,S,p,hz⟩:=I.list C;obtain⟨u,hu,ru⟩:=S.get R;obtain⟨⟨l,A⟩,m⟩:=st
  have li:it < s.heap.objs.size:=by obtain⟨o,q,_⟩:=m;exact Aa q
  refine wpAny_pyNext_enum_item A m p.isList (by simpa using hu) G λT ho B hT hsz hk=>?_
  exact⟨_,rfl,WW (tn:=λi h=>(∃l,Wu h e it i l)/\h.IsListIter it a i) I G O (Aa A) li ru (λys hy=>by rw[I.list_inj hy C];exact R) ho hT hk λh2 zB Ϫ=>⟨Ϫ,B.at λo q=>(zB.2 it (Bw G)).trans q⟩⟩
 done:=by
  intro X L hw N U i Y s Z H E I O st Q;subst L hw N;obtain⟨xs,C,R⟩:=Q;obtain⟨my,S,p,hz⟩:=I.list C;obtain⟨⟨l,A⟩,m⟩:=st;obtain⟨f0,f1,f2,f3,f4,f5⟩:=O it (by simp);have hl:=S.length
  exact wpAny_pyNext_enum_end (I.ok.hd U) A m p.isList (by simp;lia) λT eb=>⟨rfl,I.turned (t':=s.toks) (λb o hb e=>eb b o hb e) f0 f1 f3 f4 f5⟩
 self:=λ_ _ _ _ _ st h=>by
  obtain⟨⟨l,A⟩,_⟩:=st;exact L9 A h
def aP(a e it:AU)(N:e≠it)(O:a≠it)(hef:e≠a):Vl P w K (.Tuple elts x1 pos) (Ite λH xs=>SqT K H a xs) [e,it] e (λi h=>(∃l,Wu h e it i l)/\h.IsTupleIter it a i) where
 mem:=by simp
 obj:=λi h st b hb=>by
  have Q:b=e∨b=it:=by simpa using hb
  rcases Q with z | z
  ·grind
  ·subst z
   obtain⟨_,o,e,c,d⟩:=st
   grind
 keep:=λi h h' st k=>⟨st.1.imp λl B=>k e (by simp) _ B,st.2.at λo q=>k it (by simp) o q⟩
 item:=by
  intro X R hw S T i ζ s σ H E I U st Y;subst R hw S;obtain⟨xs,x,J,Z⟩:=Y;obtain⟨L,rv,p,hz⟩:=I.tuple J;have p':=p;obtain⟨u,hu,ru⟩:=rv.get Z
  have yw:i < L.toArray.size:=by
   have:=(AB.mp hu).1;simpa using this
  obtain⟨⟨l,B⟩,m⟩:=st
  have li:it < s.heap.objs.size:=by obtain⟨o,q,_⟩:=m;exact Aa q
  refine wpAny_pyNext_enum_itemD (Zj (A:=X.A.in1) (I.ok.hd T) it a O L.toArray) B ⟨m,p'⟩ yw N (by ext) λu' h' tk hu' ho C hT hsz hk=>?_
  have:u'=u:=by
   have G:L[i]?=some u':=by simpa using hu'
   rw[hu]at G;cases G;rfl
  subst this;exact⟨_,rfl,WW (tn:=λi h=>(∃l,Wu h e it i l)/\h.IsTupleIter it a i) I N U (Aa B) li ru (λys hy=>by rw[I.tuple_inj hy J];exact Z) ho hT hk λh2 zB Ϫ=>⟨Ϫ,C.1.at λo q=>(zB.2 it (Bw N)).trans q⟩⟩
 done:=by
  intro X R hw S T i ζ s σ H E I U st Y;subst R hw S;obtain⟨xs,J,Z⟩:=Y;obtain⟨L,rv,p,hz⟩:=I.tuple J;obtain⟨⟨l,B⟩,m⟩:=st;obtain⟨f0,f1,f2,f3,f4,f5⟩:=U it (by simp);have hl:=rv.length
  exact No (I.ok.hd T) B m (p) (by simp;lia) λh' eb=>⟨rfl,I.turned (t':=s.toks) (λb o hb e=>eb b o hb e) f0 f1 f3 f4 f5⟩
 self:=λ_ _ _ _ _ st h=>by
  obtain⟨⟨l,B⟩,_⟩:=st;exact L9 B h
end
section
variable{X:Cx}{E:EW}{e:Expr}{elts:List Expr}{x1:Nat}{p pos ptg:Pos}{ta:TA}
def yA(K:AI)(ta:TA):TI:=λo H R=>ta o H λA m=>∃a,A=[.ref a]/\(((∃l,SqL K m a l)/\R (Ite λH l=>SqL K H a l) m)∨((∃l,SqT K m a l)/\R (Ite λH l=>SqT K H a l) m))
def ou(U:Gl X "enumerate") (Y:X.mg "enumerate" = none) (Z:PA X [e] ta) (hs:AW [e] X.env=[(false,CO e X.env)]:=by rfl):PI X (.Tuple elts x1 ptg) (.Call (.Name "enumerate" p) [e] [] pos) (yA X.K ta):=by
 intro Q s σ H R I h;refine Call_ (Mu I U Y boot_enumerate (Cy (thn (Z pos Q s σ H _ I h) ?_) hs rfl));rintro us l ⟨vs,G,m,r1,J⟩;obtain⟨a,rfl,J⟩:=J;obtain⟨u,rfl,ru⟩:=vals1 r1;cases ru
 have S:∀{h':B0} (b:AU),b∈[l.heap.objs.size+1,l.heap.objs.size]->Oq X Q G b:=λb hb=>by
  have L:b=l.heap.objs.size+1∨b=l.heap.objs.size:=by simpa using hb
  rcases L with z | z
  ·rw[z];exact m.fpOk (Ut _) (m.hok.fresh (Ut _))
  ·rw[z];exact m.fpOk (AJ _) (m.hok.fresh (AJ _))
 rcases J with⟨⟨xs,sq⟩,q⟩ | ⟨⟨xs,sq⟩,q⟩
 ·obtain⟨my,rv,N,hz⟩:=m.list sq
  refine call_enumerate_list N.isList λh' B A O P=>L9 B ?_
  exact⟨_,[l.heap.objs.size+1,l.heap.objs.size],_,_,G,rfl,m.kept (t':=l.toks) P,aQ a _ _ (mX _),⟨⟨_,B⟩,A⟩,S (h':=h'),q⟩
 ·obtain⟨my,rv,N,hz⟩:=m.tuple sq
  have C:=N
  have T:a < l.heap.objs.size:=by obtain⟨o,q,_⟩:=C;exact Aa q
  refine NE C λh' B A O P=>L9 B ?_
  exact⟨_,[l.heap.objs.size+1,l.heap.objs.size],_,_,G,rfl,m.kept (t':=l.toks) P,aP a _ _ (mX _) (Au T) (EM (Ey T)),⟨⟨_,B⟩,A⟩,S (h':=h'),q⟩
noncomputable def UV(l:List D):List D:=l.zipIdx.map λx=>.tup [.int x.2,x.1]
def RA(v:P4):P4:=λS=>(v S).map UV
def Mw(m:ME):MI:=λe S=>(m e S).bind λd l=>match Hr d l with
 | some _=>.ok (RA (Hr d)) l
 | none=>.bad
def UU(l:List D)(i:Nat):(UV l)[i]?=(l[i]?).map λd=>.tup [.int i,d]:=by
 unfold UV;rw[AX,N1]
 cases l[i]? <;> simp
def Q7{K}{ρ}{H}{J}{v}{sq}(O:NO K ρ H J v)(P:∀i H,J.go i H->∃xs x,sq H xs/\xs[i]?=some x)(Q:∀i H,J.stop i H->∃xs,sq H xs/\xs.length<=i)
  (R:∀i H x,(∀xs,sq H xs->xs[i]?=some x)->J.yld i H x H):NO K ρ H (Ite sq) (RA v):=by
 intro A m S ds i l s B;unfold RA at B
 cases I:v S with
 | none=>ext
 | some o=>
  rw[I]at B;cases B;obtain⟨T,U⟩:=O A m S o i l s I;refine⟨λY=>?_,λd C=>?_⟩
  ·rw[UU]at Y
   refine Q i m (T ?_);ext
  ·rw[UU]at C
   cases L:o[i]? with
   | none=>ext
   | some Z=>
    rw[L]at C;cases C;obtain⟨b1,b2⟩:=U Z L;refine⟨P i m b1,λy H' hy=>?_⟩;obtain⟨p,x,hp,rfl,rfl,hx⟩:=hy;obtain⟨G,l3,s3,r3⟩:=b2 x m (R i m x hx);obtain⟨s4,N⟩:=JH s3 hp;exact⟨G,l3.trans N,s4,.tup Bz (.cons (.int _) (.cons (r3.mono N) .nil))⟩
def dB(P:Gl X "enumerate") (o:X.mg "enumerate" = none) (h:GE X E e m) (J:AW [e] X.env=[(false,CO e X.env)]:=by rfl):GI X E (.Tuple elts x1 ptg) (.Call (.Name "enumerate" p) [e] [] pos) (Mw m):=
 (ou P o (Fy h IG J) J).imp<|by
 rintro σ H R ⟨Q,l,S,T,U,o⟩
 refine⟨Q,l,S,T,U,o.seq λd Y o A L x N G B=>?_⟩
 cases d with
 | tup Z=>
  have I:=o
  cases B with
  | @tup _ a vs O q2=>
   exact⟨a,rfl,.inr ⟨⟨vs,.inl (.inl O)⟩,I A L _ N G (Q7 (Su O q2) (λi H z=>z) (λi H z=>z) λi H x z=>⟨rfl,z⟩)⟩⟩
 | _=>
  cases C:Hr _ Y with
  | none=>rw[C]at o;exact o.elim
  | some Z=>
   rw[C]at o
   have:∃a,x=.ref a:=by
    cases B <;> first | exact⟨_,rfl⟩ | (cases C;done)
   obtain⟨a,rfl⟩:=this;obtain⟨xs,sq,_⟩:=Sy G B C;exact⟨a,rfl,.inl ⟨⟨xs,sq⟩,o A L _ N G (Q7 (Sw B) (λi H z=>z) (λi H z=>z) λi H x z=>⟨rfl,z⟩)⟩⟩
end
def JC{l:Type}{xs:List l}{j:Int}{x:l}(m:0<=j)(h:xs[j.toNat]?=some x):atI xs j=some x:=by
 have o:=(AB.mp h).1;unfold atI ixN;ext
def cv(l:Ga d S=some m)(o:0<=j)(h:m[j.toNat]?=some z):ixA d (.int j) S=.ok z S:=by
 show Jc (ixD d (.int j) S) _=_
 have:ixD d (.int j) S=.ok z S:=by
  unfold ixD;rw[l];dsimp only;rw[JC o h]
 rw[this];rfl
def vU{l:Type}(xs:List l){k:Nat}(h:k<=xs.length):Nu xs none (some (k:Int))=xs.take k:=by
 unfold Nu;rw[HT.cQ,HT.Yt,qr h];simp
def lR{l:Type}(xs:List l){k:Nat}(h:k<=xs.length):Nu xs (some (k:Int)) none=xs.drop k:=by
 unfold Nu;rw[HT.cQ,HT.Yt,qr h];exact Cn (by simp)
def ud{m:Type}:∀{l:List m},l.length=1->∃o,l=[o]
 | [a],_=>⟨a,rfl⟩
def xo{o:Type}:∀{l:List o},l.length=2->∃A m,l=[A,m]
 | y :: _,q=>by
  obtain⟨m,rfl⟩:=ud (Ow q)
  lia
def xn{A:Type}:∀{l:List A},l.length=3->∃B m o,l=[B,m,o]
 | y :: _,q=>by
  obtain⟨m,o,rfl⟩:=xo (Ow q)
  lia
def xm{B:Type}:∀{l:List B},l.length=4->∃C m o A,l=[C,m,o,A]
 | y :: _,q=>by
  obtain⟨m,o,A,rfl⟩:=xn (Ow q)
  lia
def len5{C:Type}:∀{l:List C},l.length=5->∃E m o A B,l=[E,m,o,A,B]
 | y :: _,q=>by
  obtain⟨m,o,A,B,rfl⟩:=xm (Ow q)
  lia
section
def Td(i:Nat)(g:Int->Int->Int)(m:ME):MS:=λe S=>match e[i]? with
 | some (some (.int x))=>(m e S).lift e λd l=>match d with
  | .int y=>.ok (.nx (e.set i (some (.int (g x y))))) l
  | _=>.bad
 | _=>.bad
def uz(hN:X.N.Nodup)(hi:X.N[i]?=some x)(I:Loc X.env.scope x)(J:PIp X L (ipI g))(O:GE X E e m)
  (hf:X.fn x=true∨X.env.scope.names.lookup x=some .local:=by first | exact .inl rfl | exact .inr rfl | assumption):GS X E (.AugAssign (.Name x C) L e P) (Td i g m):=(tZ hN hi I O J hf).imp<|by
 rintro D σ H ⟨Q,l,S,A,R,o⟩
 unfold Td at o;split at o
 ·rename_i n T
  obtain⟨v,U,Y⟩:=A.at' i _ T;cases Y;refine⟨_,U,Q,l,S,A,R,o.lift A .refl λd S1 o B Z y G s1 r1=>?_⟩
  cases d with
  | int y=>cases r1;exact⟨n,y,rfl,rfl,o B Z _ G s1 ((A.mono G).set (.int _) i)⟩
  | _=>exact o.elim
 ·exact o.elim
end
noncomputable def Itv(K:AI)(a:AU)(n:Nat):It:=
 ⟨λi H=>∃l x,SqL K H a l/\l.length=n/\l.reverse[i]?=some x,λi H x m=>m=H/\∀l,SqL K H a l->l.reverse[i]?=some x,λi H=>∃l,SqL K H a l/\l.length=n/\n<=i⟩
def iq{P}{w}{K}{tg}(a it:AU)(n:Nat):Vl P w K tg (Itv K a n) [it] it (λi h=>i<=n/\h.IsRevIter it a ((n:Int) - 1 - i)) where
 mem:=by simp
 obj:=λi h st b hb=>by
  have e:b=it:=by simpa using hb
  subst e;obtain⟨_,o,e,c,d⟩:=st;ext
 keep:=λi h U st k=>⟨st.1,st.2.at λo e=>k it (by simp) o e⟩
 item:=by
  intro X A hw B Y i ζ s σ H E I l st C;subst A hw B;obtain⟨Ω,st⟩:=st;obtain⟨G,x,J,Z,m⟩:=C
  have hi:i < n:=by have:=(AB.mp m).1;simpa[Z]using this
  have ϩ:=m;rw[List.getElem?_reverse (by ext)]at ϩ;obtain⟨my,rv,p,hz⟩:=I.list J;obtain⟨u,hu,ru⟩:=rv.get ϩ;obtain⟨L,N,f2,O,Q,R⟩:=l it (by simp)
  have S:(n:Int) - 1 - (i:Int)=((G.length - 1 - i:Nat):Int):=by grind
  rw[S]at st
  refine wpAny_pyNext_rev_item st p.isList (by simpa using hu) λU T sb=>?_
  have I1:=I.turned (t':=s.toks) (λb o hb e=>(sb.2 b hb).trans e) L N O Q R;obtain⟨o,e,c,d⟩:=id T;refine⟨u,rfl,ZT e c d (by decide) ⟨x,H,I1,ru,⟨rfl,λys hy=>by rw[I.list_inj hy J];exact m⟩,⟨hi,?_⟩,λb hb=>(l b hb).1⟩⟩
  have e1:(n:Int) - 1 - ((i+1:Nat):Int)=((G.length - 1 - i:Nat):Int) - 1:=by lia
  ext
 done:=by
  intro X A hw B Y i ζ s σ H E I l st C;subst A hw B;obtain⟨Ω,st⟩:=st;obtain⟨G,J,Z,m⟩:=C;obtain⟨L,N,f2,O,Q,R⟩:=l it (by simp)
  have S:(n:Int) - 1 - (i:Int) = -1:=by lia
  rw[S]at st
  exact wpAny_pyNext_rev_end (I.ok.hd Y) st λU eb=>⟨rfl,I.turned (t':=s.toks) (λb o hb e=>eb b o hb e) L N O Q R⟩
 self:=λ_ _ _ _ _ st h=>mK st.2 h
section
def xx(K:AI)(o:TA):TI:=λA H R=>o A H λB l=>∃a m,B=[.ref a]/\SqL K l a m/\R (Itv K a m.length) l
def tq(E:Gl X "reversed") (G:X.mg "reversed" = none) (J:PA X [e] L) (hs:AW [e] X.env=[(false,CO e X.env)]:=by rfl):PI X tg (.Call (.Name "reversed" p) [e] [] B) (xx X.K L):=by
 intro N s O H R I h;refine Call_ (Mu I E G boot_reversed (Cy (thn (J B N s O H _ I h) ?_) hs rfl));rintro us l ⟨vs,P,A,Q,S⟩;obtain⟨a,C,rfl,sq,q⟩:=S;obtain⟨u,rfl,T⟩:=vals1 Q;cases T;obtain⟨U,Y,Z,hz⟩:=A.list sq;have hl:=Y.length;refine call_reversed_list Z.isList ?_;have m:(l.heap.push (revObj a ((U.toArray.size:Int) - 1))).IsRevIter l.heap.objs.size a ((C.length:Int) - 1 - ((0:Nat):Int)):=⟨_,AS _ rfl,rfl,by simp[revObj,hl]⟩;refine mK m ⟨l.heap.objs.size,[l.heap.objs.size],_,_,P,rfl,A.kept (t':=l.toks) λb o e=>AE _ e,iq a _ C.length,⟨Bu _,m⟩,λb hb=>?_,q⟩
 have e:b=l.heap.objs.size:=by simpa using hb
 subst e;exact A.fpOk (AJ _) (A.hok.fresh (AJ _))
noncomputable def YW(d:D)(n:Nat):P4:=λS=>match Od d S with
 | some l=>if l.length=n then some l.reverse else none
 | none=>none
def cy(m:ME):MI:=λe S=>(m e S).bind λd l=>match Od d l with
 | some o=>.ok (YW d o.length) l
 | none=>.bad
def aF{K}{ρ}{H}{a}{d}{n}(r:CA K ρ H d (.ref a)):NO K ρ H (Itv K a n) (YW d n):=by
 intro o N S O i l s m;unfold YW at m;split at m
 ·rename_i P A
  split at m
  ·rename_i C
   cases m;obtain⟨Q,B,e,E,sq⟩:=J4 s (r.mono l) A;cases e;have R:=E.length;refine⟨λT=>⟨B,sq,by ext,?_⟩,λd I=>?_⟩
   ·ext
   ·obtain⟨x,G,J⟩:=E.reverse.get I
    refine⟨⟨B,x,sq,by lia,G⟩,?_⟩;rintro y U ⟨e,L⟩;subst e;have:=L B sq;rw[G]at this;cases this;exact⟨o,.refl,s,J⟩
  ·cases m
 ·cases m
def u5(J:Gl X "reversed") (o:X.mg "reversed" = none) (h:GE X E e m) (C:AW [e] X.env=[(false,CO e X.env)]:=by rfl):GI X E tg (.Call (.Name "reversed" p) [e] [] L) (cy m):=
 (tq J o (Fy h IG C) C).imp<|by
 rintro σ H R ⟨N,l,S,O,P,o⟩
 refine⟨N,l,S,O,P,o.seq λd Q o A T x U G I=>?_⟩
 cases B:Od d Q with
 | none=>rw[B]at o;exact o.elim
 | some ds=>
  rw[B]at o;obtain⟨a,Y,rfl,Z,sq⟩:=J4 G I B;refine⟨a,Y,rfl,sq,o A T _ U G ?_⟩;rw[<-Z.length];exact aF I
end
def vF{P}{w}{K}{l}{base}{CX}{k n}{f}{fd}{m}:Hh P w K l base CX k f fd m (spM K n λ_ _=>.bad):=
 ⟨by rintro _ _ _ _ ⟨_,_,_,_,_,_,⟨⟩⟩,by rintro _ _ _ _ _ _ _ _ _ _ _ _ _ ⟨_,_,_,_,_,_,⟨⟩⟩⟩
theorem Av.erase{K}{ρ}{H}{l:List D}{vs:List V}(a:Av K ρ H l vs)(k:Nat):Av K ρ H (l.eraseIdx k) (vs.eraseIdx k):=by
 cases a with
 | nil=>exact .nil
 | cons r t=>
  cases k with
  | zero=>exact t
  | succ k=>exact .cons r (Av.erase t k)
end L2
namespace HT
section
variable{E:AG->AK->Prop}
def Pt{t sl}{l}{C G}{lo hi}{Q}(m:mw s.heap t l)(hs:s.heap.IsSliceOf sl C G .none)(pl:QJ C lo)(H:QJ G hi)
  (hw:sIx l.size 0 lo=0/\sIx l.size l.size hi=l.size) (h:Q (.ref t) s):Ak (Ac prog w) A (Ki (.ref t) (.ref sl)) Q E s:=by
 obtain⟨os,I,o,J⟩:=id hs;have B:s.TypeIs (.ref sl) "slice":=⟨os,I,o⟩;unfold Ki
 try with_reducible refine Dp ?_
 first | refine AA (AD ?_) | skip
 refine AA (vi m.typeIs (by decide) (AA (Bn m.typeIs CV
  (Bl CV m.typeIs ql ?_ (rm _ _)))))
 show Ak (Ac prog w) _ (O4 (.ref t) >>= _) _ _ s;refine AA (tupleItemsOf_ m (AA (Kg B ?_)));rw[qX (by decide)];refine AA (Kt hs pl H ?_);show Ak (Ac prog w) _ (if (((sIx l.size 0 lo:Nat):Int)==0&&(1:Int)==1&&(sIx l.size l.size hi - sIx l.size 0 lo)==l.size)=true then _ else _) _ _ s;rw[hw.1,hw.2,qX (by simp)];unfold wT;refine AA (AA (Kg m.typeIs (AD ?_)));rw[qX (by decide)];exact AA (SY (AA (AD (AD ⟨_,rfl,AD h⟩))))
end
end HT
namespace L2
section
variable{X:Cx}
def rSlW(K:AI):V->Option Int->Option Int->Hp->VK->Prop:=λx lo m H Q=>∃a l,x=.ref a/\SqT K H a l/\(HT.sIx l.length 0 lo=0/\HT.sIx l.length l.length m=l.length)/\Q (.ref a) H
def tI:SlR X (rSlW X.K):=by
 intro L s N H x v O P lo R sl Q I o A B C h;obtain⟨a,E,rfl,G,hw,q⟩:=h;cases o;obtain⟨J,r,m,_⟩:=I.tuple G
 have l:J.toArray.size=E.length:=by rw[BR];exact r.length.symm
 exact⟨"tuple",_,CV.lookup,m.typeIs,HT.Pt m A B C (by rw[l];exact hw) ⟨.ref a,H,I,rfl,q⟩⟩
def tG(d:D)(lo hi:Option Int)(S:Sto):Res D:=match d with
 | .tup l=>.ok (.tup (Nu l lo hi)) S
 | _=>.bad
def Pl(m:ME)(ml l:MO):ME:=λe S=>(m e S).bind λd o=>(ml e o).bind λlo A=>(l e A).bind λB C=>okR (tG d lo B C)
variable{E:EW}{e:Expr}{lo hi:Option Expr}{pos p2:Pos}{m:ME}{ml mh:MO}
def qO{l:Type}(xs:List l)(lo hi:Option Int)(h:HT.sIx xs.length 0 lo=0/\HT.sIx xs.length xs.length hi=xs.length):Nu xs lo hi=xs:=by
 unfold Nu
 ext
def WR(T:GE X E e m)(B:GO X E lo ml)(U:GO X E hi mh):GE X E (.Subscript e (.Slice lo hi none p2) pos) (Pl m ml mh):=(jf (tI.or tH) T B U).imp<|by
 rintro σ H Q ⟨Y,l,S,B,Z,o⟩
 refine⟨Y,l,S,B,Z,o.seq λd S1 o I H1 x C s1 r1=>⟨I,l,S1,B.mono C,s1,(o.later C).seq λlo S2 o J H2 G s2=>⟨J,l,S2,B.mono (C.trans G),s2,(o.later G).seq λhi S3 o ρ3 H3 L P=>?_⟩⟩⟩;obtain⟨d',S',e,k⟩:=o.okR;have r3:=r1.mono (G.trans L)
 cases d with
 | tup ds=>
  cases e
  cases r3 with
  | @tup _ a A N O=>
   by_cases hw:HT.sIx A.length 0 lo=0/\HT.sIx A.length A.length hi=A.length
   ·refine .inl ⟨a,A,rfl,.inl (.inl N),hw,k _ _ _ (C.trans (G.trans L)) P ?_⟩
    rw[qO ds lo hi (by rw[O.length];exact hw)];exact .tup N O
   ·refine .inr ⟨a,A,rfl,.inl (.inl N),hw,λq hq=>?_⟩
    obtain⟨s4,R⟩:=JH P hq;exact k _ _ _ (C.trans (G.trans (L.trans R))) s4 (.tup Bz ((lS O lo hi).mono R))
 | _=>cases e
end
section
instance(i j:Int):Decidable ((λ_ j:Int=>0<=j) i j):=inferInstanceAs (Decidable (0<=j))
abbrev Ri:=intOp bq λi j=>.int (i * 2 ^ j.toNat)
abbrev Yo:=intOp (λ_ j=>0<=j) λi j=>.int (i / 2 ^ j.toNat)
abbrev Vk:=intOp (λ_ _=>True) λi j=>.int (Bq i j)
def OW:OpR X (Cw .LShift) (rD X.K Ri):=OX (λ_ _ _ _=>.int _) uE
def aq:OpR X (Cw .RShift) (rD X.K Yo):=OX (λ_ _ _ _=>.int _) uD
def Qh:OpR X (Cw .BitAnd) (rD X.K Vk):=NZ (λ_ _ _ _=>.int _) uJ
def cx:PIp X .BitOr (ipI λi j=>Ck i j):=by
 intro B s C H x y v u Q I l m h;obtain⟨i,j,o,A,q⟩:=h;subst o;subst A;obtain⟨a,rfl⟩:=l;obtain⟨b,rfl⟩:=m;exact ior_int ⟨.int _,H,I.tok _,⟨_,rfl⟩,q⟩
def um:PIp X .BitAnd (ipI λi j=>Bq i j):=by
 intro B s C H x y v u Q I l m h;obtain⟨i,j,o,A,q⟩:=h;subst o;subst A;obtain⟨a,rfl⟩:=l;obtain⟨b,rfl⟩:=m;exact iand_int ⟨.int _,H,I.tok _,⟨_,rfl⟩,q⟩
def ul:PIp X .BitXor (ipI λi j=>E3 i j):=by
 intro B s C H x y v u Q I l m h;obtain⟨i,j,o,A,q⟩:=h;subst o;subst A;obtain⟨a,rfl⟩:=l;obtain⟨b,rfl⟩:=m;exact ixor_int ⟨.int _,H,I.tok _,⟨_,rfl⟩,q⟩
end
def Ms(C:AU)(m:Str)(n:Nat)(f:List D->Sto->Res D)(mo:ME)(ml:ML):ME:=λe S=>(mo e S).bind λd l=>match d with
 | .ref k=>match l[k]? with
  | some (.ins A fs)=>if A=C/\fs.lookup m=none then(ml e l).bind λo B=>if o.length+1=n then f (.ref k :: o) B else .bad else .bad
  | _=>.bad
 | _=>.bad
theorem KVR.none{K}{ρ}{H}(f:Str){x:List (Str×D)}{y:List (Str×V)}(u:KVR K ρ H x y)(h:x.lookup f=none):y.lookup f=none:=by
 induction u with
 | nil=>rfl
 | @cons a b _ _ r t I=>
  obtain⟨g,a⟩:=a;obtain⟨l,A⟩:=r;dsimp only at l A;rw[show b=(b.1,b.2)from rfl,<-l];rw[GV]at h ⊢
  cases m:(f==g)with
  | true=>ext
  | false=>rw[m]at h;exact I h
section
variable{X:Cx}{E:EW}{k n:Nat}{f C:AU}{m:Str}{mo:ME}{ml:ML}{g:List D->Sto->Res D}
def iz{t:TA}{P:St}{H:Hp}{Q:VK}(h:gE X.K E (Ms C m n g mo ml) P H Q):rA C m (spM X.K n g) [] (eD E) (gE X.K E mo) (gA X.K E ml) P H Q:=by
 obtain⟨ρ,l,S,R,hs,o⟩:=h;refine⟨ρ,l,S,R,hs,o.seq λd T o B H1 x G U r1=>?_⟩
 cases d <;> first | exact o.elim | skip
 rename_i q;dsimp only at o
 cases A:T[q]? with
 | none=>rw[A]at o;exact o.elim
 | some ob=>
  rw[A]at o
  cases ob <;> first | exact o.elim | skip
  rename_i C' fs;dsimp only at o;split at o
  ·rename_i I
   obtain⟨I,J⟩:=I;rw[I]at A
   cases r1 with
   | ref Y=>
    obtain⟨dx,Ϣ,e1,e2⟩:=U.ob q _ _ A Y;refine⟨_,dx,Ϣ,rfl,e1,KVR.none m e2 J,B,l,T,R.mono G,U,(o.later G).seq λds S2 o L H2 xs N s2 r2=>?_⟩;split at o
    ·rename_i Z
     rw[Bp];exact⟨L,.ref q :: ds,S2,by omega,.cons (.ref (N.pre _ _ Y)) r2,s2,o.xk N λ_ _ k O H' z l' s' r'=>k O H' z (G.trans (N.trans l')) s' r'⟩
    ·exact o.elim
  ·exact o.elim
def Pu{pl:Sem Bool}(ho:GE X E o mo)(c:Cls X.K C)(I:X4 X.K C m f)(F:Hh X.prog X.w X.K X.mg X.base CX k f fd J (spM X.K n g))(L:Lv CX X (eD E))(N:G7 k X.A)(hb:Binds X.K fd J [])(O:GA X E (e :: es) ml)
  (P:AW (e :: es) X.env=(false,CO e X.env) :: AW es X.env:=by rfl) (R:(E1 l (AW es X.env)).any (·.1)=false:=by rfl)
  (S:CO (.Call (.Attribute o m B) (e :: es) [] l) X.env=(do
   let G <-CO o X.env
   Zm B.atName
   let (f,fts) <-MD [G] (gt G m pl)
   callWith l f fts (E1 l (AW (e :: es) X.env)) (U9 l (MC [] X.env))):=by rfl) :
  GE X E (.Call (.Attribute o m B) (e :: es) [] l) (Ms C m n g mo ml):=
 (pA ho c I F N hb .nil L O P R S).imp λT H Q h=>iz (t:=gA X.K E ml) h
end
section
def xL:V->List V->Hp->VK->Prop:=λx l H Q=>∃i,x=.int i/\l=[]/\Q (.int (Dh i)) H
def pR:MtR X "int.bit_length" xL:=by
 intro o s A H x B v C Q I l m h;obtain⟨i,rfl,rfl,q⟩:=h;obtain⟨t,rfl⟩:=l;cases m;exact call_int_bit_length ⟨.int _,H,I.tok _,⟨_,rfl⟩,q⟩
def cf(m:ME):ME:=λe S=>(m e S).bind λd l=>match d with
 | .int i=>.ok (.int (Dh i)) l
 | _=>.bad
def qA(ho:GE X E o mo)(C:FE o "bit_length" X.env (CO o X.env)=CO o X.env:=by rfl) (G:(m.endLine==I.line)=true:=by rfl) :
  GE X E (.Call (.Attribute o "bit_length" m) [] [] I) (cf mo):=(t9 PySem.F.plainAttrs_int PySem.F.slot_int_bit_length PySem.F.type_int_bit_length pR ho C G).imp<|by
 rintro U H Q ⟨J,l,S,L,N,A⟩
 refine⟨J,l,S,L,N,A.seq λd Y A B O v P R T=>?_⟩
 cases d <;> first | exact A.elim | skip
 cases T;exact⟨rfl,_,rfl,rfl,A B O _ P R (.int _)⟩
end
section
def xI(K:AI):V->V->Hp->VK->Prop:=λo i H Q=>∃p l k z,o=.ref p/\i=.int k/\0<=k/\H p=some (.lst l)/\l[k.toNat]?=some z/\Q z H
def ko:yW X (xI X.K):=by
 intro O s P H o i R S Q I m A h;obtain⟨p,T,k,z,rfl,rfl,B,C,l,q⟩:=h;cases m;obtain⟨t,rfl⟩:=A;obtain⟨E,n,r,G,J⟩:=I.lst C
 obtain⟨u,L,N⟩:∃u,E[k.toNat]?=some u/\RelV z u:=r.get l
 have U:=(AB.mp l).1;have Y:=Ql;exact getItem_listL ⟨_,G,rfl,n,rfl⟩ B (by lia) L ⟨z,H,I,N,q⟩
def Yu(g:Int->Int->Int)(mo mi mv:ME):MS:=λe S=>(mo e S).lift e λd A=>(mi e A).lift e λk l=>match atL d l,k with
 | some (_,B),.int i=>if 0<=i then(match B[i.toNat]? with
  | some (.int x)=>(mv e l).lift e λy m=>match y,atL d m with
   | .int y,some (n,o)=>if i.toNat < o.length then .ok (.nx e) (m.set n (.lst (o.set i.toNat (.int (g x y)))))else .bad
   | _,_=>.bad
  | _=>.bad)else .bad
 | _,_=>.bad
def pp(ho:GE X E o mo)(hi:GE X E i mi)(he:GE X E e mv)(hp:PIp X op (ipI g))
  (ha:∀L N new,augStore i L N new=(do MD [new,L,N] (vn L N new);release [new,L,N] [];pure .next):=by intros;rfl):GS X E (.AugAssign (.Subscript o i tpos) op e pos) (Yu g mo mi mv):=
 (oj ho hi ko he hp jF ha).imp<|by
 rintro D σ H ⟨ρ,l,S,B,hs,m⟩
 refine⟨ρ,l,S,B,hs,m.lift B .refl λd S1 m O H1 x A s1 r1=>⟨O,l,S1,B.mono A,s1,(m.later A).lift (B.mono A) A λk S2 m P H2 y C Z r2=>?_⟩⟩;have G:=r1.mono C;split at m
 ·rename_i n xs i hq
  split at m
  ·rename_i h0
   obtain⟨rfl,h5,a,vs,rfl,hn,e1,rr⟩:=Ol Z G hq;cases r2;split at m
   ·rename_i x hx
    obtain⟨z,hz,rz⟩:=rr.get hx;cases rz;refine⟨a,vs,i,.int x,rfl,rfl,h0,e1,hz,P,l,S2,B.mono (A.trans C),Z,(m.later C).lift (B.mono (A.trans C)) (A.trans C) λy S3 m Q H3 w R s3 r3=>?_⟩;split at m
    ·rename_i y n3 zs T
     split at m
     ·rename_i yw
      cases r3;obtain⟨_,h6,a3,I,e4,U,e3,J⟩:=Ol s3 (G.mono R) T;cases e4;obtain⟨s4,l4⟩:=XM s3 U e3 (J.set (.int (g x y)) i.toNat)
      have Y:ixN I.length i=some i.toNat:=by
       unfold ixN;rw[qX h0,qX (by rw[<-J.length];ext)]
      exact⟨x,y,rfl,rfl,a,I,i,i.toNat,rfl,rfl,e3,Y,m Q _ _ ((A.trans C).trans (R.trans l4)) s4 (B.mono ((A.trans C).trans (R.trans l4)))⟩
     ·exact m.elim
    ·exact m.elim
   ·exact m.elim
  ·exact m.elim
 ·exact m.elim
end
open PySem.SeqAt
section
def uU(l:N.Nodup:=by decide +kernel)(m:∀x∈ps,sc.names.lookup x=some .local∨sc.names.lookup x=some .cell:=by decide +kernel)(o:∀y∈sc.names,y.2≠.free:=by decide +kernel)(A:sc.kind=.function:=by rfl)(B:sc.isCoroutine=false:=by rfl)(C:sc.isGenerator=false:=by rfl)(E:N.take ps.length=ps:=by rfl):KD N ps sc:=⟨A,B,C,l,E,m,o⟩
end
section
variable{X:Cx}{E:EW}{e:Expr}
def DD(i:Nat)(hN:X.N.Nodup)(hi:X.N[i]?=some x:=by rfl)(l:Loc X.env.scope x:=by first | exact NP rfl | exact Kd rfl)(hf:X.fn x=true∨X.env.scope.names.lookup x=some .local:=by first | exact .inl rfl | exact .inr rfl | assumption):GG X (.Name x m) (tgN i):=pz (oz hN hi l hf)
def CC(i:Nat)(hN:X.N.Nodup)(A:GE X E e m)(hi:X.N[i]?=some x:=by rfl)(B:Loc X.env.scope x:=by first | exact NP rfl | exact Kd rfl)(hs:G1 e (some (.Name x l)) o.line X.env=pure false:=by rfl)
  (hf:X.fn x=true∨X.env.scope.names.lookup x=some .local:=by first | exact .inl rfl | exact .inr rfl | assumption):GS X E (.Assign [.Name x l] e o) (Ce i m):=ux hN hi B A hs hf
def WQ(i:Nat)(hN:X.N.Nodup)(o:PIp X A (ipI g))(B:GE X E e m)(hi:X.N[i]?=some x:=by rfl)(C:Loc X.env.scope x:=by first | exact NP rfl | exact Kd rfl)
  (hf:X.fn x=true∨X.env.scope.names.lookup x=some .local:=by first | exact .inl rfl | exact .inr rfl | assumption):GS X E (.AugAssign (.Name x l) A e G) (Td i g m):=uz hN hi C o B hf
end
open Srt
def Inv.drew(I:Inv X l m H s):Inv X l m H { s with drawn:=d' }:=⟨I.ok,I.os,I.bare,I.base,I.loc,I.cell,I.free,I.freeC,I.pin,I.hok,I.len⟩
section
variable{X:Cx}{E:EW}{tg e:Expr}{K:AI}{ζ:List (AU×Obj)}{σ:St}{H:Hp}{s:AK}
noncomputable def Itk(a:AU)(l:Obj)(u:HO)(xs:List V):It:=
 ⟨λi H=>H a=some (.frz l u)/\i < xs.length,λi H x m=>m=H/\xs[i]?=some x,λi H=>H a=some (.frz l u)/\xs.length<=i⟩
def eV(Y:A.ExactDict)(Z:A.data=.dict es ep)(G:Bk xs (es.toList.map (·.key))):Vl P w K tg (Itk a A u xs) [it] it (λi h=>h.IsKeyIter it a i es.size ep) where
 mem:=by simp
 obj:=λi h st b hb=>by
  have e:b=it:=by simpa using hb
  subst e;obtain⟨o,e,c,d⟩:=st
  ext
 keep:=λi h h' st k=>st.at λo e=>k it (by simp) o e
 item:=by
  intro X J hw L hc i ζ s σ H E I B st N;subst J hw L;obtain⟨O,C⟩:=N;obtain⟨g,_⟩:=(I.hok a _ O)
  have hs:xs.length=es.size:=by have:=G.length;rw[AH,Aj]at this;exact this
  have l:i < es.size:=by rw[<-hs];exact C
  obtain⟨v,h1,h2⟩:=G.get (AM C);rw[AX,Bt,Bv l]at h1;cases h1;obtain⟨Q,R,f2,S,T,U⟩:=B it (by simp)
  refine Srt.Yx st ⟨A,g,Y,Z⟩ l λh' m sb=>?_
  have I1:=I.turned (t':=s.toks) (λb o hb e=>(sb.2 b hb).trans e) Q R S T U;obtain⟨o,e,c,d⟩:=id m;exact⟨_,rfl,ZT e c d (by decide) ⟨_,H,I1,h2,⟨rfl,AM C⟩,m,λb hb=>(B b hb).1⟩⟩
 done:=by
  intro X J hw L hc i ζ s σ H E I B st N;subst J hw L;obtain⟨O,C⟩:=N;obtain⟨g,_⟩:=(I.hok a _ O)
  have hs:xs.length=es.size:=by have:=G.length;rw[AH,Aj]at this;exact this
  obtain⟨Q,R,f2,S,T,U⟩:=B it (by simp)
  exact Srt.cU (I.ok.hd hc) st ⟨A,g,Y,Z⟩ (by ext) λh' eb=>⟨rfl,I.turned (t':=s.toks) (λb o hb e=>eb b o hb e) Q R S T U⟩
 self:=λ_ _ _ _ _ st h=>mL st h
def qM:∀{l:List Q4} {us:List (Key×AG)} {m:List (Key×V)},Pairs (E0 P w) l us->KV m us->Bk (m.map λx=>kV x.1) (l.map (·.key)):=by
 intro l us m B
 induction B generalizing m with
 | nil=>intro h;cases h;exact .nil
 | cons C I _ G=>
  intro h
  cases h with
  | cons r t=>
   refine .cons ?_ (G t);dsimp only;rw[r.1]
   rcases De C with⟨i,t,o,A⟩ | ⟨x,t,o,A⟩
   ·rw[o,A];exact⟨t,rfl⟩
   ·rw[o,A];exact⟨t,rfl⟩
def lI:∀{l:List (List Key×V)} {xs:List (List Key×AU×AG)},Gn (λ(p:List Key×V) (q:List Key×AU×AG)=>p.1=q.1/\H q.2.1=some (.tup (p.1.map kV))/\RelV p.2 q.2.2) l xs->Gn (λ(k:List Key×V) b=>H b=some (.tup (k.1.map kV))) l (xs.map (·.2.1)):=by
 intro l xs h
 induction h with
 | nil=>exact .nil
 | cons r _ m=>exact .cons r.2.1 m
def fJ(l:List AU):Bk (l.map V.ref) (l.map BB):=by
 induction l with
 | nil=>exact .nil
 | cons a l m=>exact .cons rfl m
def iDct(A:TE):TI:=λσ H R=>A σ H λx m=>∃a o,x=.ref a/\((∃l,m a=some (.frz o (.dK l))/\R (Itk a o (.dK l) (l.map λx=>kV x.1)) m) ∨
 ∃l,m a=some (.frz o (.dT l))/\∀bs,Gn (λ(k:List Key×V) b=>m b=some (.tup (k.1.map kV))) l bs->R (Itk a o (.dT l) (bs.map V.ref)) m)
def ox(T:PE X l U):PI X tg l (iDct U):=by
 intro ζ s σ H R I h
 refine thn (T ζ s σ H _ I h) ?_;rintro v s1 ⟨x,S,C,Y,Z⟩
 obtain⟨a,G,e,q⟩:=Z;subst e;cases Y
 have fin:∀{u:HO} {O:List V} {J:Array Q4} {P:Nat},(a==EJ)=false->s1.heap.get? a=some G->G.ExactDict->G.data=.dict J P->Bk O (J.toList.map (·.key))->R (Itk a G u O) S ->
   Ak (Ac X.prog X.w) X.A (Sa (.ref a)) (PIE X ζ σ tg R) X.xe s1:=λL g m B hv q=>by
  refine Srt.Yy L ⟨G,g,m,B⟩ ?_;refine⟨s1.heap.objs.size,[s1.heap.objs.size],_,_,S,rfl,C.kept (t':=s1.toks) λb o e=>AE _ e,eV m B hv,⟨_,AS _ rfl,rfl,rfl⟩,λb hb=>?_,q⟩
  have e:b=s1.heap.objs.size:=by simpa using hb
  subst e;exact C.fpOk (AJ _) (C.hok.fresh (AJ _))
 rcases q with⟨f',Q,q⟩ | ⟨f',Q,q⟩
 ·obtain⟨g,hz,L,us,kv,o,J,P,N,m,B,g5,g6,_⟩:=(C.hok a _ Q)
  rw[g]at N;cases N;exact fin L g m B (qM g6 kv) q
 ·obtain⟨g,hz,L,O,rr,o,J,P,N,m,B,g4,_⟩:=(C.hok a _ Q)
  rw[g]at N;cases N
  have hk:J.toList.map (·.key)=(O.map (·.2.1)).map BB:=by
   rw[g4,BF,BF];rfl
  exact fin L g m B (by rw[hk];exact fJ _) (q _ (lI rr))
def ZP(d:D)(S:Sto):Option (List D):=match d with
 | .ref n=>match S[n]? with
  | some (.fK l)=>some (l.map λx=>bG x.1)
  | some (.fT l)=>some (l.map λx=>.tup (x.1.map bG))
  | _=>none
 | _=>none
def cz(m:ME):MI:=λe S=>(m e S).bind λd l=>match ZP d l with
 | some o=>.ok (JE o) l
 | none=>.bad
def Sx(G:H a=some (.frz I u))(J:Av K ρ H L xs):NO K ρ H (Itk a I u xs) (JE L):=by
 intro o Q S R i l s N;cases N;have A:=J.mono l;have m:=l.frz _ _ _ G;refine⟨λT=>⟨m,by rw[<-A.length];ext⟩,λd O=>?_⟩;obtain⟨x,B,P⟩:=A.get O;refine⟨⟨m,(AB.mp B).1⟩,?_⟩;rintro y U ⟨e,C⟩;subst e;rw[B]at C;cases C;exact⟨o,.refl,s,P⟩
def px(h:GE X E e m):GI X E tg e (cz m):=(ox h).imp<|by
 rintro σ H R ⟨Q,l,S,T,U,B⟩
 refine⟨Q,l,S,T,U,B.seq λd Y B C N x O G Z=>?_⟩
 cases A:ZP d Y with
 | none=>rw[A]at B;exact B.elim
 | some ds=>
  rw[A]at B
  cases Z with
  | @ref n a hn=>
   obtain⟨o,ho,P⟩:=G.there hn;unfold ZP at A;simp only[ho]at A
   cases o with
   | fK f'=>
    cases A;obtain⟨I,J,e,L⟩:=P;exact⟨a,I,rfl,.inl ⟨J,e,B C N _ O G (Sx e (Pm L))⟩⟩
   | fT f'=>
    cases A;obtain⟨I,J,e,L⟩:=P;exact⟨a,I,rfl,.inr ⟨J,e,λbs hb=>B C N _ O G (Sx e (UD L hb))⟩⟩
   | _=>cases A
  | _=>cases A
def Inv.fz(I:Inv X ζ σ H s)(G:s.heap.get? a=some B)(J:H a=some u)(R:Mut (some u)):Inv X ζ σ (upd H a (.frz B u)) s:=by
 have m:∀b,H b=none->b≠a:=λb h z=>by ext
 have l:∀b o,H b=some o->¬Mut (some o)->b≠a:=λb o h n z=>by ext
 have st:∀b o,E9 X.prog X.w H s.heap b o->E9 X.prog X.w (upd H a (.frz B u)) s.heap b o:=λb o x=>
  x.stay (λ_ _ _ q=>q) (λc r=>by rw[Bi (l c _ r λz=>z)];exact r) λc A r=>by rw[Bi (l c _ r λz=>z)];exact r
 refine⟨I.ok,I.os,I.bare,⟨I.base.keep,I.base.slot,λb o q n L=>?_,I.base.there,λb A q=>?_,λb o A q=>?_,λb N q=>?_⟩,I.loc,I.cell,?_,λx c q=>?_,λp O=>?_,λb o q=>?_,I.len⟩
 ·have:=I.base.free b o q n L
  rw[Bi (m b this)];exact this
 ·have:=I.base.tups b A q
  rw[Bi (l b _ this λz=>z)];exact this
 ·have:=I.base.frzs b o A q
  rw[Bi (l b _ this λz=>z)];exact this
 ·obtain⟨more,this⟩:=I.base.tbls b N q
  exact⟨more,by rw[Bi (l b _ this λz=>z)];exact this⟩
 ·rw[Bi (m _ I.free)];exact I.free
 ·rw[Bi (m _ (I.freeC x c q))];exact I.freeC x c q
 ·obtain⟨P,C,Q⟩:=I.pin p O
  exact⟨P,by rw[Bi (m _ C)];exact C,Q⟩
 ·by_cases hb:b=a
  ·subst hb
   rw[Bz]at q;cases q;exact⟨G,st b u (I.hok b u J)⟩
  ·rw[Bi hb]at q
   exact st b o (I.hok b o q)
noncomputable def fzO:Ob->Option Ob
 | .dK l=>some (.fK l)
 | .dT l=>some (.fT l)
 | .fK l=>some (.fK l)
 | .fT l=>some (.fT l)
 | _=>none
noncomputable def sFz(i:Nat):MS:=λe S=>match e[i]? with
 | some (some (.ref n))=>match S[n]? with
  | some o=>match fzO o with
   | some l=>.ok (.nx e) (S.set n l)
   | none=>.bad
  | none=>.bad
 | _=>.bad
def Yr{S:Sto}{n:Nat}{o:Ob}(h:S[n]?=some o):S.set n o=S:=by
 apply Dt
 intro j;rw[Dr];split
 ·grind
 ·rfl
def yD{i:Nat}{st:C2}{Q:MS}(h:GS X E st Q):GS X E st (BK (sFz i) Q):=by
 rintro ζ s σ H D I ⟨C,l,S,R,O,m⟩
 cases J:l[i]? with
 | none=>unfold BK sFz at m;rw[J]at m;exact m.elim
 | some x=>
  cases x with
  | none=>unfold BK sFz at m;rw[J]at m;exact m.elim
  | some d=>
   cases d with
   | ref n=>
    cases L:S[n]? with
    | none=>unfold BK sFz at m;rw[J]at m;dsimp only at m;rw[L]at m;exact m.elim
    | some o=>
     cases G:fzO o with
     | none=>unfold BK sFz at m;rw[J]at m;dsimp only at m;rw[L]at m;dsimp only at m;rw[G]at m;exact m.elim
     | some Z=>
      have N:Cj X.K noH C H (Q l (S.set n Z)) λfl S'=>UP X.K E C H S' D fl:=by
       unfold BK sFz at m;rw[J]at m;dsimp only at m;rw[L]at m;dsimp only at m;rw[G]at m;exact m
      obtain⟨a,P,ro⟩:=O.at L
      have fr:∀u,H a=some u->Mut (some u)->(∃B,s.heap.get? a=some B)->(∀B,Ed X.K C (upd H a (.frz B u)) a Z)->Ak (Ac X.prog X.w) X.A (exec st X.env) _ _ s:=λu ha mu ⟨B,hg⟩ ra=>by
       have le:Le X.K C H C (upd H a (.frz B u)):=Le.write P (by ext);obtain⟨s5,_⟩:=O.write P (ra B) le;exact h ζ s σ _ D (I.fz hg ha mu) ⟨C,l,_,R.mono le,s5,N.go le λ_ _ k=>k.later le⟩
      cases o with
      | dK T=>
       cases G;obtain⟨U,e,Y⟩:=ro
       refine fr _ e trivial ?_ λB=>⟨B,U,Bz,KVR.mono (Le.write P (by rw[e];trivial)) Y⟩
       obtain⟨_,_,_,_,o,_,_,e,_⟩:=(I.hok a _ e)
       ext
      | dT T=>
       cases G;obtain⟨U,e,Y⟩:=ro
       refine fr _ e trivial ?_ λB=>⟨B,U,Bz,KVR.mono (Le.write P (by rw[e];trivial)) Y⟩
       obtain⟨_,_,_,_,o,_,_,e,_⟩:=(I.hok a _ e)
       grind
      | fK T=>cases G;rw[Yr L]at N;exact h ζ s σ H D I ⟨C,l,S,R,O,N⟩
      | fT T=>cases G;rw[Yr L]at N;exact h ζ s σ H D I ⟨C,l,S,R,O,N⟩
      | _=>cases G
   | _=>unfold BK sFz at m;rw[J]at m;exact m.elim
end
section
variable{K:AI}{ρ ρ':List AU}{H H':Hp}{S:Sto}{L:Key->Int}{m n:Nat}{a:AU}
mutual
theorem CA.cut(p:∀(n:Nat) a,ρ[n]?=some a->ρ'[n]?=some a){d:D}{v o:V}(h:CA K ρ H d v)(g:CA K ρ' H' d o):CA K ρ H' d o:=by
 cases g with
 | tup g l=>cases h with | tup _ r=>exact .tup g (Av.cut p r l)
 | fro g l=>cases h with | fro _ r=>exact .fro g (Av.cut p r l)
 | ref A=>cases h with | ref h=>have e:=(p _ _ h).symm.trans A;cases e;exact .ref h
 | exc j e=>exact .exc j e
 | _=>constructor
theorem Av.cut(p:∀(n:Nat) a,ρ[n]?=some a->ρ'[n]?=some a){d:List D}{v l:List V}(h:Av K ρ H d v)(g:Av K ρ' H' d l):Av K ρ H' d l:=by
 cases g with
 | nil=>exact .nil
 | cons o A=>cases h with | cons r t=>exact .cons (CA.cut p r o) (Av.cut p t A)
end
theorem KVR.cut(p:∀(n:Nat) a,ρ[n]?=some a->ρ'[n]?=some a){x:List (o×D)}{y z:List (o×V)}(h:KVR K ρ H x y)(g:KVR K ρ' H' x z):KVR K ρ H' x z:=by
 induction h generalizing z with
 | nil=>cases g;exact .nil
 | cons r _ I=>cases g with | cons l A=>exact .cons ⟨l.1,r.2.cut p l.2⟩ (I A)
theorem Ed.cut(p:∀(n:Nat) a,ρ[n]?=some a->ρ'[n]?=some a)(h:Ed K ρ H a o)(h':Ed K ρ' H' a o):Ed K ρ H' a o:=by
 cases o with
 | lst B=>obtain⟨_,_,r⟩:=h;obtain⟨l,e,A⟩:=h';exact⟨l,e,r.cut p A⟩
 | dK B=>obtain⟨_,_,r⟩:=h;obtain⟨l,e,A⟩:=h';exact⟨l,e,KVR.cut p r A⟩
 | dT B=>obtain⟨_,_,r⟩:=h;obtain⟨l,e,A⟩:=h';exact⟨l,e,KVR.cut p r A⟩
 | ins C B=>obtain⟨_,_,_,r⟩:=h;obtain⟨E,l,e,A⟩:=h';exact⟨E,l,e,KVR.cut p r A⟩
 | fK B=>obtain⟨_,_,_,r⟩:=h;obtain⟨E,l,e,A⟩:=h';exact⟨E,l,e,KVR.cut p r A⟩
 | fT B=>obtain⟨_,_,_,r⟩:=h;obtain⟨E,l,e,A⟩:=h';exact⟨E,l,e,KVR.cut p r A⟩
 | mem L=>exact h'
def qj(L:Key->Int)(l:List (Key×D)):Prop:=(l.map (·.1)).Nodup/\∀x∈l,x.1∈ZF/\x.2=D.int (L x.1)
theorem cZ:∀{o:List (Key×V)},(∀x∈o,x.2=V.int (L x.1))->KVR K ρ H (o.map λx=>(x.1,D.int (L x.1))) o
 | [],_=>.nil
 | (k,v) :: l,h=>.cons ⟨rfl,by rw[show v=V.int (L k)from h _ (Ae ..)];exact .int _⟩ (cZ λx A=>h x (AT _ A))
def ZO{A:List (Key×D)}{us:List (Key×V)}(u:KVR K ρ H A us)(h:∀x∈A,x.1∈ZF/\x.2=D.int (L x.1)):∀x∈us,x.1∈ZF/\x.2=V.int (L x.1):=by
 induction u with
 | nil=>intro x o;cases o
 | @cons a b _ _ r t I=>
  intro x o;obtain⟨k,d⟩:=a;obtain⟨G,v⟩:=b
  rcases Aw.mp o with rfl | o
  ·obtain⟨e,r⟩:=r
   dsimp only at e r ⊢;subst e;obtain⟨C,B⟩:=h _ (Ae ..);dsimp only at C B;rw[B]at r;cases r
   lia
  ·exact I (λy E=>h y (AT _ E)) x o
def cq(r:KVR K ρ H l us)(h:qj L l):(us.map (·.1)).Nodup/\∀x∈us,x.1∈ZF/\x.2=V.int (L x.1):=⟨by rw[<-KVR.keys r];exact h.1,ZO r h.2⟩
def CS.swap(s:CS K ρ S H)(A:S[m]?=some o)(h:∀a,ρ[m]?=some a->Ed K ρ H a o->Ed K ρ H a o'):CS K ρ (S.set m o') H:=
 ⟨by rw[DB];exact s.len,s.nd,λj q b l hb=>by
  rw[Dr]at l;split at l
  ·rename_i c
   subst c;split at l
   ·cases l;exact h b hb (s.ob m o b A hb)
   ·cases l
  ·exact s.ob j q b l hb⟩
end
noncomputable def lmI:Res D->Int
 | .ok (.int z) _=>z
 | _=>0
noncomputable def vH(x:Str)(q:Nat)(S:Sto):Option Str:=match S[q]? with
 | some (.ins _ fs)=>match fs.lookup x with
  | some (.str y)=>some y
  | _=>none
 | _=>none
noncomputable def WL(x:Str)(l:List D)(S:Sto):Option Nat:=match l with
 | .ref q :: _=>match S[q]? with
  | some (.ins _ fs)=>match fs.lookup x with
   | some (.ref m)=>some m
   | _=>none
  | _=>none
 | _=>none
def rf(f:List D->Sto->Res D)(B:List D)(S:Sto)(m:Nat)(L:Key->Int)(z:Int):Prop:=
 ∀o,qj L o->∃l A,f B (S.set m (.dK o))=.ok (.int z) l/\l[m]?=some (.dK A)/\qj L A/\∀n,n < S.length->n≠m->l[n]?=S[n]?
open Classical in
def qh(x:Str)(f:List D->Sto->Res D)(l:List D)(S:Sto):Res D:=match WL x l S with
 | some m=>match S[m]? with
  | some (.mem L)=>match f l (S.set m (.dK []))with
   | .ok (.int z) _=>if rf f l S m L z then .ok (.int z) S else .bad
   | _=>.bad
  | _=>.bad
 | none=>.bad
noncomputable def pS(x:Str)(A:List D->Sto->Key->Int)(f:List D->Sto->Res D)(o:List D)(S:Sto):Res D:=match f o S with
 | .ok .non l=>match WL x o l with
  | some m=>match l[m]? with
   | some (.dK [])=>.ok .non (l.set m (.mem (A o l)))
   | _=>.bad
  | none=>.bad
 | _=>.bad
section
variable{P:BN}{w:Bo}{K:AI}{mg:Str->Option AG}{base:B0}{CX:CXT}{k n:Nat}{fa:AU}{fd:LG}{ps:List Str}{x:Str}{f:List D->Sto->Res D}{Lf:List D->Sto->Key->Int}
def vG(F:Hh P w K mg base CX k fa fd ps (spM K n f)):Hh P w K mg base CX k fa fd ps (spM K n (qh x f)):=F.imp<|by
 rintro vs H Q E ⟨O,T,S,U,X,B,A⟩
 unfold qh at A;split at A
 ·rename_i m hm
  split at A
  ·rename_i L I
   split at A
   ·rename_i z S0 hz
    split at A
    ·rename_i Y
     obtain⟨a,ha,J,e,Z,R⟩:=B.at I
     obtain⟨S',vp,hf,N,zI,hk⟩:=Y (J.map λx=>(x.1,D.int (L x.1))) ⟨by rw[BF];exact Z,λy hy=>by
      obtain⟨u,hu,rfl⟩:=A9.mp hy
      exact⟨(R u hu).1,rfl⟩⟩
     refine⟨O,T,S.set m (.dK (J.map λx=>(x.1,D.int (L x.1)))),U,X,B.swap I (λb hb _=>⟨J,?_,cZ λx hx=>(R x hx).2⟩),?_⟩
     ·ext
     ·rw[hf]
      intro ρ' H' y l s r;cases r;refine A O H' _ ⟨λ_ _ h=>h,l.tup,l.frz,λa o e n=>⟨(l.oth a o e n).1,n⟩⟩ ⟨B.len,B.nd,λj o b C hb=>?_⟩ (.int z);have G:=l.pre j b hb
      by_cases c:j=m
      ·subst c
       rw[I]at C;cases C;obtain⟨us,e3,r3⟩:=s.ob j _ b N G;exact⟨us,e3,cq r3 zI⟩
      ·exact(B.ob j o b C hb).cut l.pre (s.ob j o b ((hk j (AB.mp C).1 c).trans C) G)
    ·exact A.elim
   ·exact A.elim
  ·exact A.elim
 ·exact A.elim
def qE(F:Hh P w K mg base CX k fa fd ps (spM K n f)):Hh P w K mg base CX k fa fd ps (spM K n (pS x Lf f)):=F.imp<|by
 rintro U H Q E ⟨B,C,S,G,I,J,o⟩
 unfold pS at o;refine⟨B,C,S,G,I,J,?_⟩;split at o
 ·rename_i X L
  split at o
  ·rename_i m Y
   split at o
   ·rename_i N
    rw[L];intro A O y l s r;exact o A O y l (s.swap N λa Z ⟨R,e,r⟩=>⟨R,e,cq r ⟨EZ,λ_ T=>nomatch T⟩⟩) r
   ·exact o.elim
  ·exact o.elim
 ·exact o.elim
end
end L2
namespace L2
open PySem.W
section
variable{X:Cx}{k k' n:Nat}{x qual:Str}{st:C2}{ps:List Str}{p pos:Pos}{e:Expr}{es:List Expr}{ml:ML}{g:List D->Sto->Res D}
def gcl(D:Dfn X.K X.mg x qual st ps)(F:Hh X.prog X.w X.K X.mg X.base (CXG X.prog X.w) k D.f D.fd ps (spM X.K n g))(l:G7 k' X.A)(o:GA X noE (e :: es) ml)(B:k<=k':=by decide)(C:X.xe=λ_ _=>False:=by rfl)(E:Gl X x:=by rfl)
  (G:(x==("__debug__" : Str))=false:=by decide) (H:AW (e :: es) X.env=(false,CO e X.env) :: AW es X.env:=by rfl) (I:(E1 pos (AW es X.env)).any (·.1)=false:=by rfl) :
  GE X noE (.Call (.Name x p) (e :: es) [] pos) (CF n g ml):=Xm F (good_none C).pass (l.mono B) E D.m D.kp D.b o G H I
end
abbrev FnAt(K:Frag)(x l:Str)(st:C2)(f:AU):Prop:=∃(A:AG) (B:Option AU) (kV m C:AG) (E:Option AU) (o ct:AG) (G:Array (Option AG)),
 K.lookup f=some ⟨A,B,.func (fnOf x l (Lq st) (Hg st) (Ci st) .none kV m C E o ct),G⟩/\codeIn K o l=true/\keepIn K (.ref f)=true
abbrev ED(K:Frag)(x:Str)(st:C2)(f:AU):Prop:=QB K BQ x=some (some (.ref f))/\FnAt K x x st f
abbrev ON(K:Frag)(C:AU)(x l:Str)(st:C2)(f:AU):Prop:=findIn K (.ref C) x=some (some (.ref f))/\isFn K (.ref f)=true/\FnAt K x l st f
abbrev ClsAt(K:Frag)(x:Str)(C:AU):Prop:=QB K BQ x=some (some (.ref C))/\plainGet K C Str.empty=true/\hasDictIn K C=true/\plainOver K C=true/\findIn K (.ref C) "__setattr__" = some (some (.builtin "object.__setattr__"))/\makesIn K C=true/\keepIn K (.ref C)=true
def br(st:C2)(A:List Str):Prop:=∀(x l:Str) (kV m B:AG) (C:Option AU) (E ct:AG) (o:List AG),o.length=A.length->mW (fnOf x l (Lq st) (Hg st) (Ci st) .none kV m B C E ct) ⟨o,[]⟩=pure (A.zip o)
section
variable{K:Frag}{h:B0}{mg:Str->Option AG}{x qual:Str}{st:C2}{f C:AU}{ps:List Str}{a b c d e:Str}
def FnAt.fd(z:FnAt K x qual st f):∃fd,Fun K x qual st f fd:=by
 obtain⟨o,A,kV,m,B,E,G,ct,H,l,c,k⟩:=z;exact⟨_,kx l c k⟩
def mkD(X:K.In h)(G:h.Ns BQ mg)(z:ED K x st f)(b:br st ps):Dfn K mg x x st ps:=⟨f,(FnAt.fd z.2).choose,(FnAt.fd z.2).choose_spec,(FnAt.fd z.2).choose_spec.binds (b x x),vt X G z.1⟩
def mkM(z:ON K C x qual st f)(b:br st ps):Mtd K x qual st ps:=⟨f,(FnAt.fd z.2.2).choose,(FnAt.fd z.2.2).choose_spec,(FnAt.fd z.2.2).choose_spec.binds (b x qual)⟩
def FnAt.kp(z:FnAt K x qual st f):keepIn K (.ref f)=true:=by
 obtain⟨o,A,kV,m,B,E,G,ct,H,l,c,k⟩:=z;exact k
def mkE(z:ON K C x qual st f):X4 K C x f:=⟨z.1,z.2.1,FnAt.kp z.2.2⟩
def mkO(X:K.In h)(G:h.Ns BQ mg)(z:ClsAt K y C)(i:ON K C "__init__" qual st f):Own K mg y C f:=⟨⟨z.2.1,z.2.2.1,z.2.2.2.1,z.2.2.2.2.1⟩,⟨z.2.2.2.2.2.1,i.1,i.2.1,z.2.2.2.2.2.2⟩,vt X G z.1⟩
abbrev bnd(st:C2)(ps:List Str)(us:List AG):Prop:=∀(x qual:Str) (kV l m:AG) (o:Option AU) (A ct:AG),mW (fnOf x qual (Lq st) (Hg st) (Ci st) .none kV l m o A ct) ⟨us,[]⟩=pure (ps.zip us)
def bd1(z:∀u,bnd st [a] [u]):br st [a]:=λx q k d p n c t m l=>by obtain⟨u,rfl⟩:=ud l;exact z u x q k d p n c t
def bd2(z:∀u v,bnd st [a,b] [u,v]):br st [a,b]:=λx q k d p n c t m l=>by obtain⟨u,v,rfl⟩:=xo l;exact z u v x q k d p n c t
def bd3(z:∀u v w,bnd st [a,b,c] [u,v,w]):br st [a,b,c]:=λx q k d p n c t m l=>by obtain⟨u,v,w,rfl⟩:=xn l;exact z u v w x q k d p n c t
def bd4(z:∀u v w y,bnd st [a,b,c,d] [u,v,w,y]):br st [a,b,c,d]:=λx q k d p n c t m l=>by obtain⟨u,v,w,y,rfl⟩:=xm l;exact z u v w y x q k d p n c t
def bd5(z:∀u v w y l,bnd st [a,b,c,d,e] [u,v,w,y,l]):br st [a,b,c,d,e]:=λx q k d p n c t o m=>by obtain⟨u,v,w,y,l,rfl⟩:=len5 m;exact z u v w y l x q k d p n c t
end
open Srt (ltL)
def VY(l:List ZLi):List ZLi:=JW (ddR l)
def dQ{l:List ZLi}{k:ZLi}:k∈ddR l↔k∈l:=by
 have m:∀(r l:List ZLi),(∀k,k∈ddR l↔k∈l)->∀k,k∈ddR (l++r)↔k∈l++r:=by
  intro r
  induction r with
  | nil=>intro l h;rw[Bp];exact h
  | cons x r o=>
   intro l h;rw[show l++x :: r=(l++[x])++r by simp]
   refine o _ λk=>?_
   rw[ND];split
   ·rename_i c
    rw[h,Ax,Ay];exact⟨.inl,λz=>z.elim id λe=>e▸(h x).mp c⟩
   ·rw[Ax,Ax,h]
 have:=m l [] (λk=>by simp[ddR]) k;assumption
def PX{X:Cx}{C:List (AU×Obj)}{E:St}{H:Hp}{s:AK}(I:Inv X C E H s):∀{vs:List V} {l:List AG},Bk vs l->(∀v∈vs,∃b,v=.ref b/\H b=some (.tup ((En H v).map V.int))/\En H v≠[])->Lu X.prog X.w s.heap l (vs.map (En H)):=by
 intro vs l A h
 have one:∀{k:ZLi} {us:List AG},Bk (k.map V.int) us->ItemsAre (Zn X.prog X.w) k us:=by
  intro k
  induction k with
  | nil=>intro us r;cases r;exact .nil
  | cons n k G=>
   intro us r
   cases r with
   | cons a b=>
    obtain⟨t,rfl⟩:=a;exact .cons (intKind_is _ _ _ _) (G b)
 refine⟨by rw[<-A.length,AH],λi v k J m=>?_⟩;rw[AX]at m
 cases e:vs[i]? with
 | none=>ext
 | some x=>
  rw[e]at m;cases m;obtain⟨u,B,r⟩:=A.get e;rw[J]at B;cases B;obtain⟨b,rfl,hb,_⟩:=h x (A0 e);cases r;obtain⟨_,is,P,o,L,N,n,O⟩:=(I.hok b _ hb);exact⟨b,rfl,o,is.toArray,n,L,N,O,by ext⟩
def Vh{X:Cx}{ζ:List (AU×Obj)}{s:AK}{σ:St}{H:Hp}{a:AU}{vs:List V}{m:List AG}{Q:VK}(hc:X.calm=true)(I:Inv X ζ σ H s)(B:Bk vs m)(Z:∀v∈vs,∃b,v=.ref b/\H b=some (.tup ((En H v).map V.int))/\En H v≠[])
  (hS:Op X.prog X.w s.heap a (ddR (vs.map (En H))) λb=>BB b∈m) (L:(ddR (vs.map (En H))).length<=sizeLine)
  (q:∀out,out.map (En H)=VY (vs.map (En H))->(∀v∈out,∃b,v=.ref b/\H b=some (.tup ((En H v).map V.int))/\En H v≠[])->∀l,H l=none->Q (.ref l) (upd H l (.lst out))):Ak (Ac X.prog X.w) X.A (call (.builtin "sorted") [.ref a]) (EP X ζ σ Q) X.xe s:=by
 have ra:=PX I B Z;refine V0 kind_sorted plain_sorted entry_sorted (args_sorted1 _) ?_;unfold Builtin.«sorted»;refine AA (AD (AA (XF (I.ok.hd hc) hS L λg tk d' my kp hp=>?_)));obtain⟨C,e1,pm,hq⟩:=hp
 have P:∀b,BB b∈m->V.ref b∈vs:=λb hb=>by
  obtain⟨i,S⟩:=Ew hb
  have N:i < vs.length:=by rw[B.length];exact(AB.mp S).1
  obtain⟨u,hu,r⟩:=B.get (AM N);rw[S]at hu;cases hu;obtain⟨b2,e,_⟩:=Z _ (CD N);rw[e]at r;cases r
  grind
 have hrow:∀q∈C,∃b,q.1=.ref b/\V.ref b∈vs/\q.2=En H (.ref b):=λq ϱ=>by
  obtain⟨b,G,O,h3⟩:=hq q ϱ;refine⟨b,G,P b O,?_⟩;obtain⟨i,S⟩:=Ew (P b O);obtain⟨u,hu,r⟩:=B.get S;cases r;obtain⟨b2,e2,hr⟩:=ra.2 i _ _ hu (by rw[AX,S];rfl);cases e2;exact h3.inj hr
 have T:Bk (C.map λq=>V.ref (AG.addr0 q.1)) my:=by
  rw[<-e1]
  clear pm e1
  induction C with
  | nil=>exact .nil
  | cons q C ih=>
   refine .cons ?_ (ih (λx hx=>hq x (AT _ hx)) λx hx=>hrow x (AT _ hx));obtain⟨b,G,_⟩:=hrow q Ae;show RelV (V.ref (AG.addr0 q.1)) q.1;rw[G];rfl
 have J:∀v∈C.map (λq=>V.ref (AG.addr0 q.1)),v∈vs:=λv U=>by
  obtain⟨q,ϱ,rfl⟩:=A9.mp U;obtain⟨b,G,O,_⟩:=hrow q ϱ;rw[G];exact O
 have mr:(C.map λq=>V.ref (AG.addr0 q.1)).map (En H)=C.map (·.2):=by
  rw[BF]
  refine D7 λq ϱ=>?_
  obtain⟨b,G,_,h3⟩:=hrow q ϱ;show En H (V.ref (AG.addr0 q.1))=q.2;rw[G,h3];rfl
 generalize (C.map λq=>V.ref (AG.addr0 q.1))=ms at T J mr;rw[<-mr]at pm
 have L:my.length<=sizeLine:=by rw[<-T.length,<-AH,pm.length_eq];exact L
 have E:Um H (En H) ms:=.inr λv U=>Z v (J v U)
 refine AA (de ?_ L);have I1:Inv X ζ σ H { s with heap:=g,toks:=tk,drawn:=d' }:=(I.kept (t':=tk) kp).drew;have N:(g.push (JQ "list" my.toArray 0)).get? g.objs.size=some (JQ "list" my.toArray 0):=AS _ rfl;refine AA (Dp (Bl slot_list_sort ⟨_,N,rfl⟩ yY (Srt.OG (f:=jM H) N L (λO s' keep=>?_) λout po so=>⟨_,rfl,AD ⟨_,rfl,?_⟩⟩) (args_list_sort _)))
 ·refine RJ (λb xs e=>?_) E T O
  obtain⟨_,is,r,o,ho,A',n,hd⟩:=(I1.hok b _ e);exact⟨is,r,o,keep b o (Au (Aa ho)) (AE _ ho),A',n,hd⟩
 ·obtain⟨vo,ro,pv⟩:=RO po.symm T
  have so':vo.Pairwise (λx y=>ltL (En H y) (En H x)=false):=by
   have e:=LX ro λa ha b rb=>E.rel a (pv.mem_iff.mp ha) b rb
   have:=(Bb (R:=λx y=>ltL y x=false)).mpr so;rw[e]at this;exact Bb.mp this
  obtain⟨k,hk⟩:=sortedHeap_at N
  have Y:vo.length<=sizeLine:=by rw[pv.length_eq,T.length];exact L
  have I2:=I1.laid (o:=.lst vo) (t':=tk) (h':=Zw (g.push (JQ "list" my.toArray 0)) g.objs.size my out)
   (λb u z=>by
    have lt:=Aa z;rw[sortedHeap_old (Au lt) (by rw[size_push'];exact Ey lt)]
    exact AE _ z) (AJ _) ⟨Y,out.toList,k,ro,hk⟩
  refine⟨.ref g.objs.size,_,I2,rfl,q vo ?_ (λv U=>Z v (J v (pv.mem_iff.mp U))) _ (I1.hok.fresh (AJ _))⟩;exact QX (((pv.map (En H)).trans pm).trans (Dk _).symm) (Bb.mpr so') (PM _)
section
variable{X:Cx}{E:EW}{e a b:Expr}{p p2 pos Y':Pos}{m:ME}{te:TE}
def rM(K:AI)(Q:VK)(x:V)(o:Hp):Prop:=∃q A,x=.ref q/\SqL K o q A/\(∀v∈A,∃b,v=.ref b/\o b=some (.tup ((En o v).map V.int))/\En o v≠[])/\(ddR (A.map (En o))).length<=76 /\
 ∀out,out.map (En o)=VY (A.map (En o))->(∀v∈out,∃b,v=.ref b/\o b=some (.tup ((En o v).map V.int))/\En o v≠[])->∀l,o l=none->Q (.ref l) (upd o l (.lst out))
def eX(K:AI)(te:TE):TE:=λl H Q=>te l H λx o=>rM K Q x o
def Y0(N:X.calm=true)(hu:X.A.units+64 < DE)(Y:Gl X "sorted") (Z:X.mg "sorted" = none) (B:Gl X "set") (y8:X.mg "set" = none) (h:PE X e te)
  (O:AW [e] X.env=(false,CO e X.env) :: AW [] X.env:=by rfl) (Ϫ:AW [.Call (.Name "set" p2) [e] [] Y'] X.env=(false,CO (.Call (.Name "set" p2) [e] [] Y') X.env) :: AW [] X.env:=by rfl) :
  PE X (.Call (.Name "sorted" p) [.Call (.Name "set" p2) [e] [] Y'] [] pos) (eX X.K te):=by
 intro P s R H Q I hq;refine Fb (Mu I Y Z boot_sorted ?_ (by decide) (by decide));refine N0 ?_ Ϫ rfl;rw[Ϫ];refine dz ?_;refine Fb (Mu I B y8 yf ?_ (by decide) (by decide));refine Cy (thn (Fy h IG O Y' P s R H (λl C=>match l with | [x]=>rM X.K Q x C | _=>False) I hq) ?_) O rfl;rintro us s1 ⟨l,C,G,J,L⟩
 match l,J,L with
 | [x],J,L=>
  obtain⟨q,l,rfl,sqq,S,T,k⟩:=L;obtain⟨u,rfl,ru⟩:=vals1 J;cases ru;obtain⟨my,U,pl,hz⟩:=G.list sqq
  refine Xv (I.ok.hd N) (by lia) pl.isList (by simpa using PX G U S) T λh' tk hS hk=>?_
  refine hX ?_
  have I2:Inv X P R C { s1 with heap:=h',toks:=tk }:=G.kept λb o e=>hk b o (Aa e) e
  exact Vh N I2 U S (by simpa using hS) (Al T (by decide)) k
def Na(m:ME):ME:=λe S=>(m e S).bind λd l=>match d with
 | .ref n=>match l[n]? with
  | some (.lst A)=>match IZ A with
   | some o=>if (ddR o).length<=76 then .ok (.ref l.length) (l++[.lst ((VY o).map Kv)])else .bad
   | none=>.bad
  | _=>.bad
 | _=>.bad
def ZV(R:X.calm=true)(T:X.A.units+64 < DE)(U:Gl X "sorted") (B:X.mg "sorted" = none) (I:Gl X "set") (Y:X.mg "set" = none) (h:GE X E e m)
  (Z:AW [e] X.env=(false,CO e X.env) :: AW [] X.env:=by rfl) (Ϫ:AW [.Call (.Name "set" p2) [e] [] Y'] X.env=(false,CO (.Call (.Name "set" p2) [e] [] Y') X.env) :: AW [] X.env:=by rfl) :
  GE X E (.Call (.Name "sorted" p) [.Call (.Name "set" p2) [e] [] Y'] [] pos) (Na m):=(Y0 R T U B I Y h Z Ϫ).imp<|by
 rintro σ H Q ⟨ρ,l,S,hl,hs,B⟩
 refine⟨ρ,l,S,hl,hs,B.seq λd S1 B J H1 x l1 N r1=>?_⟩
 cases d <;> first | exact B.elim | skip
 rename_i n
 cases r1 with
 | @ref _ a hn=>
 obtain⟨o,ho,ro⟩:=N.there hn;dsimp only at B;rw[ho]at B
 cases o <;> first | exact B.elim | skip
 rename_i ds;dsimp only at B
 cases hb:IZ ds with
 | none=>rw[hb]at B;exact B.elim
 | some O=>
  rw[hb]at B;dsimp only at B;split at B
  ·rename_i h76
   obtain⟨vs,e1,rr⟩:=ro;obtain⟨i1,i2⟩:=Mg hb rr;refine⟨a,vs,rfl,.inl (.inl e1),i2,by ext,λout P C l G=>?_⟩
   have rl:Av X.K (J++[l]) (upd H1 l (.lst out)) ((VY O).map Kv) out:=by
    rw[i1]at P;rw[<-P];exact(Ti C).mono (Le.alloc G)
   obtain⟨s4,l4,L⟩:=N.alloc (o:=.lst ((VY O).map Kv)) G ⟨_,Bz,rl⟩;exact B _ _ _ (l1.trans l4) s4 (.ref L)
  ·exact B.elim
end
end L2
namespace PySem
def WY:mT table "list.remove.loop" = some Builtin.«list.remove.loop»:=wJ (by kernel_rfl)
def NW:plainId "list.remove.loop" = true:=by decide +kernel
section
variable{prog:BN}{w:Bo}{A:Bg}{s:AK}
def remove_loop{l b:AU}{B:Array AG}{n:Nat}{rows:List ZLi}{k:ZLi}{R:iC->AK->Prop}(ho:s.heap.get? l=some { cls:=.type "list",data:=.seq B n }) (C:Lu prog w s.heap B.toList rows) (E:IsR prog w s.heap k b) (I:B.size<=sizeLine) (T:A.units+4 < DE) {j:Nat} (G:rows[j]?=some k)
  (h:R (.ok (.ret .none)) { s with heap:=s.heap.update l (E2 λxs=>xs.eraseIdxIfInBounds j) }) :
  ∀(d i:Nat),i+d=j->(∀(x:Nat) o,i<=x->x < j->rows[x]?=some o->o≠k)->Ho (Ac prog w) A (.builtin "list.remove.loop" ⟨[.ref l,.ref b,OO i],[]⟩) R s:=by
 intro d
 induction d with
 | zero=>
  intro i J _
  have:i=j:=by omega
  subst this;refine FA WY ?_;rw[Dg NW _];refine AA (U2 ho rfl ?_);obtain⟨L,m,hb⟩:=C.row G;rw[Bt]at m;dsimp only[OO];rw[As,m];refine AA (SZ (by show A.units+1 < DE;lia) hb E ?_);rw[wX rfl];refine AA (R5 ho rfl ?_ I ?_)
  ·exact AD h
  ·rw[Array.eraseIdxIfInBounds];split
   ·rw[Array.size_eraseIdx];grind
   ·ext
 | succ d N=>
  intro i J H;refine FA WY ?_;rw[Dg NW _];refine AA (U2 ho rfl ?_)
  have O:i < rows.length:=by have:=(AB.mp G).1;lia
  have Ϩ:=AM O;generalize rows[i]=P at Ϩ;obtain⟨L,m,hb⟩:=C.row Ϩ;rw[Bt]at m;dsimp only[OO];rw[As,m];refine AA (SZ (by show A.units+1 < DE;lia) hb E ?_);rw[wY (H i P (AJ _) (by lia) Ϩ)];refine AD ⟨Hl NW _,?_⟩
  exact N (i+1) (by lia) λx o U Q S=>H x o (by lia) Q S
end
end PySem
namespace L2
def rRem:V->List V->Hp->VK->Prop:=λx o H Q=>∃l b m j,x=.ref l/\o=[.ref b]/\H l=some (.lst m)/\(∀v∈m,∃c,v=.ref c/\H c=some (.tup ((En H v).map V.int))/\En H v≠[])/\(H b=some (.tup ((En H (.ref b)).map V.int))/\En H (.ref b)≠[]) /\
 (m.map (En H)).findIdx? (·==En H (.ref b))=some j/\Q .non (upd H l (.lst (m.eraseIdx j)))
def S7{vs:List V}{us:List AG}(h:Bk vs us)(k:Nat):Bk (vs.eraseIdx k) (us.eraseIdx k):=by
 induction h generalizing k with
 | nil=>exact .nil
 | cons r t I=>
  cases k with
  | zero=>exact t
  | succ k=>exact .cons r (I k)
section
variable{X:Cx}{E:EW}{o e:Expr}{apos yx:Pos}{mo mi:ME}
def fZ(hu:X.A.units+64 < DE):MtM X "list.remove" rRem:=by
 intro ζ s σ H x vs v us Q I O P h;obtain⟨l,b,R,j,rfl,rfl,J,S,hb,T,q⟩:=h;cases O;obtain⟨u,rfl,U⟩:=vals1 P;cases U;obtain⟨z,L,n,r,Y,e⟩:=I.lstM J;have ra:=PX I r S
 obtain⟨b',B,C⟩:=(PX I (vs:=[.ref b]) (.cons rfl .nil) λv Z=>by
  rw[Ay.mp Z];exact⟨b,rfl,hb⟩).row (i:=0) rfl
 cases B;obtain⟨N,j2,j3⟩:=List.findIdx?_eq_some_iff_getElem.mp T
 have G:(R.map (En H))[j]?=some (En H (.ref b)):=by rw[AM N,eq_of_beq j2]
 have m:L.toArray.size<=sizeLine:=by rw[BR,<-Y];exact z
 refine Zu (mV m9.plain F.entry_list_remove (m9.check _ _ _ _ _ _ _ _ ⟨_,e,rfl⟩ (F.args_list_remove_2 _ _) ?_));refine AD ⟨Hl NW _,?_⟩
 refine remove_loop e (by ext) C m (by lia) G ?_ j 0 (by ext) λx k' _ h2 h3=>?_
 ·rw[AH]at N
  refine⟨.non,_,I.lset (its':=L.eraseIdx j) J e ?_ (S7 r j) (Al (by rw[List.length_eraseIdx];split <;> simp) z),rfl,q⟩
  ext
 ·intro w
  subst w;have h4:=(AB.mp h3);ext
def ZG(mo mi:ME):ME:=λe S=>(mo e S).bind λd l=>match atL d l with
 | some (n,_)=>(mi e l).bind λx m=>match atL d m with
  | some (_,A)=>match IZ A,IZ [x]with
   | some B,some [k]=>(match B.findIdx? (·==k)with
    | some j=>.ok .non (m.set n (.lst (A.eraseIdx j)))
    | none=>.bad)
   | _,_=>.bad
  | none=>.bad
 | none=>.bad
def p7(hu:X.A.units+64 < DE)(ho:GE X E o mo)(he:GE X E e mi)(zi:FE o "remove" X.env (CO o X.env)=CO o X.env:=by rfl)
  (My:((E1 yx (AW [e] X.env)).all (λx=>!x.1)&&(U9 yx (MC [] X.env)).all (λx=>x.1.isSome)
    &&decide ([e].length+([]:List Q3).length+(if ([]:List Q3).isEmpty then 0 else 1) < 30))=true:=by rfl)
  (zj:(apos.endLine==yx.line)=true:=by rfl) (hs:AW [e] X.env=(false,CO e X.env) :: AW [] X.env:=by rfl) (zy:(E1 yx (AW [] X.env)).any (·.1)=false:=by rfl) :
  GE X E (.Call (.Attribute o "remove" apos) [e] [] yx) (ZG mo mi):=(jk Kk PySem.F.slot_list_remove PySem.F.type_list_remove (fZ hu) ho (Fy he IG hs) zi My zj hs zy).imp<|by
 rintro σ H Q ⟨ρ,l,S,N,hs,m⟩
 refine⟨ρ,l,S,N,hs,m.seq λd O m B H1 v C P R=>?_⟩
 cases G:atL d O with
 | none=>rw[G]at m;exact m.elim
 | some z=>
  obtain⟨n,xs0⟩:=z;rw[G]at m;obtain⟨rfl,h0,a,I,rfl,hn,e0,_⟩:=Ol P R G;refine⟨.inl ⟨rfl,I,.inl (.inl e0)⟩,B,l,O,N.mono C,P,(m.later C).seq λx S2 m J H2 u T U r2=>?_⟩;split at m
  ·rename_i n' xs h2
   split at m
   ·rename_i rs k h3 h4
    split at m
    ·rename_i j h5
     obtain⟨e',h6,a',vs,ea,zQ,Y,Z⟩:=Ol U (R.mono T) h2;cases e';cases ea;obtain⟨i1,i2⟩:=Mg h3 Z;obtain⟨L,k2⟩:=Mg h4 (.cons r2 .nil);obtain⟨b,rfl,hb⟩:=k2 u Ae
     have L:En H2 (.ref b)=k:=by
      rw[Ap,Qz]at L
      injection L
     obtain⟨s4,l4⟩:=XM U zQ Y (Z.erase j);exact⟨a,b,vs,j,rfl,rfl,Y,i2,hb,by ext,m J _ _ (C.trans (T.trans l4)) s4 .non⟩
    ·exact m.elim
   ·exact m.elim
  ·exact m.elim
end
abbrev Cx.q(X:Cx):Cx:={ X with xe:=λ_ _=>False }
def D2(n:Nat)(m:MS)(o:List D)(S:Sto):Res D:=(okR (m (JV n o) S)).bind λf l=>match f with
 | .rt d=>.ok d l
 | .nx _=>.ok .non l
 | _=>.bad
section
variable{P:BN}{w:Bo}{K:AI}{mg:Str->Option AG}{base:B0}
def qD{x B}{st}{f}{fd}{N T}{k n}(F:Fun K x B st f fd)(Sc:KD N T (Ci st))(hn:T.length=n){O}
  (zZ:∀(R:AG) (A:Bg) (o:List Env) (s:AK) (H:Hp) (E:XK),G7 k (A.deeper (JR B (Ci st) s.heap.objs.size f R))->GSs (Xq (CXG P w) P w K mg base N B (Ci st) f R A o s H E).q noE (Hg st) O) :
  Hh P w K mg base (CXG P w) (k+1) f fd T (spM K n (D2 N.length O)):=by
 obtain⟨oc,od,kV,doc,pm,an,R,ct,Τ,rfl,lk,E'⟩:=F.ex
 refine yI lk E' Sc (λvs H Q E h=>by rw[hn];exact h.len) λA o s H vs Q E L h=>?_
 obtain⟨ρ,ds,S,h1,h2,h3,C⟩:=h;have hb:=zZ R A o s H E L;refine⟨gS K noE O,λζ U σ X D I q=>Gk (hb ζ U σ X D (I.with _) q) (λY s1 z=>?_) λe s1 z=>z.elim,ρ,_,S,aT h2,h3,?_⟩
 ·cases Y with
  | next=>obtain⟨m,G,J,z⟩:=z;exact⟨m,G,J.without,z⟩
  | brk=>obtain⟨m,G,J,z⟩:=z;exact⟨m,G,J.without,z⟩
  | cont=>obtain⟨m,G,J,z⟩:=z;exact⟨m,G,J.without,z⟩
  | ret u=>obtain⟨v,m,G,J,r,z⟩:=z;exact⟨v,m,G,J.without,r,z⟩
 ·unfold D2 at C
  cases L:O (JV N.length ds) S with
  | bad=>rw[L]at C;exact C.elim
  | err c S'=>rw[L]at C;exact C.elim
  | ok Y S'=>
   rw[L]at C
   cases Y with
   | nx Z=>exact λρ' X m l U r=>C ρ' X .non l U .non
   | rt d=>exact C
   | bk Z=>exact C.elim
   | ct Z=>exact C.elim
   | ex c Z=>exact C.elim
end
end L2
abbrev oN(e:L2.Lo)(S:L2.Sto):L2.Res L2.Fl:=.ok (.nx e) S
abbrev sR(n:Nat):Option L2.D:=some (.ref n)
abbrev sI(i:Int):Option L2.D:=some (.int i)
abbrev sF(l:ZLi):Option L2.D:=some (.fro (l.map L2.D.int))
namespace M
open L2
def LR(h:l (JV n m) S=.ok (.rt d) S1):D2 n l m S=.ok d S1:=by unfold D2;rw[h];rfl
def ae(h:l (JV n m) S=.ok (.nx e) S1):D2 n l m S=.ok .non S1:=by unfold D2;rw[h];rfl
end M
namespace L4
open L2
inductive Cel where
 | no | fz (o:Ob) | ow (i:Nat)
abbrev Fz:=Nat->Cel
inductive Sl where
 | u | v (d:D) | z (o:Ob) | y (o:Ob) | w (i:Nat) (o:Ob) | q (P:(Nat->Option Ob)->D->Prop)
def Sl.ok(l:Sto)(F:Fz)(S:Sto):Sl->Option D->Prop
 | .u,_=>True
 | .v d,x=>x=some d
 | .z o,x=>∃n,x=some (.ref n)/\F n=.fz o
 | .y o,x=>∃n,x=some (.ref n)/\F n=.fz o/\l.length<=n
 | .w i o,x=>∃n,x=some (.ref n)/\F n=.ow i/\S[n]?=some o
 | .q P,x=>∃d,x=some d/\∀L:Nat->Option Ob,(∀n o,F n=.fz o->L n=some o)->P L d
structure Vs(S0:Sto)(A:List Sl)(e:Lo)(F:Fz)(S:Sto):Prop where
 kp:Keeps S0 S
 fz:∀n o,F n=.fz o->S[n]?=some o
 ow:∀n i,F n=.ow i->S0.length<=n/\n < S.length
 hi:∀n,S.length<=n->F n=.no
 sl:∀(i:Nat) (a:Sl),A[i]?=some a->∃x,e[i]?=some x/\a.ok S0 F S x
def Fle(F l:Fz):Prop:=∀n o,F n=.fz o->l n=.fz o
def Fle.refl(F:Fz):Fle F F:=λ_ _ h=>h
def Fle.trans(a:Fle F G)(b:Fle G H):Fle F H:=λn o h=>b n o (a n o h)
noncomputable def Oh(F:Fz)(S l:Sto):Fz:=λn=>if n < S.length then F n else match l[n]? with
 | some o=>.fz o
 | none=>.no
section
variable{S0 S S':Sto}{A B:List Sl}{e:Lo}{F:Fz}{α β γ ρ σ τ:Type}
def E7(h:n < S.length):Oh F S S' n=F n:=qX h
def US(h:S.length<=n)(ho:S'[n]?=some o):Oh F S S' n=.fz o:=by
 unfold Oh;rw[qY (QF.mpr h),ho]
def BZ(h:S[n]?=some o):n < S.length:=(AB.mp h).1
def Sl.mono{S0:Sto}{F C:Fz}{S S':Sto}{a:Sl}{x:Option D}(h:a.ok S0 F S x)(E:∀n o,F n=.fz o->C n=.fz o)(H:∀n i o,F n=.ow i->S[n]?=some o->C n=.ow i/\S'[n]?=some o):a.ok S0 C S' x:=by
 cases a with
 | u=>trivial
 | v d=>exact h
 | z o=>obtain⟨n,l,m⟩:=h;exact⟨n,l,E _ _ m⟩
 | y o=>obtain⟨n,l,m,G⟩:=h;exact⟨n,l,E _ _ m,G⟩
 | w i o=>obtain⟨n,l,m,G⟩:=h;exact⟨n,l,H _ _ _ m G⟩
 | q P=>obtain⟨d,l,m⟩:=h;exact⟨d,l,λL I=>m L λn o q=>I n o (E n o q)⟩
def Vs.fle(h:Vs S0 A e F S)(S':Sto):Fle F (Oh F S S'):=λn o q=>by rw[E7 (BZ (h.fz n o q))];exact q
def Vs.grow(h:Vs S0 A e F S)(k:Keeps S S'):Vs S0 A e (Oh F S S') S':=by
 refine⟨h.kp.trans k,λn o q=>?_,λn i q=>?_,λn l=>?_,λi a C=>?_⟩
 ·unfold Oh at q
  split at q
  ·rename_i l
   rw[k.2 n l];exact h.fz n o q
  lia
 ·unfold Oh at q
  split at q
  ·exact⟨(h.ow n i q).1,AR (h.ow n i q).2 k.1⟩
  lia
 ·unfold Oh
  rw[qY (QF.mpr (Al k.1 l)),IW l]
 ·obtain⟨x,E,G⟩:=h.sl i a C
  exact⟨x,E,Sl.mono G (h.fle S') λn i o H m=>⟨by rw[E7 (BZ m)];exact H,by rw[k.2 n (BZ m)];exact m⟩⟩
def Vs.cons(h:Vs S0 A e F S)(l:a.ok S0 F S x):Vs S0 (a :: A) (x :: e) F S:=
 ⟨h.kp,h.fz,h.ow,h.hi,λi b hb=>by
  cases i with
  | zero=>ext
  | succ i=>exact h.sl i b hb⟩
def Vs.set(h:Vs S0 A e F S)(i:Nat)(l:a.ok S0 F S x):Vs S0 (A.set i a) (e.set i x) F S:=
 ⟨h.kp,h.fz,h.ow,h.hi,λj b hb=>by
  by_cases c:i=j
  ·subst c
   rw[Dr]at hb;rw[qX rfl]at hb;split at hb
   ·rename_i m
    cases hb;obtain⟨y,o,_⟩:=h.sl i (A[i]) (AM m);exact⟨x,by rw[Dr];rw[qX rfl,qX (AB.mp o).1],l⟩
   ·cases hb
  ·rw[AZ c]at hb ⊢
   exact h.sl j b hb⟩
inductive Wk:List Sl->List Sl->Prop where
 | nil:Wk [] []
 | same {a:Sl} {A B:List Sl}:Wk A B->Wk (a :: A) (a :: B)
 | drop {a:Sl} {A B:List Sl}:Wk A B->Wk (a :: A) (.u :: B)
 | less {o:Ob} {A B:List Sl}:Wk A B->Wk (.y o :: A) (.z o :: B)
theorem Wk.at{A B:List Sl}(w:Wk A B):∀(i:Nat) (b:Sl),B[i]?=some b->∃a,A[i]?=some a/\(b=.u∨b=a∨∃o,a=.y o/\b=.z o):=by
 induction w with
 | nil=>intro i b h;simp at h
 | same w I=>intro i b h;cases i with | zero=>cases h;exact⟨_,rfl,.inr (.inl rfl)⟩ | succ i=>exact I i b h
 | less w I=>intro i b h;cases i with | zero=>ext | succ i=>exact I i b h
 | drop w I=>intro i b h;cases i with | zero=>ext | succ i=>exact I i b h
theorem Wk.refl:∀A:List Sl,Wk A A
 | []=>.nil
 | _ :: A=>.same (Wk.refl A)
def Vs.weak(h:Vs S0 A e F S)(w:Wk A B):Vs S0 B e F S:=⟨h.kp,h.fz,h.ow,h.hi,λi b hb=>by
 obtain⟨a,m,C⟩:=w.at i b hb;obtain⟨x,l,E⟩:=h.sl i a m
 rcases C with rfl | rfl | ⟨o,rfl,rfl⟩
 ·exact⟨x,l,trivial⟩
 ·ext
 ·obtain⟨n,G,H,_⟩:=E
  exact⟨x,l,n,G,H⟩⟩
noncomputable def Sl.oth(i:Nat):Sl->Bool
 | .w k _=>!(Nat.beq k i)
 | _=>true
def jo(h:((A.set i .u).all (Sl.oth i))=true)(l:j≠i)(m:A[j]?=some (.w k o)):k≠i:=by
 have C:(A.set i .u)[j]?=some (.w k o):=by rw[AZ (Bw l)];exact m
 have:=Im.mp h _ (A0 C);intro e;subst e;have E:(!(Nat.beq k k))=true:=this;ext
def Vs.put(h:Vs S0 A e F S)(G:((A.set i .u).all (Sl.oth i))=true)(O:A[i]?=some (.w i o))(H:e[i]?=some (some (.ref n)))(C:F n=.ow i):Vs S0 (A.set i (.w i o')) e F (S.set n o'):=by
 have I:=h.ow n i C;refine⟨h.kp.set I.1 o',λk q J=>?_,λk j q=>by rw[DB];exact h.ow k j q,λk Q=>h.hi k (by ext),λj b hb=>?_⟩
 ·have:n≠k:=λc=>by ext
  rw[AZ this];exact h.fz k q J
 ·by_cases c:i=j
  ·subst c
   rw[Dr]at hb;rw[qX rfl]at hb;split at hb
   ·cases hb
    exact⟨_,H,n,rfl,C,by ext⟩
   ·cases hb
  ·rw[AZ c]at hb
   obtain⟨x,L,l⟩:=h.sl j b hb;refine⟨x,L,?_⟩
   cases b with
   | u=>trivial
   | v d=>exact l
   | z q=>exact l
   | y q=>exact l
   | q P=>exact l
   | w k q=>
    obtain⟨m,N,E,R⟩:=l;refine⟨m,N,E,?_⟩
    have:n≠m:=λz=>by
     subst z;rw[C]at E;cases E;exact jo G (λz=>c z.symm) hb rfl
    ext
def Vs.freeze(h:Vs S0 A e F S)(O:((A.set i .u).all (Sl.oth i))=true)(Q:A[i]?=some (.w i o)):∃F',Vs S0 (A.set i (.y o)) e F' S/\Fle F F':=by
 obtain⟨x,R,n,rfl,N,X⟩:=h.sl i _ Q
 have g:∀k,k≠n->(if k=n then Cel.fz o else F k)=F k:=λk H=>qY H
 have G:Fle F (λk=>if k=n then Cel.fz o else F k):=λk q I=>by
  lia
 refine⟨λk=>if k=n then .fz o else F k,⟨h.kp,λk q I=>?_,λk j q=>?_,λk H=>?_,λj b hb=>?_⟩,G⟩
 ·split at I
  ·ext
  ·exact h.fz k q I
 ·split at q
  ·cases q
  ·exact h.ow k j q
 ·have:k≠n:=λc=>by ext
  rw[qY this];exact h.hi k H
 ·by_cases c:i=j
  ·subst c
   rw[Dr]at hb;rw[qX rfl]at hb;split at hb
   ·cases hb
    exact⟨_,R,n,rfl,qX rfl,(h.ow n i N).1⟩
   ·cases hb
  ·rw[AZ c]at hb
   obtain⟨x,T,E⟩:=h.sl j b hb;refine⟨x,T,?_⟩
   cases b with
   | u=>trivial
   | v d=>exact E
   | z q=>obtain⟨m,C,l⟩:=E;exact⟨m,C,G _ _ l⟩
   | y q=>obtain⟨m,C,l,J⟩:=E;exact⟨m,C,G _ _ l,J⟩
   | q P=>obtain⟨d,C,l⟩:=E;exact⟨d,C,λL U=>l L λn o q=>U n o (G n o q)⟩
   | w k q=>
    obtain⟨m,C,l,J⟩:=E;refine⟨m,C,?_,J⟩
    have:m≠n:=λz=>by
     subst z;rw[N]at l;cases l;exact jo O (λz=>c z.symm) hb rfl
    ext
def Vs.own(h:Vs S0 A e F S)(k:Keeps S S'){i n:Nat}{o:Ob}(E:S.length<=n)(ho:S'[n]?=some o):∃F',Vs S0 (A.set i (.w i o)) (e.set i (some (.ref n))) F' S'/\Fle F F':=by
 have g:=h.grow k;have C:=BZ ho
 have G:Fle F (λj=>if j=n then Cel.ow i else Oh F S S' j):=λj q l=>by
  have:j≠n:=λc=>by subst c;exact zX (BZ (h.fz _ _ l)) (QF.mpr E)
  show(if j=n then Cel.ow i else _)=_;rw[qY this];exact h.fle S' _ _ l
 refine⟨λj=>if j=n then .ow i else Oh F S S' j,(Vs.set ⟨g.kp,λj q l=>?_,λj q l=>?_,λj H=>?_,λj b hb=>?_⟩ i ⟨n,rfl,qX rfl,ho⟩),G⟩
 ·split at l
  ·cases l
  ·exact g.fz j q l
 ·split at l
  ·rename_i c;subst c;exact⟨Al h.kp.1 E,C⟩
  ·exact g.ow j q l
 ·have:j≠n:=λc=>by subst c;exact zX C (QF.mpr H)
  rw[qY this];exact g.hi j H
 ·obtain⟨x,L,N⟩:=h.sl j b hb
  refine⟨x,L,Sl.mono N G λm j q O I=>?_⟩;have J:=BZ I
  have:m≠n:=λc=>by ext
  refine⟨?_,by rw[k.2 m J];exact I⟩;rw[qY this,E7 J];exact O
abbrev Rk(α:Type):=α->Sto->D->Sto->Prop
def rV(enc:α->D):Rk α:=λv _ d _=>d=enc v
def rO(l:α->Ob):Rk α:=λv _ d S=>∃n,d=.ref n/\S[n]?=some (l v)
def rN(l:α->Ob):Rk α:=λv S0 d S=>∃n,d=.ref n/\S0.length<=n/\S[n]?=some (l v)
def VE(A:List Sl)(m:ME)(R:Rk α)(p:Option α):Prop:=∀v,p=some v->∀S0 e F S,Vs S0 A e F S->∃d S',m e S=.ok d S'/\Keeps S S'/\R v S d S'
def VB(A:List Sl)(t:MT)(p:Option Bool):Prop:=∀v,p=some v->∀S0 e F S,Vs S0 A e F S->∃S',t e S=.ok v S'/\Keeps S S'
def VL(A:List Sl)(ml:ML)(enc:α->D)(p:Option (List α)):Prop:=∀v,p=some v->∀S0 e F S,Vs S0 A e F S->∃S',ml e S=.ok (v.map enc) S'/\Keeps S S'
def VK(A:List Sl)(mi:MI)(enc:α->D)(p:Option (List α)):Prop:=∀v,p=some v->∀S0 e F S,Vs S0 A e F S->∃w S',mi e S=.ok w S'/\Keeps S S'/\∀l,Keeps S' l->w l=some (v.map enc)
def VI(A:List Sl)(mi:MI)(enc:α->D)(p:Option (List α)):Prop:=∀v,p=some v->∀S0 e F S,Vs S0 A e F S->∃w S',mi e S=.ok w S'/\Keeps S S'/\∀l m,Fle (Oh F S S') l->(∀n o,l n=.fz o->m[n]?=some o)->w m=some (v.map enc)
def VI.k(h:VI A mi enc p):VK A mi enc p:=λv C S0 e F S l=>by
 obtain⟨w,S',E,m,G⟩:=h v C S0 e F S l;have g:=l.grow m;exact⟨w,S',E,m,λo k=>G _ o (g.fle o) (g.grow k).fz⟩
noncomputable def eT(enc:α->D)(l:List α):D:=.tup (l.map enc)
noncomputable def eP(a:α->D)(b:β->D)(x:α×β):D:=.tup [a x.1,b x.2]
noncomputable def eU(_:Unit):D:=.non
noncomputable def eF(l:ZLi):D:=.fro (l.map D.int)
noncomputable def oL(enc:α->D)(l:List α):Ob:=.lst (l.map enc)
def sZ(h:VE A m R p)(i:∀v S d S',R v S d S'->R' v S d S'):VE A m R' p:=λv l S0 e F S o=>by
 obtain⟨d,S',C,E,G⟩:=h v l S0 e F S o;exact⟨d,S',C,E,i _ _ _ _ G⟩
def GJ(h:VE A m (rN l) p):VE A m (rO l) p:=sZ h λv S d S' ⟨n,o,_,C⟩=>⟨n,o,C⟩
def AN(h:A[i]?=some (.v (enc v))):VE A (AC i) (rV enc) (some v):=λ_ l S0 e F S m=>by
 cases l;obtain⟨x,o,C⟩:=m.sl i _ h;cases C;exact⟨_,S,by unfold AC;rw[o],Keeps.refl S,rfl⟩
def D1(h:A[i]?=some (.z (m v))):VE A (AC i) (rO m) (some v):=λ_ o S0 e F S l=>by
 cases o;obtain⟨x,C,n,rfl,E⟩:=l.sl i _ h;exact⟨_,S,by unfold AC;rw[C],Keeps.refl S,n,rfl,l.fz _ _ E⟩
def Gh(h:A[i]?=some (.y (m v))):VE A (AC i) (rO m) (some v):=λ_ o S0 e F S l=>by
 cases o;obtain⟨x,C,n,rfl,E,_⟩:=l.sl i _ h;exact⟨_,S,by unfold AC;rw[C],Keeps.refl S,n,rfl,l.fz _ _ E⟩
def IN(h:A[i]?=some (.w k (l v))):VE A (AC i) (rO l) (some v):=λ_ m S0 e F S o=>by
 cases m;obtain⟨x,C,n,rfl,G,E⟩:=o.sl i _ h;exact⟨_,S,by unfold AC;rw[C],Keeps.refl S,n,rfl,E⟩
def CP(h:d=enc v):VE A (mC d) (rV enc) (some v):=λ_ l S0 e F S m=>by
 cases l;exact⟨d,S,rfl,Keeps.refl S,h⟩
def BC(h:p.bind q=some v):∃x,p=some x/\q x=some v:=Option.bind_eq_some_iff.mp h
def HG{f:D->D->Sto->Res D}{a b:ME}{m:α->D}{o:β->D}{C:γ->D}{E:Option α}{G:Option β}{g:α->β->Option γ}(L:VE A a (rV m) E)(hb:VE A b (rV o) G)
  (hf:∀x y z S,g x y=some z->f (m x) (o y) S=.ok (C z) S):VE A (m2 f a b) (rV C) (E.bind λx=>G.bind λy=>g x y):=λv l S0 e F S H=>by
 obtain⟨x,N,l⟩:=BC l;obtain⟨y,O,P⟩:=BC l;obtain⟨d1,Q,R,I,rfl⟩:=L x N S0 e F S H;obtain⟨d2,J,T,U,rfl⟩:=hb y O S0 e _ Q (H.grow I);exact⟨_,J,D9 R T (hf x y v J P),I.trans U,rfl⟩
def Sz{f:D->D->Sto->Res D}{a b:ME}{m:α->D}{o:β->Ob}{C:γ->D}{E:Option α}{G:Option β}{g:α->β->Option γ}(L:VE A a (rV m) E)(hb:VE A b (rO o) G)
  (hf:∀x y z S (n:Nat),S[n]?=some (o y)->g x y=some z->f (m x) (.ref n) S=.ok (C z) S):VE A (m2 f a b) (rV C) (E.bind λx=>G.bind λy=>g x y):=λv l S0 e F S H=>by
 obtain⟨x,N,l⟩:=BC l;obtain⟨y,O,P⟩:=BC l;obtain⟨d1,Q,R,I,rfl⟩:=L x N S0 e F S H;obtain⟨d2,J,T,U,n,rfl,X⟩:=hb y O S0 e _ Q (H.grow I);exact⟨_,J,D9 R T (hf x y v J n X P),I.trans U,rfl⟩
def W7{f:D->D->Sto->Res D}{a b:ME}{m:α->Ob}{o:β->D}{C:γ->D}{E:Option α}{G:Option β}{g:α->β->Option γ}(N:VE A a (rO m) E)(hb:VE A b (rV o) G)
  (hf:∀x y z S (n:Nat),S[n]?=some (m x)->g x y=some z->f (.ref n) (o y) S=.ok (C z) S):VE A (m2 f a b) (rV C) (E.bind λx=>G.bind λy=>g x y):=λv l S0 e F S H=>by
 obtain⟨x,O,l⟩:=BC l;obtain⟨y,P,Q⟩:=BC l;obtain⟨d1,R,T,I,n,rfl,U⟩:=N x O S0 e F S H;obtain⟨d2,J,X,L,rfl⟩:=hb y P S0 e _ R (H.grow I);exact⟨_,J,D9 T X (hf x y v J n (L.at U) Q),I.trans L,rfl⟩
def ID(h:VE A m (rV D.bl) p):VB A (mB m) p:=λv l S0 e F S o=>by
 obtain⟨d,S',C,E,rfl⟩:=h v l S0 e F S o;exact⟨S',Vp C,E⟩
def aI(h:VE A m (rV D.bl) p):VB A (GN m) p:=λv l S0 e F S o=>by
 obtain⟨d,S',C,E,rfl⟩:=h v l S0 e F S o;refine⟨S',?_,E⟩;unfold GN;rw[C];rfl
def FG:VB A Ex (some true):=λv l S0 e F S m=>by cases l;exact⟨S,rfl,Keeps.refl S⟩
def S6(h:VB A t p):VB A (Oa t) (p.bind λb=>some (!b)):=λv l S0 e F S m=>by
 obtain⟨x,o,C⟩:=BC l;cases C;obtain⟨S',E,G⟩:=h x o S0 e F S m;exact⟨S',OY E,G⟩
def ik(h:VB A t p)(G:VB A u q):VB A (Rt t u) (p.bind λb=>if b=true then q else some false):=λv H S0 e F S m=>by
 obtain⟨x,I,o⟩:=BC H;obtain⟨C,E,l⟩:=h x I S0 e F S m
 cases x with
 | true=>
  obtain⟨J,L,N⟩:=G v o S0 e _ C (m.grow l);exact⟨J,(X1 E).trans L,l.trans N⟩
 | false=>cases o;exact⟨C,dc E,l⟩
def aH(L:VB A t pt)(N:VE A a R O)(hb:VE A b R P)(H:∀v S S1 d S',S.length<=S1.length->R v S1 d S'->R v S d S'):VE A (ZH t a b) R (pt.bind λc=>if c=true then O else P):=λv Q S0 e F S m=>by
 obtain⟨x,T,I⟩:=BC Q;obtain⟨S1,J,l⟩:=L x T S0 e F S m
 cases x with
 | true=>
  obtain⟨d,o,C,E,G⟩:=N v I S0 e _ S1 (m.grow l);exact⟨d,o,(kY J).trans C,l.trans E,H _ _ _ _ _ l.1 G⟩
 | false=>
  obtain⟨d,o,C,E,G⟩:=hb v I S0 e _ S1 (m.grow l);exact⟨d,o,(kY J).trans C,l.trans E,H _ _ _ _ _ l.1 G⟩
def Gr:∀(v:α) (S S1:Sto) (d:D) (S':Sto),S.length<=S1.length->rV enc v S1 d S'->rV enc v S d S':=λ_ _ _ _ _ _ h=>h
def Gs:∀(v:α) (S S1:Sto) (d:D) (S':Sto),S.length<=S1.length->rN m v S1 d S'->rN m v S d S':=λ_ _ _ _ _ l ⟨n,o,C,E⟩=>⟨n,o,Al l C,E⟩
inductive Fw(ρ σ:Type) where
 | rt (r:ρ) | nx (s:σ) | bk (s:σ) | ct (s:σ)
def VG(S0:Sto)(F:Fz)(S':Sto)(R:Rk ρ)(B:σ->List Sl)(g:Fl):Fw ρ σ->Prop
 | .nx s=>∃l m,g=.nx l/\Vs S0 (B s) l m S'/\Fle F m
 | .ct s=>∃l m,g=.ct l/\Vs S0 (B s) l m S'/\Fle F m
 | .bk s=>∃l m,g=.bk l/\Vs S0 (B s) l m S'/\Fle F m
 | .rt r=>∃d,g=.rt d/\R r S0 d S'/\Keeps S0 S'
def VS(A:List Sl)(b:MS)(R:Rk ρ)(p:Option (Fw ρ σ))(B:σ->List Sl):Prop:=∀f,p=some f->∀S0 e F S,Vs S0 A e F S->∃g S',b e S=.ok g S'/\VG S0 F S' R B g f
noncomputable def BJ(p:Option (Fw ρ σ))(q:σ->Option (Fw ρ τ)):Option (Fw ρ τ):=match p with
 | some (.nx s)=>q s
 | some (.rt r)=>some (.rt r)
 | _=>none
def VG.up{S0:Sto}{F H:Fz}{S':Sto}{R:Rk ρ}{B:σ->List Sl}{g:Fl}{f:Fw ρ σ}(l:Fle F H)(h:VG S0 H S' R B g f):VG S0 F S' R B g f:=by
 cases f with
 | rt r=>exact h
 | nx s=>obtain⟨m,o,C,E,G⟩:=h;exact⟨m,o,C,E,l.trans G⟩
 | bk s=>obtain⟨m,o,C,E,G⟩:=h;exact⟨m,o,C,E,l.trans G⟩
 | ct s=>obtain⟨m,o,C,E,G⟩:=h;exact⟨m,o,C,E,l.trans G⟩
def BD{a b:MS}{R:Rk ρ}{p:Option (Fw ρ σ)}{q:σ->Option (Fw ρ τ)}{B:σ->List Sl}{C:τ->List Sl}(H:VS A a R p B)(hb:∀s,VS (B s) b R (q s) C):VS A (BK a b) R (BJ p q) C:=λf m S0 e F S I=>by
 cases p with
 | none=>cases m
 | some w=>
  obtain⟨g,E,G,l⟩:=H _ rfl S0 e F S I
  cases w with
  | nx s=>
   obtain⟨J,L,rfl,l,o⟩:=l;obtain⟨N,O,P,Q⟩:=hb s f m S0 J L E l;exact⟨N,O,(B2 G).trans P,Q.up o⟩
  | rt r=>
   cases m;obtain⟨d,rfl,l,o⟩:=l;exact⟨_,E,XG G,d,rfl,l,o⟩
  | bk s=>cases m
  | ct s=>cases m
def HE{R:Rk ρ}{B:σ->List Sl}{s:σ}(w:Wk A (B s)):VS A sNx R (some (.nx s)) B:=λf l S0 e F S m=>by
 cases l;exact⟨_,S,rfl,e,F,rfl,m.weak w,Fle.refl F⟩
noncomputable def Eg(g:σ->τ)(p:Option (Fw ρ σ)):Option (Fw ρ τ):=match p with
 | some (.nx s)=>some (.nx (g s))
 | some (.rt r)=>some (.rt r)
 | some (.bk s)=>some (.bk (g s))
 | some (.ct s)=>some (.ct (g s))
 | none=>none
def Cr{b:MS}{R:Rk ρ}{p:Option (Fw ρ σ)}{g:σ->τ}{B:σ->List Sl}{C:τ->List Sl}(h:VS A b R p B)(w:∀s,Wk (B s) (C (g s))):VS A b R (Eg g p) C:=λf m S0 e F S J=>by
 cases p with
 | none=>cases m
 | some x=>
  obtain⟨g,H,I,l⟩:=h _ rfl S0 e F S J
  cases x with
  | nx s=>cases m;obtain⟨o,E,rfl,l,G⟩:=l;exact⟨_,H,I,o,E,rfl,l.weak (w s),G⟩
  | rt r=>cases m;exact⟨_,H,I,l⟩
  | bk s=>cases m;obtain⟨o,E,rfl,l,G⟩:=l;exact⟨_,H,I,o,E,rfl,l.weak (w s),G⟩
  | ct s=>cases m;obtain⟨o,E,rfl,l,G⟩:=l;exact⟨_,H,I,o,E,rfl,l.weak (w s),G⟩
def Dy(h:VE A m (rV enc) p):VS A (Ce i m) R (p.bind λv=>some (.nx v)) (λv=>A.set i (.v (enc v))):=λf o S0 e F S l=>by
 obtain⟨v,C,E⟩:=BC o;cases E;obtain⟨d,S',G,H,rfl⟩:=h v C S0 e F S l;exact⟨_,S',LQ G,_,_,rfl,(l.grow H).set i rfl,l.fle S'⟩
def HC(h:VE A m (rN C) p):VS A (Ce i m) R (p.bind λv=>some (.nx v)) (λv=>A.set i (.y (C v))):=λf E S0 e F S l=>by
 obtain⟨v,G,H⟩:=BC E;cases H;obtain⟨d,S',I,J,n,rfl,o,L⟩:=h v G S0 e F S l;exact⟨_,S',LQ I,_,_,rfl,(l.grow J).set i ⟨n,rfl,US o L,Al l.kp.1 o⟩,l.fle S'⟩
def Fv(h:VE A m (rN o) p):VS A (Ce i m) R (p.bind λv=>some (.nx v)) (λv=>A.set i (.w i (o v))):=λf C S0 e F S l=>by
 obtain⟨v,E,G⟩:=BC C;cases G;obtain⟨d,S',H,I,n,rfl,J,L⟩:=h v E S0 e F S l;obtain⟨N,O,P⟩:=l.own I J L;exact⟨_,S',LQ H,_,N,rfl,O,P⟩
def QO(h:A[j]?=some (.y o)):VS A (Ce i (AC j)) R (some (.nx ())) (λ_:Unit=>A.set i (.y o)):=λf m S0 e F S l=>by
 cases m;obtain⟨x,C,n,rfl,E,G⟩:=l.sl j _ h;exact⟨_,S,LQ (by unfold AC;rw[C]),_,F,rfl,l.set i ⟨n,rfl,E,G⟩,Fle.refl F⟩
def aD{b:MS}{R:Rk ρ}{p:Option (Fw ρ σ)}{B:σ->List Sl}{o:Ob}(i:Nat)(l:A[i]?=some (.w i o))(m:((A.set i .u).all (Sl.oth i))=true)(h:VS (A.set i (.y o)) b R p B):VS A b R p B:=λf C S0 e F S E=>by
 obtain⟨G,H,I⟩:=E.freeze m l;obtain⟨g,S',J,L⟩:=h f C S0 e G S H;exact⟨g,S',J,L.up I⟩
def HD{m:ME}{enc:ρ->D}{p:Option ρ}{B:σ->List Sl}(h:VE A m (rV enc) p):VS A (DL m) (rV enc) (p.bind λv=>some (.rt v)) B:=λf o S0 e F S l=>by
 obtain⟨v,C,E⟩:=BC o;cases E;obtain⟨d,S',G,H,rfl⟩:=h v C S0 e F S l;exact⟨_,S',LS G,_,rfl,rfl,l.kp.trans H⟩
def Ek{m:ME}{o:ρ->Ob}{p:Option ρ}{B:σ->List Sl}(h:VE A m (rN o) p):VS A (DL m) (rN o) (p.bind λv=>some (.rt v)) B:=λf C S0 e F S l=>by
 obtain⟨v,E,G⟩:=BC C;cases G;obtain⟨d,S',H,I,n,rfl,J,L⟩:=h v E S0 e F S l;exact⟨_,S',LS H,_,rfl,⟨n,rfl,Al l.kp.1 J,L⟩,l.kp.trans I⟩
def O9{i:Nat}{m:ρ->Ob}{v:ρ}{B:σ->List Sl}{k:Nat}(h:A[i]?=some (.w k (m v))):VS A (DL (AC i)) (rN m) (some (.rt v)) B:=λf o S0 e F S l=>by
 cases o;obtain⟨x,C,n,rfl,E,G⟩:=l.sl i _ h;exact⟨_,S,LS (by unfold AC;rw[C]),_,rfl,⟨n,rfl,(l.ow _ _ E).1,G⟩,l.kp⟩
def cD{i:Nat}{m:ρ->Ob}{v:ρ}{B:σ->List Sl}(h:A[i]?=some (.y (m v))):VS A (DL (AC i)) (rN m) (some (.rt v)) B:=λf o S0 e F S l=>by
 cases o;obtain⟨x,C,n,rfl,E,G⟩:=l.sl i _ h;exact⟨_,S,LS (by unfold AC;rw[C]),_,rfl,⟨n,rfl,G,l.fz _ _ E⟩,l.kp⟩
def HF{t:MT}{a b:MS}{R:Rk ρ}{pt:Option Bool}{p q:Option (Fw ρ σ)}{B:σ->List Sl}(J:VB A t pt)(L:VS A a R p B)(hb:VS A b R q B):VS A (sIf t a b) R (pt.bind λc=>if c=true then p else q) B:=λf N S0 e F S l=>by
 obtain⟨c,O,G⟩:=BC N;obtain⟨m,H,I⟩:=J c O S0 e F S l
 cases c with
 | true=>
  obtain⟨g,o,C,E⟩:=L f G S0 e _ m (l.grow I);exact⟨g,o,(Gw H).trans C,E.up (l.fle m)⟩
 | false=>
  obtain⟨g,o,C,E⟩:=hb f G S0 e _ m (l.grow I);exact⟨g,o,(Gw H).trans C,E.up (l.fle m)⟩
noncomputable def Vj(l:List α)(x:α):Option (List α):=if l.length < 1000000 then some (l++[x])else none
noncomputable def M6(l k:List α):Option (List α):=if l.length+k.length<=1000000 then some (l++k)else none
def ZK(h:n < 1000000):n < sizeLine:=AR h (by decide)
def kI(h:n<=1000000):n<=sizeLine:=Al h (by decide)
def Ss(hi:A[i]?=some (.w i (oL enc l)))(h:VE A m (rV enc) p)(L:((A.set i .u).all (Sl.oth i))=true) :
  VS A (Fj (Nr (AC i) m)) R (p.bind λv=>(Vj l v).bind λC=>some (.nx C)) (λC=>A.set i (.w i (oL enc C))):=λf N S0 e F S E=>by
 obtain⟨v,O,o⟩:=BC N;obtain⟨C,o,P⟩:=BC o;cases P;unfold Vj at o;split at o
 ·rename_i Q
  cases o;obtain⟨x,H,n,rfl,T,G⟩:=E.sl i _ hi;obtain⟨d,S',U,I,rfl⟩:=h v O S0 e F S E;have X:=E.grow I;have J:=Xz (mo:=AC i) (by unfold AC;rw[H]) G U (I.at G) (by rw[AH];exact ZK Q);rw[show l.map enc++[enc v]=(l++[v]).map enc by simp]at J;exact⟨_,_,Lp J,e,_,rfl,X.put L hi H (by rw[E7 (BZ G)];exact T),E.fle S'⟩
 ·cases o
def iM(hi:A[i]?=some (.w i (oL enc l)))(h:VE A m (rN (oL enc)) p)(L:((A.set i .u).all (Sl.oth i))=true) :
  VS A (Fj (Nb (AC i) m)) R (p.bind λv=>(M6 l v).bind λC=>some (.nx C)) (λC=>A.set i (.w i (oL enc C))):=λf N S0 e F S E=>by
 obtain⟨v,O,o⟩:=BC N;obtain⟨C,o,P⟩:=BC o;cases P;unfold M6 at o;split at o
 ·rename_i Q
  cases o;obtain⟨x,H,n,rfl,T,G⟩:=E.sl i _ hi;obtain⟨d,S',U,I,k,rfl,Z,X⟩:=h v O S0 e F S E;have Y:=E.grow I;have J:=gV (mo:=AC i) (by unfold AC;rw[H]) G U (I.at G) X (λc=>by ext) (by rw[AH,AH];exact kI Q);rw[<-BX]at J;exact⟨_,_,Lp J,e,_,rfl,Y.put L hi H (by rw[E7 (BZ G)];exact T),E.fle S'⟩
 ·cases o
def nT(h:VE A m Rm p):VS A (Fj m) R (p.bind λ_=>some (.nx ())) (λ_:Unit=>A):=λf o S0 e F S l=>by
 obtain⟨v,C,E⟩:=BC o;cases E;obtain⟨d,S',G,H,_⟩:=h v C S0 e F S l;exact⟨_,S',Lp G,e,_,rfl,l.grow H,l.fle S'⟩
def QN(hi:A[i]?=some (.v (D.int x)))(h:VE A m (rV D.int) p):VS A (Td i g m) R (p.bind λy=>some (.nx (g x y))) (λz=>A.set i (.v (D.int z))):=λf o S0 e F S l=>by
 obtain⟨v,C,E⟩:=BC o;cases E;obtain⟨d,S',I,G,rfl⟩:=h v C S0 e F S l;obtain⟨y,J,H⟩:=l.sl i _ hi;cases H;refine⟨_,S',?_,_,_,rfl,(l.grow G).set i rfl,l.fle S'⟩;unfold Td;ext
def VT(g:MG)(enc:α->D)(t:α->List Sl->List Sl):Prop:=∀x S0 A e F S,Vs S0 A e F S->∃l,g (enc x) e S=.ok l S/\Vs S0 (t x A) l F S
def DX:VT (tgN i) enc (λx A=>A.set i (.v (enc x))):=λx S0 A e F S l=>⟨_,rfl,l.set i rfl⟩
def nQ:VT (MX 2 (FH (tgN i) (FH (tgN j) N5))) (eP a b) (λx A=>(A.set i (.v (a x.1))).set j (.v (b x.2))):=λx S0 A e F S l=>⟨_,rfl,(l.set (a:=.v (a x.1)) i rfl).set j rfl⟩
noncomputable def E6:List α->σ->(σ->α->Option (Fw ρ σ))->Option (Fw ρ σ)
 | [],s,_=>some (.nx s)
 | x :: l,s,q=>match q s x with
  | some (.nx m)=>E6 l m q
  | some (.ct m)=>E6 l m q
  | some (.bk m)=>some (.nx m)
  | some (.rt r)=>some (.rt r)
  | none=>none
def nS{enc:α->D}{g:MG}{t:α->List Sl->List Sl}{b:MS}{R:Rk ρ}{q:σ->α->Option (Fw ρ σ)}{B:σ->List Sl}(hg:VT g enc t)(hb:∀s x,VS (t x (B s)) b R (q s x) B){w:P4}{S0:Sto}{Z:Fz}{m:List α}
  (hw:∀P zN,Fle Z P->(∀n o,P n=.fz o->zN[n]?=some o)->w zN=some (m.map enc)):∀(l:List α) (k:Nat),m.drop k=l->∀(s:σ) (f:Fw ρ σ),E6 l s q=some f->∀e F S,Vs S0 (B s) e F S->Fle Z F->∃h S',M1 w g b (l.length) k e S=.ok h S'/\VG S0 Z S' R B h f:=by
 intro l
 induction l with
 | nil=>
  intro k U s f E e F S Q G;cases E
  have:m.length<=k:=by
   have:=congrArg Ev U;rw[ES,me]at this
   ext
  refine⟨_,S,?_,e,F,rfl,Q,G⟩;unfold M1;rw[hw F S G Q.fz];ext
 | cons x l ih=>
  intro k U s f E e F S Q G
  have hx:m[k]?=some x:=by
   have:=congrArg (λz=>z[0]?) U;rw[Ju]at this;simpa using this
  have zu:m.drop (k+1)=l:=by
   have H:m.drop (k+1)=(m.drop k).drop 1:=by rw[Vx]
   exact H.trans (congrArg (List.drop 1) U)
  obtain⟨H,g1,X⟩:=hg x S0 _ e F S Q
  have run:∀h S',b H S=.ok h S'->M1 w g b ((x :: l).length) k e S=(match h with
    | .nx C=>M1 w g b l.length (k+1) C S'
    | .ct C=>M1 w g b l.length (k+1) C S'
    | .bk C=>.ok (.nx C) S'
    | .rt d=>.ok (.rt d) S'
    | .ex c C=>.ok (.ex c C) S'):=λh S' hb'=>by
   conv=>lhs;unfold M1
   rw[hw F S G Q.fz];dsimp only;rw[AX,hx];dsimp only[v4];rw[g1];dsimp only[Res.bind];rw[hb'];rfl
  unfold E6 at E;split at E
  ·rename_i Y I
   obtain⟨h,J,L,C,T,rfl,N,O⟩:=hb s x _ I S0 H F S X;rw[run _ _ L];exact ih (k+1) zu Y f E C T J N (G.trans O)
  ·rename_i Y I
   obtain⟨h,J,L,C,T,rfl,N,O⟩:=hb s x _ I S0 H F S X;rw[run _ _ L];exact ih (k+1) zu Y f E C T J N (G.trans O)
  ·rename_i Y I
   cases E;obtain⟨h,J,L,C,T,rfl,N,O⟩:=hb s x _ I S0 H F S X;rw[run _ _ L];exact⟨_,J,rfl,C,T,rfl,N,G.trans O⟩
  ·rename_i r I
   cases E;obtain⟨h,J,L,d,rfl,N,O⟩:=hb s x _ I S0 H F S X;rw[run _ _ L];exact⟨_,J,rfl,d,rfl,N,O⟩
  ·cases E
def Ee{enc:α->D}{mi:MI}{g:MG}{t:α->List Sl->List Sl}{b:MS}{R:Rk ρ}{p:Option (List α)}{q:σ->α->Option (Fw ρ σ)}{B:σ->List Sl}{s0:σ}(hi:VI A mi enc p)(G:VT g enc t)(w0:Wk A (B s0))(hb:∀s x,VS (t x (B s)) b R (q s x) B) :
  VS A (Em mi g b) R (p.bind λl=>E6 l s0 q) B:=λf H S0 e F S C=>by
 obtain⟨l,I,J⟩:=BC H;obtain⟨w,o,L,N,E⟩:=hi l I S0 e F S C;have m:=C.grow N
 have O:D0 w o=l.length:=by unfold D0;rw[E _ o (Fle.refl _) m.fz];exact AH _
 obtain⟨h,P,Q,T⟩:=nS G hb E l 0 rfl s0 f J e _ o (m.weak w0) (Fle.refl _);refine⟨h,P,?_,T.up (C.fle o)⟩;rw[JA L,O];exact Q
noncomputable def Ub(c:α->Option Bool)(m:α->Option β):List α->Option (List β)
 | []=>some []
 | x :: l=>(c x).bind λb=>if b=true then(m x).bind λy=>(Ub c m l).bind λo=>some (y :: o)else Ub c m l
def EB(l:List α)(c:α->Option Bool)(m:α->Option β):Option (List β):=if l.length<=1000000 then Ub c m l else none
def iN{enc:α->D}{O:β->D}{g:MG}{P:List (Option D)->Prop}{T:α->List Sl}{c:MT}{m:ME}{Z:α->Option Bool}{pm:α->Option β}
  (hg:∀x S0 e F S C,P C->Vs S0 A e F S->∃H,g (enc x) (C++e) S=.ok (H++e) S/\P H/\Vs S0 (T x) (H++e) F S)
  (hc:∀x,VB (T x) c (Z x)) (hm:∀x,VE (T x) m (rV O) (pm x)) {w:P4} {S0:Sto} {e:Lo} {o:List α} {S1:Sto} (hf:o.length<=1000000) (hw:∀zN,Keeps S1 zN->w zN=some (o.map enc)) :
  ∀(l:List α) (k:Nat),o.drop k=l->∀(r:List β),Ub Z pm l=some r->∀C F S E,P C->Vs S0 A e F S->Keeps S1 S->E.length<=k->∃S',Gz w g c m l.length k (C++e) S E=.ok (E++r.map O) S'/\Keeps S S':=by
 intro l
 induction l with
 | nil=>
  intro k J r L C F S E hp Q G ha;cases L
  have:o.length<=k:=by
   have:=congrArg Ev J;rw[ES,me]at this
   lia
  refine⟨S,?_,Keeps.refl S⟩;unfold Gz;ext
 | cons x l ih=>
  intro k J r L C F S E hp Q G ha
  have hx:o[k]?=some x:=by
   have:=congrArg (λz=>z[0]?) J;rw[Ju]at this;simpa using this
  have zu:o.drop (k+1)=l:=by
   have e1:o.drop (k+1)=(o.drop k).drop 1:=by rw[Vx]
   exact e1.trans (congrArg (List.drop 1) J)
  have ϑ:=(AB.mp hx).1;obtain⟨H,g1,g2,g3⟩:=hg x S0 e F S C hp Q;unfold Ub at L;obtain⟨b,h1,N⟩:=BC L;obtain⟨S2,h3,I⟩:=hc x b h1 S0 _ F S g3;have zB:=Q.grow I
  show ∃S',Gz w g c m (l.length+1) k (C++e) S E=_/\_
  conv=>arg 1;ext S';arg 1;lhs;unfold Gz
  rw[hw S G];dsimp only;rw[AX,hx];dsimp only[v4];rw[qX (Bd ha (ZK (AR ϑ hf))),g1];dsimp only[okR,Res.bind];rw[h3];dsimp only[okR,Res.bind]
  cases b with
  | true=>
   rw[qX rfl]at N ⊢;obtain⟨y,h5,h6⟩:=BC N;obtain⟨ys,R,h7⟩:=BC h6;cases h7;obtain⟨d,S3,h8,U,rfl⟩:=hm x y h5 S0 _ _ S2 (g3.grow I);rw[h8];obtain⟨X,q1,Y⟩:=ih (k+1) zu ys R H _ S3 (E++[O y]) g2 (zB.grow U) (G.trans (I.trans U)) (by rw[AY,Aq];ext);refine⟨X,?_,(I.trans U).trans Y⟩
   ext
  | false=>
   rw[qY Ab]at N ⊢;obtain⟨X,q1,Y⟩:=ih (k+1) zu r N H _ S2 E g2 zB (G.trans I) (by lia);exact⟨X,q1,I.trans Y⟩
def nU{enc:α->D}{H:β->D}{n:Nat}{mi:MI}{g:MG}{P:List (Option D)->Prop}{T:α->List Sl}{c:MT}{m:ME}{p:Option (List α)}{I:α->Option Bool}{J:α->Option β}(hi:VK A mi enc p)(Q:P (Bs n none))
  (R:∀x S0 e F S o,P o->Vs S0 A e F S->∃E,g (enc x) (o++e) S=.ok (E++e) S/\P E/\Vs S0 (T x) (E++e) F S)
  (U:∀x,VB (T x) c (I x)) (X:∀x,VE (T x) m (rV H) (J x)):VL A (DI n mi g c m) H (p.bind λl=>EB l I J):=λr Y S0 e F S L=>by
 obtain⟨l,Z,C⟩:=BC Y;obtain⟨w,G,h3,N,O⟩:=hi l Z S0 e F S L;unfold EB at C;split at C
 ·rename_i hl
  have υ:=L.grow N;obtain⟨S2,h6,h7⟩:=iN R U X hl O l 0 rfl r C _ _ G [] Q υ (Keeps.refl _) (AJ _);refine⟨S2,?_,N.trans h7⟩;rw[SW h3,show D0 w G=l.length by unfold D0;rw[O G (Keeps.refl _)];ext];exact h6
 ·cases C
def Cg{enc:α->D}{C:β->D}{mi:MI}{c:MT}{m:ME}{p:Option (List α)}{E:α->Option Bool}{G:α->Option β}(hi:VK A mi enc p)(H:∀x,VB (.v (enc x) :: A) c (E x))(I:∀x,VE (.v (enc x) :: A) m (rV C) (G x)) :
  VL A (DI 1 mi (tgN 0) c m) C (p.bind λl=>EB l E G):=
 nU (P:=λo=>∃z,o=[z]) hi ⟨none,rfl⟩ (λx S0 e F S o J L=>by
  obtain⟨z,rfl⟩:=J
  exact⟨[some (enc x)],rfl,⟨_,rfl⟩,L.cons rfl⟩) H I
def B1(h:VL A ml enc p):VE A (DF ml) (rN (oL enc)) p:=λv m S0 e F S o=>by
 obtain⟨S',C,l⟩:=h v m S0 e F S o;exact⟨_,_,aw C,l.trans (Keeps.app _ _),_,rfl,l.1,ER _ _⟩
inductive Ar where
 | v (d:D) | z (o:Ob) | q (P:(Nat->Option Ob)->D->Prop)
def Ar.ok(S:Sto):Ar->D->Prop
 | .v d,x=>x=d
 | .z o,x=>∃n,x=.ref n/\S[n]?=some o
 | .q P,x=>∀L:Nat->Option Ob,(∀n o,S[n]?=some o->L n=some o)->P L x
noncomputable def Ar.sl:Ar->Sl
 | .v d=>.v d
 | .z o=>.z o
 | .q P=>.q P
def L3(S:Sto):List Ar->List D->Prop
 | [],[]=>True
 | a :: as,d :: l=>a.ok S d/\L3 S as l
 | _,_=>False
theorem L3.len:∀{as:List Ar} {l:List D},L3 S as l->l.length=as.length
 | [],[],_=>rfl
 | _ :: as,_ :: l,h=>by rw[Az,Az,L3.len h.2]
 | [],_ :: _,h=>h.elim
 | _ :: _,[],h=>h.elim
theorem L3.at:∀{as:List Ar} {l:List D},L3 S as l->∀(i:Nat) (a:Ar),as[i]?=some a->∃d,l[i]?=some d/\a.ok S d
 | [],[],_,i,a,h=>by simp at h
 | b :: as,d :: l,h,0,a,q=>by cases q;exact⟨d,rfl,h.1⟩
 | b :: as,d :: l,h,i+1,a,q=>L3.at h.2 i a q
 | [],_ :: _,h,_,_,_=>h.elim
 | _ :: _,[],h,_,_,_=>h.elim
def VF(f:List D->Sto->Res D)(as:List Ar)(R:Rk α)(p:Option α):Prop:=∀v,p=some v->∀S l,L3 S as l->∃d S',f l S=.ok d S'/\Keeps S S'/\R v S d S'
def VA(A:List Sl)(ml:ML)(p:Option γ)(m:γ->List Ar):Prop:=∀v,p=some v->∀S0 e F S,Vs S0 A e F S->∃l S',ml e S=.ok l S'/\Keeps S S'/\L3 S' (m v) l
def CL:VA A BI (some ()) (λ_=>[]):=λv l S0 e F S m=>⟨[],S,rfl,Keeps.refl S,trivial⟩
def DK(h:VE A m (rV enc) p)(E:VA A ml q G):VA A (AO m ml) (p.bind λx=>q.bind λy=>some (x,y)) (λz=>.v (enc z.1) :: G z.2):=λv H S0 e F S o=>by
 obtain⟨x,I,J⟩:=BC H;obtain⟨y,l,L⟩:=BC J;cases L;obtain⟨d,N,O,C,rfl⟩:=h x I S0 e F S o;obtain⟨U,P,Q,R,T⟩:=E y l S0 e _ N (o.grow C);exact⟨_,P,C0 O Q,C.trans R,rfl,T⟩
def OR(h:VE A m (rO G) p)(H:VA A ml q I):VA A (AO m ml) (p.bind λx=>q.bind λy=>some (x,y)) (λz=>.z (G z.1) :: I z.2):=λv J S0 e F S o=>by
 obtain⟨x,L,N⟩:=BC J;obtain⟨y,l,O⟩:=BC N;cases O;obtain⟨d,P,Q,C,n,rfl,R⟩:=h x L S0 e F S o;obtain⟨Y,T,U,E,X⟩:=H y l S0 e _ P (o.grow C);exact⟨_,T,C0 Q U,C.trans E,⟨n,rfl,E.at R⟩,X⟩
def B9(C:VA A ml p l)(hf:∀z,VF f (l z) R (q z))(E:∀z,(l z).length=n)(G:∀v S S1 d S',S.length<=S1.length->R v S1 d S'->R v S d S'):VE A (CF n f ml) R (p.bind q):=λv H S0 e F S I=>by
 obtain⟨z,J,L⟩:=BC H;obtain⟨N,S1,O,m,o⟩:=C z J S0 e F S I;obtain⟨d,P,Q,T,U⟩:=hf z v L S1 N o;exact⟨d,P,(J9 O (o.len.trans (E z))).trans Q,m.trans T,G _ _ _ _ _ m.1 U⟩
noncomputable def K9(S:Sto):Fz:=λn=>match S[n]? with
 | some o=>.fz o
 | none=>.no
def Vs.start(h:L3 S as G):Vs S (as.map Ar.sl++Bs (n - as.length) .u) (JV n G) (K9 S) S:=by
 refine⟨Keeps.refl S,λn o q=>?_,λn i q=>?_,λn Q=>by unfold K9;ext,λi a l=>?_⟩
 ·unfold K9 at q
  lia
 ·unfold K9 at q
  split at q <;> cases q
 ·unfold JV
  by_cases c:i < as.length
  ·rw[AV (by ext),AX]at l
   rw[AV (by rw[AH,h.len];exact c),AX]
   cases E:as[i]? with
   | none=>ext
   | some b=>
    rw[E]at l;cases l;obtain⟨d,H,C⟩:=h.at i b E;refine⟨some d,by rw[H];rfl,?_⟩
    cases b with
    | v x=>exact congrArg some C
    | z o=>obtain⟨m,I,J⟩:=C;exact⟨m,congrArg some I,by unfold K9;rw[J]⟩
    | q P=>exact⟨d,rfl,λL N=>C L λn o q=>N n o (by unfold K9;rw[q])⟩
  ·rw[BA (by ext)]at l
   rw[AH,Ds]at l;split at l
   ·rename_i O
    cases l;refine⟨none,?_,trivial⟩;rw[BA (by rw[AH,h.len];ext),AH,h.len,Ds,qX O]
   ·cases l
noncomputable def Gc(p:Option (Fw ρ σ)):Option ρ:=match p with
 | some (.rt r)=>some r
 | _=>none
noncomputable def uA(p:Option (Fw Unit σ)):Option Unit:=match p with
 | some (.rt r)=>some ()
 | some (.nx _)=>some ()
 | _=>none
end
section
variable{S0 S S':Sto}{A:List Sl}{α β γ δ:Type}
section
variable{a b c:ME}{pa pb pc:Option Int}
def Fh(l:VE A a (rV D.int) pa)(hb:VE A b (rV D.int) pb):VE A (m2 GB a b) (rV D.int) (pa.bind λx=>pb.bind λy=>some (x+y)):=HG l hb λx y z S h=>by cases h;rfl
def JT(l:VE A a (rV D.int) pa)(hb:VE A b (rV D.int) pb):VE A (m2 QV a b) (rV D.int) (pa.bind λx=>pb.bind λy=>some (x - y)):=HG l hb λx y z S h=>by cases h;rfl
noncomputable def j5(x y:Int):Option Int:=if Zl x y then some (x * y)else none
noncomputable def lC(x y:Int):Option Int:=if lz x y then some (x / y)else none
noncomputable def az(x y:Int):Option Int:=if 0 < y then some (x % y)else none
noncomputable def om(x y:Int):Option Int:=if bq x y then some (x ^ y.toNat)else none
def iT(l:VE A a (rV D.int) pa)(hb:VE A b (rV D.int) pb):VE A (m2 ay a b) (rV D.int) (pa.bind λx=>pb.bind λy=>j5 x y):=HG l hb λx y z S h=>by
 unfold j5 at h;split at h
 ·rename_i m;cases h;exact qX m
 ·cases h
def nj(l:VE A a (rV D.int) pa)(hb:VE A b (rV D.int) pb):VE A (m2 Pw a b) (rV D.int) (pa.bind λx=>pb.bind λy=>lC x y):=HG l hb λx y z S h=>by
 unfold lC at h;split at h
 ·rename_i m;cases h;exact qX m
 ·cases h
def iU(l:VE A a (rV D.int) pa)(hb:VE A b (rV D.int) pb):VE A (m2 Qk a b) (rV D.int) (pa.bind λx=>pb.bind λy=>az x y):=HG l hb λx y z S h=>by
 unfold az at h;split at h
 ·rename_i m;cases h;exact cY m
 ·cases h
def sT(l:VE A a (rV D.int) pa)(hb:VE A b (rV D.int) pb):VE A (m2 tj a b) (rV D.int) (pa.bind λx=>pb.bind λy=>om x y):=HG l hb λx y z S h=>by
 unfold om at h;split at h
 ·rename_i m;cases h;exact qX m
 ·cases h
def PD(m:(decide (0 < k)&&decide (k<=1000000))=true)(o:VE A a (rV D.int) pa):VE A (m2 Pw a (mC (.int k))) (rV D.int) (pa.bind λx=>some (x / k)):=λv B S0 e F S C=>by
 obtain⟨x,E,G⟩:=BC B;cases G;obtain⟨d,S',H,I,rfl⟩:=o x E S0 e F S C;have l:=DZ _ _▸m;exact⟨_,S',D9 H rfl (lD (of_decide_eq_true l.1) (of_decide_eq_true l.2)),I,rfl⟩
def LL(l:decide (0 < k)=true)(m:VE A a (rV D.int) pa):VE A (m2 Qk a (mC (.int k))) (rV D.int) (pa.bind λx=>some (x % k)):=λv o S0 e F S B=>by
 obtain⟨x,C,E⟩:=BC o;cases E;obtain⟨d,S',G,H,rfl⟩:=m x C S0 e F S B;exact⟨_,S',D9 G rfl (cY (of_decide_eq_true l)),H,rfl⟩
def nZ(m:(decide (-1000000<=k)&&decide (k<=1000000))=true)(o:VE A a (rV D.int) pa):VE A (m2 ay a (mC (.int k))) (rV D.int) (pa.bind λx=>some (x * k)):=λv B S0 e F S C=>by
 obtain⟨x,E,G⟩:=BC B;cases G;obtain⟨d,S',H,I,rfl⟩:=o x E S0 e F S C;have l:=DZ _ _▸m;exact⟨_,S',D9 H rfl (pQ (of_decide_eq_true l.1) (of_decide_eq_true l.2)),I,rfl⟩
def aG(l:VE A a (rV D.int) pa):VE A (ff a) (rV D.int) (pa.bind λx=>some (-x)):=λv m S0 e F S o=>by
 obtain⟨x,B,C⟩:=BC m;cases C;obtain⟨d,S',E,G,rfl⟩:=l x B S0 e F S o;exact⟨_,S',by unfold ff;rw[E];rfl,G,rfl⟩
def qw(l:VE A a (rV D.int) pa)(hb:VE A b (rV D.int) pb):VE A (m2 ltD a b) (rV D.bl) (pa.bind λx=>pb.bind λy=>some (decide (x < y))):=HG l hb λx y z S h=>by cases h;rfl
def qy(l:VE A a (rV D.int) pa)(hb:VE A b (rV D.int) pb):VE A (m2 gtD a b) (rV D.bl) (pa.bind λx=>pb.bind λy=>some (decide (y < x))):=HG l hb λx y z S h=>by cases h;rfl
def Yc{f g:D->D->Sto->Res D}{P Q:Int->Int->Bool}(hf:∀x y S,f (.int x) (.int y) S=.ok (.bl (P x y)) S)(N:∀x y S,g (.int x) (.int y) S=.ok (.bl (Q x y)) S)(O:VE A a (rV D.int) pa)(hb:VE A b (rV D.int) pb)(R:VE A c (rV D.int) pc) :
  VE A (m3 f g a b c) (rV D.bl) (pa.bind λx=>pb.bind λy=>if P x y=true then pc.bind λz=>some (Q y z)else some false):=λv B S0 e F S C=>by
 obtain⟨x,T,B⟩:=BC B;obtain⟨y,U,l⟩:=BC B;obtain⟨d1,X,H,m,rfl⟩:=O x T S0 e F S C;obtain⟨d2,E,I,G,rfl⟩:=hb y U S0 e _ X (C.grow m);have o:=hf x y E
 cases J:P x y with
 | false=>
  rw[J]at l o;cases l;exact⟨_,E,xi H I o,m.trans G,rfl⟩
 | true=>
  rw[J]at l o;rw[qX rfl]at l;obtain⟨w,Y,Z⟩:=BC l;cases Z;obtain⟨d3,L,q3,k3,rfl⟩:=R w Y S0 e _ E ((C.grow m).grow G);exact⟨_,L,rJ H I o q3 (N y w L),(m.trans G).trans k3,rfl⟩
def yN(x y:Int)(S:Sto):ltD (.int x) (.int y) S=.ok (.bl (decide (x < y))) S:=rfl
def lW(x y:Int)(S:Sto):leD (.int x) (.int y) S=.ok (.bl (decide (x<=y))) S:=rfl
def W4(B:VE A a (rV D.int) pa)(hb:VE A b (rV D.int) pb):VE A (mQ OE (AO a (AO b BI))) (rV D.int) (pa.bind λx=>pb.bind λy=>some (if y < x then y else x)):=λv l S0 e F S m=>by
 obtain⟨x,C,l⟩:=BC l;obtain⟨y,E,G⟩:=BC l;cases G;obtain⟨d1,H,I,o,rfl⟩:=B x C S0 e F S m;obtain⟨d2,J,L,N,rfl⟩:=hb y E S0 e _ H (m.grow o);exact⟨_,J,fM (C0 I (C0 L rfl)) rfl,o.trans N,rfl⟩
def nc(B:VE A a (rV D.int) pa)(hb:VE A b (rV D.int) pb):VE A (mQ RP (AO a (AO b BI))) (rV D.int) (pa.bind λx=>pb.bind λy=>some (if y > x then y else x)):=λv l S0 e F S m=>by
 obtain⟨x,C,l⟩:=BC l;obtain⟨y,E,G⟩:=BC l;cases G;obtain⟨d1,H,I,o,rfl⟩:=B x C S0 e F S m;obtain⟨d2,J,L,N,rfl⟩:=hb y E S0 e _ H (m.grow o);exact⟨_,J,fM (C0 I (C0 L rfl)) rfl,o.trans N,rfl⟩
def iX{pb}(hb:VE A b (rV D.bl) pb):VE A (kB b) (rV D.int) (pb.bind λx=>some (if x=true then 1 else 0)):=λv l S0 e F S m=>by
 obtain⟨x,o,B⟩:=BC l;cases B;obtain⟨d,S',C,E,rfl⟩:=hb x o S0 e F S m;refine⟨_,S',?_,E,rfl⟩;unfold kB;rw[C];rfl
def sU{pa pb}(B:VE A a (rV D.bl) pa)(hb:VE A b (rV D.bl) pb):VE A (kA a b) (rV D.bl) (pa.bind λx=>if x=true then some true else pb):=λv C S0 e F S m=>by
 obtain⟨x,E,o⟩:=BC C;obtain⟨d,S',G,l,rfl⟩:=B x E S0 e F S m
 cases x with
 | false=>
  obtain⟨d,H,J,I,rfl⟩:=hb v o S0 e _ S' (m.grow l);exact⟨_,H,by unfold kA;ext,l.trans I,rfl⟩
 | true=>cases o;exact⟨_,S',by unfold kA;rw[G];rfl,l,rfl⟩
def nY{pa}(l:VE A a (rV D.bl) pa):VE A (cc a) (rV D.bl) (pa.bind λx=>some (!x)):=λv m S0 e F S o=>by
 obtain⟨x,B,C⟩:=BC m;cases C;obtain⟨d,S',E,G,rfl⟩:=l x B S0 e F S o;exact⟨_,S',by unfold cc;rw[E];rfl,G,rfl⟩
end
def EqN(n:Nat)(enc:α->D)[DecidableEq α]:Prop:=∀x y,eqP n (enc x) (enc y)=some (decide (x=y))
def NL(enc:α->D):Prop:=∀x S,Od (enc x) S=none
def EX:EqN n D.int:=λx y=>by
 have:NA (.int x) (.int y)=some (decide (x=y)):=rfl
 cases n <;> exact this
def dO:EqN n D.str:=λx y=>by
 have:NA (.str x) (.str y)=some (decide (x=y)):=rfl
 cases n <;> exact this
def Xo{n:Nat}{enc:α->D}[DecidableEq α](h:EqN n enc):EqN (n+1) (eT enc):=by
 have m:∀l k:List α,eqL (eqP n) (l.map enc) (k.map enc)=some (decide (l=k)):=by
  intro l
  induction l with
  | nil=>intro k;cases k <;> rfl
  | cons x l o=>
   intro k
   cases k with
   | nil=>rfl
   | cons y k=>
    rw[Ap,Ap];unfold eqL;rw[h x y,o k]
    by_cases c:x=y <;> by_cases d:l=k <;> simp[c,d]
 assumption
def Mp:NL D.int:=λ_ _=>rfl
def jy:NL D.str:=λ_ _=>rfl
def uR:NL (eT enc):=λ_ _=>rfl
section
variable{a b:ME}{enc:α->D}[DecidableEq α]
def lG(h:EqN 8 enc)(n:NL enc)(neg:Bool)(x y:α)(S:Sto):eqD neg (enc x) (enc y) S=.ok (.bl (if neg then !decide (x=y)else decide (x=y))) S:=by
 unfold eqD eqB;rw[n x S,n y S];rw[h x y]
def N3(h:EqN 8 enc)(n:NL enc)(l:VE A a (rV enc) m)(hb:VE A b (rV enc) o):VE A (m2 (eqD false) a b) (rV D.bl) (m.bind λx=>o.bind λy=>some (decide (x=y))):=HG l hb λx y z S q=>by cases q;exact lG h n false x y S
def wc(h:EqN 8 enc)(n:NL enc)(l:VE A a (rV enc) m)(hb:VE A b (rV enc) o):VE A (m2 (eqD true) a b) (rV D.bl) (m.bind λx=>o.bind λy=>some (!decide (x=y))):=HG l hb λx y z S q=>by cases q;exact lG h n true x y S
theorem Zh(h:EqN 8 enc)(x:α):∀l:List α,OM (enc x) (l.map enc)=some (decide (x∈l))
 | []=>by simp[OM]
 | y :: l=>by
  rw[Ap];unfold OM;rw[h y x,Zh h x l]
  grind
def Qo(h:EqN 8 enc)(neg:Bool)(x:α){l:List α}{d:D}{S:Sto}(hs:Ga d S=some (l.map enc)):inA neg (enc x) d S=.ok (.bl (if neg then !decide (x∈l)else decide (x∈l))) S:=by
 show Jc (inD neg (enc x) d S) _=_
 have e:inD neg (enc x) d S=.ok (.bl (if neg then !decide (x∈l)else decide (x∈l))) S:=by
  unfold inD;rw[hs];dsimp only;rw[Zh h]
 rw[e];rfl
def sW{pl:Option (List α)}(h:EqN 8 enc)(m:VE A a (rV enc) o)(hb:VE A b (rV (eT enc)) pl):VE A (m2 (inA false) a b) (rV D.bl) (o.bind λx=>pl.bind λl=>some (decide (x∈l))):=HG m hb λx l z S q=>by cases q;exact Qo h false x rfl
def W3{pl:Option (List α)}(h:EqN 8 enc)(m:VE A a (rV enc) o)(hb:VE A b (rV (eT enc)) pl):VE A (m2 (inA true) a b) (rV D.bl) (o.bind λx=>pl.bind λl=>some (!decide (x∈l))):=HG m hb λx l z S q=>by cases q;exact Qo h true x rfl
def sY{pl:Option (List α)}(h:EqN 8 enc)(m:VE A a (rV enc) o)(hb:VE A b (rO (oL enc)) pl):VE A (m2 (inA false) a b) (rV D.bl) (o.bind λx=>pl.bind λl=>some (decide (x∈l))):=Sz m hb λx l z S n B q=>by cases q;exact Qo h false x (GZ B)
def sX(h:EqN 8 enc){pl:Option (α×α)}(m:VE A a (rV enc) o)(hb:VE A b (rV (eP enc enc)) pl):VE A (m2 (inA false) a b) (rV D.bl) (o.bind λx=>pl.bind λl=>some (decide (x∈[l.1,l.2]))):=HG m hb λx l z S q=>by cases q;exact Qo h false x rfl
def vL(h:EqN n enc):∀l k:List α,eqL (eqP n) (l.map enc) (k.map enc)=some (decide (l=k)):=by
 intro l
 induction l with
 | nil=>intro k;cases k <;> rfl
 | cons x l m=>
  intro k
  cases k with
  | nil=>rfl
  | cons y k=>
   rw[Ap,Ap];unfold eqL;rw[h x y,m k];ext
def gW(h:EqN 8 enc)(neg:Bool)(o:S[n]?=some (oL enc l))(B:S[m]?=some (oL enc k)):eqD neg (.ref n) (.ref m) S=.ok (.bl (if neg then !decide (l=k)else decide (l=k))) S:=by
 unfold eqD eqB;rw[Mt o,Mt B];dsimp only;rw[AH,AH]
 by_cases c:l.length=k.length
 ·rw[qX c,vL h]
 ·rw[qY c,wY λz=>c (by rw[z])]
def wd{f:D->D->Sto->Res D}{o:β->Ob}{B:γ->Ob}{C:δ->D}{E:Option β}{G:Option γ}{g:β->γ->Option δ}(N:VE A a (rO o) E)(hb:VE A b (rO B) G)
  (hf:∀x y z S (n m:Nat),S[n]?=some (o x)->S[m]?=some (B y)->g x y=some z->f (.ref n) (.ref m) S=.ok (C z) S):VE A (m2 f a b) (rV C) (E.bind λx=>G.bind λy=>g x y):=λv l S0 e F S H=>by
 obtain⟨x,O,l⟩:=BC l;obtain⟨y,P,Q⟩:=BC l;obtain⟨d1,R,T,I,n,rfl,U⟩:=N x O S0 e F S H;obtain⟨d2,J,X,L,m,rfl,Y⟩:=hb y P S0 e _ R (H.grow I);exact⟨_,J,D9 T X (hf x y v J n m (L.at U) Y Q),I.trans L,rfl⟩
def sV{l o:Option (List α)}(h:EqN 8 enc)(B:VE A a (rO (oL enc)) l)(hb:VE A b (rO (oL enc)) o):VE A (m2 (eqD true) a b) (rV D.bl) (l.bind λx=>o.bind λy=>some (!decide (x=y))):=wd B hb λx y z S n m C E q=>by cases q;exact gW h true C E
end
section
variable{a b m mo:ME}
def qd(l:List α)(i:Int)(f:α->β):atI (l.map f) i=(atI l i).map f:=by
 unfold atI;rw[AH]
 cases ixN l.length i with
 | none=>rfl
 | some j=>ext
def bI(hs:Ga d S=some (l.map enc))(h:atI l i=some x):ixA d (.int i) S=.ok (enc x) S:=by
 show Jc (ixD d (.int i) S) _=_
 have:ixD d (.int i) S=.ok (enc x) S:=by
  unfold ixD;rw[hs];dsimp only;rw[qd,h];rfl
 rw[this];rfl
def W6(o:VE A a (rV (eT enc)) pl)(hb:VE A b (rV D.int) pi):VE A (m2 ixA a b) (rV enc) (pl.bind λl=>pi.bind λi=>atI l i):=HG o hb λl i z S q=>bI rfl q
def iW{pl}(o:VE A a (rV eF) pl)(hb:VE A b (rV D.int) pi):VE A (m2 ixA a b) (rV D.int) (pl.bind λl=>pi.bind λi=>atI l i):=HG o hb λl i z S q=>bI rfl q
def JU(o:VE A a (rO (oL enc)) pl)(hb:VE A b (rV D.int) pi):VE A (m2 ixA a b) (rV enc) (pl.bind λl=>pi.bind λi=>atI l i):=W7 o hb λl i z S n B q=>bI (GZ B) q
def iY(l:VE A a (rV (eP o J)) p):VE A (m2 ixA a (mC (.int 0))) (rV o) (p.bind λx=>some x.1):=λv B S0 e F S C=>by
 obtain⟨x,E,G⟩:=BC B;cases G;obtain⟨d,S',H,I,rfl⟩:=l x E S0 e F S C;exact⟨_,S',D9 H rfl (cv rfl (by decide) rfl),I,rfl⟩
def iR(l:VE A a (rV (eP J o)) p):VE A (m2 ixA a (mC (.int 1))) (rV o) (p.bind λx=>some x.2):=λv B S0 e F S C=>by
 obtain⟨x,E,G⟩:=BC B;cases G;obtain⟨d,S',H,I,rfl⟩:=l x E S0 e F S C;exact⟨_,S',D9 H rfl (cv rfl (by decide) rfl),I,rfl⟩
def nh(o:VE A a (rV (eT enc)) pl):VE A (Nq a) (rV D.int) (pl.bind λl=>some (l.length:Int)):=λv B S0 e F S C=>by
 obtain⟨l,E,G⟩:=BC B;cases G;obtain⟨d,S',H,I,rfl⟩:=o l E S0 e F S C;exact⟨_,S',(bF H rfl).trans (by ext),I,rfl⟩
def W5{pl}(o:VE A a (rV eF) pl):VE A (Nq a) (rV D.int) (pl.bind λl=>some (l.length:Int)):=λv B S0 e F S C=>by
 obtain⟨l,E,G⟩:=BC B;cases G;obtain⟨d,S',H,I,rfl⟩:=o l E S0 e F S C;exact⟨_,S',(bF H rfl).trans (by ext),I,rfl⟩
def SE(o:VE A a (rO (oL enc)) pl):VE A (Nq a) (rV D.int) (pl.bind λl=>some (l.length:Int)):=λv B S0 e F S C=>by
 obtain⟨l,E,G⟩:=BC B;cases G;obtain⟨d,S',H,I,n,rfl,J⟩:=o l E S0 e F S C;exact⟨_,S',(bF H (GZ J)).trans (by grind),I,rfl⟩
def UI:∀l:ZLi,Ih (l.map D.int)=some l
 | []=>rfl
 | x :: l=>by rw[Ap];unfold Ih;ext
def NS(o:VE A a (rO (oL enc)) pl):VE A (Je a) (rV (eT enc)) pl:=λl B S0 e F S C=>by
 obtain⟨d,S',E,G,n,rfl,H⟩:=o l B S0 e F S C;exact⟨_,S',PL E (GZ H),G,rfl⟩
def NR(o:VE A a (rO (oL enc)) pl):VL A (Mr a) enc pl:=λl B S0 e F S C=>by
 obtain⟨d,S',E,G,n,rfl,H⟩:=o l B S0 e F S C;exact⟨S',w9 E (GZ H),G⟩
def W2(h:VL A ml enc pl):VL A (mN WN ml) enc pl:=λl o S0 e F S B=>by
 obtain⟨S',C,E⟩:=h l o S0 e F S B;exact⟨S',by unfold mN;rw[C];rfl,E⟩
def dY:∀l:List Bool,Xy (l.map D.bl)=some l
 | []=>rfl
 | x :: l=>by rw[Ap];unfold Xy;ext
def ig{pl}(h:VL A ml D.bl pl):VE A (mQ lr ml) (rV D.bl) (pl.bind λl=>some (l.all id)):=λv o S0 e F S B=>by
 obtain⟨l,C,E⟩:=BC o;cases E;obtain⟨S',G,H⟩:=h l C S0 e F S B;refine⟨_,S',fM G ?_,H,rfl⟩;unfold lr gl;rw[dY]
def se{pl}(h:VL A ml D.bl pl):VE A (mQ gn ml) (rV D.bl) (pl.bind λl=>some (l.any id)):=λv o S0 e F S B=>by
 obtain⟨l,C,E⟩:=BC o;cases E;obtain⟨S',G,H⟩:=h l C S0 e F S B;refine⟨_,S',fM G ?_,H,rfl⟩;unfold gn gl;rw[dY]
def Dz:VL A BI enc (some []):=λv l S0 e F S o=>by cases l;exact⟨S,rfl,Keeps.refl S⟩
def FU(h:VE A m (rV enc) p)(E:VL A ml enc pl):VL A (AO m ml) enc (p.bind λx=>pl.bind λl=>some (x :: l)):=λv G S0 e F S B=>by
 obtain⟨x,H,I⟩:=BC G;obtain⟨l,o,J⟩:=BC I;cases J;obtain⟨d,L,N,C,rfl⟩:=h x H S0 e F S B;obtain⟨O,P,Q⟩:=E l o S0 e _ L (B.grow C);exact⟨O,C0 N P,C.trans Q⟩
noncomputable def Ge(l:List α):Option (List α):=if l.length<=1000000 then some l else none
def EN(h:VL A ml enc pl):VL A (Dc ml) enc (pl.bind Ge):=λv B S0 e F S C=>by
 obtain⟨l,E,o⟩:=BC B;unfold Ge at o;split at o
 ·rename_i G
  cases o;obtain⟨S',H,I⟩:=h _ E S0 e F S C;refine⟨S',?_,I⟩;unfold Dc;rw[H];dsimp only[Res.bind];rw[qX (by rw[AH];exact kI G)]
 ·cases o
def LJ(h:VL A ml enc pl):VE A (Ix ml) (rV (eT enc)) (pl.bind Ge):=λv B S0 e F S C=>by
 obtain⟨l,E,o⟩:=BC B;unfold Ge at o;split at o
 ·rename_i G
  cases o;obtain⟨S',H,I⟩:=h _ E S0 e F S C;refine⟨_,S',?_,I,rfl⟩;unfold Ix;rw[H];dsimp only[Res.bind];rw[qX (by rw[AH];exact kI G)];rfl
 ·cases o
def LK(C:VE A a (rV E) G)(hb:VE A b (rV H) I):VE A (Ix (AO a (AO b BI))) (rV (eP E H)) (G.bind λx=>I.bind λy=>some (x,y)):=λv l S0 e F S o=>by
 obtain⟨x,J,l⟩:=BC l;obtain⟨y,L,N⟩:=BC l;cases N;obtain⟨d1,O,P,B,rfl⟩:=C x J S0 e F S o;obtain⟨d2,Q,R,T,rfl⟩:=hb y L S0 e _ O (o.grow B);exact⟨_,Q,ir (C0 P (C0 R rfl)) (by simp),B.trans T,rfl⟩
def NT(o:VE A a (rV (eT enc)) pl)(hb:VE A b (rV (eT enc)) B):VE A (m2 GB a b) (rV (eT enc)) (pl.bind λl=>B.bind λk=>M6 l k):=HG o hb λl k z S q=>by
 unfold M6 at q;split at q
 ·rename_i C
  cases q;unfold eT;rw[BX];exact n9 (by rw[AH,AH];exact kI C)
 ·cases q
def cI(H:VE A a (rO (oL enc)) pl)(hb:VE A b (rO (oL enc)) I):VE A (m2 GB a b) (rN (oL enc)) (pl.bind λl=>I.bind λk=>M6 l k):=λv B S0 e F S G=>by
 obtain⟨x,J,B⟩:=BC B;obtain⟨y,L,o⟩:=BC B;obtain⟨d1,N,O,C,n,rfl,P⟩:=H x J S0 e F S G;obtain⟨d2,U,Q,E,m,rfl,R⟩:=hb y L S0 e _ N (G.grow C);unfold M6 at o;split at o
 ·rename_i T
  cases o;refine⟨_,_,D9 O Q ?_,(C.trans E).trans (Keeps.app _ _),_,rfl,(C.trans E).1,ER _ _⟩;unfold GB;dsimp only;rw[E.at P,R];unfold oL;dsimp only;rw[qX (by rw[AH,AH];exact kI T),BX]
 ·cases o
def VO(A:List Sl)(mo:MO)(p:Option (Option Int)):Prop:=∀v,p=some v->∀S0 e F S,Vs S0 A e F S->∃S',mo e S=.ok v S'/\Keeps S S'
def W1:VO A Y6 (some none):=λv l S0 e F S o=>by cases l;exact⟨S,rfl,Keeps.refl S⟩
def SD(h:VE A m (rV D.int) pi):VO A (Tx m) (pi.bind λi=>some (some i)):=λv l S0 e F S o=>by
 obtain⟨x,B,C⟩:=BC l;cases C;obtain⟨d,S',E,G,rfl⟩:=h x B S0 e F S o;exact⟨S',by unfold Tx;rw[E];rfl,G⟩
def lQ(l:List α)(f:α->β)(lo hi:Option Int):Nu (l.map f) lo hi=(Nu l lo hi).map f:=by
 unfold Nu;ext
def cH(H:VE A a (rV (eT enc)) pl)(I:VO A mlo J)(L:VO A mhi ph):VE A (Pl a mlo mhi) (rV (eT enc)) (pl.bind λl=>J.bind λx=>ph.bind λy=>some (Nu l x y)):=λv o S0 e F S B=>by
 obtain⟨l,N,o⟩:=BC o;obtain⟨x,O,o⟩:=BC o;obtain⟨y,P,Q⟩:=BC o;cases Q;obtain⟨d1,R,T,C,rfl⟩:=H l N S0 e F S B;obtain⟨U,X,E⟩:=I x O S0 e _ R (B.grow C);obtain⟨G,Y,Z⟩:=L y P S0 e _ U ((B.grow C).grow E);refine⟨_,G,?_,(C.trans E).trans Z,rfl⟩;unfold Pl;rw[T];dsimp only[Res.bind];rw[X];dsimp only;rw[Y];show Res.ok (D.tup (Nu (l.map enc) x y)) G=_;rw[lQ];rfl
def iQ{pl}(B:VE A a (rO (oL D.int)) pl):VE A (FW a) (rN (oL D.int)) (pl.bind λl=>some (Cp l)):=λv C S0 e F S E=>by
 obtain⟨l,G,H⟩:=BC C;cases H;obtain⟨d,S',I,o,n,rfl,J⟩:=B l G S0 e F S E;refine⟨_,_,Ks I (Oe J) ?_,o.trans (Keeps.app _ _),_,rfl,o.1,ER _ _⟩;unfold L0;rw[UI]
def TU(l:List ZLi):Option (List ZLi):=if l.all (λr=>!r.isEmpty)=true then some (JW l)else none
theorem Mh:∀l:List ZLi,l.all (λr=>!r.isEmpty)=true->IZ (l.map Kv)=some l
 | [],_=>rfl
 | [] :: l,h=>by simp at h
 | (x :: r) :: l,h=>by
  rw[sC,DZ]at h;show IZ (.tup ((x :: r).map D.int) :: l.map Kv)=_;unfold IZ;rw[UI,Mh l h.2]
def YY{pl}(C:VE A a (rO (oL (eT D.int))) pl):VE A (FW a) (rN (oL (eT D.int))) (pl.bind TU):=λv E S0 e F S G=>by
 obtain⟨l,H,o⟩:=BC E;obtain⟨d,S',I,B,n,rfl,J⟩:=C l H S0 e F S G;unfold TU at o;split at o
 ·rename_i L
  cases o;refine⟨_,_,Ks I (Oe J) (es:=(JW l).map Kv) ?_,B.trans (Keeps.app _ _),_,rfl,B.1,ER _ _⟩
  cases l with
  | nil=>show some ((Cp []).map D.int)=some ((JW []).map Kv);rw[e8];unfold JW;ext
  | cons x l=>
   unfold L0;rw[show Ih (bz (eT D.int) (x :: l))=none from rfl,show IZ (bz (eT D.int) (x :: l))=some (x :: l)from Mh _ L]
 ·cases o
def QP(o:VE A a (rV (eT enc)) pl):VI A (DM a) enc pl:=λl B S0 e F S C=>by
 obtain⟨d,S',E,G,rfl⟩:=o l B S0 e F S C;exact⟨_,S',UJ E,G,λ_ _ _ _=>rfl⟩
def MW(B:VE A a (rN (oL enc)) pl):VI A (DM a) enc pl:=λl C S0 e F S E=>by
 obtain⟨d,S',G,H,n,rfl,I,o⟩:=B l C S0 e F S E;exact⟨_,S',Ii G o,H,λL N J h=>DT (h n _ (J _ _ (US I o)))⟩
def iO(h:A[i]?=some (.z (oL enc l))):VI A (DM (AC i)) enc (some l):=λ_ E S0 e F S o=>by
 cases E;obtain⟨x,G,n,rfl,B⟩:=o.sl i _ h;have C:=o.fz _ _ B;exact⟨_,S,Ii (by unfold AC;rw[G]) C,Keeps.refl S,λI J H h=>DT (h n _ (H _ _ (by rw[E7 (BZ C)];exact B)))⟩
def Jx(h:A[i]?=some (.y (oL enc l))):VI A (DM (AC i)) enc (some l):=λ_ E S0 e F S o=>by
 cases E;obtain⟨x,G,n,rfl,B,_⟩:=o.sl i _ h;have C:=o.fz _ _ B;exact⟨_,S,Ii (by unfold AC;rw[G]) C,Keeps.refl S,λI J H h=>DT (h n _ (H _ _ (by rw[E7 (BZ C)];exact B)))⟩
noncomputable def Db(lo:Int)(n:Nat):ZLi:=(BO n).map λi:Nat=>lo+i
def Nm(j:Int):Option ZLi:=if -1000000<=j/\j<=1000000 then some (Db 0 j.toNat)else none
def Yw(i j:Int):Option ZLi:=if -1000000<=i/\i<=1000000/\-1000000<=j/\j<=1000000 then some (Db i (j - i).toNat)else none
def jN(lo:Int)(n:Nat):JY lo n=(Db lo n).map D.int:=by
 unfold JY Db;ext
def Ej(C:VE A a (rV D.int) pi):VI A (iR1 (AO a BI)) D.int (pi.bind Nm):=λl E S0 e F S G=>by
 obtain⟨j,H,o⟩:=BC E;obtain⟨d,S',I,J,rfl⟩:=C j H S0 e F S G;unfold Nm at o;split at o
 ·rename_i B
  cases o;exact⟨_,S',bM (C0 I rfl) B.1 B.2,J,λ_ _ _ _=>congrArg some (jN _ _)⟩
 ·cases o
def Kr(H:VE A a (rV D.int) pi)(hb:VE A b (rV D.int) pj):VI A (iR2 (AO a (AO b BI))) D.int (pi.bind λi=>pj.bind λj=>Yw i j):=λl C S0 e F S E=>by
 obtain⟨i,I,C⟩:=BC C;obtain⟨j,J,o⟩:=BC C;obtain⟨d,L,N,G,rfl⟩:=H i I S0 e F S E;obtain⟨d,O,P,Q,rfl⟩:=hb j J S0 e _ L (E.grow G);unfold Yw at o;split at o
 ·rename_i B
  cases o;exact⟨_,O,uq (C0 N (C0 P rfl)) B.1 B.2.1 B.2.2.1 B.2.2.2,G.trans Q,λ_ _ _ _=>congrArg some (jN _ _)⟩
 ·cases o
noncomputable def Dj(l:List α):List (Int×α):=l.zipIdx.map λx=>((x.2:Int),x.1)
def WX(l:List α):UV (l.map enc)=(Dj l).map (eP D.int enc):=by
 unfold UV Dj;rw[List.zipIdx_map,BF,BF];rfl
def sL(B:VE A a (rO (oL enc)) pl):VK A (cy a) enc (pl.bind λl=>some l.reverse):=λv C S0 e F S E=>by
 obtain⟨l,G,H⟩:=BC C;cases H;obtain⟨d,S',I,J,n,rfl,o⟩:=B l G S0 e F S E;refine⟨YW (.ref n) (l.map enc).length,S',?_,J,λL k=>?_⟩
 ·unfold cy
  rw[I];dsimp only[Res.bind];rw[Mt o]
 ·unfold YW
  rw[Mt (k.at o)];ext
end
end
section
variable{α β ρ σ κ κ':Type}
noncomputable def oDK(enc:α->D)(l:List (Int×α)):Ob:=.dK (l.map λx=>(Du x.1,enc x.2))
noncomputable def kP(x:Int×Int):List Key:=[Du x.1,Du x.2]
noncomputable def oDP(enc:α->D)(l:List (ZPi×α)):Ob:=.dT (l.map λx=>(kP x.1,enc x.2))
def PF[DecidableEq κ][DecidableEq κ']{m:κ->κ'}(o:∀x y,m x=m y->x=y)(f:α->β)(l:List (κ×α))(k:κ):An (l.map λx=>(m x.1,f x.2)) (m k)=(An l k).map f:=by
 unfold An
 induction l with
 | nil=>rfl
 | cons x l A=>
  grind
def Pb[DecidableEq κ][DecidableEq κ']{m:κ->κ'}(A:∀x y,m x=m y->x=y)(f:α->β)(l:List (κ×α))(k:κ)(v:α):CJ (l.map λx=>(m x.1,f x.2)) (m k) (f v)=(CJ l k v).map λx=>(m x.1,f x.2):=by
 have any:((l.map λx=>(m x.1,f x.2)).any λo=>decide (o.1=m k))=l.any λo=>decide (o.1=k):=by
  rw[Zs]
  congr 1
  funext x
  exact decide_eq_decide.mpr ⟨A _ _,λz=>congrArg m z⟩
 unfold CJ;rw[any];split
 ·rw[BF,BF]
  refine D7 λx _=>?_
  show(if m x.1=m k then(m x.1,f v)else(m x.1,f x.2))=_
  by_cases c:x.1=k
  ·show _=(λx:κ×α=>(m x.1,f x.2)) (if x.1=k then(x.1,v)else x)
   rw[qX c,qX (by rw[c])]
  ·show _=(λx:κ×α=>(m x.1,f x.2)) (if x.1=k then(x.1,v)else x)
   rw[qY c,qY λz=>c (A _ _ z)]
 ext
def SM(x y:Int)(h:(Du x:Key)=Du y):x=y:=by cases h;rfl
def kW(x y:Int×Int)(h:kP x=kP y):x=y:=by
 obtain⟨a,b⟩:=x;obtain⟨c,d⟩:=y;unfold kP at h;cases h;rfl
def lP{enc:α->D}{l:List (Int×α)}{n:Nat}{S:Sto}(h:S[n]?=some (oDK enc l))(k:Int):L6 (.ref n) (.int k) S=some ((An l k).map enc):=by
 unfold L6;dsimp only;rw[h];show some (An _ (Du k))=_;rw[PF SM]
def lO{enc:α->D}{l:List (ZPi×α)}{n:Nat}{S:Sto}(h:S[n]?=some (oDP enc l))(k:Int×Int):L6 (.ref n) (eP D.int D.int k) S=some ((An l k).map enc):=by
 unfold L6;dsimp only;rw[h];show some (An _ (kP k))=_;rw[PF kW]
def UY(l:Ga (.ref n) S=none)(h:L6 (.ref n) y S=some o)(neg:Bool):inA neg y (.ref n) S=.ok (.bl (if neg then !o.isSome else o.isSome)) S:=by
 show Jc (inD neg y (.ref n) S) (NC neg y (.ref n) S)=_;rw[show inD neg y (.ref n) S=.bad by unfold inD;rw[l]];show NC neg y (.ref n) S=_;unfold NC;rw[h]
def NB(l:Ga (.ref n) S=none)(h:L6 (.ref n) y S=some (some d)):ixA (.ref n) y S=.ok d S:=by
 show Jc (ixD (.ref n) y S) (UZ (.ref n) y S)=_;rw[show ixD (.ref n) y S=.bad by unfold ixD;rw[l]];show UZ (.ref n) y S=_;unfold UZ;rw[h]
def tM(h:S[n]?=some (oDK enc l)):Ga (.ref n) S=none:=by unfold Ga;dsimp only;rw[h];rfl
def tL(h:S[n]?=some (oDP enc l)):Ga (.ref n) S=none:=by unfold Ga;dsimp only;rw[h];rfl
section
def Ya:VE A Jf (rN (oDK enc)) (some []):=λv l m e F S o=>by cases l;exact⟨_,_,rfl,Keeps.app _ _,_,rfl,AJ _,ER _ _⟩
def ic:VE A Oc (rN (oDP enc)) (some []):=λv l m e F S o=>by cases l;exact⟨_,_,rfl,Keeps.app _ _,_,rfl,AJ _,ER _ _⟩
def YZ{m}{pl}(B:VE A a (rV D.int) m)(hb:VE A b (rO (oDK enc)) pl):VE A (m2 (inA true) a b) (rV D.bl) (m.bind λx=>pl.bind λl=>some (!(An l x).isSome)):=Sz B hb λx l z S n o q=>by cases q;rw[UY (tM o) (lP o x)];simp
def np{m}{pl}(B:VE A a (rV (eP D.int D.int)) m)(hb:VE A b (rO (oDP enc)) pl):VE A (m2 (inA false) a b) (rV D.bl) (m.bind λx=>pl.bind λl=>some (An l x).isSome):=Sz B hb λx l z S n o q=>by cases q;rw[UY (tL o) (lO o x)];simp
def iZ{m}{pl}(B:VE A a (rV (eP D.int D.int)) m)(hb:VE A b (rO (oDP enc)) pl):VE A (m2 (inA true) a b) (rV D.bl) (m.bind λx=>pl.bind λl=>some (!(An l x).isSome)):=Sz B hb λx l z S n o q=>by cases q;rw[UY (tL o) (lO o x)];simp
def Yb(o:VE A a (rO (oDP enc)) pl)(hb:VE A b (rV (eP D.int D.int)) B):VE A (m2 ixA a b) (rV enc) (pl.bind λl=>B.bind λx=>An l x):=W7 o hb λl x z S n m q=>NB (tL m) (by rw[lO m x,q];rfl)
def Iv[DecidableEq κ](l:List (κ×α))(k:κ)(v:α):Option (List (κ×α)):=if l.length < 1000000 then some (CJ l k v)else none
def cE{N:κ->D}[DecidableEq κ]{C:List (κ×α)->Ob}{R:Rk ρ}{p:Option α}{O:Option κ}{i:Nat}{l:List (κ×α)}
  (U:∀(l:List (κ×α)) (k:κ) (v:α) (S:Sto) (n:Nat),S[n]?=some (C l)->l.length < 1000000->Qt (.ref n) (N k) (enc v) S=some (S.set n (C (CJ l k v))))
  (hi:A[i]?=some (.w i (C l))) (X:VE A b (rV N) O) (h:VE A m (rV enc) p) (Y:((A.set i .u).all (Sl.oth i))=true) :
  VS A (Cb (AC i) b m) R (p.bind λv=>O.bind λk=>(Iv l k v).bind λG=>some (.nx G)) (λG=>A.set i (.w i (C G))):=λf Z P e F S o=>by
 obtain⟨v,h1,h2⟩:=BC Z;obtain⟨k,J,h3⟩:=BC h2;obtain⟨G,H,h0⟩:=BC h3;cases h0;unfold Iv at H;split at H
 ·rename_i hl
  cases H;obtain⟨x,Q,n,rfl,g2,L⟩:=o.sl i _ hi;obtain⟨d,B,h5,E,rfl⟩:=h v h1 P e F S o;obtain⟨d,I,h7,T,rfl⟩:=X k J P e _ B (o.grow E);have hg:=(o.grow E).grow T;have hn:=(E.trans T).at L
  have hx:Cb (AC i) b m e S=.ok (.nx e) (I.set n (C (CJ l k v))):=by
   unfold Cb;rw[h5];dsimp only[Res.lift];rw[show AC i e B=.ok (.ref n) B by unfold AC;rw[Q]];dsimp only;rw[h7];dsimp only;rw[U l k v I n hn hl]
  have hF:Oh (Oh F S B) B I n=.ow i:=by rw[E7 (BZ (E.at L)),E7 (BZ L)];exact g2
  exact⟨_,_,hx,e,_,rfl,hg.put Y hi Q hF,(o.fle B).trans ((o.grow E).fle I)⟩
 ·cases H
def YU{R:Rk ρ}{p:Option α}{B:Option Int}{i:Nat}{l:List (Int×α)}(hi:A[i]?=some (.w i (oDK enc l)))(C:VE A b (rV D.int) B)(h:VE A m (rV enc) p)(E:((A.set i .u).all (Sl.oth i))=true) :
  VS A (Cb (AC i) b m) R (p.bind λv=>B.bind λk=>(Iv l k v).bind λo=>some (.nx o)) (λo=>A.set i (.w i (oDK enc o))):=
 cE (λl k v S n G H=>by
  unfold Qt;dsimp only;rw[G];show(if (l.map _).length < sizeLine then some (S.set n (.dK (CJ (l.map λx=>(Du x.1,enc x.2)) (Du k) (enc v))))else none)=_;rw[qX (by rw[AH];exact ZK H),Pb SM]
  rfl) hi C h E
def YT{R:Rk ρ}{p:Option α}{B:Option ZPi}{i:Nat}{l:List (ZPi×α)}(hi:A[i]?=some (.w i (oDP enc l)))(C:VE A b (rV (eP D.int D.int)) B)(h:VE A m (rV enc) p)(E:((A.set i .u).all (Sl.oth i))=true) :
  VS A (Cb (AC i) b m) R (p.bind λv=>B.bind λk=>(Iv l k v).bind λo=>some (.nx o)) (λo=>A.set i (.w i (oDP enc o))):=
 cE (λl k v S n G H=>by
  unfold Qt;dsimp only;rw[G];show(if (l.map _).length < sizeLine then some (S.set n (.dT (CJ (l.map λx=>(kP x.1,enc x.2)) (kP k) (enc v))))else none)=_;rw[qX (by rw[AH];exact ZK H),Pb kW]
  rfl) hi C h E
def nv(h:VE A m (rV (eT enc)) pl):VB A (GN m) (pl.bind λl=>some (!l.isEmpty)):=λv o B e F S C=>by
 obtain⟨l,E,G⟩:=BC o;cases G;obtain⟨d,H,I,J,rfl⟩:=h l E B e F S C;refine⟨H,?_,J⟩;unfold GN;rw[I]
 cases l <;> rfl
def nw(h:VE A m (rO (oL enc)) pl):VB A (GN m) (pl.bind λl=>some (!l.isEmpty)):=λv B C e F S E=>by
 obtain⟨l,G,H⟩:=BC B;cases H;obtain⟨d,o,I,J,n,rfl,L⟩:=h l G C e F S E;refine⟨o,?_,J⟩;unfold GN;rw[I];dsimp only[Res.bind]
 have:RQ (.ref n) o=some (!l.isEmpty):=by
  unfold RQ;dsimp only;rw[L]
  cases l <;> rfl
 rw[this]
def aE{b:MS}{R:Rk ρ}{B:σ->List Sl}:VS A b R none B:=λf l=>by cases l
def iP(m:VE A a (rO (oL D.int)) pl):VE A (j9 a) (rV D.int) (pl.bind λl=>some (VX l)):=λv o B e F S C=>by
 obtain⟨l,E,G⟩:=BC o;cases G;obtain⟨d,H,I,J,n,rfl,L⟩:=m l E B e F S C;refine⟨_,H,?_,J,rfl⟩;unfold j9;rw[I];dsimp only[Res.bind];rw[Mt L];ext
end
end
section
variable{α ρ σ:Type}
def Bj:BJ (some (.nx s)) q=q s:=rfl
def lg:BJ (some (.rt r)) q=some (.rt r):=rfl
def pT:Eg (ρ:=ρ) g (some (.nx s))=some (.nx (g s)):=rfl
def cW:Gc (some (.rt r:Fw ρ σ))=some r:=rfl
def yt:uA (some (.nx s))=some ():=rfl
def SS{l:List α}{q:σ->α->Option (Fw ρ σ)}{s0:σ}(I:List α->σ->Prop)(B:I [] s0)(h:∀m x s,x∈l->m++[x] <+: l->I m s->∃s',q s x=some (.nx s')/\I (m++[x]) s'):∃s,E6 l s0 q=some (.nx s)/\I l s:=by
 have o:∀(r m:List α) (s:σ),l=m++r->I m s->∃s',E6 r s q=some (.nx s')/\I l s':=by
  intro r
  induction r with
  | nil=>intro m s e A;rw[Bp]at e;subst e;exact⟨s,rfl,A⟩
  | cons x r C=>
   intro m s e A;obtain⟨s',J,E⟩:=h m x s (by rw[e];simp) ⟨r,by rw[e];simp⟩ A;obtain⟨G,L,H⟩:=C (m++[x]) s' (by rw[e];simp) E;refine⟨G,?_,H⟩;unfold E6;ext
 exact o l [] s0 rfl B
def lA(I:List α->σ->Prop)(R:ρ->Prop)(E:I [] s0)(h:∀m x s,x∈l->m++[x] <+: l->I m s->(∃s',q s x=some (.nx s')/\I (m++[x]) s')∨∃r,q s x=some (.rt r)/\R r):(∃s,E6 l s0 q=some (.nx s)/\I l s)∨∃r,E6 l s0 q=some (.rt r)/\R r:=by
 have o:∀(r m:List α) (s:σ),l=m++r->I m s->(∃s',E6 r s q=some (.nx s')/\I l s')∨∃y,E6 r s q=some (.rt y)/\R y:=by
  intro r
  induction r with
  | nil=>intro m s e A;rw[Bp]at e;subst e;exact .inl ⟨s,rfl,A⟩
  | cons x r G=>
   intro m s e A
   rcases h m x s (by rw[e];simp) ⟨r,by rw[e];simp⟩ A with⟨s',B,C⟩ | ⟨y,B,C⟩
   ·have H:E6 (x :: r) s q=E6 r s' q:=by
     conv=>lhs;unfold E6
     rw[B]
    rw[H];exact G (m++[x]) s' (by rw[e];simp) C
   ·refine .inr ⟨y,?_,C⟩
    unfold E6;rw[B]
 exact o l [] s0 rfl E
def lU(B:∀x∈l,c x=some (P x))(C:∀x∈l,P x=true->m x=some (f x)):Ub c m l=some ((l.filter P).map f):=by
 induction l with
 | nil=>rfl
 | cons x l A=>
  have A:=A (λy o=>B y (AT _ o)) λy o=>C y (AT _ o)
  unfold Ub
  grind
def Py(o:l.length<=1000000)(A:∀x∈l,c x=some (P x))(B:∀x∈l,P x=true->m x=some (f x)):EB l c m=some ((l.filter P).map f):=by
 unfold EB;rw[qX o,lU A B]
def E8(o:l.length<=1000000)(A:∀x∈l,m x=some (f x)):EB l (λ_=>some true) m=some (l.map f):=by
 rw[Py o (λ_ _=>rfl) λx B _=>A x B,List.filter_eq_self.mpr λ_ _=>rfl]
def IK(m:l.length<=1000000)(o:∀x∈l,c x=some (P x)):EB l c (λx=>some x)=some (l.filter P):=by
 rw[Py m o λx A _=>rfl,Q0]
def X0(h:l.length < 1000000):Vj l x=some (l++[x]):=qX h
def Nf(h:l.length+k.length<=1000000):M6 l k=some (l++k):=qX h
def qJ(h:l.length<=1000000):Ge l=some l:=qX h
def vK:Ge ([]:List α)=some []:=rfl
def vJ(a:α):Ge [a]=some [a]:=qX (by simp)
def few2(a b:α):Ge [a,b]=some [a,b]:=qX (by simp)
def NV(l:-1000000<=j)(m:j<=1000000):Nm j=some (Db 0 j.toNat):=qX ⟨l,m⟩
def oS(l:-1000000<=i)(m:i<=1000000)(o:-1000000<=j)(A:j<=1000000):Yw i j=some (Db i (j - i).toNat):=qX ⟨l,m,o,A⟩
def Cu{lo:Int}{n:Nat}{x:Int}:x∈Db lo n↔lo<=x/\x < lo+n:=by
 unfold Db;rw[A9]
 constructor
 ·rintro⟨k,l,rfl⟩
  have:=CU.mp l
  lia
 ·rintro⟨m,o⟩
  exact⟨(x - lo).toNat,CU.mpr (by lia),by lia⟩
def CY(lo:Int)(n:Nat):(Db lo n).length=n:=by unfold Db;ext
def XJ(lo:Int)(n:Nat):(Db lo n).Pairwise (· < ·):=by
 unfold Db;rw[Bb]
 exact MH.imp λh=>by ext
def bd(o:0<=i)(A:i < l.length):∃x,atI l i=some x/\l[i.toNat]?=some x:=by
 have m:i.toNat < l.length:=by ext
 exact⟨l[i.toNat],JC o (AM m),AM m⟩
def da(h:atI l i=some x):x∈l:=by
 unfold atI at h;obtain⟨j,_,m⟩:=BC h;exact A0 m
def dZ(k:Int)(h:l≠[]):∃x,atI l (k % (l.length:Int))=some x/\x∈l:=by
 have o:0 < (l.length:Int):=by have:=du.mpr h;ext
 obtain⟨x,m,_⟩:=bd (qu _ (by ext)) (iI _ o);exact⟨x,m,da m⟩
def XW(h:0 < y):az x y=some (x % y):=qX h
def RW(P:α->Bool)(l:List α)(x:α):(l++[x]).filter P=if P x=true then l.filter P++[x]else l.filter P:=by
 grind
theorem Iw[DecidableEq α]:∀{l k:List α},l.Nodup->(∀x∈l,x∈k)->l.length<=k.length
 | [],_,_,_=>Bu _
 | x :: l,k,o,h=>by
  have m:=h x Ae;obtain⟨A,B⟩:=Ba.mp o
  have:=Iw B λy C=>(bx (λz:y=x=>A (by lia))).mpr (h y (AT _ C))
  rw[LA m]at this;have:=MJ m;rw[Az]
  lia
def Ok(p:Option α)(P:α->Prop):Prop:=∃v,p=some v/\P v
def Ok.pure(h:P v):Ok (some v) P:=⟨v,rfl,h⟩
def Ok.is(h:Ok p λr=>r=v):p=some v:=by
 obtain⟨_,l,rfl⟩:=h;exact l
theorem Ok.bind(h:Ok p P)(l:∀v,P v->Ok (q v) Q):Ok (p.bind q) Q:=by
 obtain⟨v,rfl,h⟩:=h;exact l v h
def Ok.imp(h:Ok p P)(i:∀v,P v->Q v):Ok p Q:=by
 obtain⟨v,rfl,h⟩:=h;exact⟨v,rfl,i v h⟩
def OkF(p:Option (Fw ρ σ))(N:σ->Prop)(R:ρ->Prop):Prop:=(∃s,p=some (.nx s)/\N s)∨∃r,p=some (.rt r)/\R r
theorem OkF.nx(h:N s):OkF (some (.nx s)) N R:=.inl ⟨s,rfl,h⟩
theorem OkF.rt(h:R r):OkF (some (.rt r)) N R:=.inr ⟨r,rfl,h⟩
def OkF.seq(h:OkF p N R)(l:∀s,N s->OkF (q s) N' R):OkF (BJ p q) N' R:=by
 rcases h with⟨s,rfl,h⟩ | ⟨r,rfl,h⟩
 ·exact l s h
 ·exact .inr ⟨r,rfl,h⟩
def OkF.map(h:OkF p N R)(l:∀s,N s->N' (g s)):OkF (Eg g p) N' R:=by
 rcases h with⟨s,rfl,h⟩ | ⟨r,rfl,h⟩
 ·exact .inl ⟨_,rfl,l s h⟩
 ·exact .inr ⟨r,rfl,h⟩
def OkF.for(I:List α->σ->Prop)(o:I [] s0)(h:∀m x s,x∈l->m++[x] <+: l->I m s->OkF (q s x) (I (m++[x])) R):OkF (E6 l s0 q) (I l) R:=lA I R o h
def OkF.out(h:OkF p (λ_=>False) R):Ok (Gc p) R:=by
 rcases h with⟨s,rfl,h⟩ | ⟨r,rfl,h⟩
 ·exact h.elim
 ·exact⟨r,rfl,h⟩
def OkF.imp(h:OkF p N R)(l:∀s,N s->N' s)(m:∀r,R r->R' r):OkF p N' R':=by
 rcases h with⟨s,rfl,h⟩ | ⟨r,rfl,h⟩
 ·exact .inl ⟨s,rfl,l s h⟩
 ·exact .inr ⟨r,rfl,m r h⟩
def VF.law(h:VF f [.v (eF l)] (rV D.bl) (some true)):∃S',f [.fro (l.map D.int)] []=.ok (.bl true) S':=by
 obtain⟨d,S',m,_,rfl⟩:=h true rfl [] [.fro (l.map D.int)] ⟨rfl,trivial⟩
 ext
end
section
noncomputable def PP(x y:Int):Option Int:=if bq x y then some (x * 2 ^ y.toNat)else none
noncomputable def oP(x y:Int):Option Int:=if 0<=y then some (x / 2 ^ y.toNat)else none
def QR(l:VE A a (rV D.int) m)(hb:VE A b (rV D.int) o):VE A (m2 Ri a b) (rV D.int) (m.bind λx=>o.bind λy=>PP x y):=HG l hb λx y z S h=>by
 unfold PP at h;split at h
 ·rename_i B;cases h;exact qX B
 ·cases h
def sS(l:VE A a (rV D.int) m)(hb:VE A b (rV D.int) o):VE A (m2 Yo a b) (rV D.int) (m.bind λx=>o.bind λy=>oP x y):=HG l hb λx y z S h=>by
 unfold oP at h;split at h
 ·rename_i B;cases h;exact qX B
 ·cases h
def SF(l:VE A a (rV D.int) m)(hb:VE A b (rV D.int) o):VE A (m2 Vk a b) (rV D.int) (m.bind λx=>o.bind λy=>some (Bq x y)):=HG l hb λx y z S h=>by cases h;rfl
def cJ(h:VE A m (rV D.int) o):VB A (GN m) (o.bind λx=>some (x != 0)):=λv B C e F S E=>by
 obtain⟨l,G,H⟩:=BC B;cases H;obtain⟨d,I,J,L,rfl⟩:=h l G C e F S E;refine⟨I,?_,L⟩;unfold GN;rw[J];rfl
end
section
def QQ(o:VE A a (rV (eT D.int)) pl):VE A (FW a) (rN (oL D.int)) (pl.bind λl=>some (Cp l)):=λv B C e F S E=>by
 obtain⟨l,G,H⟩:=BC B;cases H;obtain⟨d,J,I,m,rfl⟩:=o l G C e F S E;refine⟨_,_,Ks I rfl ?_,m.trans (Keeps.app _ _),_,rfl,m.1,ER _ _⟩;unfold L0;rw[UI]
noncomputable def Rs(x:ZLi)(l:List ZLi):Bool:=decide (x∈l)
def cF(m:VE A a (rV (eT D.int)) o)(hb:VE A b (rO (oL (eT D.int))) pl):VE A (m2 (inA false) a b) (rV D.bl) (o.bind λx=>pl.bind λl=>some (Rs x l)):=Sz m hb λx l z S n B q=>by
 cases q;rw[Qo (Xo EX) false x (GZ B)];refine congrArg (λz=>Res.ok (D.bl z) S) ?_;rw[qY Ab];unfold Rs
 ext
end
section
variable{ρ σ:Type}
def El{n:Nat}{b:MS}{as:List Ar}{R:Rk ρ}{p:Option (Fw ρ σ)}{B:σ->List Sl}(h:VS (as.map Ar.sl++Bs (n - as.length) .u) b R p B):VF (D2 n b) as R (Gc p):=λv l S G o=>by
 cases p with
 | none=>cases l
 | some x=>
  obtain⟨g,A,C,m⟩:=h _ rfl S _ _ S (Vs.start o)
  cases x with
  | rt r=>cases l;obtain⟨d,rfl,m,E⟩:=m;exact⟨d,A,_root_.M.LR C,E,m⟩
  | nx s=>cases l
  | bk s=>cases l
  | ct s=>cases l
def sP{n:Nat}{b:MS}{as:List Ar}{p:Option (Fw Unit σ)}{B:σ->List Sl}(h:VS (as.map Ar.sl++Bs (n - as.length) .u) b (rV eU) p B):VF (D2 n b) as (rV eU) (uA p):=λv m S G E=>by
 cases p with
 | none=>cases m
 | some x=>
  obtain⟨g,o,A,l⟩:=h _ rfl S _ _ S (Vs.start E)
  cases x with
  | rt r=>obtain⟨d,rfl,l,C⟩:=l;exact⟨d,o,_root_.M.LR A,C,l⟩
  | nx s=>obtain⟨H,I,rfl,l,C⟩:=l;exact⟨.non,o,_root_.M.ae A,l.kp,rfl⟩
  | bk s=>cases m
  | ct s=>cases m
end
section
variable{κ α:Type}[DecidableEq κ]
def DC(l:List (κ×α))(k:κ)(v:α)(k':κ):An (CJ l k v) k'=if k'=k then some v else An l k':=by
 have m:∀l:List (κ×α),An (l.map λo=>if o.1=k then(o.1,v)else o) k'=if k'=k then(An l k').map (λ_=>v)else An l k':=by
  intro l
  induction l with
  | nil=>unfold An;simp
  | cons x l A=>
   unfold An at A ⊢
   grind
 unfold CJ;split
 ·rename_i h
  rw[m]
  by_cases c:k'=k
  ·rw[qX c,qX c]
   subst c
   have:(An l k').isSome=true:=by
    unfold An;rw[KG,List.find?_isSome];obtain⟨x,B,C⟩:=Lz.mp h;exact⟨x,B,C⟩
   obtain⟨b,hb⟩:=DY.mp this;rw[hb];rfl
  ext
 ·rename_i h
  unfold An
  grind
def HR(l:List (κ×α))(k:κ)(v:α):(CJ l k v).map (·.1)=if k∈l.map (·.1)then l.map (·.1)else l.map (·.1)++[k]:=by
 have o:(l.any λA=>decide (A.1=k))=true↔k∈l.map (·.1):=by
  rw[Lz,A9];exact⟨λ⟨x,m,e⟩=>⟨x,m,of_decide_eq_true e⟩,λ⟨x,m,e⟩=>⟨x,m,wX e⟩⟩
 unfold CJ
 by_cases c:k∈l.map (·.1)
 ·rw[qX c,qX (o.mpr c),BF]
  refine D7 λx _=>?_
  show(if x.1=k then(x.1,v)else x).1=x.1
  split <;> rfl
 ext
def DO(l:List (κ×α))(k:κ):(An l k).isSome=true↔k∈l.map (·.1):=by
 unfold An
 ext
end
noncomputable def hb(bits x:Int):Bool:=Bq (bits / 2 ^ x.toNat) 1 != 0
abbrev HL:=List ZPi
abbrev QL:=List (Int×Bool)
def OF(st:HL->Int->QL->Option (Bool×HL×QL))(g:Int):ZLi->HL->QL->Option (Bool×HL×QL)
 | [],H,Q=>some (false,H,Q)
 | x :: r,H,Q=>if (An Q x).isSome=true then OF st g r H Q else(Iv Q x true).bind λl=>(An H x).bind λm=>(st H m l).bind λz=>if z.1=true then(Iv z.2.1 x g).bind λo=>some (true,o,z.2.2)else OF st g r z.2.1 z.2.2
def IP(T:Int->ZLi)(bits:Int):Nat->HL->Int->QL->Option (Bool×HL×QL)
 | 0,_,_,_=>none
 | n+1,H,g,Q=>match((T g).filter λx=>hb bits x&&!(An Q x).isSome).find? (λx=>!(An H x).isSome)with
  | some x=>(Iv H x g).bind λl=>some (true,l,Q)
  | none=>OF (IP T bits n) g ((T g).filter λx=>hb bits x&&!(An Q x).isSome) H Q
section
abbrev w0(T:Int->ZLi)(bits g:Int):ZLi:=(T g).filter (hb bits)
structure KOk{α:Type}(U:ZLi)(l:List (Int×α)):Prop where
 nd:(l.map (·.1)).Nodup
 sub:∀x∈l.map (·.1),x∈U
def KOk.len{m:Type}{l:List (Int×m)}(h:KOk U l):l.length<=U.length:=by
 have:=Iw h.nd h.sub;ext
def KOk.put{o:Type}{l:List (Int×o)}(h:KOk U l){x:Int}(B:x∈U)(v:o):KOk U (CJ l x v):=by
 by_cases c:x∈l.map (·.1)
 ·exact⟨by rw[HR,qX c];exact h.nd,by rw[HR,qX c];exact h.sub⟩
 ·refine⟨?_,?_⟩
  ·rw[HR,qY c]
   unfold Jv;rw[BV];exact⟨h.nd,by simp,λa C b A z=>c (by grind)⟩
  ·rw[HR,qY c]
   intro y m
   rcases Ax.mp m with m | m
   ·exact h.sub y m
   ext
def KOk.more{m:Type}{l:List (Int×m)}{x:Int}(c:(An l x).isSome=false)(v:m):(CJ l x v).length=l.length+1:=by
 have o:x∉l.map (·.1):=λz=>by rw[(DO l x).mpr z]at c;cases c
 have:=congrArg Ev (HR l x v);rw[qY o,AH,AY,AH]at this;exact this
def MOn(T:Int->ZLi)(bits:Int)(P:Int->Prop)(H:HL):Prop:=(∀x,P x->∀a,An H x=some a->x∈w0 T bits a)/\∀x y a,P x->P y->An H x=some a->An H y=some a->x=y
abbrev sn(Q:QL)(x:Int):Prop:=(An Q x).isSome=true
def Good(T:Int->ZLi)(bits:Int)(H:HL)(g:Int)(Q:QL)(l:HL):Prop:=
 (∀x,sn Q x->An l x=An H x)/\(MOn T bits (λx=>¬sn Q x) H->(∀x,¬sn Q x->An H x≠some g)->MOn T bits (λx=>¬sn Q x) l/\∀a,(∃x,¬sn Q x/\An l x=some a)↔a=g∨∃x,¬sn Q x/\An H x=some a)
def Clo(T:Int->ZLi)(bits:Int)(H:HL)(Q l:QL):Prop:=∀x,sn l x->sn Q x∨∃a,An H x=some a/\∀y∈w0 T bits a,sn l y
structure yU(T:Int->ZLi)(bits:Int)(U:ZLi)(Gd:Int->Prop)(H:HL)(g:Int)(Q:QL)(z:Bool×HL×QL):Prop where
 h1:KOk U z.2.1
 h2:KOk U z.2.2
 h3:∀x a,An z.2.1 x=some a->Gd a
 h4:∀x,sn Q x->sn z.2.2 x
 h5:z.1=false->z.2.1=H/\(∀x∈w0 T bits g,sn z.2.2 x)/\Clo T bits H Q z.2.2
 h6:z.1=true->Good T bits H g Q z.2.1
def put_ok{m:Type}{l:List (Int×m)}(h:KOk U l)(o:U.length < 1000000)(x:Int)(v:m):Iv l x v=some (CJ l x v):=qX (Bd h.len o)
def KL:sn (CJ Q x true) y↔y=x∨sn Q y:=by
 unfold sn;rw[DC]
 grind
def Yq(hT:∀g,Gd g->∀x∈T g,x∈U)(hU:U.length < 1000000):∀(n:Nat) (H:HL) (g:Int) (Q:QL),KOk U H->KOk U Q->(∀x a,An H x=some a->Gd a)->Gd g->U.length < n+Q.length->Ok (IP T bits n H g Q) (yU T bits U Gd H g Q):=by
 intro n
 induction n with
 | zero=>intro H g Q hH hQ hG hg hn;exact zX hQ.len (by ext)
 | succ n ih=>
  intro H g Q hH hQ hG hg hn;unfold IP
  have wm:∀x,x∈(T g).filter (λx=>hb bits x&&!(An Q x).isSome)↔x∈w0 T bits g/\¬sn Q x:=by
   intro x;unfold w0 sn;rw[BH,BH]
   cases An Q x <;> simp
  generalize (T g).filter (λx=>hb bits x&&!(An Q x).isSome)=w at wm
  have wU:∀x∈w,x∈U:=λx N=>hT g hg x (BH.mp ((wm x).mp N).1).1
  cases hf:w.find? (λx=>!(An H x).isSome)with
  | some x=>
   have N:=Ws hf
   have hfree:An H x=none:=by
    have:=mq hf
    cases q:An H x with
    | none=>rfl
    | some a=>ext
   obtain⟨x1,R⟩:=(wm x).mp N;show Ok ((Iv H x g).bind _) _;rw[put_ok hH hU];refine .pure ⟨hH.put (wU x N) g,hQ,λy a l=>?_,λ_ h=>h,λz=>(by cases z),λ_=>⟨λy l=>?_,λm ng=>⟨⟨λy l a e=>?_,λy z a l L e1 I=>?_⟩,λa=>⟨?_,?_⟩⟩⟩⟩
   ·rw[show An (true,CJ H x g,Q).2.1 y=if y=x then some g else An H y from DC _ _ _ _]at l
    grind
   ·rw[DC,qY λc:y=x=>R (by lia)]
   ·rw[show An (true,CJ H x g,Q).2.1 y=if y=x then some g else An H y from DC _ _ _ _]at e
    split at e
    ·lia
    ·exact m.1 y l a e
   ·rw[show An (true,CJ H x g,Q).2.1 y=if y=x then some g else An H y from DC _ _ _ _]at e1
    rw[show An (true,CJ H x g,Q).2.1 z=if z=x then some g else An H z from DC _ _ _ _]at I;split at e1
    ·ext
    ·split at I
     ·ext
     ·exact m.2 y z a l L e1 I
   ·rintro⟨y,l,e⟩
    rw[show An (true,CJ H x g,Q).2.1 y=if y=x then some g else An H y from DC _ _ _ _]at e;split at e
    ·ext
    ·exact .inr ⟨y,l,e⟩
   ·rintro(rfl | ⟨y,l,e⟩)
    ·exact⟨x,R,by show An (CJ H x a) x=_;rw[DC,qX rfl]⟩
    ·refine⟨y,l,?_⟩
     rw[DC,qY λc=>by ext];exact e
  | none=>
   have held:∀x∈w,∃a,An H x=some a:=by
    intro x N;have:=P9.mp hf x N
    cases q:An H x with
    | none=>ext
    | some a=>ext
   have key:∀(r:ZLi) (C:QL),(∀x∈r,x∈w)->KOk U C->(∀x,sn Q x->sn C x)->Q.length<=C.length->Clo T bits H Q C->(∀x∈w,x∈r∨sn C x)->Ok (OF (IP T bits n) g r H C) (yU T bits U Gd H g Q):=by
    intro r
    induction r with
    | nil=>
     intro C _ J X hl hc hw;refine .pure ⟨hH,J,hG,X,λ_=>⟨rfl,λx N=>?_,hc⟩,λz=>(by cases z)⟩
     grind
    | cons x r ih2=>
     intro C hr J X hl hc hw;unfold OF
     by_cases c:(An C x).isSome=true
     ·rw[qX c]
      refine ih2 C (λy l=>hr y (AT _ l)) J X hl hc λy l=>?_
      grind
     ·rw[qY c,put_ok J hU]
      have S:=hr x Ae;obtain⟨x1,R⟩:=(wm x).mp S;obtain⟨a,O⟩:=held x S;have hQ1:=J.put (wU x S) true;have ud:=KOk.more (by cases q:(An C x).isSome;rfl;ext) true;obtain⟨z,ez,L⟩:=ih H a (CJ C x true) hH hQ1 hG (hG x a O) (by lia);rw[O];show Ok ((IP T bits n H a (CJ C x true)).bind _) _;rw[ez];show Ok (if z.1=true then _ else _) _
      cases hb':z.1 with
      | true=>
       rw[qX rfl,put_ok L.h1 hU];obtain⟨g1,g2⟩:=L.h6 hb';refine .pure ⟨L.h1.put (wU x S) g,L.h2,λy b l=>?_,λy l=>L.h4 y (KL.mpr (.inr (X y l))),λq=>(by cases q),λ_=>⟨λy l=>?_,λm ng=>?_⟩⟩
       ·rw[show An (true,CJ z.2.1 x g,z.2.2).2.1 y=if y=x then some g else An z.2.1 y from DC _ _ _ _]at l
        split at l
        ·ext
        ·exact L.h3 y b l
       ·rw[DC,qY λq:y=x=>R (by lia)]
        exact g1 y (KL.mpr (.inr (X y l)))
       ·have E:∀y,¬sn (CJ C x true) y->¬sn Q y/\y≠x/\¬sn C y:=λy l=>⟨λq=>l (KL.mpr (.inr (X y q))),λq=>l (KL.mpr (.inl q)),λq=>l (KL.mpr (.inr q))⟩
        obtain⟨m1,m2⟩:=g2 ⟨λy l b e=>m.1 y (E y l).1 b e,λy o b l ϫ e B=>m.2 y o b (E y l).1 (E o ϫ).1 e B⟩ λy l e=>(E y l).2.1 (m.2 y x a (E y l).1 R e O)
        have A:∀y,y=x∨(y≠x/\An z.2.1 y=An H y/\sn C y)∨¬sn (CJ C x true) y:=λy=>by
         by_cases q:y=x
         ·exact .inl q
         ·by_cases Y:sn C y
          ·exact .inr (.inl ⟨q,g1 y (KL.mpr (.inr Y)),Y⟩)
          ·exact .inr (.inr λq3=>(KL.mp q3).elim q Y)
        have G:∀y,y≠x->An (CJ z.2.1 x g) y=An z.2.1 y:=λy q=>by rw[DC,qY q]
        have Z:An (CJ z.2.1 x g) x=some g:=by rw[DC,qX rfl]
        refine⟨⟨λy l b e=>?_,λy o b l ϫ e B=>?_⟩,λb=>⟨?_,?_⟩⟩
        ·rcases A y with rfl | ⟨q,q1,Y⟩ | q
         ·lia
         ·rw[G y q,q1]at e;exact m.1 y l b e
         ·rw[G y (E y q).2.1]at e;exact m1.1 y q b e
        ·rcases A y with rfl | ⟨q,q1,Y⟩ | q
         ·rw[Z]at e
          cases e
          rcases A o with rfl | ⟨p,p1,P⟩ | p
          ·rfl
          ·rw[G o p,p1]at B;exact zX B (ng o ϫ)
          ·rw[G o (E o p).2.1]at B
           rcases(m2 g).mp ⟨o,p,B⟩with rfl | ⟨y2,P,I⟩
           ·exact zX O (ng y l)
           ·exact zX I (ng y2 (E y2 P).1)
         ·rw[G y q,q1]at e
          rcases A o with rfl | ⟨p,p1,P⟩ | p
          ·ext
          ·rw[G o p,p1]at B;exact m.2 y o b l ϫ e B
          ·rw[G o (E o p).2.1]at B
           rcases(m2 b).mp ⟨o,p,B⟩with rfl | ⟨y2,P,I⟩
           ·exact zX (m.2 y x b l R e O) q
           ·have:=m.2 y y2 b l (E y2 P).1 e I
            grind
         ·rw[G y (E y q).2.1]at e
          rcases A o with rfl | ⟨p,p1,P⟩ | p
          ·rw[Z]at B
           cases B
           rcases(m2 g).mp ⟨y,q,e⟩with rfl | ⟨y2,P,I⟩
           ·exact zX O (ng o ϫ)
           ·exact zX I (ng y2 (E y2 P).1)
          ·rw[G o p,p1]at B
           rcases(m2 b).mp ⟨y,q,e⟩with rfl | ⟨y2,p3,I⟩
           ·exact zX (m.2 o x b ϫ R B O) p
           ·have:=m.2 o y2 b ϫ (E y2 p3).1 B I
            grind
          ·rw[G o (E o p).2.1]at B
           exact m1.2 y o b q p e B
        ·rintro⟨y,l,e⟩
         rcases A y with rfl | ⟨q,q1,Y⟩ | q
         ·ext
         ·rw[G y q,q1]at e;exact .inr ⟨y,l,e⟩
         ·rw[G y (E y q).2.1]at e
          rcases(m2 b).mp ⟨y,q,e⟩with rfl | ⟨y2,P,I⟩
          ·exact .inr ⟨x,R,O⟩
          ·exact .inr ⟨y2,(E y2 P).1,I⟩
        ·rintro(rfl | ⟨y,l,e⟩)
         ·exact⟨x,R,Z⟩
         ·rcases A y with rfl | ⟨q,q1,Y⟩ | q
          ·rw[O]at e
           cases e;obtain⟨o,p,B⟩:=(m2 a).mpr (.inl rfl);exact⟨o,(E o p).1,by rw[G o (E o p).2.1];exact B⟩
          ·exact⟨y,l,by rw[G y q,q1];exact e⟩
          ·obtain⟨o,p,B⟩:=(m2 b).mpr (.inr ⟨y,q,e⟩)
           exact⟨o,(E o p).1,by rw[G o (E o p).2.1];exact B⟩
      | false=>
       rw[qY Ab];obtain⟨f1,f2,f3⟩:=L.h5 hb';rw[f1]
       have up:∀y,sn C y->sn z.2.2 y:=λy l=>L.h4 y (KL.mpr (.inr l))
       refine ih2 z.2.2 (λy l=>hr y (AT _ l)) L.h2 (λy l=>up y (X y l)) ?_ (λy l=>?_) λy l=>?_
       ·have h1:∀k∈C.map (·.1),k∈z.2.2.map (·.1):=λk hk=>(DO _ _).mp (up k ((DO _ _).mpr hk))
        have:=Iw J.nd h1;rw[AH,AH]at this
        lia
       ·rcases f3 y l with h | h
        ·rcases KL.mp h with rfl | h
         ·exact .inr ⟨a,O,f2⟩
         ·rcases hc y h with h | ⟨b,e,k⟩
          ·exact .inl h
          ·exact .inr ⟨b,e,λo ϫ=>up o (k o ϫ)⟩
        ·exact .inr h
       ·rcases hw y l with h | h
        ·rcases Aw.mp h with rfl | h
         ·exact .inr (L.h4 _ (KL.mpr (.inl rfl)))
         ·exact .inl h
        ·exact .inr (up y h)
   exact key w Q (λ_ h=>h) hQ (λ_ h=>h) (AJ _) (λx N=>.inl N) λx N=>.inl N
end
def TM(bits:Int):ZLi->HL->Option HL
 | [],H=>some H
 | g :: r,H=>if hb bits g=true then(Iv H g g).bind λl=>TM bits r l else TM bits r H
def Tf(T:Int->ZLi)(bits:Int)(n:Nat):ZLi->HL->Option Bool
 | [],_=>some true
 | g :: r,H=>if hb bits g=true then Tf T bits n r H else(IP T bits n H g []).bind λz=>if z.1=true then Tf T bits n r z.2.1 else some false
def WT(T:Int->ZLi)(bits:Int)(n:Nat)(gs:ZLi):Option Bool:=(TM bits gs []).bind λH=>Tf T bits n gs H
def Sdr(T:Int->ZLi)(bits:Int)(gs:ZLi):Prop:=∃f:Int->Int,(∀g∈gs,f g∈w0 T bits g)/\∀a∈gs,∀b∈gs,f a=f b->a=b
section
variable{T:Int->ZLi}{bits:Int}{U:ZLi}{Gd:Int->Prop}
def eh(o:U.length < 1000000):∀(gs:ZLi) (H:HL),(∀g∈gs,g∈U)->KOk U H->Ok (TM bits gs H) λl=>KOk U l/\∀x,An l x=if x∈gs/\hb bits x=true then some x else An H x:=by
 intro gs
 induction gs with
 | nil=>intro H _ h;exact .pure ⟨h,λx=>by rfl⟩
 | cons g gs A=>
  intro H m h;unfold TM
  cases c:hb bits g with
  | true=>
   rw[qX rfl,put_ok h o]
   refine(A (CJ H g g) (λy B=>m y (AT _ B)) (h.put (m g Ae) g)).imp λl ⟨C,E⟩=>⟨C,λx=>?_⟩
   rw[E x,DC]
   grind
  | false=>
   grind
def jz{l:Type}:KOk U ([]:List (Int×l)):=⟨EZ,λ_ h=>(nomatch h)⟩
def fI(hT:∀g,Gd g->∀x∈T g,x∈U)(hU:U.length < 1000000)(hn:U.length < n)(hg:∀g∈gs,Gd g)(Ι:gs.Nodup):∀(r pre:ZLi) (H:HL),gs=pre++r->KOk U H->(∀x a,An H x=some a->Gd a)->MOn T bits (λ_=>True) H->(∀a,(∃x,An H x=some a)↔a∈gs/\(a∈pre∨hb bits a=true))->Ok (Tf T bits n r H) λb=>b=true↔Sdr T bits gs:=by
 intro r
 induction r with
 | nil=>
  intro pre H e O P G B;rw[Bp]at e;subst e;refine .pure ⟨λ_=>?_,λ_=>rfl⟩
  have ex:∀a:Int,∃x:Int,a∈gs->An H x=some a:=λa=>by
   by_cases c:a∈gs
   ·obtain⟨x,l⟩:=(B a).mpr ⟨c,.inl c⟩
    exact⟨x,λ_=>l⟩
   ·exact⟨0,λz=>zX z c⟩
  refine⟨λa=>Hm (ex a),λa R=>G.1 _ trivial a (LH (ex a) R),λa R b C e=>?_⟩
  grind
 | cons g r S=>
  intro pre H e O P G B
  have o:g∈gs:=by rw[e];simp
  have hgp:g∉pre:=λz=>by
   grind
  unfold Tf
  cases c:hb bits g with
  | true=>
   rw[qX rfl]
   refine S (pre++[g]) H (by rw[e];simp) O P G λa=>?_
   rw[B a]
   grind
  | false=>
   rw[qY Ab];obtain⟨z,ez,J⟩:=Yq hT hU n H g [] O jz P (hg g o) (by simpa using hn);rw[ez];show Ok (if z.1=true then _ else _) _
   have no:∀x,¬sn ([]:QL) x:=λx h=>by unfold sn at h;cases h
   have Y:∀x,An H x≠some g:=λx q=>by
    grind
   cases C:z.1 with
   | true=>
    rw[qX rfl];obtain⟨-,g2⟩:=J.h6 C
    obtain⟨Z,m2⟩:=g2 ⟨λx _ a q=>G.1 x trivial a q,λx y a _ _ q L=>G.2 x y a trivial trivial q L⟩ λx _=>Y x
    refine S (pre++[g]) z.2.1 (by rw[e];simp) J.h1 J.h3 ⟨λx _ a q=>Z.1 x (no x) a q,λx y a _ _ q L=>Z.2 x y a (no x) (no y) q L⟩ λa=>?_
    constructor
    ·rintro⟨x,l⟩
     rcases(m2 a).mp ⟨x,no x,l⟩with rfl | ⟨y,_,E⟩
     ·exact⟨o,.inl (by simp)⟩
     grind
    ·rintro⟨q1,A⟩
     have:a=g∨∃x,¬sn ([]:QL) x/\An H x=some a:=by
      rcases A with A | A
      ·rcases Ax.mp A with A | A
       ·obtain⟨x,l⟩:=(B a).mpr ⟨q1,.inl A⟩
        exact .inr ⟨x,no x,l⟩
       ·exact .inl (Ay.mp A)
      ·obtain⟨x,l⟩:=(B a).mpr ⟨q1,.inr A⟩
       exact .inr ⟨x,no x,l⟩
     obtain⟨x,_,l⟩:=(m2 a).mpr this
     grind
   | false=>
    rw[qY Ab];obtain⟨f1,f2,f3⟩:=J.h5 C;refine .pure ⟨λq=>(by cases q),?_⟩;rintro⟨f,fw,fi⟩
    exfalso
    have X:=z.2.2.map (·.1)
    have N:∀x∈z.2.2.map (·.1),∃a,An H x=some a/\∀y∈w0 T bits a,sn z.2.2 y:=λx l=>by
     rcases f3 x ((DO _ _).mpr l)with h | h
     ·exact zX h (no x)
     ·exact h
    have ex:∀x:Int,∃a:Int,x∈z.2.2.map (·.1)->An H x=some a/\∀y∈w0 T bits a,sn z.2.2 y:=λx=>by
     by_cases q:x∈z.2.2.map (·.1)
     ·obtain⟨a,h⟩:=N x q
      exact⟨a,λ_=>h⟩
     ·exact⟨0,λL=>zX L q⟩
    have hc:=λx=>LH (ex x)
    generalize hh:(λx=>Hm (ex x))=h at hc
    have I:∀x∈z.2.2.map (·.1),An H x=some (h x)/\∀y∈w0 T bits (h x),sn z.2.2 y:=λx l=>by rw[<-hh];exact hc x l
    have nd:(f g :: (z.2.2.map (·.1)).map λx=>f (h x)).Nodup:=by
     rw[Ba]
     have m:∀x∈z.2.2.map (·.1),h x∈gs:=λx l=>((B (h x)).mp ⟨x,(I x l).1⟩).1
     refine⟨λq=>?_,?_⟩
     ·obtain⟨x,l,Q⟩:=A9.mp q
      have:=fi (h x) (m x l) g o Q;exact Y x (by rw[(I x l).1,this])
     ·unfold Jv
      rw[Bb]
      refine J.h2.nd.imp_of_mem λ{x y} l E ne Q=>ne ?_
      have:=fi (h x) (m x l) (h y) (m y E) Q;exact G.2 x y (h x) trivial trivial (I x l).1 (by rw[this];exact(I y E).1)
    have sub:∀y∈(f g :: (z.2.2.map (·.1)).map λx=>f (h x)),y∈z.2.2.map (·.1):=by
     intro y E
     rcases Aw.mp E with rfl | E
     ·exact(DO _ _).mp (f2 _ (fw g o))
     ·obtain⟨x,l,rfl⟩:=A9.mp E
      exact(DO _ _).mp ((I x l).2 _ (fw _ ((B (h x)).mp ⟨x,(I x l).1⟩).1))
    have:=Iw nd sub;rw[Az,AH]at this;lia
def gP(B:∀g,Gd g->∀x∈T g,x∈U)(C:U.length < 1000000)(E:U.length < n)(l:∀g∈gs,Gd g/\g∈T g)(G:gs.Nodup):Ok (WT T bits n gs) λb=>b=true↔Sdr T bits gs:=by
 unfold WT
 refine(eh C gs [] (λg h=>B g (l g h).1 g (l g h).2) jz).bind ?_;rintro H ⟨I,J⟩
 have m:∀x a,An H x=some a->a=x/\x∈gs/\hb bits x=true:=λx a e=>by
  rw[J x]at e;split at e
  ·rename_i q;cases e;exact⟨rfl,q⟩
  ·cases e
 refine fI B C E (λg h=>(l g h).1) G gs [] H rfl I (λx a e=>?_) ⟨λx _ a e=>?_,λx y a _ _ e L=>?_⟩ λa=>⟨?_,?_⟩
 ·obtain⟨rfl,q,_⟩:=m x a e;exact(l _ q).1
 ·obtain⟨rfl,o,A⟩:=m x a e
  exact BH.mpr ⟨(l _ o).2,A⟩
 ·rw[<-(m x a e).1,<-(m y a L).1]
 ·rintro⟨x,e⟩
  obtain⟨rfl,o,A⟩:=m x a e;exact⟨o,.inr A⟩
 grind
end
section
def KJ(h:e[i]?=some (some d)):AC i e S=.ok d S:=by unfold AC;rw[h]
end
section
variable{F:Fz}{α:Type}{enc:α->D}{xss:List (List α)}
def Nst(enc:α->D)(xss:List (List α))(L:Nat->Option Ob)(d:D):Prop:=∃n l,d=.ref n/\L n=some (oL D.ref l)/\l.length=xss.length/\∀(k:Nat) (o:List α),xss[k]?=some o->∃m,l[k]?=some m/\L m=some (oL enc o)
noncomputable def loF(F:Fz):Nat->Option Ob:=λn=>match F n with
 | .fz o=>some o
 | _=>none
def kE(h:F n=.fz o):loF F n=some o:=by unfold loF;rw[h]
def Iy(h:loF F n=some o):F n=.fz o:=by
 unfold loF at h;split at h
 ·ext
 ·cases h
end
section
variable{S0 S:Sto}{A:List Sl}{ρ σ:Type}
noncomputable def whF(c:σ->Option Bool)(q:σ->Option (Fw ρ σ)):Nat->σ->Option (Fw ρ σ)
 | 0,_=>none
 | n+1,s=>(c s).bind λt=>if t=true then match q s with
   | some (.nx l)=>whF c q n l
   | some (.ct l)=>whF c q n l
   | some (.bk l)=>some (.nx l)
   | some (.rt r)=>some (.rt r)
   | none=>none
  else some (.nx s)
def eG(Y:∀s,VB (B s) t (c s))(hb:∀s,VS (B s) b R (q s) B):∀(n:Nat) (s:σ),VS (B s) (IE t b n) R (whF c q n s) B:=by
 intro n
 induction n with
 | zero=>intro s f N;cases N
 | succ n X=>
  intro s f N S0 e F S I;unfold whF at N;obtain⟨v,Z,o⟩:=BC N;obtain⟨S1,h3,h4⟩:=Y s v Z S0 e F S I;have J:=I.grow h4
  have run:IE t b (n+1) e S=if v=true then(b e S1).bind λf l=>match f with
   | .nx m=>IE t b n m l
   | .ct m=>IE t b n m l
   | .bk m=>.ok (.nx m) l
   | .rt d=>.ok (.rt d) l
   | .ex c m=>.ok (.ex c m) l
  else .ok (.nx e) S1:=by
   show(t e S).lift e _=_;rw[h3];rfl
  cases v with
  | false=>
   rw[qY Ab]at o;cases o;exact⟨_,S1,run.trans (qY Ab),e,_,rfl,J,I.fle S1⟩
  | true=>
   rw[qX rfl]at o;rw[run,qX rfl];split at o
   ·rename_i O C
    obtain⟨h,l,E,m,L,rfl,G,H⟩:=hb s _ C S0 e _ S1 J;rw[E];obtain⟨P,Q,T,U⟩:=X O f o S0 m L l G;exact⟨P,Q,T,U.up ((I.fle S1).trans H)⟩
   ·rename_i O C
    obtain⟨h,l,E,m,L,rfl,G,H⟩:=hb s _ C S0 e _ S1 J;rw[E];obtain⟨P,Q,T,U⟩:=X O f o S0 m L l G;exact⟨P,Q,T,U.up ((I.fle S1).trans H)⟩
   ·rename_i O C
    cases o;obtain⟨h,l,E,m,L,rfl,G,H⟩:=hb s _ C S0 e _ S1 J;rw[E];exact⟨_,l,rfl,m,L,rfl,G,(I.fle S1).trans H⟩
   ·rename_i r C
    cases o;obtain⟨h,l,E,d,rfl,G,H⟩:=hb s _ C S0 e _ S1 J;rw[E];exact⟨_,l,rfl,d,rfl,G,H⟩
   ·cases o
def Sr(w0:Wk A (B s0))(l:∀s,VB (B s) t (c s))(hb:∀s,VS (B s) b R (q s) B):VS A (IE t b n) R (whF c q n s0) B:=λf m S0 e F S o=>
 eG l hb n s0 f m S0 e F S (o.weak w0)
end
section
variable{S0 S S':Sto}{A B:List Sl}{e:Lo}{F:Fz}{α ρ σ:Type}{a b:ME}{enc:α->D}
noncomputable def oFK(enc:α->D)(l:List (Int×α)):Ob:=.fK (l.map λx=>(Du x.1,enc x.2))
def vS(h:S[n]?=some (oFK enc l))(k:Int):L6 (.ref n) (.int k) S=some ((An l k).map enc):=by
 unfold L6;dsimp only;rw[h];show some (An _ (Du k))=_;rw[PF SM]
def xA(h:S[n]?=some (oFK enc l)):Ga (.ref n) S=none:=by unfold Ga;dsimp only;rw[h];rfl
def eJ(o:VE A a (rO (oFK enc)) pl)(hb:VE A b (rV D.int) C):VE A (m2 ixA a b) (rV enc) (pl.bind λl=>C.bind λx=>An l x):=W7 o hb λl x z S n m q=>NB (xA m) (by rw[vS m x,q];rfl)
def pY(h:S[n]?=some (oFK enc l)):ZP (.ref n) S=some ((l.map (·.1)).map D.int):=by
 unfold ZP;dsimp only;rw[h];show some _=_;rw[BF,BF];rfl
def sM(h:A[i]?=some (.y (oFK enc l))):VI A (cz (AC i)) D.int (some (l.map (·.1))):=λ_ o S0 e F S m=>by
 cases o;obtain⟨x,C,n,rfl,E,_⟩:=m.sl i _ h;refine⟨JE ((l.map (·.1)).map D.int),S,?_,Keeps.refl S,λ_ _ _ _=>rfl⟩;unfold cz;rw[KJ C];dsimp only[Res.bind];rw[pY (m.fz _ _ E)]
def wb{b:MS}{R:Rk ρ}{p:Option (Fw ρ σ)}{B:σ->List Sl}{l:List (Int×α)}(i:Nat)(m:A[i]?=some (.w i (oDK enc l)))(C:((A.set i .u).all (Sl.oth i))=true)(h:VS (A.set i (.y (oFK enc l))) b R p B):VS A (BK (sFz i) b) R p B:=λf I S0 e F S E=>by
 obtain⟨x,G,n,rfl,J,L⟩:=E.sl i _ m;have N:=E.put (o':=oFK enc l) C m G J;have o:(A.set i (.w i (oFK enc l)))[i]?=some (.w i (oFK enc l)):=Ao (AB.mp m).1;obtain⟨O,H,P⟩:=N.freeze (by rw[wA];exact C) o;rw[wA]at H;obtain⟨g,S',Q,T⟩:=h f I S0 e O _ H;refine⟨g,S',?_,T.up P⟩
 have:sFz i e S=.ok (.nx e) (S.set n (oFK enc l)):=by
  unfold sFz;rw[G];dsimp only;rw[L];rfl
 exact(B2 this).trans Q
def ij(m:VE A a (rO (oDK enc)) pl):VB A (GN a) (pl.bind λl=>some (!l.isEmpty)):=λv o S0 e F S C=>by
 obtain⟨l,E,G⟩:=BC o;cases G;obtain⟨d,S',H,I,n,rfl,J⟩:=m l E S0 e F S C;refine⟨S',?_,I⟩;unfold GN;rw[H];dsimp only[Res.bind];rw[show RQ (.ref n) S'=some (!l.isEmpty) by unfold RQ;dsimp only;rw[J];show some (!(bz _ l).isEmpty)=_;ext]
end
abbrev Pq:=(Nat->Option Ob)->D->Prop
def AtV(P:Pq)(C:AU)(x:Str)(l:D):Prop:=∀L d,P L d->∃q fs,d=.ref q/\L q=some (.ins C fs)/\fs.lookup x=some l
def AtO(P:Pq)(C:AU)(x:Str)(o:Ob):Prop:=∀L d,P L d->∃q fs n,d=.ref q/\L q=some (.ins C fs)/\fs.lookup x=some (.ref n)/\L n=some o
def AtN(P:Pq)(C:AU)(x:Str):Prop:=∀L d,P L d->∃q fs,d=.ref q/\L q=some (.ins C fs)/\fs.lookup x=none
def rQ(P:β->Pq):Rk β:=λv l d S=>∀L:Nat->Option Ob,(∀n o,l.length<=n->S[n]?=some o->L n=some o)->P v L d
section
variable{S0 S S':Sto}{A:List Sl}{e:Lo}{F:Fz}{α β:Type}{enc:α->D}{ob:α->Ob}{i n:Nat}{P:Pq}{Pf Pg:β->Pq}{C:AU}{x:Str}{v:α}{f:β}
def xG:∀(v:β) (S S1:Sto) (d:D) (S':Sto),S.length<=S1.length->rQ Pf v S1 d S'->rQ Pf v S d S':=λv S S1 d S' l h L m=>h L λn o B=>m n o (Al l B)
def Vs.qAt(hs:Vs S0 A e F S)(h:A[i]?=some (.q P)):∃d,e[i]?=some (some d)/\P (loF F) d:=by
 obtain⟨x,l,d,rfl,m⟩:=hs.sl i _ h;exact⟨d,l,m _ λn o q=>kE q⟩
def sd(m:AtV P C x (enc v))(h:A[i]?=some (.q P)):VE A (D3 C x (AC i)) (rV enc) (some v):=λ_ o S0 e F S l=>by
 cases o;obtain⟨d,B,E⟩:=Vs.qAt l h;obtain⟨q,fs,rfl,G,H⟩:=m _ _ E;exact⟨_,S,KW (KJ B) (l.fz _ _ (Iy G)) H,Keeps.refl S,rfl⟩
def HH(m:AtO P C x (ob v))(h:A[i]?=some (.q P)):VE A (D3 C x (AC i)) (rO ob) (some v):=λ_ o S0 e F S l=>by
 cases o;obtain⟨d,B,E⟩:=Vs.qAt l h;obtain⟨q,fs,n,rfl,G,H,I⟩:=m _ _ E;exact⟨_,S,KW (KJ B) (l.fz _ _ (Iy G)) H,Keeps.refl S,n,rfl,l.fz _ _ (Iy I)⟩
def sO(E:AtO P C x (oL enc l))(h:A[i]?=some (.q P)):VI A (DM (D3 C x (AC i))) enc (some l):=λ_ G S0 e F S m=>by
 cases G;obtain⟨d,H,I⟩:=Vs.qAt m h;obtain⟨q,fs,n,rfl,J,L,N⟩:=E _ _ I;have o:=Iy N;have B:=m.fz _ _ o;exact⟨_,S,Ii (KW (KJ H) (m.fz _ _ (Iy J)) L) B,Keeps.refl S,λQ R O h=>DT (h n _ (O _ _ (by rw[E7 (BZ B)];exact o)))⟩
def nW(E:AtO P C x (oL enc l))(h:A[i]?=some (.q P)):VI A (Mw (D3 C x (AC i))) (eP D.int enc) (some (Dj l)):=λ_ G S0 e F S m=>by
 cases G;obtain⟨d,H,I⟩:=Vs.qAt m h;obtain⟨q,fs,n,rfl,J,L,N⟩:=E _ _ I;have o:=Iy N;have B:=m.fz _ _ o;refine⟨RA (Hr (.ref n)),S,?_,Keeps.refl S,λQ R O h=>?_⟩
 ·unfold Mw
  rw[KW (KJ H) (m.fz _ _ (Iy J)) L];dsimp only[Res.bind];rw[DT B]
 ·unfold RA
  rw[DT (h n _ (O _ _ (by rw[E7 (BZ B)];exact o)))];exact congrArg some (WX l)
def eM(B:∀L d,Pf f L d->Pg f L d)(h:A[i]?=some (.q (Pf f)))(E:VA A ml q G):VA A (AO (AC i) ml) (q.bind λy=>some (f,y)) (λz=>.q (Pg z.1) :: G z.2):=λv H S0 e F S l=>by
 obtain⟨y,I,J⟩:=BC H;cases J;obtain⟨x,N,d,rfl,O⟩:=l.sl i _ h;obtain⟨X,Q,R,m,T⟩:=E y I S0 e F S l;exact⟨_,Q,C0 (KJ N) R,m,λL U=>B _ _ (O L λn o q=>U n o (m.at (l.fz _ _ q))),T⟩
def PB(I:AtN (Pf f) C m)(J:∀L d,Pf f L d->Pg f L d)(h:A[i]?=some (.q (Pf f)))(N:VA A ml p E)(hf:∀z,VF g (.q (Pg f) :: E z) R (q z))(O:∀z,(E z).length+1=n)
  (Q:∀v S S1 d S',S.length<=S1.length->R v S1 d S'->R v S d S'):VE A (Ms C m n g (AC i) ml) R (p.bind q):=λv T S0 e F S l=>by
 obtain⟨z,U,X⟩:=BC T;obtain⟨x,Y,d,rfl,G⟩:=l.sl i _ h;obtain⟨k,fs,rfl,Z,h7⟩:=I _ _ (G (loF F) λn o q=>kE q);obtain⟨ds,S2,q1,B,H⟩:=N z U S0 e F S l;obtain⟨d,S3,r1,r2,r3⟩:=hf z v X S2 (.ref k :: ds) ⟨λL hL=>J _ _ (G L λn o q=>hL n o (B.at (l.fz _ _ q))),H⟩;refine⟨d,S3,?_,B.trans r2,Q _ _ _ _ _ B.1 r3⟩;unfold Ms;rw[KJ Y];dsimp only[Res.bind];rw[l.fz _ _ (Iy Z)];dsimp only;rw[qX ⟨rfl,h7⟩,q1];dsimp only;rw[qX (by rw[H.len];exact O z)];exact r1
def cC(h:VE A m (rQ Pf) p):VS A (Ce i m) R (p.bind λv=>some (.nx v)) (λv=>A.set i (.q (Pf v))):=λf B S0 e F S l=>by
 obtain⟨v,E,G⟩:=BC B;cases G;obtain⟨d,S',H,I,J⟩:=h v E S0 e F S l;exact⟨_,S',LQ H,_,_,rfl,(l.grow I).set i ⟨d,rfl,λL N=>J L λn o O Q=>N n o (US O Q)⟩,l.fle S'⟩
end
noncomputable def kR(r:ZLi):List Key:=r.map Du
noncomputable def oDR(enc:m->D)(l:List (ZLi×m)):Ob:=.dT (l.map λx=>(kR x.1,enc x.2))
def kU(x y:ZLi)(h:kR x=kR y):x=y:=by
 have:∀r:ZLi,(kR r).map (λk:Key=>match k with | .inl i=>i | .inr _=>0)=r:=λr=>by
  unfold kR;rw[BF]
  conv=>rhs;rw[<-Si r]
  rfl
 grind
def rL(r:ZLi):OH (r.map D.int)=some (kR r):=by
 induction r with
 | nil=>rfl
 | cons x r l=>
  rw[Ap];unfold OH;rw[l];rfl
section
variable{S0 S S':Sto}{A:List Sl}{e:Lo}{F:Fz}{α:Type}{enc:α->D}{a b:ME}
def lN(h:S[n]?=some (oDR enc l))(k:ZLi):L6 (.ref n) (eT D.int k) S=some ((An l k).map enc):=by
 unfold L6;dsimp only;rw[h];show(match OH (k.map D.int)with | some m=>some (An (l.map λx:ZLi×α=>(kR x.1,enc x.2)) m) | none=>none)=_;rw[rL];dsimp only;rw[PF kU]
def tK(h:S[n]?=some (oDR enc l)):Ga (.ref n) S=none:=by unfold Ga;dsimp only;rw[h];rfl
def ie(o:VE A a (rO (oDR enc)) pl)(hb:VE A b (rV (eT D.int)) B):VE A (m2 ixA a b) (rV enc) (pl.bind λl=>B.bind λx=>An l x):=W7 o hb λl x z S n m q=>NB (tK m) (by rw[lN m x,q];rfl)
def lK(l:List (ZLi×α))(k:ZLi)(v:α)(S:Sto)(n:Nat)(m:S[n]?=some (oDR enc l))(o:l.length < 1000000):Qt (.ref n) (eT D.int k) (enc v) S=some (S.set n (oDR enc (CJ l k v))):=by
 unfold Qt;dsimp only;rw[m];show(match OH (k.map D.int)with | some B=>if (l.map _).length < sizeLine then some (S.set n (Ob.dT (CJ (l.map λx:ZLi×α=>(kR x.1,enc x.2)) B (enc v))))else none | none=>none)=_;rw[rL];dsimp only;rw[qX (by rw[AH];exact ZK o),Pb kU];rfl
def nq(l:VE A a (rV D.int) p):VE A (cf a) (rV D.int) (p.bind λx=>some (Dh x:Int)):=λv m S0 e F S o=>by
 obtain⟨x,B,C⟩:=BC m;cases C;obtain⟨d,S',E,G,rfl⟩:=l x B S0 e F S o;refine⟨_,S',?_,G,rfl⟩;unfold cf;rw[E];rfl
noncomputable def jd(l:ZLi)(lo hi st:Option Int):Option ZLi:=if st=some 0 then none else some (pickG l lo hi st)
def iS(H:VE A a (rV eF) pl)(I:VO A mlo J)(L:VO A mhi ph)(N:VO A mst O):VE A (SJ a mlo mhi mst) (rN (oL D.int)) (pl.bind λl=>J.bind λx=>ph.bind λy=>O.bind λz=>jd l x y z):=λv m S0 e F S o=>by
 obtain⟨l,P,m⟩:=BC m;obtain⟨x,Q,m⟩:=BC m;obtain⟨y,R,m⟩:=BC m;obtain⟨z,T,m⟩:=BC m;unfold jd at m;split at m
 ·cases m
 ·rename_i U
  cases m;obtain⟨d,X,Y,B,rfl⟩:=H l P S0 e F S o;obtain⟨Z,q2,C⟩:=I x Q S0 e _ X (o.grow B);obtain⟨S3,q3,G⟩:=L y R S0 e _ Z ((o.grow B).grow C);obtain⟨E,q4,k4⟩:=N z T S0 e _ S3 (((o.grow B).grow C).grow G);have k:=((B.trans C).trans G).trans k4;refine⟨_,E++[oL D.int (pickG l x y z)],?_,k.trans (Keeps.app _ _),E.length,rfl,k.1,ER _ _⟩;unfold SJ;rw[Y];dsimp only[Res.bind];rw[q2];dsimp only;rw[q3];dsimp only;rw[q4];dsimp only;rw[show Od (eF l) E=some (l.map D.int)from rfl];dsimp only;rw[qY U,fP];rfl
end
end L4
namespace L2
section
variable{P:BN}{w:Bo}{K:AI}{mg:Str->Option AG}{base:B0}
def UO{x m}{st}{f}{fd}{N B}{k n}(F:Fun K x m st f fd)(C:KD N B (Ci st))(J:B.length=n){G}
  (L:∀(o:AG) (A:Bg) (l:List Env) (s:AK) (H:Hp) (E:XK),G7 k (A.deeper (JR m (Ci st) s.heap.objs.size f o))->(A.deeper (JR m (Ci st) s.heap.objs.size f o)).units+64 < DE->N.Nodup ->
   GSs (Xq (CXG P w) P w K mg base N m (Ci st) f o A l s H E).q noE (Hg st) G) :
  Hh P w K mg base (CXG P w) (k+1) f fd B (spM K n (D2 N.length G)):=qD F C J λo A l s H E I=>L o A l s H E I I.units C.nd
end
end L2
namespace M
open L2
noncomputable def top(i:Nat):C2:=rn.main.body.getD i (.Pass ⟨0,0,0,0⟩)
structure Wd where
 Web:AU
 Field:AU
noncomputable def Wd.excs(W:Wd):List AU:=[]
abbrev Mb:C2:=top 11
abbrev MZ:C2:=top 12
abbrev TZ:C2:=Li (top 10) 0
abbrev Jy:C2:=top 13
abbrev jH:C2:=top 14
abbrev TW:C2:=top 16
abbrev V8:C2:=top 17
abbrev V6:C2:=top 18
abbrev TX:C2:=top 19
abbrev jJ:C2:=top 20
abbrev RD:C2:=top 22
abbrev V5:C2:=top 24
abbrev Ku:C2:=top 27
abbrev TY:C2:=top 28
abbrev RE:C2:=top 29
abbrev Hu:C2:=Li (top 31) 3
abbrev Hv:C2:=Li (top 31) 4
abbrev PV:C2:=Li (top 31) 0
abbrev OC:C2:=Li (top 31) 1
abbrev Me:C2:=Li (top 31) 2
abbrev Mf:C2:=Li (top 31) 5
abbrev N9:C2:=top 33
abbrev Ys:C2:=top 32
abbrev Ma:C2:=top 34
abbrev V7:C2:=top 35
abbrev Mc:C2:=top 37
abbrev PR:C2:=top 38
abbrev Jz:C2:=top 39
abbrev RF:C2:=top 40
abbrev OA:C2:=top 41
abbrev RH:C2:=top 42
abbrev RG:C2:=top 43
abbrev Md:C2:=top 44
abbrev OB:C2:=top 45
abbrev PQ:C2:=top 46
abbrev PU:C2:=top 47
abbrev RI:C2:=top 48
abbrev jI:C2:=top 49
def Ui(W:Wd):MS:=
  (BK (Ce 2 Oc)
  (BK (Em (DM (AC 1)) (MX 2 (FH (tgN 3) (FH (tgN 4) N5)))
  (BK (Ce 5 (Ix (AO (mQ OE (AO (AC 3) (AO (AC 4) BI))) (AO (mQ RP (AO (AC 3) (AO (AC 4) BI))) BI))))
  (BK (sIf (mB (m2 (eqD false) (m2 ixA (AC 5) (mC (.int 0))) (m2 ixA (AC 5) (mC (.int 1))))) Tb sNx)
  (BK (sIf (mOr (mB (m2 ltD (m2 ixA (AC 5) (mC (.int 0))) (mC (.int 0)))) (mB (m2 geD (m2 ixA (AC 5) (mC (.int 1))) (AC 0)))) Tb sNx)
  (BK (sIf (mB (m2 (inA false) (AC 5) (AC 2))) Tb sNx)
  (Cb (AC 2) (AC 5) (mC (.bl true))))))))
  (DL (Je (FW (AC 2))))))
def HY(W:Wd):List D->Sto->Res D:=D2 6 (Ui W)
def NG(W:Wd):MS:=
  (BK (Ce 2 (DF (DI 1 (iR1 (AO (AC 0) BI)) (tgN 0) Ex (DF (Dc BI)))))
  (BK (Em (DM (AC 1)) (MX 2 (FH (tgN 3) (FH (tgN 4) N5)))
  (BK (Fj (Nr (m2 ixA (AC 2) (AC 3)) (AC 4)))
  (Fj (Nr (m2 ixA (AC 2) (AC 4)) (AC 3)))))
  (DL (Je (DF (DI 1 (DM (AC 2)) (tgN 0) Ex (Je (FW (AC 0)))))))))
def HX(W:Wd):List D->Sto->Res D:=D2 5 (NG W)
def Uj(W:Wd):MS:=
  (BK (sIf (Oa (mB (m3 leD leD (mC (.int 1)) (AC 1) (mC (.int 60))))) Tb sNx)
  (BK (J1 W.Web "places" (AC 0) (AC 1))
  (BK (J1 W.Web "ties" (AC 0) (CF 2 (HY W) (AO (AC 1) (AO (AC 2) BI))))
  (J1 W.Web "near_sets" (AC 0) (CF 2 (HX W) (AO (AC 1) (AO (D3 W.Web "ties" (AC 0)) BI)))))))
def Ln(W:Wd):List D->Sto->Res D:=D2 3 (Uj W)
def KA(W:Wd):MS:=
  (sIf (Oa (mB (m3 leD ltD (mC (.int 0)) (AC 1) (D3 W.Web "places" (AC 0))))) Tb sNx)
def HW(W:Wd):List D->Sto->Res D:=D2 2 (KA W)
def lj(W:Wd):MS:=
  (BK (Fj (CF 2 (HW W) (AO (AC 0) (AO (AC 1) BI))))
  (DL (m2 ixA (D3 W.Web "near_sets" (AC 0)) (AC 1))))
def bU(W:Wd):List D->Sto->Res D:=D2 2 (lj W)
def Ug(W:Wd):MS:=
  (DL (DF (DI 1 (iR1 (AO (D3 W.Web "places" (AC 0)) BI)) (tgN 0) Ex (Je (FW (m2 GB (Ix (AO (AC 0) BI)) (CF 2 (bU W) (AO (AC 1) (AO (AC 0) BI)))))))))
def Lj(W:Wd):List D->Sto->Res D:=D2 1 (Ug W)
def Wj(W:Wd):MS:=
  (BK (Ce 1 (mC (.int 0)))
  (BK (Em (DM (AC 0)) (tgN 2)
  (Td 1 (λa b=>Ck a b) (m2 Ri (mC (.int 1)) (AC 2))))
  (DL (AC 1))))
def Qs(W:Wd):List D->Sto->Res D:=D2 3 (Wj W)
def Wh(W:Wd):MS:=
  (BK (Ce 1 (DF (Dc BI)))
  (BK (Ce 2 (AC 0))
  (BK (IE (GN (AC 2)) (BK (Fj (Nr (AC 1) (m2 QV (cf (m2 Vk (AC 2) (ff (AC 2)))) (mC (.int 1)))))
  (Td 2 (λa b=>Bq a b) (m2 QV (AC 2) (mC (.int 1))))) wN)
  (DL (AC 1)))))
def Nc(W:Wd):List D->Sto->Res D:=D2 3 (Wh W)
def Ze(W:Wd)(l:List D->Sto->Res D):MS:=
  (BK (Ce 5 (DF (DI 1 (DM (m2 ixA (AC 0) (AC 3))) (tgN 0) (Rt (GN (m2 Vk (m2 Yo (AC 2) (AC 0)) (mC (.int 1)))) (mB (m2 (inA true) (AC 0) (AC 5)))) (AC 0))))
  (BK (Em (DM (AC 5)) (tgN 6)
  (sIf (mB (m2 (inA true) (AC 6) (AC 2))) (BK (Cb (AC 2) (AC 6) (AC 3))
  (DL (mC (.bl true)))) sNx))
  (BK (Em (DM (AC 5)) (tgN 6)
  (sIf (mB (m2 (inA true) (AC 6) (AC 4))) (BK (Cb (AC 4) (AC 6) (mC (.bl true)))
  (sIf (GN (CF 5 l (AO (AC 0) (AO (AC 1) (AO (AC 2) (AO (m2 ixA (AC 2) (AC 6)) (AO (AC 4) BI))))))) (BK (Cb (AC 2) (AC 6) (AC 3))
  (DL (mC (.bl true)))) sNx)) sNx))
  (DL (mC (.bl false))))))
def HV(W:Wd):Nat->List D->Sto->Res D
 | 0=>λ_ _=>.bad
 | n+1=>D2 7 (Ze W (HV W n))
def ll(W:Wd):MS:=
  (BK (Ce 3 Jf)
  (BK (Em (DM (AC 1)) (tgN 4)
  (sIf (GN (m2 Vk (m2 Yo (AC 2) (AC 4)) (mC (.int 1)))) (Cb (AC 3) (AC 4) (AC 4)) sNx))
  (BK (Em (DM (AC 1)) (tgN 4)
  (sIf (Rt (Oa (GN (m2 Vk (m2 Yo (AC 2) (AC 4)) (mC (.int 1))))) (Oa (GN (CF 5 (HV W 9) (AO (AC 0) (AO (AC 2) (AO (AC 3) (AO (AC 4) (AO Jf BI))))))))) (DL (mC (.bl false))) sNx))
  (DL (mC (.bl true))))))
def Xn(W:Wd):List D->Sto->Res D:=D2 5 (ll W)
def RX(W:Wd):MS:=
  (DL (Je (DF (DI 1 (DM (AC 0)) (tgN 0) Ex (ZH (mB (m2 (eqD false) (AC 0) (AC 2))) (AC 3) (AC 0))))))
def M3(W:Wd):List D->Sto->Res D:=D2 3 (RX W)
def Wg(W:Wd):MS:=
  (BK (Ce 2 (DF (Dc (AO (Ix BI) BI))))
  (BK (Em (iR1 (AO (AC 1) BI)) (tgN 3)
  (BK (Ce 4 (DF (Dc BI)))
  (BK (Em (DM (AC 2)) (tgN 5)
  (BK (Ce 6 (ZH (GN (AC 5)) (m2 GB (m2 ixA (AC 5) (ff (mC (.int 1)))) (mC (.int 1))) (mC (.int 0))))
  (Em (iR2 (AO (AC 6) (AO (m2 GB (m2 GB (m2 QV (AC 0) (AC 1)) (AC 3)) (mC (.int 1))) BI))) (tgN 7)
  (Fj (Nr (AC 4) (m2 GB (AC 5) (Ix (AO (AC 7) BI))))))))
  (Ce 2 (AC 4)))))
  (DL (AC 2))))
def Qq(W:Wd):List D->Sto->Res D:=D2 8 (Wg W)
def K6(W:Wd):MS:=
  (BK (Ce 2 (mC (.int 1)))
  (BK (Em (iR1 (AO (AC 1) BI)) (tgN 3)
  (Ce 2 (m2 Pw (m2 ay (AC 2) (m2 QV (AC 0) (AC 3))) (m2 GB (AC 3) (mC (.int 1))))))
  (DL (AC 2))))
def IJ(W:Wd):List D->Sto->Res D:=D2 4 (K6 W)
def Uh(W:Wd):MS:=
  (BK (sIf (Oa (mB (m3 leD leD (mC (.int 1)) (AC 1) (D3 W.Web "places" (AC 0))))) Tb sNx)
  (DL (CF 2 (IJ W) (AO (D3 W.Web "places" (AC 0)) (AO (AC 1) BI)))))
def Og(W:Wd):List D->Sto->Res D:=D2 2 (Uh W)
def RY(W:Wd):MS:=
  (BK (sIf (mB (m2 gtD (CF 2 (Og W) (AO (AC 0) (AO (AC 1) BI))) (mC (.int 400)))) Tb sNx)
  (DL (CF 2 (Qq W) (AO (D3 W.Web "places" (AC 0)) (AO (AC 1) BI)))))
def J6(W:Wd):List D->Sto->Res D:=D2 2 (RY W)
def Hw(W:Wd):MS:=
  (BK (Ce 2 (m2 ixA (D3 W.Field "everything" (AC 0)) (AC 1)))
  (BK (Ce 3 (mC (.int 0)))
  (BK (Em (DM (AC 2)) (tgN 4)
  (Em (DM (m2 ixA (D3 W.Field "takes" (AC 0)) (AC 4))) (tgN 5)
  (sIf (mB (m2 (inA true) (AC 5) (AC 2))) (Td 3 (λa b=>Ck a b) (m2 Ri (mC (.int 1)) (m2 ixA (D3 W.Field "numbers" (AC 0)) (Je (FW (CF 3 (M3 W) (AO (AC 2) (AO (AC 4) (AO (AC 5) BI))))))))) sNx)))
  (DL (AC 3)))))
def DP(W:Wd):List D->Sto->Res D:=D2 6 (Hw W)
def Hx(W:Wd):MS:=
  (BK (Ce 2 (m2 ixA (D3 W.Field "everything" (AC 0)) (AC 1)))
  (BK (Ce 3 (mC (.int 0)))
  (BK (Em (Mw (D3 W.Field "place_bits" (AC 0))) (MX 2 (FH (tgN 4) (FH (tgN 5) N5)))
  (sIf (GN (CF 3 (Xn W) (AO (D3 W.Field "takes" (AC 0)) (AO (AC 2) (AO (AC 5) BI))))) (Td 3 (λa b=>Ck a b) (m2 Ri (mC (.int 1)) (AC 4))) sNx))
  (DL (AC 3)))))
def DQ(W:Wd):List D->Sto->Res D:=D2 6 (Hx W)
def P2(W:Wd):MS:=
  (BK (J1 W.Field "everything" (AC 0) (CF 2 (J6 W) (AO (AC 1) (AO (AC 2) BI))))
  (BK (J1 W.Field "kind" (AC 0) (AC 3))
  (BK (J1 W.Field "takes" (AC 0) (CF 1 (Lj W) (AO (AC 1) BI)))
  (BK (J1 W.Field "numbers" (AC 0) Oc)
  (BK (J1 W.Field "having" (AC 0) (DF (DI 1 (iR1 (AO (D3 W.Web "places" (AC 1)) BI)) (tgN 0) Ex (mC (.int 0)))))
  (BK (Em (Mw (D3 W.Field "everything" (AC 0))) (MX 2 (FH (tgN 4) (FH (tgN 5) N5)))
  (BK (Cb (D3 W.Field "numbers" (AC 0)) (AC 5) (AC 4))
  (Em (DM (AC 5)) (tgN 6)
  (Yu (λa b=>Ck a b) (D3 W.Field "having" (AC 0)) (AC 6) (m2 Ri (mC (.int 1)) (AC 4))))))
  (BK (J1 W.Field "place_bits" (AC 0) (DF (DI 1 (DM (D3 W.Field "everything" (AC 0))) (tgN 0) Ex (CF 1 (Qs W) (AO (AC 0) BI)))))
  (J1 W.Field "known" (AC 0) Jf))))))))
def Ka(W:Wd):List D->Sto->Res D:=D2 7 (P2 W)
def LM(W:Wd)(l:List D)(S:Sto)(k:Key):Int:=match l,k with
 | .ref q :: _,.inl n=>lmI (if vH "kind" q S=some ("one" : Str)then DP W [.ref q,.int n] S else DQ W [.ref q,.int n] S)
 | _,_=>0
def Hd(W:Wd):List D->Sto->Res D:=pS "known" (LM W) (Ka W)
def OL(W:Wd):MS:=
  (BK (Ce 2 (m2 ixA (D3 W.Field "everything" (AC 0)) (AC 1)))
  (DL (DF (DI 1 (iR1 (AO (Nq (D3 W.Field "takes" (AC 0))) BI)) (tgN 0) (mB (m2 (inA true) (AC 0) (AC 3))) (AC 0)))))
def KZ(W:Wd):List D->Sto->Res D:=D2 3 (OL W)
def Jn(W:Wd):MS:=
  (BK (sIf (mB (m2 (inA true) (AC 1) (D3 W.Field "known" (AC 0)))) (Cb (D3 W.Field "known" (AC 0)) (AC 1) (ZH (mB (m2 (eqD false) (D3 W.Field "kind" (AC 0)) (mC (.str "one")))) (Ms W.Field "linked_by_one" 2 (DP W) (AC 0) (AO (AC 1) BI)) (Ms W.Field "linked_by_all" 2 (DQ W) (AC 0) (AO (AC 1) BI)))) sNx)
  (DL (m2 ixA (D3 W.Field "known" (AC 0)) (AC 1))))
def JB(W:Wd):List D->Sto->Res D:=D2 2 (Jn W)
def Ha(W:Wd):List D->Sto->Res D:=qh "known" (JB W)
def NK(W:Wd):MS:=
  (DL (m2 Vk (Ms W.Field "linked" 2 (Ha W) (AC 0) (AO (AC 1) BI)) (m2 ixA (D3 W.Field "having" (AC 0)) (AC 2))))
def Jl(W:Wd):List D->Sto->Res D:=D2 3 (NK W)
def OI(W:Wd):MS:=
  (BK (Ce 2 Jf)
  (BK (Em (DM (CF 1 (Nc W) (AO (AC 1) BI))) (tgN 3)
  (BK (Ce 4 (DF (DI 1 (DM (Ms W.Field "calls" 2 (KZ W) (AC 0) (AO (AC 3) BI))) (tgN 0) (mB (m2 (eqD false) (m2 Vk (Ms W.Field "behind" 3 (Jl W) (AC 1) (AO (AC 4) (AO (AC 0) BI))) (AC 2)) (mC (.int 0)))) (AC 0))))
  (sIf (GN (AC 4)) (Cb (AC 2) (AC 3) (m2 ixA (AC 4) (mC (.int 0)))) sNx)))
  (DL (AC 2))))
def IT(W:Wd):List D->Sto->Res D:=D2 5 (OI W)
def Zf(W:Wd):MS:=
  (BK (Ce 1 Jf)
  (BK (Ce 2 (m2 QV (m2 Ri (mC (.int 1)) (Nq (D3 W.Field "everything" (AC 0)))) (mC (.int 1))))
  (BK (Ce 3 (mC (.int 1)))
  (BK (Ce 4 (CF 2 (IT W) (AO (AC 0) (AO (AC 2) BI))))
  (BK (IE (GN (AC 4)) (BK (BK (sFz 4) (Em (cz (AC 4)) (tgN 5)
  (BK (Cb (AC 1) (AC 5) (Ix (AO (AC 3) (AO (m2 ixA (AC 4) (AC 5)) BI))))
  (Td 2 (λa b=>E3 a b) (m2 Ri (mC (.int 1)) (AC 5))))))
  (BK (Td 3 (λa b=>a+b) (mC (.int 1)))
  (Ce 4 (CF 2 (IT W) (AO (AC 0) (AO (AC 2) BI)))))) wN)
  (DL (AC 1)))))))
def UR(W:Wd):List D->Sto->Res D:=D2 6 (Zf W)
def NH(W:Wd):MS:=
  (DL (j9 (DF (DI 1 (iR1 (AO (Nq (D3 W.Field "everything" (AC 0))) BI)) (tgN 0) (mB (m2 (inA true) (AC 0) (AC 2))) (m2 Ri (mC (.int 1)) (AC 0))))))
def Jj(W:Wd):List D->Sto->Res D:=D2 2 (NH W)
def Wi(W:Wd):MS:=
  (BK (Ce 3 (RS W.Field 4 (Hd W) (AO (AC 0) (AO (AC 1) (AO (AC 2) BI)))))
  (DL (DF (DI 1 (DM (CF 1 (Nc W) (AO (CF 2 (Jj W) (AO (AC 3) (AO (CF 1 (UR W) (AO (AC 3) BI)) BI))) BI))) (tgN 0) Ex (m2 ixA (D3 W.Field "everything" (AC 4)) (AC 0))))))
def Qr(W:Wd):List D->Sto->Res D:=D2 4 (Wi W)
def NI(W:Wd):MS:=
  (BK (sIf (mB (m2 ltD (AC 1) (Nq (AC 0)))) (DL (m2 ixA (AC 0) (AC 1))) sNx)
  (DL (mC (.int 0))))
def EQ(W:Wd):List D->Sto->Res D:=D2 2 (NI W)
def P0(W:Wd):MS:=
  (BK (Ce 1 (DF (Dc BI)))
  (BK (Em (iR1 (AO (AC 0) BI)) (tgN 2)
  (Em (iR2 (AO (m2 GB (AC 2) (mC (.int 1))) (AO (AC 0) BI))) (tgN 3)
  (Fj (Nr (AC 1) (Ix (AO (AC 2) (AO (AC 3) BI)))))))
  (DL (AC 1))))
def JJ(W:Wd):List D->Sto->Res D:=D2 4 (P0 W)
def KB(W:Wd):MS:=
  (BK (sIf (mB (m2 (eqD false) (AC 1) (mC (.int 1)))) (DL (DF (DI 1 (iR1 (AO (m2 QV (AC 0) (mC (.int 1))) BI)) (tgN 0) Ex (Ix (AO (AC 0) (AO (m2 GB (AC 0) (mC (.int 1))) BI)))))) sNx)
  (BK (sIf (mB (m2 (eqD false) (AC 1) (mC (.int 2)))) (DL (m2 GB (DF (DI 1 (iR1 (AO (m2 QV (AC 0) (mC (.int 1))) BI)) (tgN 0) Ex (Ix (AO (AC 0) (AO (m2 GB (AC 0) (mC (.int 1))) BI))))) (DF (Dc (AO (Ix (AO (mC (.int 0)) (AO (m2 QV (AC 0) (mC (.int 1))) BI))) BI))))) sNx)
  (BK (sIf (mB (m2 (eqD false) (AC 1) (mC (.int 3)))) (DL (CF 1 (JJ W) (AO (AC 0) BI))) sNx)
  (BK (sIf (mB (m2 (eqD false) (AC 1) (mC (.int 4)))) (DL (DF (DI 1 (iR2 (AO (mC (.int 1)) (AO (AC 0) BI))) (tgN 0) Ex (Ix (AO (mC (.int 0)) (AO (AC 0) BI)))))) sNx)
  (DL (DF (Dc BI)))))))
def HZ(W:Wd):List D->Sto->Res D:=D2 2 (KB W)
def RZ(W:Wd):MS:=
  (BK (Ce 3 (CF 1 (JJ W) (AO (AC 2) BI)))
  (BK (Ce 4 Oc)
  (BK (Em (DM (CF 2 (HZ W) (AO (AC 2) (AO (m2 Qk (m2 Pw (CF 2 (EQ W) (AO (AC 0) (AO (mC (.int 0)) BI))) (mC (.int 7))) (mC (.int 6))) BI)))) (tgN 5)
  (Cb (AC 4) (AC 5) (mC (.bl true))))
  (BK (Em (iR2 (AO (AC 1) (AO (mQ OE (AO (Nq (AC 0)) (AO (mC (.int 63)) BI))) BI))) (tgN 6)
  (BK (Ce 5 (m2 ixA (AC 3) (m2 Qk (m2 ixA (AC 0) (AC 6)) (Nq (AC 3)))))
  (Cb (AC 4) (AC 5) (kA (m2 (inA true) (AC 5) (AC 4)) (cc (m2 ixA (AC 4) (AC 5)))))))
  (DL (DF (DI 1 (DM (AC 3)) (tgN 0) (Rt (mB (m2 (inA false) (AC 0) (AC 5))) (GN (m2 ixA (AC 5) (AC 0)))) (AC 0))))))))
def M4(W:Wd):List D->Sto->Res D:=D2 7 (RZ W)
def OJ(W:Wd):MS:=
  (BK (sIf (mB (m2 (eqD false) (m2 Qk (m2 Pw (CF 2 (EQ W) (AO (AC 0) (AO (mC (.int 0)) BI))) (mC (.int 42))) (mC (.int 2))) (mC (.int 0)))) (DL (DF (mN WN (Mr (AC 1))))) sNx)
  (DL (DF (DI 1 (cy (AC 1)) (tgN 0) Ex (Ix (AO (m2 ixA (AC 0) (mC (.int 1))) (AO (m2 ixA (AC 0) (mC (.int 0))) BI)))))))
def KY(W:Wd):List D->Sto->Res D:=D2 2 (OJ W)
def Rb(W:Wd):MS:=
  (BK (Ce 2 (DF (Dc BI)))
  (BK (Em (DM (AC 0)) (tgN 3)
  (sIf (mB (m2 (inA false) (AC 1) (AC 3))) (Fj (Nr (AC 2) (m2 QV (m2 GB (m2 ixA (AC 3) (mC (.int 0))) (m2 ixA (AC 3) (mC (.int 1)))) (AC 1)))) sNx))
  (DL (FW (AC 2)))))
def J7(W:Wd):List D->Sto->Res D:=D2 4 (Rb W)
def Ra(W:Wd):MS:=
  (BK (Ce 2 (DF (Dc (AO (Ix BI) BI))))
  (BK (Em (iR1 (AO (AC 1) BI)) (tgN 3)
  (BK (Ce 4 (DF (Dc BI)))
  (BK (Em (DM (AC 2)) (tgN 5)
  (BK (Ce 6 (mC (.int 0)))
  (BK (sIf (mB (m2 (eqD true) (AC 5) (Ix BI))) (Ce 6 (m2 GB (m2 ixA (AC 5) (ff (mC (.int 1)))) (mC (.int 1)))) sNx)
  (Fj (Nb (AC 4) (DF (DI 1 (iR2 (AO (AC 6) (AO (m2 GB (m2 GB (m2 QV (AC 0) (AC 1)) (AC 3)) (mC (.int 1))) BI))) (tgN 0) Ex (m2 GB (AC 6) (Ix (AO (AC 0) BI))))))))))
  (Ce 2 (AC 4)))))
  (DL (AC 2))))
def M5(W:Wd):List D->Sto->Res D:=D2 7 (Ra W)
def NJ(W:Wd):MS:=
  (BK (sIf (mB (m2 (eqD false) (AC 3) (mC (.str "one")))) (BK (Ce 4 (DF (DI 1 (iR1 (AO (Nq (AC 1)) BI)) (tgN 0) (mB (m2 (inA false) (AC 3) (CF 2 (J7 W) (AO (AC 1) (AO (m2 ixA (AC 2) (AC 0)) BI))))) (AC 0))))
  (DL (FW (DF (DI 1 (DM (AC 4)) (tgN 0) Ex (m2 GB (m2 GB (Pl (AC 2) Y6 (Tx (AC 0))) (Ix (AO (AC 3) BI))) (Pl (AC 2) (Tx (m2 GB (AC 0) (mC (.int 1)))) Y6))))))) sNx)
  (BK (Ce 5 (DF (Dc (AO (Ix BI) BI))))
  (BK (Em (DM (AC 1)) (tgN 6)
  (BK (Ce 7 (m2 GB (DF (Dc (AO (AC 6) BI))) (CF 2 (J7 W) (AO (AC 0) (AO (AC 6) BI)))))
  (BK (Ce 8 (DF (Dc BI)))
  (BK (Em (DM (AC 5)) (tgN 9)
  (Fj (Nb (AC 8) (DF (DI 1 (DM (AC 7)) (tgN 0) (mB (m2 (inA true) (AC 0) (AC 10))) (m2 GB (AC 10) (Ix (AO (AC 0) BI))))))))
  (Ce 5 (AC 8))))))
  (DL (FW (DF (DI 1 (DM (AC 5)) (tgN 0) (mB (m2 (inA false) (AC 3) (AC 0))) (AC 0))))))))
def Jk(W:Wd):List D->Sto->Res D:=D2 10 (NJ W)
def OK(W:Wd):MS:=
  (DL (Na (DF (DI 1 (DM (CF 4 (Jk W) (AO (AC 0) (AO (AC 1) (AO (AC 2) (AO (AC 3) BI)))))) (tgN 0) Ex (Je (FW (AC 0)))))))
def Gf(W:Wd):List D->Sto->Res D:=D2 4 (OK W)
def Pz(W:Wd):MS:=
  (BK (Ce 3 (mQ OE (AO (AC 2) (AO (mQ RP (AO (mC (.int 0)) (AO (m2 QV (Nq (AC 0)) (AC 1)) BI))) BI))))
  (DL (DF (DI 1 (iR1 (AO (AC 3) BI)) (tgN 0) Ex (j9 (SJ (AC 1) (Tx (m2 GB (AC 2) (AC 0))) Y6 (Tx (AC 3))))))))
def Ll(W:Wd):List D->Sto->Res D:=D2 4 (Pz W)
def P1(W:Wd):MS:=
  (BK (Ce 4 Oc)
  (BK (Em (DM (AC 2)) (tgN 5)
  (BK (Cb (AC 4) (AC 5) (DF (Dc BI)))
  (Em (iR1 (AO (AC 1) BI)) (tgN 6)
  (sIf (mB (m2 (inA true) (AC 6) (AC 5))) (Fj (Nr (m2 ixA (AC 4) (AC 5)) (CF 4 (Gf W) (AO (AC 0) (AO (AC 5) (AO (AC 6) (AO (AC 3) BI))))))) sNx))))
  (DL (AC 4))))
def Lm(W:Wd):List D->Sto->Res D:=D2 7 (P1 W)
def Rc(W:Wd):MS:=
  (BK (Ce 2 (DF (mN WN (Mr (AC 1)))))
  (BK (Ce 3 (mC (.bl false)))
  (BK (IE (Oa (GN (AC 3))) (BK (Ce 3 (mC (.bl true)))
  (Em (DM (DF (mN WN (Mr (AC 2))))) (tgN 4)
  (sIf (Oa (mB (mQ lr (Mr (DF (DI 1 (DM (m2 ixA (AC 0) (AC 4))) (tgN 0) Ex (mQ gn (Mr (DF (DI 1 (DM (AC 0)) (tgN 0) Ex (m2 (inA false) (AC 0) (AC 4)))))))))))) (BK (Fj (ZG (AC 2) (AC 4)))
  (Ce 3 (mC (.bl false)))) sNx))) wN)
  (DL (AC 2)))))
def J8(W:Wd):List D->Sto->Res D:=D2 5 (Rc W)
def rY(W:Wd):MS:=
  (BK (Ce 1 (CF 2 (EQ W) (AO (AC 0) (AO (mC (.int 0)) BI))))
  (BK (Ce 2 (m2 GB (m2 GB (mC (.int 2)) (m2 Qk (AC 1) (mC (.int 5)))) (kB (m2 (eqD false) (m2 Qk (m2 Pw (AC 1) (mC (.int 84))) (mC (.int 8))) (mC (.int 1))))))
  (BK (Ce 3 (CF 3 (M4 W) (AO (AC 0) (AO (mC (.int 3)) (AO (AC 2) BI)))))
  (BK (Ce 4 (RS W.Web 3 (Ln W) (AO (AC 2) (AO (CF 2 (KY W) (AO (AC 0) (AO (AC 3) BI))) BI))))
  (BK (Ce 5 (m2 GB (mC (.int 1)) (m2 Qk (CF 2 (EQ W) (AO (AC 0) (AO (mC (.int 1)) BI))) (mQ OE (AO (AC 2) (AO (m2 ixA (DF (Dc (AO (mC (.int 3)) (AO (mC (.int 5)) BI)))) (kB (m2 ltD (AC 2) (mC (.int 6))))) BI))))))
  (BK (Ce 6 (m2 ixA (DF (Dc (AO (mC (.str "one")) (AO (mC (.str "all")) BI)))) (m2 Qk (CF 2 (EQ W) (AO (AC 0) (AO (mC (.int 2)) BI))) (mC (.int 2)))))
  (BK (Ce 7 (CF 2 (M5 W) (AO (AC 2) (AO (AC 5) BI))))
  (BK (Ce 8 (CF 4 (Lm W) (AO (AC 3) (AO (AC 2) (AO (AC 7) (AO (AC 6) BI))))))
  (BK (Ce 9 (CF 3 (Qr W) (AO (AC 4) (AO (AC 5) (AO (AC 6) BI)))))
  (BK (sIf (mB (m2 (eqD true) (CF 2 (J8 W) (AO (AC 8) (AO (AC 7) BI))) (AC 9))) (DL (mC (.bl false))) sNx)
  (BK (Em (DM (CF 3 (Ll W) (AO (AC 0) (AO (mC (.int 3)) (AO (mC (.int 5)) BI))))) (tgN 10)
  (BK (Ce 11 (DF (Dc BI)))
  (BK (Em (DM (AC 7)) (tgN 12)
  (BK (sIf (mB (m2 gtD (m2 Qk (AC 10) (mC (.int 4))) (mC (.int 0)))) (Fj (Nr (AC 11) (AC 12))) sNx)
  (Ce 10 (m2 GB (m2 Pw (AC 10) (mC (.int 2))) (m2 ay (m2 ay (m2 Qk (AC 10) (mC (.int 2))) (mC (.int 3))) (m2 tj (mC (.int 2)) (mC (.int 40))))))))
  (sIf (Oa (mB (mQ lr (Mr (DF (DI 1 (DM (CF 2 (J8 W) (AO (AC 8) (AO (AC 11) BI)))) (tgN 0) Ex (m2 (inA false) (AC 0) (AC 10)))))))) (DL (mC (.bl false))) sNx))))
  (DL (mC (.bl true))))))))))))))
def dL(W:Wd):List D->Sto->Res D:=D2 13 (rY W)
set_option genInjectivity false in
structure Txt(K:AI)(mg:Str->Option AG)(W:Wd) where
 aap:Dfn K mg "checked_ties" "checked_ties" Mb ["places", "ties"]
 aaq:Dfn K mg "near_sets_of" "near_sets_of" MZ ["places", "ties"]
 aae:Mtd K "__init__" "Web.__init__" TZ ["self", "places", "ties"]
 aar:Dfn K mg "refuse_no_place" "refuse_no_place" Jy ["web", "place"]
 aas:Dfn K mg "near" "near" jH ["web", "place"]
 aat:Dfn K mg "takes_of" "takes_of" TW ["web"]
 aau:Dfn K mg "bits_of" "bits_of" V8 ["some"]
 aaf:Dfn K mg "members" "members" V6 ["bits"]
 v9:Dfn K mg "settle" "settle" TX ["takes", "bits", "holders", "guard", "seen"]
 aav:Dfn K mg "fits" "fits" jJ ["takes", "guards", "bits"]
 aaw:Dfn K mg "with_step" "with_step" RD ["standing", "guard", "place"]
 aax:Dfn K mg "sets_of" "sets_of" V5 ["places", "size"]
 aay:Dfn K mg "ways_to_choose" "ways_to_choose" Ku ["places", "size"]
 aaz:Dfn K mg "how_many" "how_many" TY ["web", "guards"]
 aaA:Dfn K mg "standings" "standings" RE ["web", "guards"]
 aag:Mtd K "linked_by_one" "Field.linked_by_one" Hu ["self", "number"]
 aah:Mtd K "linked_by_all" "Field.linked_by_all" Hv ["self", "number"]
 ST:Mtd K "__init__" "Field.__init__" PV ["self", "web", "guards", "kind"]
 aai:Mtd K "calls" "Field.calls" OC ["self", "number"]
 Tm:Mtd K "linked" "Field.linked" Me ["self", "number"]
 aaj:Mtd K "behind" "Field.behind" Mf ["self", "number", "call"]
 aak:Dfn K mg "falling_now" "falling_now" N9 ["field", "left"]
 aaB:Dfn K mg "fallen" "fallen" Ys ["field"]
 aaC:Dfn K mg "lasting_bits" "lasting_bits" Ma ["field", "gone"]
 aaD:Dfn K mg "lasting" "lasting" V7 ["web", "guards", "kind"]
 Id:Dfn K mg "_law_cell_at" "_law_cell_at" Mc ["script", "k"]
 aal:Dfn K mg "_law_pairs" "_law_pairs" PR ["places"]
 aaE:Dfn K mg "_law_first_ties" "_law_first_ties" Jz ["places", "style"]
 aaF:Dfn K mg "_law_ties" "_law_ties" RF ["script", "first", "places"]
 aaG:Dfn K mg "_law_handed" "_law_handed" OA ["script", "ties"]
 aam:Dfn K mg "_law_near" "_law_near" RH ["ties", "place"]
 aaH:Dfn K mg "_law_sets" "_law_sets" RG ["places", "guards"]
 aaI:Dfn K mg "_law_answers" "_law_answers" Md ["ties", "standing", "call", "kind"]
 aaJ:Dfn K mg "_law_behind" "_law_behind" OB ["ties", "standing", "call", "kind"]
 aaK:Dfn K mg "_law_turns" "_law_turns" PQ ["script", "start", "most"]
 aaL:Dfn K mg "_law_calls" "_law_calls" PU ["ties", "places", "some", "kind"]
 aan:Dfn K mg "_law_left" "_law_left" RI ["calls", "rows"]
 IO:Dfn K mg "law" "law" jI ["script"]
 ld:Own K mg "Web" W.Web aae.f
 on:FS K W.Web "places"
 Ty:FS K W.Web "ties"
 XL:FS K W.Web "near_sets"
 ce:Own K mg "Field" W.Field ST.f
 mt:FS K W.Field "everything"
 aaa:FS K W.Field "kind"
 BT:FS K W.Field "takes"
 KK:FS K W.Field "numbers"
 LE:FS K W.Field "having"
 aab:FS K W.Field "place_bits"
 Cl:FS K W.Field "known"
 aaS:X4 K W.Field "linked_by_one" aag.f
 aaT:X4 K W.Field "linked_by_all" aah.f
 aaU:X4 K W.Field "calls" aai.f
 aaV:X4 K W.Field "linked" Tm.f
 aaW:X4 K W.Field "behind" aaj.f
 aaN:mg "all" = none
 aaX:mg "any" = none
 aaO:mg "enumerate" = none
 aaP:mg "int" = none
 Fr:mg "len" = none
 aaM:mg "list" = none
 aaQ:mg "max" = none
 aao:mg "min" = none
 dl:mg "range" = none
 aaY:mg "reversed" = none
 aaZ:mg "set" = none
 zn:mg "sorted" = none
 aaR:mg "sum" = none
 LT:mg "tuple" = none
 aac:∃tk,mg "MOST_PLACES" = some (.int 60 tk)
 aad:∃tk,mg "MOST_STANDINGS" = some (.int 400 tk)
section
variable{P:BN}{w:Bo}{K:AI}{mg:Str->Option AG}{base:B0}{W:Wd}
abbrev FOd{x q:Str}{st:C2}{l:List Str}(P:BN)(w:Bo)(base:B0)(d:Dfn K mg x q st l)(k n:Nat)(g:List D->Sto->Res D):Prop:=Hh P w K mg base (CXG P w) k d.f d.fd l (spM K n g)
abbrev FOm{x q:Str}{st:C2}{l:List Str}(P:BN)(w:Bo)(mg:Str->Option AG)(base:B0)(d:Mtd K x q st l)(k n:Nat)(g:List D->Sto->Res D):Prop:=Hh P w K mg base (CXG P w) k d.f d.fd l (spM K n g)
def ndk{l:List Str}(h:decide l.Nodup=true:=by kernel_rfl):l.Nodup:=of_decide_eq_true h
def GK(N':List Str)(hi:GI X E I iter mi)(J:∀A C l o ex B,GE (D4 X scope N' A C l o ex B) noE G m)(L:∀A C l o ex B,GG (D4 X scope N' A C l o ex B) I g:=by exact λ_ _ _ _ _ _=>DD 0 ndk)(hf:∀A C l o ex B,ly (D4 X scope N' A C l o ex B) noE H c:=by exact λ_ _ _ _ _ _=>ZU)
  (h:bX X scope (N'.take 1) N'=true:=by kernel_rfl) (N:X.calm=true:=by rfl) (hs:∀x,EE iter X.env x=pure x:=by intro _;rfl):GL X E (.ListComp G [⟨I,iter,H,0⟩] scope O) (DI (N'.take 1).length mi g c m):=pr N (Px h) hi L hf J hs
def EA{tg iter:Expr}{l:List C2}{mi:MI}{g:MG}(hi:GI X E tg iter mi)(m:GG X tg g)(hb:GSs X E l b)(o:X.xe=λ_ _=>False:=by rfl)(A:X.calm=true:=by rfl)(hs:∀x,EE iter X.env x=pure x:=by intro _;rfl):GS X E (.For tg iter l [] B) (Em mi g b):=uy (good_none o).own A hi m hb hs
def hu1{n:Nat}(h:n+64 < DE):n+1 < DE:=Bd (Nat.add_le_add_left (by decide:1<=64) _) h
def G6{x q:Str}{st:C2}{m:List Str}{k n:Nat}{B:MS}(d:Dfn K mg x q st m)(N:List Str)(hb:∀(o:AG) (A:Bg) (l:List Env) (s:AK) (H:Hp) (E:XK),G7 k (A.deeper (JR q (Ci st) s.heap.objs.size d.f o))->(A.deeper (JR q (Ci st) s.heap.objs.size d.f o)).units+64 < DE->N.Nodup->GSs (Xq (CXG P w) P w K mg base N q (Ci st) d.f o A l s H E).q noE (Hg st) B)(C:KD N m (Ci st):=by exact uU)(G:m.length=n:=by rfl):FOd P w base d (k+1) n (D2 N.length B):=UO d.F C G hb
def bT{x q:Str}{st:C2}{m:List Str}{k n:Nat}{B:MS}(d:Mtd K x q st m)(N:List Str)(hb:∀(o:AG) (A:Bg) (l:List Env) (s:AK) (H:Hp) (E:XK),G7 k (A.deeper (JR q (Ci st) s.heap.objs.size d.f o))->(A.deeper (JR q (Ci st) s.heap.objs.size d.f o)).units+64 < DE->N.Nodup->GSs (Xq (CXG P w) P w K mg base N q (Ci st) d.f o A l s H E).q noE (Hg st) B)(C:KD N m (Ci st):=by exact uU)(G:m.length=n:=by rfl):FOm P w mg base d (k+1) n (D2 N.length B):=UO d.F C G hb
def Ro(T:Txt K mg W):FOd P w base T.aap 1 2 (HY W):=G6 T.aap ["places", "ties", "found", "one", "other", "tie"] λ_ _ _ _ _ _ o l m=>(AQ (CC 2 m Pv)
  (AQ (EA (Ch (gv 1)) (Xh rfl (Ik (DD 3 m) (Ik (DD 4 m) SQ)))
  (AQ (CC 5 m (Fq (AL (SR rfl rfl T.aao (AL (gv 3) (AL (gv 4) Am))) (AL (dC rfl rfl T.aaQ (AL (gv 3) (AL (gv 4) Am))) Am))))
  (AQ (Ec (FJ (Mo l) (Df l (gv 5) ge_int) (Df l (gv 5) ge_int) (FI _)) (Ad Jg) CQ)
  (AQ (Ec (pd (yC (FJ cX (Df l (gv 5) ge_int) ge_int (FI _)) (uv (FJ xa (Df l (gv 5) ge_int) (gv 0) (FI _))))) (Ad Jg) CQ)
  (AQ (Ec (ZS l (gv 5) (gv 2)) (Ad Jg) CQ)
  (Ad (Gj (hu1 l) (gv 2) (gv 5) J5 rfl)))))))
  (Ad (Br (Ji rfl T.LT (Gx rfl rfl T.zn (gv 2)))))))
def Rj(T:Txt K mg W):FOd P w base T.aaq 1 2 (HX W):=G6 T.aaq ["places", "ties", "rows", "one", "other"] λ_ _ _ _ _ _ o m l=>(AQ (SN (i:=2) (own:=["place"]) (N':=["place", "·1", "·2", "·3", "·4", "·5"]) rfl rfl l rfl (by first | exact NP rfl | exact Kd rfl) (Px (by kernel_rfl)) (Di rfl T.dl (AL (gv 0) Am)) (λ_ _ _ _ _ _=>(DD 0 ndk)) (λ_ _ _ _ _ _=>ZU) (λ_ _ _ _ _ _=>(CH (Fo Am))))
  (AQ (EA (Ch (gv 1)) (Xh rfl (Ik (DD 3 l) (Ik (DD 4 l) SQ)))
  (AQ (Gi (Gy (Df m (gv 2) (gv 3)) (gv 4)))
  (Ad (Gi (Gy (Df m (gv 2) (gv 4)) (gv 3))))))
  (Ad (Br (Ji rfl T.LT (CH (GK ["row", "·1", "·2", "·3", "·4", "·5"] (Ch (gv 2)) (λ_ _ _ _ _ _=>(Ji rfl T.LT (Gx rfl rfl T.zn (gv 0)))))))))))
def Y3(T:Txt K mg W):FOm P w mg base T.aae 2 3 (Ln W):=bT T.aae ["self", "places", "ties"] λ_ _ _ _ _ _ l m o=>(AQ (Ec (Mx (UK Y5 Y5 ge_int (gv 1) (ZW rfl T.aac.choose_spec))) (Ad Jg) CQ)
  (AQ (KR T.ld.cl T.on (gv 0) (gv 1) rfl)
  (AQ (KR T.ld.cl T.Ty (gv 0) (gcl T.aap (Ro T) l (AL (gv 1) (AL (gv 2) Am))) rfl)
  (Ad (KR T.ld.cl T.XL (gv 0) (gcl T.aaq (Rj T) l (AL (gv 1) (AL (DN T.ld.cl T.Ty (gv 0) rfl) Am))) rfl)))))
def OU(T:Txt K mg W):FOd P w base T.aar 1 2 (HW W):=G6 T.aar ["web", "place"] λ_ _ _ _ _ _ l m o=>(Ad (Ec (Mx (UK Y5 cX ge_int (gv 1) (DN T.ld.cl T.on (gv 0) rfl))) (Ad Jg) CQ))
def pM(T:Txt K mg W):FOd P w base T.aas 2 2 (bU W):=G6 T.aas ["web", "place"] λ_ _ _ _ _ _ l m o=>(AQ (Gi (gcl T.aar (OU T) l (AL (gv 0) (AL (gv 1) Am))))
  (Ad (Br (Df m (DN T.ld.cl T.XL (gv 0) rfl) (gv 1)))))
def Y1(T:Txt K mg W):FOd P w base T.aat 3 1 (Lj W):=G6 T.aat ["web"] λ_ _ _ _ _ _ l m o=>(Ad (Br (CH (GK ["place", "web"] (Di rfl T.dl (AL (DN T.ld.cl T.on (gv 0) rfl) Am)) (λ_ _ _ _ _ _=>(Ji rfl T.LT (Gx rfl rfl T.zn (BM Dm (Fq (AL (gv 0) Am)) (gcl T.aas (pM T) l (AL (gv 1) (AL (gv 0) Am)))))))))))
def ap(T:Txt K mg W):FOd P w base T.aau 1 1 (Qs W):=G6 T.aau ["some", "bits", "place"] λ_ _ _ _ _ _ m o l=>(AQ (CC 1 l ge_int)
  (AQ (EA (Ch (gv 0)) (DD 2 l)
  (Ad (WQ 1 l cx (BM OW ge_int (gv 2)))))
  (Ad (Br (gv 1)))))
def Tr(T:Txt K mg W):FOd P w base T.aaf 1 1 (Nc W):=G6 T.aaf ["bits", "told", "left"] λ_ _ _ _ _ _ m o l=>(AQ (CC 1 l (CH (Fo Am)))
  (AQ (CC 2 l (gv 0))
  (AQ (UL wN (good_none rfl).own (FL (gv 2)) (AQ (Gi (Gy (gv 1) (BM Jd (qA (BM Qh (gv 2) (bQ (gv 2)))) ge_int)))
  (Ad (WQ 2 l um (BM Jd (gv 2) ge_int)))))
  (Ad (Br (gv 1))))))
def fF:KD ["takes", "bits", "holders", "guard", "seen", "wanted", "place"] ["takes", "bits", "holders", "guard", "seen"] (Ci TX):=uU
theorem WH(T:Txt K mg W):∀n:Nat,Hh P w K mg base (CXG P w) (0+n) T.v9.f T.v9.fd ["takes", "bits", "holders", "guard", "seen"] (spM K 5 (HV W n))
 | 0=>vF
 | n+1=>by
  refine UO (k:=0+n) T.v9.F fF rfl λ_ _ _ _ _ _ A l o=>?_
  exact(AQ (SN (i:=5) (own:=["place"]) (N':=["place", "·1", "bits", "·3", "·4", "seen", "·6", "·7"]) rfl rfl o rfl (by first | exact NP rfl | exact Kd rfl) (Px (by kernel_rfl)) (Ch (Df l (gv 0) (gv 3))) (λ_ _ _ _ _ _=>(DD 0 ndk)) (λ_ _ _ _ _ _=>(Ij (pd (bN (FL (BM Qh (BM aq (gv 2) (gv 0)) ge_int)) (Xf (HU l (gv 0) (gv 5))))))) (λ_ _ _ _ _ _=>(gv 0)))
  (AQ (EA (Ch (gv 5)) (DD 6 o)
  (Ad (Ec (HU l (gv 6) (gv 2)) (AQ (Gj (hu1 l) (gv 2) (gv 6) (gv 3) rfl)
  (Ad (Br J5))) CQ)))
  (AQ (EA (Ch (gv 5)) (DD 6 o)
  (Ad (Ec (HU l (gv 6) (gv 4)) (AQ (Gj (hu1 l) (gv 4) (gv 6) J5 rfl)
  (Ad (Ec (FL (Xm (WH T n) (good_none rfl).pass (A.mono (AJ _)) rfl T.v9.m T.v9.kp T.v9.b (AL (gv 0) (AL (gv 1) (AL (gv 2) (AL (Df l (gv 2) (gv 6)) (AL (gv 4) Am))))))) (AQ (Gj (hu1 l) (gv 2) (gv 6) (gv 3) rfl)
  (Ad (Br J5))) CQ))) CQ)))
  (Ad (Br J5)))))
def pN(T:Txt K mg W):FOd P w base T.aav 11 3 (Xn W):=G6 T.aav ["takes", "guards", "bits", "holders", "guard"] λ_ _ _ _ _ _ o A l=>(AQ (CC 3 l M0)
  (AQ (EA (Ch (gv 1)) (DD 4 l)
  (Ad (Ec (FL (BM Qh (BM aq (gv 2) (gv 4)) ge_int)) (Ad (Gj (hu1 A) (gv 3) (gv 4) (gv 4) rfl)) CQ)))
  (AQ (EA (Ch (gv 1)) (DD 4 l)
  (Ad (Ec (pd (bN (Mx (FL (BM Qh (BM aq (gv 2) (gv 4)) ge_int))) (Xf (Mx (FL (Xm (WH T 9) (good_none rfl).pass (o.mono (by decide)) rfl T.v9.m T.v9.kp T.v9.b (AL (gv 0) (AL (gv 2) (AL (gv 3) (AL (gv 4) (AL M0 Am))))))))))) (Ad (Br J5)) CQ)))
  (Ad (Br J5)))))
def XR(T:Txt K mg W):FOd P w base T.aaw 1 3 (M3 W):=G6 T.aaw ["standing", "guard", "place"] λ_ _ _ _ _ _ m l o=>(Ad (Br (Ji rfl T.LT (CH (GK ["other", "·1", "guard", "place"] (Ch (gv 0)) (λ_ _ _ _ _ _=>(UM (FJ (Mo l) (gv 0) (gv 2) (FI _)) (gv 3) (gv 0))))))))
def am(T:Txt K mg W):FOd P w base T.aax 1 2 (Qq W):=G6 T.aax ["places", "size", "told", "step", "longer", "some", "least", "place"] λ_ _ _ _ _ _ o m l=>(AQ (CC 2 l (CH (Fo (AL (Fq Am) Am))))
  (AQ (EA (Di rfl T.dl (AL (gv 1) Am)) (DD 3 l)
  (AQ (CC 4 l (CH (Fo Am)))
  (AQ (EA (Ch (gv 2)) (DD 5 l)
  (AQ (CC 6 l (UM (FL (gv 5)) (BM Dm (Df m (gv 5) (bQ ge_int)) ge_int) ge_int))
  (Ad (EA (K5 rfl T.dl (AL (gv 6) (AL (BM Dm (BM Dm (BM Jd (gv 0) (gv 1)) (gv 3)) ge_int) Am))) (DD 7 l)
  (Ad (Gi (Gy (gv 4) (BM Dm (gv 5) (Fq (AL (gv 7) Am))))))))))
  (Ad (CC 2 l (gv 4))))))
  (Ad (Br (gv 2)))))
def Pe(T:Txt K mg W):FOd P w base T.aay 1 2 (IJ W):=G6 T.aay ["places", "size", "ways", "step"] λ_ _ _ _ _ _ m o l=>(AQ (CC 2 l ge_int)
  (AQ (EA (Di rfl T.dl (AL (gv 1) Am)) (DD 3 l)
  (Ad (CC 2 l (BM Pj (BM au (gv 2) (BM Jd (gv 0) (gv 3))) (BM Dm (gv 3) ge_int)))))
  (Ad (Br (gv 2)))))
def Y2(T:Txt K mg W):FOd P w base T.aaz 2 2 (Og W):=G6 T.aaz ["web", "guards"] λ_ _ _ _ _ _ l m o=>(AQ (Ec (Mx (UK Y5 Y5 ge_int (gv 1) (DN T.ld.cl T.on (gv 0) rfl))) (Ad Jg) CQ)
  (Ad (Br (gcl T.aay (Pe T) l (AL (DN T.ld.cl T.on (gv 0) rfl) (AL (gv 1) Am))))))
def XS(T:Txt K mg W):FOd P w base T.aaA 3 2 (J6 W):=G6 T.aaA ["web", "guards"] λ_ _ _ _ _ _ l m o=>(AQ (Ec (FJ rG (gcl T.aaz (Y2 T) l (AL (gv 0) (AL (gv 1) Am))) (ZW rfl T.aad.choose_spec) (FI _)) (Ad Jg) CQ)
  (Ad (Br (gcl T.aax (am T) l (AL (DN T.ld.cl T.on (gv 0) rfl) (AL (gv 1) Am))))))
def Lb(T:Txt K mg W):FOm P w mg base T.aag 2 2 (DP W):=bT T.aag ["self", "number", "standing", "told", "guard", "place"] λ_ _ _ _ _ _ o m l=>(AQ (CC 2 l (Df m (DN T.ce.cl T.mt (gv 0) rfl) (gv 1)))
  (AQ (CC 3 l ge_int)
  (AQ (EA (Ch (gv 2)) (DD 4 l)
  (Ad (EA (Ch (Df m (DN T.ce.cl T.BT (gv 0) rfl) (gv 4))) (DD 5 l)
  (Ad (Ec (HU m (gv 5) (gv 2)) (Ad (WQ 3 l cx (BM OW ge_int (Df m (DN T.ce.cl T.KK (gv 0) rfl) (Ji rfl T.LT (Gx rfl rfl T.zn (gcl T.aaw (XR T) o (AL (gv 2) (AL (gv 4) (AL (gv 5) Am)))))))))) CQ)))))
  (Ad (Br (gv 3))))))
def Lc(T:Txt K mg W):FOm P w mg base T.aah 12 2 (DQ W):=bT T.aah ["self", "number", "standing", "told", "other", "bits"] λ_ _ _ _ _ _ m o l=>(AQ (CC 2 l (Df o (DN T.ce.cl T.mt (gv 0) rfl) (gv 1)))
  (AQ (CC 3 l ge_int)
  (AQ (EA (dB rfl T.aaO (DN T.ce.cl T.aab (gv 0) rfl)) (Xh rfl (Ik (DD 4 l) (Ik (DD 5 l) SQ)))
  (Ad (Ec (FL (gcl T.aav (pN T) m (AL (DN T.ce.cl T.BT (gv 0) rfl) (AL (gv 2) (AL (gv 5) Am))))) (Ad (WQ 3 l cx (BM OW ge_int (gv 4)))) CQ)))
  (Ad (Br (gv 3))))))
def Tw(T:Txt K mg W):FOm P w mg base T.ST 13 4 (Ka W):=bT T.ST ["self", "web", "guards", "kind", "number", "standing", "place"] λ_ _ _ _ _ _ l o m=>(AQ (KR T.ce.cl T.mt (gv 0) (gcl T.aaA (XS T) l (AL (gv 1) (AL (gv 2) Am))) rfl)
  (AQ (KR T.ce.cl T.aaa (gv 0) (gv 3) rfl)
  (AQ (KR T.ce.cl T.BT (gv 0) (gcl T.aat (Y1 T) l (AL (gv 1) Am)) rfl)
  (AQ (KR T.ce.cl T.KK (gv 0) Pv rfl)
  (AQ (KR T.ce.cl T.LE (gv 0) (CH (GK ["place", "·1", "·2", "·3", "·4", "·5", "·6", "·7"] (Di rfl T.dl (AL (DN T.ld.cl T.on (gv 1) rfl) Am)) (λ_ _ _ _ _ _=>ge_int))) rfl)
  (AQ (EA (dB rfl T.aaO (DN T.ce.cl T.mt (gv 0) rfl)) (Xh rfl (Ik (DD 4 m) (Ik (DD 5 m) SQ)))
  (AQ (Gj (hu1 o) (DN T.ce.cl T.KK (gv 0) rfl) (gv 5) (gv 4) rfl)
  (Ad (EA (Ch (gv 5)) (DD 6 m)
  (Ad (pp (DN T.ce.cl T.LE (gv 0) rfl) (gv 6) (BM OW ge_int (gv 4)) cx))))))
  (AQ (KR T.ce.cl T.aab (gv 0) (CH (GK ["standing", "·1", "·2", "·3", "·4", "·5", "·6", "·7"] (Ch (DN T.ce.cl T.mt (gv 0) rfl)) (λ_ _ _ _ _ _=>(gcl T.aau (ap T) l (AL (gv 0) Am))))) rfl)
  (Ad (KR T.ce.cl T.Cl (gv 0) M0 rfl)))))))))
def Vb(T:Txt K mg W):Hh P w K mg base (CXG P w) 13 T.ST.f T.ST.fd ["self", "web", "guards", "kind"] (spM K 4 (Hd W)):=qE (Tw T)
def Tu(T:Txt K mg W):FOm P w mg base T.aai 1 2 (KZ W):=bT T.aai ["self", "number", "standing"] λ_ _ _ _ _ _ o l m=>(AQ (CC 2 m (Df l (DN T.ce.cl T.mt (gv 0) rfl) (gv 1)))
  (Ad (Br (CH (GK ["place", "·1", "·2", "standing"] (Di rfl T.dl (AL (Mz rfl T.Fr (DN T.ce.cl T.BT (gv 0) rfl)) Am)) (λ_ _ _ _ _ _=>(gv 0)) (hf:=λ_ _ _ _ _ _=>(Ij (HU l (gv 0) (gv 3)))))))))
def Qg(T:Txt K mg W):FOm P w mg base T.Tm 13 2 (JB W):=bT T.Tm ["self", "number"] λ_ _ _ _ _ _ m l o=>(AQ (Ec (HU l (gv 1) (DN T.ce.cl T.Cl (gv 0) rfl)) (Ad (Gj (hu1 l) (DN T.ce.cl T.Cl (gv 0) rfl) (gv 1) (UM (FJ (Mo l) (DN T.ce.cl T.aaa (gv 0) rfl) Xi (FI _)) (Pu (gv 0) T.ce.cl T.aaS (Lb T) (good_none rfl).pass (m.mono (by decide)) T.aag.b (AL (gv 1) Am)) (Pu (gv 0) T.ce.cl T.aaT (Lc T) (good_none rfl).pass (m.mono (by decide)) T.aah.b (AL (gv 1) Am))) rfl)) CQ)
  (Ad (Br (Df l (DN T.ce.cl T.Cl (gv 0) rfl) (gv 1)))))
def Rq(T:Txt K mg W):Hh P w K mg base (CXG P w) 13 T.Tm.f T.Tm.fd ["self", "number"] (spM K 2 (Ha W)):=vG (Qg T)
def Rr(T:Txt K mg W):FOm P w mg base T.aaj 14 3 (Jl W):=bT T.aaj ["self", "number", "call"] λ_ _ _ _ _ _ l m o=>(Ad (Br (BM Qh (Pu (gv 0) T.ce.cl T.aaV (Rq T) (good_none rfl).pass (l.mono (by decide)) T.Tm.b (AL (gv 1) Am)) (Df m (DN T.ce.cl T.LE (gv 0) rfl) (gv 2)))))
def Mn(T:Txt K mg W):FOd P w base T.aak 15 2 (IT W):=G6 T.aak ["field", "left", "told", "number", "lost"] λ_ _ _ _ _ _ l m o=>(AQ (CC 2 o M0)
  (AQ (EA (Ch (gcl T.aaf (Tr T) l (AL (gv 1) Am))) (DD 3 o)
  (AQ (SN (i:=4) (own:=["call"]) (N':=["call", "field", "left", "·3", "number", "·5"]) rfl rfl o rfl (by first | exact NP rfl | exact Kd rfl) (Px (by kernel_rfl)) (Ch (Pu (gv 0) T.ce.cl T.aaU (Tu T) (good_none rfl).pass (l.mono (by decide)) T.aai.b (AL (gv 3) Am))) (λ_ _ _ _ _ _=>(DD 0 ndk)) (λ_ _ _ _ _ _=>(Ij (FJ (Mo m) (BM Qh (Pu (gv 1) T.ce.cl T.aaW (Rr T) (good_none rfl).pass (l.mono (by decide)) T.aaj.b (AL (gv 4) (AL (gv 0) Am))) (gv 2)) ge_int (FI _)))) (λ_ _ _ _ _ _=>(gv 0)))
  (Ad (Ec (FL (gv 4)) (Ad (Gj (hu1 m) (gv 2) (gv 3) (Df m (gv 4) ge_int) rfl)) CQ))))
  (Ad (Br (gv 2)))))
def fW(T:Txt K mg W):FOd P w base T.aaB 16 1 (UR W):=G6 T.aaB ["field", "told", "left", "stage", "falling", "number"] λ_ _ _ _ _ _ m o l=>(AQ (CC 1 l M0)
  (AQ (CC 2 l (BM Jd (BM OW ge_int (Mz rfl T.Fr (DN T.ce.cl T.mt (gv 0) rfl))) ge_int))
  (AQ (CC 3 l ge_int)
  (AQ (CC 4 l (gcl T.aak (Mn T) m (AL (gv 0) (AL (gv 2) Am))))
  (AQ (UL wN (good_none rfl).own (FL (gv 4)) (AQ (yD (i:=4) (EA (px (gv 4)) (DD 5 l)
  (AQ (Gj (hu1 o) (gv 1) (gv 5) (Fq (AL (gv 3) (AL (Df o (gv 4) (gv 5)) Am))) rfl)
  (Ad (WQ 2 l ul (BM OW ge_int (gv 5)))))))
  (AQ (WQ 3 l uo ge_int)
  (Ad (CC 4 l (gcl T.aak (Mn T) m (AL (gv 0) (AL (gv 2) Am))))))))
  (Ad (Br (gv 1))))))))
def Rn(T:Txt K mg W):FOd P w base T.aaC 1 2 (Jj W):=G6 T.aaC ["field", "gone"] λ_ _ _ _ _ _ m l o=>(Ad (Br (kr rfl rfl T.aaR (CH (GK ["number", "·1", "gone"] (Di rfl T.dl (AL (Mz rfl T.Fr (DN T.ce.cl T.mt (gv 0) rfl)) Am)) (λ_ _ _ _ _ _=>(BM OW ge_int (gv 0))) (hf:=λ_ _ _ _ _ _=>(Ij (HU l (gv 0) (gv 2)))))))))
def ao(T:Txt K mg W):FOd P w base T.aaD 17 3 (Qr W):=G6 T.aaD ["web", "guards", "kind", "field"] λ_ _ _ _ _ _ l o A=>(AQ (CC 3 A (dD T.ce.mk' (Vb T) (good_none rfl).pass (l.mono (by decide)) rfl T.ce.m T.ST.b (AL (gv 0) (AL (gv 1) (AL (gv 2) Am)))))
  (Ad (Br (CH (GK ["number", "·1", "·2", "·3", "field"] (Ch (gcl T.aaf (Tr T) l (AL (gcl T.aaC (Rn T) l (AL (gv 3) (AL (gcl T.aaB (fW T) l (AL (gv 3) Am)) Am))) Am))) (λ_ _ _ _ _ _=>(Df o (DN T.ce.cl T.mt (gv 4) rfl) (gv 0))))))))
def FK(T:Txt K mg W):FOd P w base T.Id 1 2 (EQ W):=G6 T.Id ["script", "k"] λ_ _ _ _ _ _ m l o=>(AQ (Ec (FJ cX (gv 1) (Mz rfl T.Fr (gv 0)) (FI _)) (Ad (Br (Df l (gv 0) (gv 1)))) CQ)
  (Ad (Br ge_int)))
def OD(T:Txt K mg W):FOd P w base T.aal 1 1 (JJ W):=G6 T.aal ["places", "found", "one", "other"] λ_ _ _ _ _ _ m o l=>(AQ (CC 1 l (CH (Fo Am)))
  (AQ (EA (Di rfl T.dl (AL (gv 0) Am)) (DD 2 l)
  (Ad (EA (K5 rfl T.dl (AL (BM Dm (gv 2) ge_int) (AL (gv 0) Am))) (DD 3 l)
  (Ad (Gi (Gy (gv 1) (Fq (AL (gv 2) (AL (gv 3) Am)))))))))
  (Ad (Br (gv 1)))))
def OV(T:Txt K mg W):FOd P w base T.aaE 2 2 (HZ W):=G6 T.aaE ["places", "style"] λ_ _ _ _ _ _ m l o=>(AQ (Ec (FJ (Mo l) (gv 1) ge_int (FI _)) (Ad (Br (CH (GK ["k", "·1", "·2"] (Di rfl T.dl (AL (BM Jd (gv 0) ge_int) Am)) (λ_ _ _ _ _ _=>(Fq (AL (gv 0) (AL (BM Dm (gv 0) ge_int) Am)))))))) CQ)
  (AQ (Ec (FJ (Mo l) (gv 1) ge_int (FI _)) (Ad (Br (BM Dm (CH (GK ["k", "·1", "·2"] (Di rfl T.dl (AL (BM Jd (gv 0) ge_int) Am)) (λ_ _ _ _ _ _=>(Fq (AL (gv 0) (AL (BM Dm (gv 0) ge_int) Am)))))) (CH (Fo (AL (Fq (AL ge_int (AL (BM Jd (gv 0) ge_int) Am))) Am)))))) CQ)
  (AQ (Ec (FJ (Mo l) (gv 1) ge_int (FI _)) (Ad (Br (gcl T.aal (OD T) m (AL (gv 0) Am)))) CQ)
  (AQ (Ec (FJ (Mo l) (gv 1) ge_int (FI _)) (Ad (Br (CH (GK ["k", "·1", "·2"] (K5 rfl T.dl (AL ge_int (AL (gv 0) Am))) (λ_ _ _ _ _ _=>(Fq (AL ge_int (AL (gv 0) Am)))))))) CQ)
  (Ad (Br (CH (Fo Am))))))))
def XT(T:Txt K mg W):FOd P w base T.aaF 3 3 (M4 W):=G6 T.aaF ["script", "first", "places", "pairs", "there", "tie", "k"] λ_ _ _ _ _ _ o l m=>(AQ (CC 3 m (gcl T.aal (OD T) o (AL (gv 2) Am)))
  (AQ (CC 4 m Pv)
  (AQ (EA (Ch (gcl T.aaE (OV T) o (AL (gv 2) (AL (BM Ld (BM Pj (gcl T.Id (FK T) o (AL (gv 0) (AL ge_int Am))) ge_int) ge_int) Am)))) (DD 5 m)
  (Ad (Gj (hu1 l) (gv 4) (gv 5) J5 rfl)))
  (AQ (EA (K5 rfl T.dl (AL (gv 1) (AL (SR rfl rfl T.aao (AL (Mz rfl T.Fr (gv 0)) (AL ge_int Am))) Am))) (DD 6 m)
  (AQ (CC 5 m (Df l (gv 3) (BM Ld (Df l (gv 0) (gv 6)) (Mz rfl T.Fr (gv 3)))))
  (Ad (Gj (hu1 l) (gv 4) (gv 5) (L2.yE (kt l (gv 5) (gv 4)) (u9 (vA (Df l (gv 4) (gv 5))))) rfl))))
  (Ad (Br (CH (GK ["tie", "·1", "·2", "·3", "·4", "there", "·6", "·7"] (Ch (gv 3)) (λ_ _ _ _ _ _=>(gv 0)) (hf:=λ_ _ _ _ _ _=>(Ij (pd (bN (ZS l (gv 0) (gv 5)) (Xf (FL (Df l (gv 5) (gv 0))))))))))))))))
def Ts(T:Txt K mg W):FOd P w base T.aaG 2 2 (KY W):=G6 T.aaG ["script", "ties"] λ_ _ _ _ _ _ m l o=>(AQ (Ec (FJ (Mo l) (BM Ld (BM Pj (gcl T.Id (FK T) m (AL (gv 0) (AL ge_int Am))) ge_int) ge_int) ge_int (FI _)) (Ad (Br (Xk rfl T.aaM (gv 1)))) CQ)
  (Ad (Br (CH (GK ["tie", "·1", "·2"] (u5 rfl T.aaY (gv 1)) (λ_ _ _ _ _ _=>(Fq (AL (Df l (gv 0) ge_int) (AL (Df l (gv 0) ge_int) Am)))))))))
def Ph(T:Txt K mg W):FOd P w base T.aam 1 2 (J7 W):=G6 T.aam ["ties", "place", "found", "tie"] λ_ _ _ _ _ _ o l m=>(AQ (CC 2 m (CH (Fo Am)))
  (AQ (EA (Ch (gv 0)) (DD 3 m)
  (Ad (Ec (ZS l (gv 1) (gv 3)) (Ad (Gi (Gy (gv 2) (BM Jd (BM Dm (Df l (gv 3) ge_int) (Df l (gv 3) ge_int)) (gv 1))))) CQ)))
  (Ad (Br (Gx rfl rfl T.zn (gv 2))))))
def XU(T:Txt K mg W):FOd P w base T.aaH 1 2 (M5 W):=G6 T.aaH ["places", "guards", "rows", "k", "longer", "row", "least"] λ_ _ _ _ _ _ o m l=>(AQ (CC 2 l (CH (Fo (AL (Fq Am) Am))))
  (AQ (EA (Di rfl T.dl (AL (gv 1) Am)) (DD 3 l)
  (AQ (CC 4 l (CH (Fo Am)))
  (AQ (EA (Ch (gv 2)) (DD 5 l)
  (AQ (CC 6 l ge_int)
  (AQ (Ec (FJ (rE m) (gv 5) (Fq Am) (FI _)) (Ad (CC 6 l (BM Dm (Df m (gv 5) (bQ ge_int)) ge_int))) CQ)
  (Ad (Gi (WS (gv 4) (CH (GK ["place", "·1", "·2", "·3", "·4", "·5", "row", "·7"] (K5 rfl T.dl (AL (gv 6) (AL (BM Dm (BM Dm (BM Jd (gv 0) (gv 1)) (gv 3)) ge_int) Am))) (λ_ _ _ _ _ _=>(BM Dm (gv 6) (Fq (AL (gv 0) Am))))))))))))
  (Ad (CC 2 l (gv 4))))))
  (Ad (Br (gv 2)))))
def Rp(T:Txt K mg W):FOd P w base T.aaI 2 4 (Jk W):=G6 T.aaI ["ties", "standing", "call", "kind", "some", "rows", "guard", "steps", "longer", "row"] λ_ _ _ _ _ _ o m l=>(AQ (Ec (FJ (Mo m) (gv 3) Xi (FI _)) (AQ (SN (i:=4) (own:=["k"]) (N':=["k", "ties", "standing", "call", "·4", "·5", "·6", "·7", "·8", "·9", "·10"]) rfl rfl l rfl (by first | exact NP rfl | exact Kd rfl) (Px (by kernel_rfl)) (Di rfl T.dl (AL (Mz rfl T.Fr (gv 1)) Am)) (λ_ _ _ _ _ _=>(DD 0 ndk)) (λ_ _ _ _ _ _=>(Ij (ZS m (gv 3) (gcl T.aam (Ph T) o (AL (gv 1) (AL (Df m (gv 2) (gv 0)) Am)))))) (λ_ _ _ _ _ _=>(gv 0)))
  (Ad (Br (Gx rfl rfl T.zn (CH (GK ["k", "·1", "standing", "call", "·4", "·5", "·6", "·7", "·8", "·9", "·10"] (Ch (gv 4)) (λ_ _ _ _ _ _=>(BM Dm (BM Dm (WR (gv 2) Xg (SO (gv 0))) (Fq (AL (gv 3) Am))) (WR (gv 2) (SO (BM Dm (gv 0) ge_int)) Xg))))))))) CQ)
  (AQ (CC 5 l (CH (Fo (AL (Fq Am) Am))))
  (AQ (EA (Ch (gv 1)) (DD 6 l)
  (AQ (CC 7 l (BM Dm (CH (Fo (AL (gv 6) Am))) (gcl T.aam (Ph T) o (AL (gv 0) (AL (gv 6) Am)))))
  (AQ (CC 8 l (CH (Fo Am)))
  (AQ (EA (Ch (gv 5)) (DD 9 l)
  (Ad (Gi (WS (gv 8) (CH (GK ["place", "·1", "·2", "·3", "·4", "·5", "·6", "·7", "·8", "·9", "row"] (Ch (gv 7)) (λ_ _ _ _ _ _=>(BM Dm (gv 10) (Fq (AL (gv 0) Am)))) (hf:=λ_ _ _ _ _ _=>(Ij (HU m (gv 0) (gv 10))))))))))
  (Ad (CC 5 l (gv 8)))))))
  (Ad (Br (Gx rfl rfl T.zn (CH (GK ["row", "·1", "·2", "call", "·4", "·5", "·6", "·7", "·8", "·9", "·10"] (Ch (gv 5)) (λ_ _ _ _ _ _=>(gv 0)) (hf:=λ_ _ _ _ _ _=>(Ij (ZS m (gv 3) (gv 0))))))))))))
def Tt(T:Txt K mg W):FOd P w base T.aaJ 3 4 (Gf W):=G6 T.aaJ ["ties", "standing", "call", "kind"] λ_ _ _ _ _ _ l m o=>(Ad (Br (ZV rfl m rfl T.zn rfl T.aaZ (CH (GK ["row", "·1", "·2", "·3", "·4"] (Ch (gcl T.aaI (Rp T) l (AL (gv 0) (AL (gv 1) (AL (gv 2) (AL (gv 3) Am)))))) (λ_ _ _ _ _ _=>(Ji rfl T.LT (Gx rfl rfl T.zn (gv 0)))))))))
def VZ(T:Txt K mg W):FOd P w base T.aaK 1 3 (Ll W):=G6 T.aaK ["script", "start", "most", "many"] λ_ _ _ _ _ _ m o l=>(AQ (CC 3 l (SR rfl rfl T.aao (AL (gv 2) (AL (dC rfl rfl T.aaQ (AL ge_int (AL (BM Jd (Mz rfl T.Fr (gv 0)) (gv 1)) Am))) Am))))
  (Ad (Br (CH (GK ["k", "script", "start", "most", "·4"] (Di rfl T.dl (AL (gv 3) Am)) (λ_ _ _ _ _ _=>(kr rfl rfl T.aaR (gJ (gv 1) (SO (BM Dm (gv 2) (gv 0))) Xg (SO (gv 3))))))))))
def Va(T:Txt K mg W):FOd P w base T.aaL 4 4 (Lm W):=G6 T.aaL ["ties", "places", "some", "kind", "calls", "standing", "call"] λ_ _ _ _ _ _ o l m=>(AQ (CC 4 m Pv)
  (AQ (EA (Ch (gv 2)) (DD 5 m)
  (AQ (Gj (hu1 l) (gv 4) (gv 5) (CH (Fo Am)) rfl)
  (Ad (EA (Di rfl T.dl (AL (gv 1) Am)) (DD 6 m)
  (Ad (Ec (HU l (gv 6) (gv 5)) (Ad (Gi (Gy (Df l (gv 4) (gv 5)) (gcl T.aaJ (Tt T) o (AL (gv 0) (AL (gv 5) (AL (gv 6) (AL (gv 3) Am)))))))) CQ))))))
  (Ad (Br (gv 4)))))
def Pi(T:Txt K mg W):FOd P w base T.aan 1 2 (J8 W):=G6 T.aan ["calls", "rows", "left", "done", "standing"] λ_ _ _ _ _ _ o m l=>(AQ (CC 2 l (Xk rfl T.aaM (gv 1)))
  (AQ (CC 3 l J5)
  (AQ (UL wN (good_none rfl).own (Mx (FL (gv 3))) (AQ (CC 3 l J5)
  (Ad (EA (Ch (Xk rfl T.aaM (gv 2))) (DD 4 l)
  (Ad (Ec (Mx (kj (ku rfl rfl T.aaN (CH (GK ["behind", "·1", "·2", "left", "·4", "·5"] (Ch (Df m (gv 0) (gv 4))) (λ_ _ _ _ _ _=>(vC rfl rfl T.aaX (CH (GK ["one", "·1", "·2", "·3", "left", "·5", "·6"] (Ch (gv 0)) (λ_ _ _ _ _ _=>(rX m (gv 0) (gv 4)))))))))))) (AQ (Gi (p7 m (gv 2) (gv 4)))
  (Ad (CC 3 l J5))) CQ))))))
  (Ad (Br (gv 2))))))
def uN(T:Txt K mg W):FOd P w base T.IO 18 1 (dL W):=G6 T.IO ["script", "head", "places", "ties", "web", "guards", "kind", "some", "calls", "found", "cell", "rows", "standing"] λ_ _ _ _ _ _ o A l=>(AQ (CC 1 l (gcl T.Id (FK T) o (AL (gv 0) (AL ge_int Am))))
  (AQ (CC 2 l (BM Dm (BM Dm ge_int (BM Ld (gv 1) ge_int)) (dE rfl T.aaP (Xl (Mo A) (BM Ld (BM Pj (gv 1) ge_int) ge_int) ge_int (FI _)))))
  (AQ (CC 3 l (gcl T.aaF (XT T) o (AL (gv 0) (AL ge_int (AL (gv 2) Am)))))
  (AQ (CC 4 l (dD T.ld.mk' (Y3 T) (good_none rfl).pass (o.mono (by decide)) rfl T.ld.m T.aae.b (AL (gv 2) (AL (gcl T.aaG (Ts T) o (AL (gv 0) (AL (gv 3) Am))) Am))))
  (AQ (CC 5 l (BM Dm ge_int (BM Ld (gcl T.Id (FK T) o (AL (gv 0) (AL ge_int Am))) (SR rfl rfl T.aao (AL (gv 2) (AL (Df A (CH (Fo (AL ge_int (AL ge_int Am)))) (dE rfl T.aaP (Xl cX (gv 2) ge_int (FI _)))) Am))))))
  (AQ (CC 6 l (Df A (CH (Fo (AL Xi (AL Xi Am)))) (BM Ld (gcl T.Id (FK T) o (AL (gv 0) (AL ge_int Am))) ge_int)))
  (AQ (CC 7 l (gcl T.aaH (XU T) o (AL (gv 2) (AL (gv 5) Am))))
  (AQ (CC 8 l (gcl T.aaL (Va T) o (AL (gv 3) (AL (gv 2) (AL (gv 7) (AL (gv 6) Am))))))
  (AQ (CC 9 l (gcl T.aaD (ao T) o (AL (gv 4) (AL (gv 5) (AL (gv 6) Am)))))
  (AQ (Ec (FJ (rE A) (gcl T.aan (Pi T) o (AL (gv 8) (AL (gv 7) Am))) (gv 9) (FI _)) (Ad (Br J5)) CQ)
  (AQ (EA (Ch (gcl T.aaK (VZ T) o (AL (gv 0) (AL ge_int (AL ge_int Am))))) (DD 10 l)
  (AQ (CC 11 l (CH (Fo Am)))
  (AQ (EA (Ch (gv 7)) (DD 12 l)
  (AQ (Ec (FJ rG (BM Ld (gv 10) ge_int) ge_int (FI _)) (Ad (Gi (Gy (gv 11) (gv 12)))) CQ)
  (Ad (CC 10 l (BM Dm (BM Pj (gv 10) ge_int) (BM au (BM au (BM Ld (gv 10) ge_int) ge_int) (BM uP ge_int ge_int)))))))
  (Ad (Ec (Mx (kj (ku rfl rfl T.aaN (CH (GK ["standing", "·1", "·2", "·3", "·4", "·5", "·6", "·7", "·8", "·9", "found", "·11", "·12", "·13"] (Ch (gcl T.aan (Pi T) o (AL (gv 8) (AL (gv 11) Am)))) (λ_ _ _ _ _ _=>(rX A (gv 0) (gv 10)))))))) (Ad (Br J5)) CQ)))))
  (Ad (Br J5)))))))))))))
end
open L2
open Srt (ltL)
noncomputable def pairD(x:Int×Int):D:=.tup [.int x.1,.int x.2]
noncomputable def nrm(x:Int×Int):Int×Int:=(if x.2 < x.1 then x.2 else x.1,if x.2 > x.1 then x.2 else x.1)
noncomputable def XI(x:Int×Int):ZLi:=[x.1,x.2]
noncomputable def Pp(x:Int×Int):List Key:=[.inl x.1,.inl x.2]
def ZQ(h:Pp x=Pp y):x=y:=by
 unfold Pp at h
 grind
theorem Of:∀l:ZLi,Ih (l.map D.int)=some l
 | []=>rfl
 | n :: l=>by
  rw[Ap];unfold Ih;rw[Of l];rfl
theorem Te:∀l:List ZLi,(∀r∈l,r≠[])->IZ (l.map Kv)=some l
 | [],_=>rfl
 | [] :: l,h=>zX rfl (h [] Ae)
 | (n :: o) :: l,h=>by
  rw[Ap];unfold Kv IZ;rw[Of,show bz (λr:ZLi=>D.tup (r.map D.int)) l=l.map Kv from rfl,Te l λr m=>h r (AT _ m)]
def aU(l:List ZLi)(h:∀r∈l,r≠[]):L0 (l.map Kv)=some ((JW l).map Kv):=by
 unfold L0
 cases l with
 | nil=>simp[Ih,JW]
 | cons r l=>
  have:Ih ((r :: l).map Kv)=none:=rfl;rw[this,Te _ h]
def aV(l:ZLi):L0 (l.map D.int)=some ((Cp l).map D.int):=by
 unfold L0;rw[Of]
def Np(l:List ZPi):List (List Key×D):=l.map λx=>(Pp (nrm x),.bl true)
def j7(l:List ZPi)(x:Int×Int):(An (Np l) (Pp (nrm x))).isSome=decide (nrm x∈l.map nrm):=by
 unfold An Np
 induction l with
 | nil=>rfl
 | cons y l m=>
  rw[Ap,Dv]
  by_cases e:Pp (nrm y)=Pp (nrm x)
  ·rw[wX e]
   simp[ZQ e]
  grind
def j6(l:List ZPi)(x:Int×Int)(h:nrm x∉l.map nrm):CJ (Np l) (Pp (nrm x)) (.bl true)=Np (l++[x]):=by
 unfold CJ;rw[qY]
 ·simp[Np]
 ·intro z
  obtain⟨y,m,e⟩:=Lz.mp z;obtain⟨a,o,rfl⟩:=A9.mp m;exact h (by rw[<-ZQ (of_decide_eq_true e)];exact dr o)
def xt(h:S[n]?=some (.dT l))(neg:Bool):inA neg (pairD x) (.ref n) S=.ok (.bl (if neg then !(An l (Pp x)).isSome else(An l (Pp x)).isSome)) S:=by
 show Jc (inD neg (pairD x) (.ref n) S) (NC neg (pairD x) (.ref n) S)=_
 have e:inD neg (pairD x) (.ref n) S=.bad:=by
  unfold inD Ga;dsimp only;rw[h]
 have m:L6 (.ref n) (pairD x) S=some (An l (Pp x)):=by
  unfold L6 pairD;dsimp only;rw[h];rfl
 rw[e];show NC neg (pairD x) (.ref n) S=_;unfold NC;rw[m]
def lL(m:mv e S=.ok v S)(ho:mo e S=.ok (.ref d) S)(hi:mi e S=.ok (pairD x) S)(h:S[d]?=some (.dT l))(o:l.length < sizeLine) :
  Cb mo mi mv e S=.ok (.nx e) (S.set d (.dT (CJ l (Pp x) v))):=by
 unfold Cb;rw[m];dsimp only[Res.lift];rw[ho];dsimp only[Res.lift];rw[hi];dsimp only[Res.lift]
 have:Qt (.ref d) (pairD x) v S=some (S.set d (.dT (CJ l (Pp x) v))):=by
  unfold Qt pairD;dsimp only;rw[h];show(if l.length < sizeLine then some (S.set d (.dT (CJ l (Pp x) v)))else none)=_;rw[qX o]
 rw[this]
def ix0(x:Int×Int)(S:Sto):ixA (pairD x) (.int 0) S=.ok (.int x.1) S:=rfl
def ix1(x:Int×Int)(S:Sto):ixA (pairD x) (.int 1) S=.ok (.int x.2) S:=rfl
def Fit(p:Int)(x:Int×Int):Prop:=(nrm x).1≠(nrm x).2/\0<=(nrm x).1/\(nrm x).2 < p
abbrev yO(W:Wd):MS:=BK (Ce 5 (Ix (AO (mQ OE (AO (AC 3) (AO (AC 4) BI))) (AO (mQ RP (AO (AC 3) (AO (AC 4) BI))) BI))))
  (BK (sIf (mB (m2 (eqD false) (m2 ixA (AC 5) (mC (.int 0))) (m2 ixA (AC 5) (mC (.int 1))))) Tb sNx)
  (BK (sIf (mOr (mB (m2 ltD (m2 ixA (AC 5) (mC (.int 0))) (mC (.int 0)))) (mB (m2 geD (m2 ixA (AC 5) (mC (.int 1))) (AC 0)))) Tb sNx)
  (BK (sIf (mB (m2 (inA false) (AC 5) (AC 2))) Tb sNx)
  (Cb (AC 2) (AC 5) (mC (.bl true))))))
def XV(h:t e S=.ok false S):sIf t a sNx e S=.ok (.nx e) S:=(Gw h).trans rfl
def iy(m:S[n]?=some (.dT (Np l)))(A:l.length<=100000)(hf:Fit p x)(o:nrm x∉l.map nrm) :
  yO W [sI p,some t,sR n,sI x.1,sI x.2,B] S=oN [sI p,some t,sR n,sI x.1,sI x.2,some (pairD (nrm x))] (S.set n (.dT (Np (l++[x])))):=by
 have C:Ce 5 (Ix (AO (mQ OE (AO (AC 3) (AO (AC 4) BI))) (AO (mQ RP (AO (AC 3) (AO (AC 4) BI))) BI))) [sI p,some t,sR n,sI x.1,sI x.2,B] S =
   oN [sI p,some t,sR n,sI x.1,sI x.2,some (pairD (nrm x))] S:=
  LQ (ir (C0 (fM rfl rfl) (C0 (fM rfl rfl) rfl)) (by simp))
 obtain⟨E,G,H⟩:=hf;refine(B2 C).trans ((B2 (XV (Vp (D9 (D9 rfl rfl (ix0 _ _)) (D9 rfl rfl (ix1 _ _)) (vM (wY E)))))).trans ((B2 (XV ((uB (Vp (D9 (D9 rfl rfl (ix0 _ _)) rfl (uW (wY (by ext)))))).trans (Vp (D9 (D9 rfl rfl (ix1 _ _)) rfl (vD (wY (by ext)))))))).trans ((B2 (XV (Vp (D9 rfl rfl ?_)))).trans ?_)))
 ·rw[xt m,j7,wY o]
  rfl
 ·rw[lL rfl rfl rfl m (by unfold Np;rw[AH];exact Bd A (by decide)),j6 _ _ o]
def gC(h:m e S=.ok d S1)(l:Hr d S1=some xs):DM m e S=.ok (Hr d) S1:=by
 unfold DM;rw[h];dsimp only[Res.bind];rw[l]
def Fs(p:Int)(l:List ZPi):Prop:=(∀x∈l,Fit p x)/\(l.map nrm).Nodup
def Fs.snoc:Fs p (m++[x])↔Fs p m/\Fit p x/\nrm x∉m.map nrm:=by
 unfold Fs;rw[BX,Ff]
 constructor
 ·grind
 ·rintro⟨⟨o,A⟩,B,C⟩
  refine⟨λy l=>?_,A,by simp,λa E b hb e=>?_⟩
  ·rcases Ax.mp l with l | l
   ·exact o y l
   ·rw[Ay.mp l];exact B
  grind
theorem Fs.take(h:Fs p l)(i:Nat):Fs p (l.take i):=by
 refine⟨λx m=>h.1 x (GD m),?_⟩;rw[YC];exact h.2.sublist (Qy _ _)
def take_snoc{m:Type}{l:List m}{i:Nat}{x:m}(h:l[i]?=some x):l.take (i+1)=l.take i++[x]:=by
 rw[Fe,h];rfl
def Xt(W:Wd){p:Int}{d:D}{S:Sto}{o:List ZPi}(G:∀l,Keeps S l->Hr d l=some (o.map pairD))(L:o.length<=90000)(hf:Fs p o) :
  ∃A B m,Em (DM (AC 1)) (MX 2 (FH (tgN 3) (FH (tgN 4) N5))) (yO W) [sI p,some d,sR S.length,none,none,none] (S++[.dT []])=oN [sI p,some d,sR S.length,A,B,m] (S++[.dT (Np o)]):=by
 rw[JA (gC rfl (G _ (Keeps.app _ _)))]
 obtain⟨f,l,h,A,B,m,rfl,rfl⟩:=KU (g:=MX 2 (FH (tgN 3) (FH (tgN 4) N5))) (S:=S++[.dT []]) (λi e l=>(∃A B m,e=[sI p,some d,sR S.length,A,B,m])/\l=S++[.dT (Np (o.take i))]) (λf l=>∃A B m,f=.nx [sI p,some d,sR S.length,A,B,m]/\l=S++[.dT (Np o)]) ⟨⟨none,none,none,rfl⟩,by simp[Np]⟩ (by rintro i e l ⟨_,rfl⟩;exact G _ (Keeps.app _ _))
  (by
   rintro i y e l E ⟨⟨A,B,m,rfl⟩,rfl⟩;rw[AX]at E
   cases C:o[i]? with
   | none=>ext
   | some x=>
    rw[C]at E;cases E;have N:=(AB.mp C).1;have H:=hf.take (i+1);rw[take_snoc C]at H;obtain⟨_,I,J⟩:=Fs.snoc.mp H;refine⟨[sI p,some d,sR S.length,sI x.1,sI x.2,m],_,rfl,_,_,iy (W:=W) (ER S (.dT (Np (o.take i)))) (by rw[By];grind) I J,⟨_,_,_,rfl⟩,?_⟩;rw[take_snoc C]
    simp)
  (by
   ext)
 exact⟨A,B,m,h⟩
def LO(l:List ZPi):List ZLi:=JW (l.map λx=>XI (nrm x))
def Xu(W:Wd){p:Int}{d:D}{S:Sto}{l:List ZPi}(o:∀S',Keeps S S'->Hr d S'=some (l.map pairD))(A:l.length<=90000)(hf:Fs p l) :
  ∃S',HY W [.int p,d] S=.ok (.tup ((LO l).map Kv)) S'/\Keeps S S':=by
 obtain⟨B,C,E,G⟩:=Xt W o A hf
 ·have H:Mv (.ref S.length) (S++[.dT (Np l)])=some ((l.map λx=>XI (nrm x)).map Kv):=by
   unfold Mv;dsimp only;rw[ER];dsimp only;unfold Np;rw[BF,BF];rfl
  have I:=Ks (m:=AC 2) (e:=[sI p,some d,sR S.length,B,C,E]) rfl H (aU _ (by intro r J;obtain⟨x,_,rfl⟩:=A9.mp J;simp[XI]));refine⟨S++[.dT (Np l)]++[.lst ((LO l).map Kv)],LR ?_,(Keeps.app S _).trans (Keeps.app _ _)⟩;refine IM (B2 rfl) ?_;refine IM (B2 G) ?_;exact LS (PL I (GZ (ER _ _)))
open L2
noncomputable def Ef(ts:List ZPi)(x:Nat):ZLi:=ts.flatMap λt=>(if t.1=(x:Int)then[t.2]else[])++(if t.2=(x:Int)then[t.1]else[])
def ZB(ts:List ZPi)(t:Int×Int)(x:Nat):Ef (ts++[t]) x=Ef ts x++((if t.1=(x:Int)then[t.2]else[])++(if t.2=(x:Int)then[t.1]else[])):=by
 unfold Ef;ext
noncomputable def HI(p:Nat)(F:Nat->ZLi):Sto:=(BO p).map λx=>Ob.lst ((F x).map D.int)
noncomputable def Gp(k p:Nat):List D:=(BO p).map λx=>D.ref (k+x)
noncomputable def stN(S:Sto)(p:Nat)(F:Nat->ZLi):Sto:=S++HI p F++[.lst (Gp S.length p)]
def JX(p:Nat)(F:Nat->ZLi):(HI p F).length=p:=by simp[HI]
def XE(S:Sto)(p:Nat)(F:Nat->ZLi):(stN S p F).length=S.length+p+1:=by simp[stN,JX];rfl
def QW(S:Sto)(p:Nat)(F:Nat->ZLi):Keeps S (stN S p F):=(Keeps.app S _).trans (Keeps.app _ _)
def MY(S:Sto)(p:Nat)(F:Nat->ZLi):(stN S p F)[S.length+p]?=some (.lst (Gp S.length p)):=by
 have:S.length+p=(S++HI p F).length:=by simp[JX]
 unfold stN;rw[this];exact ER _ _
def LP(S:Sto)(F:Nat->ZLi)(h:a < p):(stN S p F)[S.length+a]?=some (.lst ((F a).map D.int)):=by
 unfold stN;rw[Bc,BA (by ext),AV (by rw[JX];ext),show S.length+a - S.length=a by ext];unfold HI;ext
def cN(S:Sto)(F:Nat->ZLi)(l:ZLi)(h:a < p):(stN S p F).set (S.length+a) (.lst (l.map D.int))=stN S p (λx=>if x=a then l else F x):=by
 apply Dt
 intro j
 by_cases e:S.length+a=j
 ·subst e
  rw[Ao (by rw[XE];lia),LP _ _ h,qX rfl]
 ·rw[AZ e]
  by_cases m:j < S.length
  ·rw[(QW S p F).2 j m,(QW S p _).2 j m]
  by_cases o:j - S.length < p
  ·have A:j=S.length+(j - S.length):=by ext
   rw[A,LP S F o,LP S _ o,qY (by lia)]
  by_cases B:j=S.length+p
  ·subst B
   rw[MY,MY]
  ·rw[IW (by rw[XE];grind),IW (by rw[XE];lia)]
def cr(F:Nat->ZLi)(h:a < p):ixA (.ref (S.length+p)) (.int a) (stN S p F)=.ok (.ref (S.length+a)) (stN S p F):=by
 show Jc (ixD _ _ _) _=_;have l:=GZ (MY S p F)
 have m:atI (Gp S.length p) (a:Int)=some (.ref (S.length+a)):=by
  unfold atI ixN;rw[show(Gp S.length p).length=p by simp[Gp],qX (by ext),qX (by ext)];simp only[AF,As];unfold Gp;rw[AX,D8 h];rfl
 have:ixD (.ref (S.length+p)) (.int a) (stN S p F)=.ok (.ref (S.length+a)) (stN S p F):=by
  unfold ixD;rw[l];dsimp only;rw[m]
 rw[this];rfl
def i8(S:Sto):∀p:Nat,S++HI (p+1) (λ_=>[])=S++HI p (λ_=>[])++[.lst []]:=λp=>by
 unfold HI;rw[JL,BX,Bc];rfl
def fH(H:p<=60)(E:mp e S=.ok (.int p) S) :
  DI 1 (iR1 (AO mp BI)) (tgN 0) Ex (DF (Dc BI)) e S=.ok (Gp S.length p) (S++HI p λ_=>[]):=by
 have A:iR1 (AO mp BI) e S=.ok (JE (JY 0 p)) S:=by
  have:=bM (ml:=AO mp BI) (C0 E rfl) (by ext) (by lia);simpa using this
 obtain⟨r,I,B,o,⟨z,_⟩,rfl,rfl⟩:=Xr (g:=tgN 0) (c:=Ex) (m:=DF (Dc BI)) (xs:=JY 0 p) (S:=S)
  (λi o C l=>(∃z,o=z :: e)/\C=S++HI i (λ_=>[])/\l=Gp S.length i)
  ⟨⟨none,rfl⟩,by simp[HI],rfl⟩ (λ_ _ _ _ _=>rfl)
  (by
   rintro i d o C l G ⟨⟨z,rfl⟩,rfl,rfl⟩;obtain⟨A,rfl⟩:=Yv G;refine⟨by simp[Gp];exact Bd (m:=60) (by lia) (by decide),some (.int (0+i)) :: e,_,rfl,true,_,rfl,.inl ⟨rfl,.ref (S++HI i λ_=>[]).length,_,rfl,⟨_,rfl⟩,(i8 S i).symm,?_⟩⟩;unfold Gp;rw[JL,BX,AY,JX]
   rfl)
 rw[V9]at B;exact(SW A).trans B
abbrev rZ:MS:=BK (Fj (Nr (m2 ixA (AC 2) (AC 3)) (AC 4))) (Fj (Nr (m2 ixA (AC 2) (AC 4)) (AC 3)))
def In(p:Nat)(t:Int×Int):Prop:=0<=t.1/\t.1 < p/\0<=t.2/\t.2 < p/\t.1≠t.2
def fG(l:In p t)(E:∀x,(F x).length < 200000) :
  rZ [some m,some d1,sR (S.length+p),sI t.1,sI t.2] (stN S p F)=.ok (.nx [some m,some d1,sR (S.length+p),sI t.1,sI t.2])
   (stN S p λx=>F x++((if t.1=(x:Int)then[t.2]else[])++(if t.2=(x:Int)then[t.1]else[]))):=by
 obtain⟨a,o⟩:∃a:Nat,t.1=a:=⟨t.1.toNat,by have:=l.1;lia⟩
 obtain⟨b,hb⟩:∃b:Nat,t.2=b:=⟨t.2.toNat,by have:=l.2.2.1;lia⟩
 obtain⟨_,I,_,J,G⟩:=l
 have H:a≠b:=λe=>G (by rw[o,hb,e])
 rw[o,hb]
 have A:∀x,((F x).map D.int).length < sizeLine:=λx=>by rw[AH];exact Rf (E x) (by decide)
 have B:=Xz (mo:=m2 ixA (AC 2) (AC 3)) (ma:=AC 4) (e:=[some m,some d1,sR (S.length+p),sI a,sI b]) (D9 rfl rfl (cr F (by ext))) (LP S F (by lia)) rfl (LP S F (by lia)) (A a);rw[show(F a).map D.int++[D.int b]=(F a++[(b:Int)]).map D.int by simp,cN S F _ (by lia)]at B
 have hrow:(stN S p λx=>if x=a then F a++[(b:Int)]else F x)[S.length+b]?=some (.lst ((F b).map D.int)):=by
  rw[LP S _ (by ext),qY (Bw H)]
 have C:=Xz (mo:=m2 ixA (AC 2) (AC 4)) (ma:=AC 3) (e:=[some m,some d1,sR (S.length+p),sI a,sI b]) (D9 rfl rfl (cr _ (by lia))) hrow rfl hrow (A b);rw[show(F b).map D.int++[D.int a]=(F b++[(a:Int)]).map D.int by simp,cN S _ _ (by lia)]at C;unfold rZ;rw[B2 (Lp B),Lp C]
 congr 2
 grind
def ax(ts:List ZPi)(x:Nat):(Ef ts x).length<=2 * ts.length:=by
 unfold Ef
 induction ts with
 | nil=>simp
 | cons t ts l=>
  rw[Kn,AY,Az]
  have:((if t.1=(x:Int)then[t.2]else[])++(if t.2=(x:Int)then[t.1]else[])).length<=2:=by split <;> split <;> simp
  lia
def QY(p:Nat)(ts:List ZPi):List D:=(BO p).map λx=>.tup ((Cp (Ef ts x)).map D.int)
def pP(W:Wd)(N:p<=60)(O:∀t∈ts,In p t)(P:ts.length<=90000)(S:Sto) :
  ∃S',HX W [.int p,.tup (ts.map pairD)] S=.ok (.tup (QY p ts)) S'/\Keeps S S':=by
 have I:=LQ (i:=2) (aw (fH N (mp:=AC 0) (e:=[sI p,some (.tup (ts.map pairD)),none,none,none]) (S:=S) rfl));have Q:(S++HI p λ_=>[])++[.lst (Gp S.length p)]=stN S p (Ef []):=rfl
 have R:(S++HI p λ_=>[]).length=S.length+p:=by simp[JX]
 rw[Q,R]at I
 obtain⟨f,S1,T,⟨l,o,rfl⟩,rfl⟩:=KU (g:=MX 2 (FH (tgN 3) (FH (tgN 4) N5))) (xs:=ts.map pairD)
  (λi e S'=>(∃l o,e=[sI p,some (.tup (ts.map pairD)),sR (S.length+p),l,o])/\S'=stN S p (Ef (ts.take i)))
  (λf S'=>(∃l o,f=.nx [sI p,some (.tup (ts.map pairD)),sR (S.length+p),l,o])/\S'=stN S p (Ef ts))
  ⟨⟨none,none,rfl⟩,rfl⟩ (λ_ _ _ _=>rfl)
  (by
   rintro i y e S' E ⟨⟨l,o,rfl⟩,rfl⟩;rw[AX]at E
   cases G:ts[i]? with
   | none=>ext
   | some t=>
    rw[G]at E;cases E;refine⟨[sI p,some (.tup (ts.map pairD)),sR (S.length+p),sI t.1,sI t.2],_,rfl,_,_,fG (O t (A0 G)) (λx=>?_),⟨_,_,rfl⟩,?_⟩
    ·have:=ax (ts.take i) x
     rw[By]at this;exact Bd (Al this (Nat.mul_le_mul_left 2 (Al (Sf _ _) P))) (by decide)
    ·rw[take_snoc G,show Ef (ts.take i++[t])=_ from funext λx=>ZB _ _ x])
  (by
   simp)
 have U:=(JA (UJ (m:=AC 1) rfl)).trans T
 obtain⟨r,X,Y,B,⟨z,_⟩,K,rfl⟩:=Xr (g:=tgN 0) (c:=Ex)
  (λi B S' A=>(∃z,B=[z,sI p,some (.tup (ts.map pairD)),sR (S.length+p),l,o])/\Keeps (stN S p (Ef ts)) S'/\A=(BO i).map λx=>.tup ((Cp (Ef ts x)).map D.int))
  ⟨⟨none,rfl⟩,.refl _,rfl⟩ (λi B S' A h=>DT (h.2.1.at (MY S p _)))
  (by
   rintro i d B S' A C ⟨⟨z,rfl⟩,K,rfl⟩
   have J:i < p:=by
    have:=(AB.mp C).1;simpa[Gp]using this
   unfold Gp at C;rw[AX,D8 J]at C;cases C;have H:=Oe (K.at (LP S _ J));have Z:=Ks (m:=AC 0) (e:=[sR (S.length+i),sI p,some (.tup (ts.map pairD)),sR (S.length+p),l,o]) rfl H (aV _);refine⟨by simp;exact Bd (m:=60) (by lia) (by decide),[sR (S.length+i),sI p,some (.tup (ts.map pairD)),sR (S.length+p),l,o],_,rfl,true,_,rfl,.inl ⟨rfl,_,_,PL Z (GZ (ER _ _)),⟨_,rfl⟩,K.trans (Keeps.app _ _),?_⟩⟩;rw[JL,BX]
   rfl)
 have L:=(SW (n:=1) (Ii (m:=AC 2) rfl (MY S p _))).trans Y;rw[show(Gp S.length p).length=p by simp[Gp]]at L;refine⟨X++[.lst (QY p ts)],LR ?_,((QW S p _).trans K).trans (Keeps.app _ _)⟩;unfold NG;refine IM (B2 I) ?_;refine IM (B2 U) ?_;exact LS (PL (aw L) (GZ (ER _ _)))
open L2
open Srt (ltL)
noncomputable def toP(r:ZLi):Int×Int:=(r.getD 0 0,r.getD 1 0)
def GM(l:List ZPi):List ZPi:=(LO l).map toP
def TH(h:r∈LO l):∃x∈l,r=XI (nrm x):=by
 have:=(Dk _).mem_iff.mp h
 grind
def eW(ps:List ZPi):(GM ps).map XI=LO ps:=by
 unfold GM;rw[BF]
 conv=>rhs;rw[<-Si (LO ps)]
 refine D7 λr l=>?_
 obtain⟨x,_,rfl⟩:=TH l;rfl
def aR(l:List ZPi):(LO l).map Kv=(GM l).map pairD:=by
 rw[<-eW,BF];rfl
def iu(h:t∈GM l):∃x∈l,t=nrm x:=by
 obtain⟨r,m,rfl⟩:=A9.mp h;obtain⟨x,o,rfl⟩:=TH m;exact⟨x,o,rfl⟩
def QU(l:List ZPi):(GM l).Perm (l.map nrm):=by
 unfold GM LO;have:=(Dk (l.map λx=>XI (nrm x))).map toP;refine this.trans ?_;rw[BF];rfl
def uQ(x:Int×Int):(nrm x).1<=(nrm x).2:=by
 unfold nrm;dsimp only
 split <;> split <;> ext
def Fit.in{p:Nat}{x:Int×Int}(h:Fit p x):In p (nrm x):=by
 obtain⟨l,m,o⟩:=h;have:=uQ x;exact⟨m,by lia,by lia,o,l⟩
def ne_pt:¬(("places" : Str) = "ties"):=by decide +kernel
def ne_pn:¬(("places" : Str) = "near_sets"):=by decide +kernel
def ne_tn:¬(("ties" : Str) = "near_sets"):=by decide +kernel
def put2(a b:D):KQ "ties" b [(("places" : Str),a)]=([("places",a),("ties",b)]:List (Str×D)):=by
 rfl
def put3(a b c:D):KQ "near_sets" c [(("places" : Str),a),("ties",b)]=([("places",a),("ties",b),("near_sets",c)]:List (Str×D)):=by
 rfl
def xj(a b c:D):([("places",a),("ties",b),("near_sets",c)]:List (Str×D)).lookup ("places" : Str)=some a:=by
 rfl
def look3(a b c:D):([("places",a),("ties",b),("near_sets",c)]:List (Str×D)).lookup ("near_sets" : Str)=some c:=by
 rfl
def uX(a b:D):([("places",a),("ties",b)]:List (Str×D)).lookup ("ties" : Str)=some b:=by
 rfl
open L2 L4
def Lg(W:Wd)(w:Nat×List ZPi):Ob:=.ins W.Web [("places",.int w.1),("ties",.tup (w.2.map pairD)),("near_sets",.tup (QY w.1 w.2))]
def Qj(p:Nat)(ts:List ZPi):List ZLi:=(BO p).map λx=>Cp (Ef ts x)
def j4(p:Nat)(ts:List ZPi):D.tup (QY p ts)=eT (eT D.int) (Qj p ts):=by
 unfold QY Qj eT;rw[BF];rfl
open Classical in
def iL(x:Int)(l:List ZPi):Option (Nat×List ZPi):=if 1<=x/\x<=60/\Fs x l/\l.length<=90000 then some (x.toNat,GM l)else none
section
variable{W:Wd}{A:List Sl}{a b m:ME}{p:Option (Nat×List ZPi)}
def cG{l:Type}{f:Str}{enc:l->D}{g:Nat×List ZPi->l}(h:VE A m (rO (Lg W)) p)(o:∀w,([("places",D.int w.1),("ties",.tup (w.2.map pairD)),("near_sets",.tup (QY w.1 w.2))]:List (Str×D)).lookup f=some (enc (g w))):VE A (D3 W.Web f m) (rV enc) (p.bind λw=>some (g w)):=λv B C e F S E=>by
 obtain⟨w,G,H⟩:=BC B;cases H;obtain⟨d,I,J,L,n,rfl,N⟩:=h w G C e F S E;exact⟨_,I,KW J N (o w),L,rfl⟩
def JO(h:VE A m (rO (Lg W)) p):VE A (D3 W.Web "places" m) (rV D.int) (p.bind λw=>some (w.1:Int)):=cG h λw=>xj _ _ _
def nX(h:VE A m (rO (Lg W)) p):VE A (D3 W.Web "near_sets" m) (rV (eT (eT D.int))) (p.bind λw=>some (Qj w.1 w.2)):=cG h λw=>by rw[<-j4];rfl
def sJ(W:Wd){p:Nat}(h1:1<=p)(Z:p<=60){d:D}{S:Sto}{l:List ZPi}(hv:∀o,Keeps S o->Hr d o=some (l.map pairD))(Q:l.length<=90000)(hf:Fs p l){e:Lo}{ml:ML}{R:Sto}(ha:ml e R=.ok [.int p,d] S) :
  ∃o,RS W.Web 3 (Ln W) ml e R=.ok (.ref S.length) o/\Keeps S o/\o[S.length]?=some (Lg W (p,GM l)):=by
 have t0:Oa (mB (m3 leD leD (mC (.int 1)) (AC 1) (mC (.int 60)))) [sR S.length,sI p,some d] (S++[.ins W.Web []])=.ok false (S++[.ins W.Web []]):=
  OY (Vp (rJ rfl rfl (kH (wX (by lia))) rfl (kH (wX (by lia)))))
 have H:(S++[Ob.ins W.Web []])[S.length]?=some (.ins W.Web []):=ER _ _;have e1:=SG (f:="places") (mo:=AC 0) (mv:=AC 1) (e:=[sR S.length,sI p,some d]) rfl rfl H (by decide);have I:Keeps S ((S++[Ob.ins W.Web []]).set S.length (.ins W.Web (KQ "places" (.int p) []))):=(Keeps.app S _).set (AJ _) _;generalize J:(S++[Ob.ins W.Web []]).set S.length (.ins W.Web (KQ "places" (.int p) []))=S1 at e1 I
 have C:S1[S.length]?=some (.ins W.Web [("places",.int p)]):=by rw[<-J];exact Ao (by simp)
 obtain⟨T,U,K2⟩:=Xu W (λo k=>hv o (I.trans k)) Q hf;rw[aR]at U;have L:=SG (f:="ties") (mo:=AC 0) (mv:=CF 2 (HY W) (AO (AC 1) (AO (AC 2) BI))) (e:=[sR S.length,sI p,some d]) ((J9 rfl rfl).trans U) rfl (K2.at C) (by simp);have N:Keeps S (T.set S.length (.ins W.Web (KQ "ties" (.tup ((GM l).map pairD)) [("places",.int p)]))):=(I.trans K2).set (AJ _) _;rw[put2]at L N;have E:=(AB.mp (K2.at C)).1;generalize O:T.set S.length (.ins W.Web [("places",.int p),("ties",.tup ((GM l).map pairD))])=X at L N
 have B:X[S.length]?=some (.ins W.Web [("places",.int p),("ties",.tup ((GM l).map pairD))]):=by rw[<-O];exact Ao E
 obtain⟨S4,c4,P⟩:=pP W Z (λt ht=>by
  obtain⟨x,hx,rfl⟩:=iu ht
  exact(hf.1 x hx).in) (by rw[(QU l).length_eq,AH];exact Q) X
 have Y:=SG (f:="near_sets") (mo:=AC 0) (mv:=CF 2 (HX W) (AO (AC 1) (AO (D3 W.Web "ties" (AC 0)) BI))) (e:=[sR S.length,sI p,some d])
  ((J9 (C0 rfl (C0 (KW rfl B (uX _ _)) rfl)) rfl).trans c4) rfl (P.at B) (by simp)
 have G:=(AB.mp (P.at B)).1;rw[put3]at Y;refine⟨_,cb ha rfl (ae (e:=[sR S.length,sI p,some d]) ?_),(N.trans P).set (AJ _) _,Ao G⟩;unfold Uj;refine IM (B2 (e1:=[sR S.length,sI p,some d]) (IM (Gw t0) rfl)) ?_;rw[B2 e1,B2 L];exact Y
def sQ{E:Option Int}{pl:Option (List ZPi)}(J:VE A a (rV D.int) E)(hb:VE A b (rO (oL (eP D.int D.int))) pl):VE A (RS W.Web 3 (Ln W) (AO a (AO b BI))) (rN (Lg W)) (E.bind λx=>pl.bind λl=>iL x l):=λv B G e F S H=>by
 obtain⟨x,L,B⟩:=BC B;obtain⟨l,N,o⟩:=BC B;obtain⟨d1,O,P,C,rfl⟩:=J x L G e F S H;obtain⟨d2,S2,Q,I,n,rfl,R⟩:=hb l N G e _ O (H.grow C);unfold iL at o;split at o
 ·rename_i T
  cases o;obtain⟨c1,c2,c3,U⟩:=T;have X:((x.toNat:Nat):Int)=x:=BY (by lia);obtain⟨Y,Z,h6,h7⟩:=sJ W (p:=x.toNat) (by lia) (by ext) (λS' k=>DT (k.at R)) U (by ext) (ml:=AO a (AO b BI)) (by rw[X];exact C0 P (C0 Q rfl));exact⟨_,Y,Z,(C.trans I).trans h6,_,rfl,(C.trans I).1,h7⟩
 ·cases o
end
def K2(h s:Nat)(S l:Sto):Prop:=S.length<=l.length/\∀j,j < S.length->j≠h->j≠s->l[j]?=S[j]?
theorem K2.trans(a:K2 h s S S1)(b:K2 h s S1 S2):K2 h s S S2:=⟨Al a.1 b.1,λj q l m=>(b.2 j (AR q a.1) l m).trans (a.2 j q l m)⟩
def K2.of{h s:Nat}{S S1:Sto}(a:Keeps S S1):K2 h s S S1:=⟨a.1,λj q _ _=>a.2 j q⟩
def K2.seth(a:K2 h s S S1)(o:Ob):K2 h s S (S1.set h o):=⟨by rw[DB];exact a.1,λj q l m=>by rw[AZ (Bw l)];exact a.2 j q l m⟩
def K2.sets(a:K2 h s S S1)(o:Ob):K2 h s S (S1.set s o):=⟨by rw[DB];exact a.1,λj q m l=>by rw[AZ (Bw l)];exact a.2 j q m l⟩
def K2.at(a:K2 h s S S1)(l:S[j]?=some o)(m:j≠h)(A:j≠s):S1[j]?=some o:=by rw[a.2 j (BZ l) m A];exact l
noncomputable def Tk(l:List ZLi)(g:Int):ZLi:=(atI l g).getD []
def vO{κv}{enc}{l}{S}{n}(m:S[n]?=some (oDK enc l))(o:l.length < 1000000)(k:Int)(v:κv):Qt (.ref n) (.int k) (enc v) S=some (S.set n (oDK enc (CJ l k v))):=by
 unfold Qt;dsimp only;rw[m];show(if (l.map _).length < sizeLine then some (S.set n (.dK (CJ (l.map λx=>(Du x.1,enc x.2)) (Du k) (enc v))))else none)=_;rw[qX (by rw[AH];exact ZK o),Pb SM];rfl
def SV(m:mv e S=.ok (enc v) S)(ho:mo e S=.ok (.ref n) S)(hi:mi e S=.ok (.int k) S)(o:S[n]?=some (oDK enc l))(A:l.length < 1000000):Cb mo mi mv e S=.ok (.nx e) (S.set n (oDK enc (CJ l k v))):=by
 unfold Cb;rw[m];dsimp only[Res.lift];rw[ho];dsimp only;rw[hi];dsimp only;rw[vO o A]
def LV{m o:Type}[DecidableEq m]{l A:List (m×o)}{k:m}{v:o}(h:Iv l k v=some A):l.length < 1000000/\A=CJ l k v:=by
 unfold Iv at h;ext
def eI(m:S[tN]?=some (oL (eT D.int) B))(A:S[hN]?=some (oDK D.int H))(hs:S[sN]?=some (oDK D.bl Q))(C:hN≠sN) :
  ∃F,Vs [] [.z (oL (eT D.int) B),.v (D.int bits),.w 2 (oDK D.int H),.v (D.int g),.w 4 (oDK D.bl Q),.u,.u] [sR tN,sI bits,sR hN,sI g,sR sN,none,none] F S:=by
 have E:tN≠hN:=λc=>by rw[c,A]at m;cases m
 have G:tN≠sN:=λc=>by rw[c,hs]at m;cases m
 refine⟨λn=>if n=hN then .ow 2 else if n=sN then .ow 4 else match S[n]? with | some o=>.fz o | none=>.no,⟨Bu _,λj h=>(nomatch h)⟩,λn o q=>?_,λn i q=>?_,λn I=>?_,λi a l=>?_⟩
 ·lia
 ·refine⟨Bu _,?_⟩
  grind
 ·grind
 ·match i,l with
  | 0,l=>cases l;exact⟨_,rfl,tN,rfl,by ext⟩
  | 1,l=>cases l;exact⟨_,rfl,rfl⟩
  | 2,l=>cases l;exact⟨_,rfl,hN,rfl,qX rfl,A⟩
  | 3,l=>cases l;exact⟨_,rfl,rfl⟩
  | 4,l=>cases l;exact⟨_,rfl,sN,rfl,by lia,hs⟩
  | 5,l=>cases l;exact⟨_,rfl,trivial⟩
  | 6,l=>cases l;exact⟨_,rfl,trivial⟩
  | i+7,l=>cases l
abbrev xh:ME:=DF (DI 1 (DM (m2 ixA (AC 0) (AC 3))) (tgN 0) (Rt (GN (m2 Vk (m2 Yo (AC 2) (AC 0)) (mC (.int 1)))) (mB (m2 (inA true) (AC 0) (AC 5)))) (AC 0))
def nO{S:Sto}{tN hN B:Nat}{m:List ZLi}{bits g:Int}{H:HL}{Q:QL}(I:S[tN]?=some (oL (eT D.int) m))(J:S[hN]?=some (oDK D.int H))(hs:S[B]?=some (oDK D.bl Q))(L:hN≠B)(G:0<=g/\g < m.length)(N:∀t∈m,t.length<=1000/\∀x∈t,0<=x) :
  ∃n o,xh [sR tN,sI bits,sR hN,sI g,sR B,none,none] S=.ok (.ref n) o/\Keeps S o/\S.length<=n/\o[n]?=some (oL D.int ((Tk m g).filter λx=>hb bits x&&!(An Q x).isSome)):=by
 obtain⟨F,V⟩:=eI I J hs L;obtain⟨t,C,-⟩:=bd G.1 G.2;have O:=N t (da C)
 have l:=B1 (Cg (A:=[.z (oL (eT D.int) m),.v (D.int bits),.w 2 (oDK D.int H),.v (D.int g),.w 4 (oDK D.bl Q),.u,.u]) (VI.k (QP (JU (D1 (i:=0) rfl) (AN (i:=3) rfl))))
  (λx=>ik (cJ (SF (sS (AN (i:=2) rfl) (AN (i:=0) rfl)) (CP (v:=1) rfl))) (ID (YZ (AN (i:=0) rfl) (IN (i:=5) rfl)))) (λx=>AN (i:=0) rfl))
 simp only[AF]at l;rw[C]at l
 have P:EB t (λx=>((oP bits x).bind λE=>some (Bq E 1)).bind (λx=>some (x != 0)) |>.bind λb=>if b=true then some (!(An Q x).isSome)else some false) (λx=>some x)=some (t.filter λx=>hb bits x&&!(An Q x).isSome):=IK (by lia) λx R=>by
  rw[show oP bits x=some (bits / 2 ^ x.toNat)from qX (O.2 x R)];show(if hb bits x=true then _ else _)=_
  lia
 obtain⟨d,o,T,U,n,rfl,X,Y⟩:=l _ P [] _ F S V;refine⟨n,o,T,U,X,?_⟩;unfold Tk;rw[C];exact Y
def qH{w:ZLi}{p:Int->Bool}{i:Nat}{x:Int}(h:∀j,j < i->∀y,w[j]?=some y->p y=false)(l:w[i]?=some x)(m:p x=true):w.find? p=some x:=by
 rw[List.find?_eq_some_iff_getElem];obtain⟨o,e⟩:=AB.mp l;refine⟨m,i,o,e,λj A=>?_⟩;rw[h j A _ (AM (by lia))];rfl
def qG{w:ZLi}{p:Int->Bool}(h:∀j,j < w.length->∀y,w[j]?=some y->p y=false):w.find? p=none:=by
 rw[P9];intro x m l;obtain⟨i,o,e⟩:=CW m;rw[h i o x (by ext)]at l;cases l
noncomputable abbrev e7(tN:Nat)(bits:Int)(hN:Nat)(g:Int)(l:Nat)(m o:Option D):Lo:=[sR tN,sI bits,sR hN,sI g,sR l,m,o]
abbrev bS1:MS:=sIf (mB (m2 (inA true) (AC 6) (AC 2))) (BK (Cb (AC 2) (AC 6) (AC 3)) (DL (mC (.bl true)))) sNx
abbrev bS2(l:List D->Sto->Res D):MS:=sIf (mB (m2 (inA true) (AC 6) (AC 4))) (BK (Cb (AC 4) (AC 6) (mC (.bl true)))
  (sIf (GN (CF 5 l (AO (AC 0) (AO (AC 1) (AO (AC 2) (AO (m2 ixA (AC 2) (AC 6)) (AO (AC 4) BI))))))) (BK (Cb (AC 2) (AC 6) (AC 3)) (DL (mC (.bl true)))) sNx)) sNx
def rT(m:S[n]?=some (oDK enc l))(x:Int):inA true (.int x) (.ref n) S=.ok (.bl (!(An l x).isSome)) S:=by
 rw[UY (tM m) (lP m x)];simp
def xr(m:S[n]?=some (oDK enc l))(o:An l x=some v):ixA (.ref n) (.int x) S=.ok (enc v) S:=NB (tM m) (by rw[lP m x,o];rfl)
def fC(W:Wd){o:List ZLi}{bits:Int}(hT:∀t∈o,t.length<=1000/\∀x∈t,0<=x):∀(n:Nat) (H:HL) (g:Int) (Q:QL) (z:Bool×HL×QL),IP (Tk o) bits n H g Q=some z->0<=g/\g < o.length->(∀x a,An H x=some a->0<=a/\a < o.length)->(∀x a,An z.2.1 x=some a->0<=a/\a < o.length) /\
  ∀(S:Sto) (tN hN sN:Nat),S[tN]?=some (oL (eT D.int) o)->S[hN]?=some (oDK D.int H)->S[sN]?=some (oDK D.bl Q)->hN≠sN->∃S',HV W n [.ref tN,.int bits,.ref hN,.int g,.ref sN] S=.ok (.bl z.1) S'/\S'[hN]?=some (oDK D.int z.2.1)/\S'[sN]?=some (oDK D.bl z.2.2)/\K2 hN sN S S':=by
 intro n
 induction n with
 | zero=>intro H g Q z B;cases B
 | succ n ih=>
  intro H g Q z B hg Z;unfold IP at B
  have Θ:∀(H:HL) (x:Int),(∀x a,An H x=some a->0<=a/\a < o.length)->∀y a,An (CJ H x g) y=some a->0<=a/\a < o.length:=λH x Z y a e=>by
   rw[DC]at e;split at e
   ·cases e;exact hg
   ·exact Z y a e
  have lp:∀(r:ZLi) (A:HL) (l:QL),(∀x a,An A x=some a->0<=a/\a < o.length)->OF (IP (Tk o) bits n) g r A l=some z->∀x a,An z.2.1 x=some a->0<=a/\a < o.length:=by
   intro r
   induction r with
   | nil=>intro A l hc e;cases e;exact hc
   | cons x r ih2=>
    intro A l hc e;unfold OF at e;split at e
    ·exact ih2 A l hc e
    ·obtain⟨Q1,-,e⟩:=BC e
     obtain⟨T,e2,e⟩:=BC e;obtain⟨N,e3,e⟩:=BC e;have:=(ih A T Q1 N e3 (hc x T e2) hc).1;split at e
     ·obtain⟨H',J,e5⟩:=BC e
      cases e5;rw[(LV J).2];exact Θ _ x this
     ·exact ih2 _ _ this e
  refine⟨?_,λS tN hN sN O hh hs za=>?_⟩
  ·split at B
   ·obtain⟨H',J,e5⟩:=BC B
    cases e5;rw[(LV J).2];exact Θ _ _ Z
   ·exact lp _ _ _ Z B
  ·have t1:tN≠hN:=λc=>by rw[c,hh]at O;cases O
   have t2:tN≠sN:=λc=>by rw[c,hs]at O;cases O
   obtain⟨wN,S1,w1,w2,w3,U⟩:=nO O hh hs za hg hT;generalize (Tk o g).filter (λx=>hb bits x&&!(An Q x).isSome)=w at B U
   have wh:wN≠hN:=λc=>zX (BZ hh) (by lia)
   have ws:wN≠sN:=λc=>zX (BZ hs) (by lia)
   have s5:=LQ (i:=5) w1;have L:=w2.at hh;have υ:=w2.at hs;have ht1:=w2.at O;have k1:K2 hN sN S S1:=K2.of w2
   have it:∀m S',S'[wN]?=some (oL D.int w)->DM (AC 5) (e7 tN bits hN g sN (some (.ref wN)) m) S'=.ok (Hr (.ref wN)) S':=λm S' h=>Ii rfl h
   obtain⟨f,S2,q1,q2⟩:=KU (g:=tgN 6) (b:=bS1)
    (λi e S'=>(∃m,e=e7 tN bits hN g sN (some (.ref wN)) m)/\S'=S1/\∀j,j < i->∀y,w[j]?=some y->(!(An H y).isSome)=false)
    (λf S'=>((∃m,f=.nx (e7 tN bits hN g sN (some (.ref wN)) m))/\S'=S1/\w.find? (λx=>!(An H x).isSome)=none)∨∃x,w.find? (λx=>!(An H x).isSome)=some x/\f=.rt (.bl true)/\S'=S1.set hN (oDK D.int (CJ H x g)))
    ⟨⟨none,rfl⟩,rfl,λj hj=>zX hj (NQ j)⟩ (by rintro i e S' ⟨_,rfl,_⟩;exact DT U)
    (by
     rintro i d e S' C ⟨⟨m,rfl⟩,rfl,E⟩;rw[AX]at C
     cases P:w[i]? with
     | none=>rw[P]at C;cases C
     | some x=>
      rw[P]at C;cases C;refine⟨e7 tN bits hN g sN (some (.ref wN)) (some (.int x)),S',rfl,?_⟩;have I:mB (m2 (inA true) (AC 6) (AC 2)) (e7 tN bits hN g sN (some (.ref wN)) (some (.int x))) S'=.ok (!(An H x).isSome) S':=Vp (D9 rfl rfl (rT L x))
      cases c:(An H x).isSome with
      | true=>
       rw[c]at I;refine⟨_,S',(Gw I).trans rfl,⟨_,rfl⟩,rfl,λj hj y hy=>?_⟩
       by_cases q:j=i
       ·lia
       ·exact E j (by lia) y hy
      | false=>
       rw[c]at I;have X:=qH E P (by rw[c];rfl);rw[X]at B;obtain⟨H',J,e5⟩:=BC B;obtain⟨hl,-⟩:=LV J;have dp:=SV (mo:=AC 2) (mi:=AC 6) (mv:=AC 3) (e:=e7 tN bits hN g sN (some (.ref wN)) (some (.int x))) rfl rfl rfl L hl
       exact⟨.rt (.bl true),_,(Gw I).trans ((qX rfl).trans ((B2 dp).trans rfl)),.inr ⟨x,X,rfl,rfl⟩⟩)
    (by
     rintro e S' ⟨⟨m,rfl⟩,rfl,E⟩;rw[AH]at E
     exact .inl ⟨⟨m,rfl⟩,rfl,qG E⟩)
   have run:∀{S':Sto} {d:D},Ze W (HV W n) (JV 7 [.ref tN,.int bits,.ref hN,.int g,.ref sN]) S=.ok (.rt d) S'->HV W (n+1) [.ref tN,.int bits,.ref hN,.int g,.ref sN] S=.ok d S':=λh=>LR h
   rcases q2 with⟨⟨m,rfl⟩,rfl,X⟩ | ⟨x,X,rfl,rfl⟩
   ·rw[X]at B
    obtain⟨f,S3,p1,p2⟩:=KU (g:=tgN 6) (b:=bS2 (HV W n))
     (λi e S'=>(∃m,e=e7 tN bits hN g sN (some (.ref wN)) m)/\S'[wN]?=some (oL D.int w)/\K2 hN sN S S'/\∃A l,S'[hN]?=some (oDK D.int A)/\S'[sN]?=some (oDK D.bl l)/\(∀x a,An A x=some a->0<=a/\a < o.length)/\OF (IP (Tk o) bits n) g (w.drop i) A l=some z)
     (λf S'=>K2 hN sN S S'/\S'[hN]?=some (oDK D.int z.2.1)/\S'[sN]?=some (oDK D.bl z.2.2)/\((f=.rt (.bl true)/\z.1=true)∨((∃m,f=.nx (e7 tN bits hN g sN (some (.ref wN)) m))/\z.1=false)))
     ⟨⟨m,rfl⟩,U,k1,H,Q,L,υ,Z,B⟩ (by rintro i e S' ⟨_,h,_⟩;exact DT h)
     (by
      rintro i d e S' C ⟨⟨m,rfl⟩,a1,a2,A,l,a3,Y,a5,G⟩;rw[AX]at C
      cases P:w[i]? with
      | none=>rw[P]at C;cases C
      | some x=>
       rw[P]at C;cases C;obtain⟨hi,ex⟩:=AB.mp P;rw[DS hi,ex]at G;unfold OF at G;refine⟨e7 tN bits hN g sN (some (.ref wN)) (some (.int x)),S',rfl,?_⟩;have I:mB (m2 (inA true) (AC 6) (AC 4)) (e7 tN bits hN g sN (some (.ref wN)) (some (.int x))) S'=.ok (!(An l x).isSome) S':=Vp (D9 rfl rfl (rT Y x))
       cases c:(An l x).isSome with
       | true=>
        rw[c]at I;rw[qX c]at G;exact⟨_,S',(Gw I).trans rfl,⟨_,rfl⟩,a1,a2,A,l,a3,Y,a5,G⟩
       | false=>
        rw[c]at I;rw[qY (by lia)]at G;obtain⟨Q1,b1,a7⟩:=BC G;obtain⟨T,b2,a8⟩:=BC a7;obtain⟨N,b3,a9⟩:=BC a8;obtain⟨hl,rfl⟩:=LV b1
        clear G a7 a8
        have dp:=SV (mo:=AC 4) (mi:=AC 6) (mv:=mC (.bl true)) (e:=e7 tN bits hN g sN (some (.ref wN)) (some (.int x))) rfl rfl rfl Y hl;have hsl:=BZ Y
        have c3:(S'.set sN (oDK D.bl (CJ l x true)))[hN]?=some (oDK D.int A):=by rw[AZ (Bw za)];exact a3
        have c4:(S'.set sN (oDK D.bl (CJ l x true)))[sN]?=some (oDK D.bl (CJ l x true)):=Ao hsl
        have c5:(S'.set sN (oDK D.bl (CJ l x true)))[tN]?=some (oL (eT D.int) o):=by rw[AZ (Bw t2)];exact a2.at O t1 t2
        have c1:(S'.set sN (oDK D.bl (CJ l x true)))[wN]?=some (oL D.int w):=by rw[AZ (Bw ws)];exact a1
        have c2:=a2.sets (oDK D.bl (CJ l x true));generalize S'.set sN (oDK D.bl (CJ l x true))=S4 at dp c1 c2 c3 c4 c5;obtain⟨r1,r2⟩:=ih A T (CJ l x true) N b3 (a5 x T b2) a5;obtain⟨S5,r3,r4,r5,r6⟩:=r2 S4 tN hN sN c5 c3 c4 za;have arg:AO (AC 0) (AO (AC 1) (AO (AC 2) (AO (m2 ixA (AC 2) (AC 6)) (AO (AC 4) BI)))) (e7 tN bits hN g sN (some (.ref wN)) (some (.int x))) S4=.ok [.ref tN,.int bits,.ref hN,.int T,.ref sN] S4:=C0 rfl (C0 rfl (C0 rfl (C0 (D9 rfl rfl (xr c3 b2)) (C0 rfl rfl))))
        have cal:GN (CF 5 (HV W n) (AO (AC 0) (AO (AC 1) (AO (AC 2) (AO (m2 ixA (AC 2) (AC 6)) (AO (AC 4) BI)))))) (e7 tN bits hN g sN (some (.ref wN)) (some (.int x))) S4=.ok N.1 S5:=by
         unfold GN;rw[(J9 (n:=5) arg rfl).trans r3];rfl
        have d1:=r6.at c1 wh ws;have d2:=c2.trans r6
        cases R:N.1 with
        | true=>
         rw[R]at cal;rw[qX R]at a9;obtain⟨H',J,e5⟩:=BC a9;obtain⟨Υ,rfl⟩:=LV J;cases e5;have dp2:=SV (mo:=AC 2) (mi:=AC 6) (mv:=AC 3) (e:=e7 tN bits hN g sN (some (.ref wN)) (some (.int x))) rfl rfl rfl r4 Υ;refine⟨.rt (.bl true),_,(Gw I).trans ((qX rfl).trans ((B2 dp).trans ((Gw cal).trans ((qX rfl).trans ((B2 dp2).trans rfl))))),d2.seth _,Ao (BZ r4),?_,.inl ⟨rfl,rfl⟩⟩;rw[AZ za];exact r5
        | false=>
         rw[R]at cal;rw[qY (by lia)]at a9
         exact⟨_,S5,(Gw I).trans ((qX rfl).trans ((B2 dp).trans ((Gw cal).trans rfl))),⟨_,rfl⟩,d1,d2,N.2.1,N.2.2,r4,r5,r1,a9⟩)
     (by
      rintro e S' ⟨⟨m,rfl⟩,a1,a2,A,l,a3,Y,a5,G⟩;rw[AH,MM (AJ _)]at G;unfold OF at G;cases G
      exact⟨a2,a3,Y,.inr ⟨⟨m,rfl⟩,rfl⟩⟩)
    obtain⟨p3,p4,p5,p6⟩:=p2;have l1:=(JA (it none S2 U)).trans q1;have l2:=(JA (it m S2 U)).trans p1
    rcases p6 with⟨rfl,p6⟩ | ⟨⟨z7,rfl⟩,p6⟩
    ·rw[p6]
     exact⟨S3,run ((B2 s5).trans ((B2 l1).trans (XG l2))),p4,p5,p3⟩
    ·rw[p6]
     exact⟨S3,run ((B2 s5).trans ((B2 l1).trans ((B2 l2).trans rfl))),p4,p5,p3⟩
   ·rw[X]at B
    obtain⟨H',J,e5⟩:=BC B;obtain⟨hl,rfl⟩:=LV J;cases e5;have l1:=(JA (it none S1 U)).trans q1;refine⟨_,run ((B2 s5).trans (XG l1)),Ao (BZ L),?_,k1.seth _⟩;rw[AZ za];exact υ
abbrev e5(tN:Nat)(gs:ZLi)(bits:Int)(hN:Nat)(z:Option D):Lo:=[sR tN,some (eT D.int gs),sI bits,sR hN,z]
abbrev uV:MT:=GN (m2 Vk (m2 Yo (AC 2) (AC 4)) (mC (.int 1)))
def wg(h:m e S=.ok (.bl b) S1):GN m e S=.ok b S1:=by
 unfold GN;rw[h];rfl
def wf(h:m e S=.ok (.int i) S1):GN m e S=.ok (i != 0) S1:=by
 unfold GN;rw[h];rfl
def lc(h:0<=g):uV (e5 tN gs bits hN (some (.int g))) S=.ok (hb bits g) S:=by
 have l:m2 Yo (AC 2) (AC 4) (e5 tN gs bits hN (some (.int g))) S=.ok (.int (bits / 2 ^ g.toNat)) S:=D9 rfl rfl (qX h);exact wf (D9 l rfl rfl)
abbrev bF1:MS:=sIf uV (Cb (AC 3) (AC 4) (AC 4)) sNx
abbrev mSet(W:Wd)(n:Nat):ME:=CF 5 (HV W n) (AO (AC 0) (AO (AC 2) (AO (AC 3) (AO (AC 4) (AO Jf BI)))))
abbrev bF2(W:Wd)(n:Nat):MS:=sIf (Rt (Oa uV) (Oa (GN (mSet W n)))) (DL (mC (.bl false))) sNx
def qF(W:Wd)(hT:∀t∈G,t.length<=1000/\∀x∈t,0<=x)(U:∀g∈gs,0<=g/\g < G.length)(N:WT (Tk G) bits 9 gs=some b)(X:S[tN]?=some (oL (eT D.int) G)) :
  ∃S',Xn W [.ref tN,eT D.int gs,.int bits] S=.ok (.bl b) S'/\Keeps S S':=by
 unfold WT at N;obtain⟨O,hs,hr⟩:=BC N;have P:Ce 3 Jf (JV 5 [.ref tN,eT D.int gs,.int bits]) S=.ok (.nx (e5 tN gs bits S.length none)) (S++[.dK []]):=rfl;have Y:(S++[Ob.dK []])[S.length]?=some (oDK D.int []):=ER _ _;have Z:=Keeps.app S [.dK []];have tl:=BZ X;generalize S++[Ob.dK []]=S0 at P Y Z
 obtain⟨f,S1,q1,⟨z1,rfl⟩,q2,q3,q4⟩:=KU (v:=JE (gs.map D.int)) (g:=tgN 4) (b:=bF1)
  (λi e S'=>(∃z,e=e5 tN gs bits S.length z)/\Keeps S S'/\∃m,S'[S.length]?=some (oDK D.int m)/\(∀x a,An m x=some a->0<=a/\a < G.length)/\TM bits (gs.drop i) m=some O)
  (λf S'=>(∃z,f=.nx (e5 tN gs bits S.length z))/\Keeps S S'/\S'[S.length]?=some (oDK D.int O)/\∀x a,An O x=some a->0<=a/\a < G.length)
  ⟨⟨none,rfl⟩,Z,[],Y,λx a e=>(nomatch e),hs⟩ (λ_ _ _ _=>rfl)
  (by
   rintro i d e S' H ⟨⟨z,rfl⟩,o,m,A,E,l⟩;rw[AX]at H
   cases I:gs[i]? with
   | none=>ext
   | some g=>
    rw[I]at H;cases H;have C:=U g (A0 I);obtain⟨Q,ex⟩:=AB.mp I;rw[DS Q,ex]at l;unfold TM at l;refine⟨e5 tN gs bits S.length (some (.int g)),S',rfl,?_⟩;have B:=lc (tN:=tN) (hN:=S.length) (gs:=gs) (bits:=bits) (S:=S') C.1
    cases c:hb bits g with
    | true=>
     rw[c]at B;rw[qX c]at l;obtain⟨H',R,J⟩:=BC l;obtain⟨hl,rfl⟩:=LV R;have dp:=SV (mo:=AC 3) (mi:=AC 4) (mv:=AC 4) (e:=e5 tN gs bits S.length (some (.int g))) rfl rfl rfl A hl;refine⟨_,_,(Gw B).trans ((qX rfl).trans dp),⟨_,rfl⟩,o.set (AJ _) _,_,Ao (BZ A),λx a e=>?_,J⟩;rw[DC]at e;split at e
     ·ext
     ·exact E x a e
    | false=>
     rw[c]at B;rw[qY (by ext)]at l
     exact⟨_,S',(Gw B).trans rfl,⟨_,rfl⟩,o,m,A,E,l⟩)
  (by
   rintro e S' ⟨⟨z,rfl⟩,o,m,A,E,l⟩;rw[AH,MM (AJ _)]at l;cases l
   exact⟨⟨z,rfl⟩,o,A,E⟩)
 obtain⟨f,S2,p1,p2,p3⟩:=KU (v:=JE (gs.map D.int)) (g:=tgN 4) (b:=bF2 W 9)
  (λi e S'=>(∃z,e=e5 tN gs bits S.length z)/\Keeps S S'/\∃m,S'[S.length]?=some (oDK D.int m)/\(∀x a,An m x=some a->0<=a/\a < G.length)/\Tf (Tk G) bits 9 (gs.drop i) m=some b)
  (λf S'=>Keeps S S'/\((f=.rt (.bl false)/\b=false)∨((∃z,f=.nx (e5 tN gs bits S.length z))/\b=true)))
  ⟨⟨z1,rfl⟩,q2,O,q3,q4,hr⟩ (λ_ _ _ _=>rfl)
  (by
   rintro i d e S' H ⟨⟨z,rfl⟩,o,m,A,E,l⟩;rw[AX]at H
   cases I:gs[i]? with
   | none=>ext
   | some g=>
    rw[I]at H;cases H;have C:=U g (A0 I);obtain⟨Q,ex⟩:=AB.mp I;rw[DS Q,ex]at l;unfold Tf at l;refine⟨e5 tN gs bits S.length (some (.int g)),S',rfl,?_⟩;have B:=lc (tN:=tN) (hN:=S.length) (gs:=gs) (bits:=bits) (S:=S') C.1
    cases c:hb bits g with
    | true=>
     rw[c]at B;rw[qX c]at l;exact⟨_,S',(Gw (dc (OY B))).trans rfl,⟨_,rfl⟩,o,m,A,E,l⟩
    | false=>
     rw[c]at B;rw[qY (by lia)]at l;obtain⟨w,R,J⟩:=BC l
     clear l
     have hl:=BZ A;have b0:(S'++[Ob.dK []])[S'.length]?=some (oDK D.bl []):=ER _ _;have L:=Keeps.app S' [.dK []];have arg:AO (AC 0) (AO (AC 2) (AO (AC 3) (AO (AC 4) (AO Jf BI)))) (e5 tN gs bits S.length (some (.int g))) S'=.ok [.ref tN,.int bits,.ref S.length,.int g,.ref S'.length] (S'++[.dK []]):=rfl;generalize S'++[Ob.dK []]=S4 at b0 L arg;obtain⟨r1,r2⟩:=fC W hT 9 m g [] w R C E;obtain⟨S5,r3,r4,r5,r6⟩:=r2 S4 tN S.length S'.length (L.at (o.at X)) (L.at A) b0 (by lia);have cal:=wg ((J9 arg rfl).trans r3)
     have kS:Keeps S S5:=⟨Al (Al o.1 L.1) r6.1,λj T=>by
      have h4:=AR T (Al o.1 L.1)
      rw[r6.2 j h4 (by lia) (by have:=o.1;lia),L.2 j (AR T o.1),o.2 j T]⟩
     cases hw:w.1 with
     | true=>
      rw[hw]at cal;rw[qX hw]at J;exact⟨_,S5,(Gw ((X1 (OY B)).trans (OY cal))).trans rfl,⟨_,rfl⟩,kS,w.2.1,r4,r1,J⟩
     | false=>
      rw[hw]at cal;rw[qY (by lia)]at J;cases J
      exact⟨.rt (.bl false),S5,(Gw ((X1 (OY B)).trans (OY cal))).trans rfl,kS,.inl ⟨rfl,rfl⟩⟩)
  (by
   rintro e S' ⟨⟨z,rfl⟩,o,m,A,E,l⟩;rw[AH,MM (AJ _)]at l;cases l
   exact⟨o,.inr ⟨⟨z,rfl⟩,rfl⟩⟩)
 have it:∀z S',DM (AC 1) (e5 tN gs bits S.length z) S'=.ok (JE (gs.map D.int)) S':=λz S'=>UJ rfl
 have l1:=(JA (it none S0)).trans q1;have l2:=(JA (it z1 S1)).trans p1;refine⟨S2,LR ?_,p2⟩;unfold ll
 rcases p3 with⟨rfl,rfl⟩ | ⟨⟨z,rfl⟩,rfl⟩
 ·exact(B2 P).trans ((B2 l1).trans (XG l2))
 ·exact(B2 P).trans ((B2 l1).trans ((B2 l2).trans rfl))
open Classical in
def Tq(l:List ZLi)(gs:ZLi)(bits:Int):Option Bool:=if (∀t∈l,t.length<=1000/\∀x∈t,0<=x)/\∀g∈gs,0<=g/\g < l.length then WT (Tk l) bits 9 gs else none
def sg(W:Wd)(m:List ZLi)(gs:ZLi)(bits:Int):VF (Xn W) [.z (oL (eT D.int) m),.v (eT D.int gs),.v (D.int bits)] (rV D.bl) (Tq m gs bits):=λv l S A B=>by
 unfold Tq at l;split at l
 ·rename_i o
  match A,B with
  | [d1,d2,d3],⟨⟨n,C,E⟩,G,H,_⟩=>
   cases C;cases G;cases H;obtain⟨I,J,L⟩:=qF W o.1 o.2 l E;exact⟨_,I,J,L,rfl⟩
 ·cases l
def Ja(l:ZLi)(m:Int):Option (Fw Int Unit):=
 BJ (if (decide (m < (l.length:Int)))=true then(atI l m).bind λo=>some (.rt o)else some (.nx ())) λ_=>some (.rt (0:Int))
def CB(l:ZLi)(m:Int):Option Int:=Gc (Ja l m)
def Fi(W:Wd)(l:ZLi)(m:Int):VF (EQ W) [.v (eF l),.v (D.int m)] (rV D.int) (CB l m):=by
 refine El (B:=λ_=>[]) ?_;unfold NI Ja;exact(BD (HF (B:=(λ(_:Unit)=>[.v (eF l),.v (D.int m)])) (ID (qw (AN rfl) (W5 (AN rfl)))) (HD (iW (AN rfl) (AN rfl))) (HE (.refl _))) (λ_=>(HD (CP rfl))))
def Pa(E:Int):Option (Fw (List ZPi) Unit):=
 BJ (((some []).bind Ge).bind λH=>some (.nx H)) λI=>BJ (((some E).bind Nm).bind λl=>E6 l I λ(J:(List ZPi)) G=>Eg (λm=>m) ((Yw (G+(1:Int)) E).bind λo=>E6 o J λ(L:(List ZPi)) N=>Eg (λA=>A) ((Vj L (G,N)).bind λB=>some (.nx B)))) λC=>some (.rt C)
def HP(l:Int):Option (List ZPi):=Gc (Pa l)
def PJ(W:Wd)(l:Int):VF (JJ W) [.v (D.int l)] (rN (oL (eP D.int D.int))) (HP l):=by
 refine El (B:=λ_=>[]) ?_;unfold P0 Pa;exact(BD (Fv (B1 (EN Dz))) (λG=>(BD (Ee (Ej (AN rfl)) DX (.refl _) (λH o=>(Cr (Ee (B:=(λ(m:(List ZPi))=>[.v (D.int l),.w 1 ((oL (eP D.int D.int)) m),.v (D.int o),.u])) (Kr (Fh (AN rfl) (CP rfl)) (AN rfl)) DX (.refl _) (λI J=>(Cr (Ss rfl (LK (AN rfl) (AN rfl)) rfl) (λA=>(.same (.same (.same (.drop .nil)))))))) (λC=>(.same (.same (.drop (.same .nil)))))))) (λE=>(O9 rfl)))))
def J2(l:Int)(o:Int):Option (Fw (List ZPi) Unit):=
 BJ (if (decide (o=(1:Int)))=true then(((some (l - (1:Int))).bind Nm).bind λA=>EB A (λB=>some true) (λB=>some (B,(B+(1:Int))))).bind λN=>some (.rt N)else some (.nx ())) λ_=>BJ (if (decide (o=(2:Int)))=true then((((some (l - (1:Int))).bind Nm).bind λC=>EB C (λϬ=>some true) (λϬ=>some (Ϭ,(Ϭ+(1:Int))))).bind λO=>((some (((0:Int),(l - (1:Int))) :: [])).bind Ge).bind λE=>M6 O E).bind λG=>some (.rt G)else some (.nx ())) λ_=>BJ (if (decide (o=(3:Int)))=true then(HP l).bind λH=>some (.rt H)else some (.nx ())) λ_=>BJ (if (decide (o=(4:Int)))=true then((Yw (1:Int) l).bind λI=>EB I (λm=>some true) (λm=>some ((0:Int),m))).bind λJ=>some (.rt J)else some (.nx ())) λ_=>((some []).bind Ge).bind λL=>some (.rt L)
def Eo(l:Int)(m:Int):Option (List ZPi):=Gc (J2 l m)
def PK(W:Wd)(l:Int)(m:Int):VF (HZ W) [.v (D.int l),.v (D.int m)] (rN (oL (eP D.int D.int))) (Eo l m):=by
 refine El (B:=λ_=>[]) ?_;unfold KB J2;exact(BD (HF (ID (N3 EX Mp (AN rfl) (CP rfl))) (Ek (B1 (Cg (VI.k (Ej (JT (AN rfl) (CP rfl)))) (λC=>FG) (λC=>(LK (AN rfl) (Fh (AN rfl) (CP rfl))))))) (HE (.refl _))) (λ_=>(BD (HF (ID (N3 EX Mp (AN rfl) (CP rfl))) (Ek (cI (GJ (B1 (Cg (VI.k (Ej (JT (AN rfl) (CP rfl)))) (λϬ=>FG) (λϬ=>(LK (AN rfl) (Fh (AN rfl) (CP rfl))))))) (GJ (B1 (EN (FU (LK (CP rfl) (JT (AN rfl) (CP rfl))) Dz)))))) (HE (.refl _))) (λ_=>(BD (HF (ID (N3 EX Mp (AN rfl) (CP rfl))) (Ek (B9 (DK (AN rfl) CL) (λo=>PJ W o.1) (λ_=>rfl) Gs)) (HE (.refl _))) (λ_=>(BD (HF (B:=(λ(_:Unit)=>[.v (D.int l),.v (D.int m)])) (ID (N3 EX Mp (AN rfl) (CP rfl))) (Ek (B1 (Cg (VI.k (Kr (CP rfl) (AN rfl))) (λA=>FG) (λA=>(LK (CP rfl) (AN rfl)))))) (HE (.refl _))) (λ_=>(Ek (B1 (EN Dz)))))))))))
def Mj(B:ZLi)(KC:Int)(BE:Int):Option (Fw (List ZPi) Unit):=
 BJ ((HP BE).bind λx5=>some (.nx x5)) λC=>BJ (some (.nx [])) λv6=>BJ (((((((CB B (0:Int)).bind λΚ=>some (Κ / 7)).bind λE=>some (E % 6)).bind λG=>some (G,())).bind λH=>some (BE,H)).bind λϓ=>Eo ϓ.1 ϓ.2.1).bind λI=>E6 I v6 λ(zz:(List (ZPi×Bool))) Z'=>Eg (λJ=>J) ((Iv zz Z' true).bind λL=>some (.nx L))) λN=>BJ ((((some (B.length:Int)).bind λϛ=>some (if (63:Int) < ϛ then(63:Int)else ϛ)).bind λO=>Yw KC O).bind λP=>E6 P N λ(l:(List (ZPi×Bool))) Q=>BJ ((((atI B Q).bind λR=>az R (C.length:Int)).bind λS=>atI C S).bind λT=>some (.nx T)) λm=>Eg (λU=>U) ((if (!(An l m).isSome)=true then some true else(An l m).bind λX=>some (!X)).bind λY=>(Iv l m Y).bind λZ=>some (.nx Z))) λo=>(EB C (λA=>if ((An o A).isSome)=true then An o A else some false) (λA=>some A)).bind λx65=>some (.rt x65)
def Ib(l:ZLi)(m:Int)(o:Int):Option (List ZPi):=Gc (Mj l m o)
def Yh(W:Wd)(m:ZLi)(o:Int)(A:Int):VF (M4 W) [.v (eF m),.v (D.int o),.v (D.int A)] (rN (oL (eP D.int D.int))) (Ib m o A):=by
 refine El (B:=λ_=>[]) ?_;unfold RZ Mj;exact(BD (HC (B9 (DK (AN rfl) CL) (λI=>PJ W I.1) (λ_=>rfl) Gs)) (λG=>(BD (Fv ic) (λT=>(BD (Ee (B:=(λ(C:(List (ZPi×Bool)))=>[.v (eF m),.v (D.int o),.v (D.int A),.y ((oL (eP D.int D.int)) G),.w 4 ((oDP D.bl) C),.u,.u])) (MW (B9 (DK (AN rfl) (DK (LL rfl (PD rfl (B9 (DK (AN rfl) (DK (CP rfl) CL)) (λl=>Fi W l.1 l.2.1) (λ_=>rfl) Gr))) CL)) (λH=>PK W H.1 H.2.1) (λ_=>rfl) Gs)) DX (.refl _) (λU X=>(Cr (YT rfl (AN rfl) (CP rfl) rfl) (λJ=>(.same (.same (.same (.same (.same (.drop (.same .nil))))))))))) (λL=>(BD (Ee (B:=(λ(E:(List (ZPi×Bool)))=>[.v (eF m),.v (D.int o),.v (D.int A),.y ((oL (eP D.int D.int)) G),.w 4 ((oDP D.bl) E),.u,.u])) (Kr (AN rfl) (W4 (W5 (AN rfl)) (CP rfl))) DX (.refl _) (λN O=>(BD (Dy (JU (Gh rfl) (iU (iW (AN rfl) (AN rfl)) (SE (Gh rfl))))) (λP=>(Cr (YT rfl (AN rfl) (sU (iZ (AN rfl) (IN rfl)) (nY (Yb (IN rfl) (AN rfl)))) rfl) (λQ=>(.same (.same (.same (.same (.same (.drop (.drop .nil))))))))))))) (λR=>(Ek (B1 (Cg (VI.k (Jx rfl)) (λS=>(ik (ID (np (AN rfl) (IN rfl))) (aI (Yb (IN rfl) (AN rfl))))) (λS=>(AN rfl)))))))))))))
def KN(o:ZLi)(m:(List ZPi)):Option (Fw (List ZPi) Unit):=
 BJ (((((CB o (0:Int)).bind λA=>some (A / 42)).bind λB=>some (B % 2)).bind λC=>some (decide (C=(0:Int)))).bind λE=>if E=true then some (.rt m)else some (.nx ())) λ_=>(EB m.reverse (λl=>some true) (λl=>some (l.2,l.1))).bind λG=>some (.rt G)
def IQ(l:ZLi)(m:(List ZPi)):Option (List ZPi):=Gc (KN l m)
def VU(W:Wd)(l:ZLi)(m:(List ZPi)):VF (KY W) [.v (eF l),.z ((oL (eP D.int D.int)) m)] (rN (oL (eP D.int D.int))) (IQ l m):=by
 refine El (B:=λ_=>[]) ?_;unfold OJ KN;exact(BD (HF (B:=(λ(_:Unit)=>[.v (eF l),.z ((oL (eP D.int D.int)) m)])) (ID (N3 EX Mp (LL rfl (PD rfl (B9 (DK (AN rfl) (DK (CP rfl) CL)) (λo=>Fi W o.1 o.2.1) (λ_=>rfl) Gr))) (CP rfl))) (Ek (B1 (W2 (NR (D1 rfl))))) (HE (.refl _))) (λ_=>(Ek (B1 (Cg (sL (D1 rfl)) (λA=>FG) (λA=>(LK (iR (AN rfl)) (iY (AN rfl)))))))))
def Ml(B:(List ZPi))(o:Int):Option (Fw ZLi Unit):=
 BJ (((some []).bind Ge).bind λC=>some (.nx C)) λE=>BJ (E6 B E λ(A:ZLi) l=>Eg (λm=>m) (if (decide (o∈[l.1,l.2]))=true then Eg (λG=>G) ((Vj A ((l.1+l.2) - o)).bind λH=>some (.nx H))else some (.nx A))) λI=>some (.rt (Cp I))
def Ie(l:(List ZPi))(m:Int):Option ZLi:=Gc (Ml l m)
def RB(W:Wd)(l:(List ZPi))(m:Int):VF (J7 W) [.z ((oL (eP D.int D.int)) l),.v (D.int m)] (rN (oL D.int)) (Ie l m):=by
 refine El (B:=λ_=>[]) ?_;unfold Rb Ml;exact(BD (Fv (B1 (EN Dz))) (λE=>(BD (Ee (iO rfl) DX (.refl _) (λG A=>(Cr (HF (B:=(λ(o:ZLi)=>[.z ((oL (eP D.int D.int)) l),.v (D.int m),.w 2 ((oL D.int) o),.v ((eP D.int D.int) A)])) (ID (sX EX (AN rfl) (AN rfl))) (Cr (Ss rfl (JT (Fh (iY (AN rfl)) (iR (AN rfl))) (AN rfl)) rfl) (λH=>(.refl _))) (HE (.refl _))) (λC=>(.same (.same (.same (.drop .nil)))))))) (λI=>(Ek (iQ (IN rfl)))))))
def RL(S:Int)(R:Int):Option (Fw (List ZLi) Unit):=
 BJ (((((some []).bind Ge).bind λT=>some (T :: [])).bind Ge).bind λU=>some (.nx U)) λX=>BJ (((some R).bind Nm).bind λm=>E6 m X λ(Y:(List ZLi)) Z=>BJ (((some []).bind Ge).bind λx8=>some (.nx x8)) λv7=>BJ (E6 Y v7 λ(s9:(List ZLi)) o=>BJ (some (.nx (0:Int))) λA=>BJ ((((some []).bind Ge).bind λB=>some (!decide (o=B))).bind λC=>if C=true then Eg (λE=>E) (((atI o (-(1:Int))).bind λG=>some (G+(1:Int))).bind λϬ=>some (.nx Ϭ))else some (.nx A)) λH=>Eg (λI=>I) (((Yw H (((S - R)+Z)+(1:Int))).bind λJ=>EB J (λl=>some true) (λl=>((some (l :: [])).bind Ge).bind λL=>M6 o L)).bind λN=>(M6 s9 N).bind λO=>some (.nx O))) λP=>Eg (λ_=>P) (some (.nx ()))) λQ=>some (.rt Q)
def Ic(l:Int)(m:Int):Option (List ZLi):=Gc (RL l m)
def Yi(W:Wd)(l:Int)(m:Int):VF (M5 W) [.v (D.int l),.v (D.int m)] (rN (oL (eT D.int))) (Ic l m):=by
 refine El (B:=λ_=>[]) ?_;unfold Ra RL;exact(BD (HC (B1 (EN (FU (LJ Dz) Dz)))) (λQ=>(BD (Ee (Ej (AN rfl)) DX (.refl _) (λC E=>(BD (Fv (B1 (EN Dz))) (λR=>(BD (Ee (Jx rfl) DX (.refl _) (λG H=>(BD (Dy (CP rfl)) (λI=>(BD (HF (B:=(λ(o:Int)=>[.v (D.int l),.v (D.int m),.y ((oL (eT D.int)) C),.v (D.int E),.w 4 ((oL (eT D.int)) G),.v ((eT D.int) H),.v (D.int o)])) (ID (wc (Xo EX) uR (AN rfl) (LJ Dz))) (Cr (Dy (Fh (W6 (AN rfl) (aG (CP rfl))) (CP rfl))) (λJ=>(.refl _))) (HE (.refl _))) (λL=>(Cr (iM rfl (B1 (Cg (VI.k (Kr (AN rfl) (Fh (Fh (JT (AN rfl) (AN rfl)) (AN rfl)) (CP rfl)))) (λA=>FG) (λA=>(NT (AN rfl) (LJ (FU (AN rfl) Dz)))))) rfl) (λN=>(.same (.same (.same (.same (.same (.drop (.drop .nil))))))))))))))) (λO=>(Cr (aD 4 rfl rfl (QO rfl)) (λ_=>(.same (.same (.same (.drop (.drop (.same (.same .nil))))))))))))))) (λP=>(cD rfl)))))
noncomputable def HJ(m:(Nat×List ZPi))(l:Int):Option (Fw Unit Unit):=
 ((if decide ((0:Int)<=l)=true then some (decide (l < (m.1:Int)))else some false).bind λo=>some (!o)).bind λA=>if A=true then none else some (.nx ())
noncomputable def HM(l:(Nat×List ZPi))(m:Int):Option Unit:=uA (HJ l m)
def PH(W:Wd)(l:(Nat×List ZPi))(m:Int):VF (HW W) [.z ((Lg W) l),.v (D.int m)] (rV eU) (HM l m):=by
 refine sP (B:=λ_=>[.z ((Lg W) l),.v (D.int m)]) ?_;unfold KA HJ;exact(HF (S6 (ID (Yc lW yN (CP rfl) (AN rfl) (JO (D1 rfl))))) aE (HE (.refl _)))
def ah(l:(Nat×List ZPi))(m:Int):Option (Fw ZLi Unit):=
 BJ ((HM l m).bind λ_=>some (.nx ())) λ_=>(atI (Qj l.1 l.2) m).bind λo=>some (.rt o)
def XN(l:(Nat×List ZPi))(m:Int):Option ZLi:=Gc (ah l m)
def sf(W:Wd)(l:(Nat×List ZPi))(m:Int):VF (bU W) [.z ((Lg W) l),.v (D.int m)] (rV (eT D.int)) (XN l m):=by
 refine El (B:=λ_=>[]) ?_;unfold lj ah;exact(BD (nT (B9 (OR (D1 rfl) (DK (AN rfl) CL)) (λo=>PH W o.1 o.2.1) (λ_=>rfl) Gr)) (λ_=>(HD (W6 (nX (D1 rfl)) (AN rfl)))))
def OT(B:(Nat×List ZPi)):Option (Fw (List ZLi) Unit):=
 (((some (B.1:Int)).bind Nm).bind λl=>EB l (λm=>some true) (λm=>(((some (m :: [])).bind Ge).bind λC=>(XN B m).bind λo=>M6 C o).bind λE=>some (Cp E))).bind λA=>some (.rt A)
def LY(l:(Nat×List ZPi)):Option (List ZLi):=Gc (OT l)
def aJ(W:Wd)(l:(Nat×List ZPi)):VF (Lj W) [.z ((Lg W) l)] (rN (oL (eT D.int))) (LY l):=by
 refine El (B:=λ_=>[]) ?_;unfold Ug OT;exact(Ek (B1 (Cg (VI.k (Ej (JO (D1 rfl)))) (λo=>FG) (λo=>(NS (GJ (QQ (NT (LJ (FU (AN rfl) Dz)) (B9 (OR (D1 rfl) (DK (AN rfl) CL)) (λm=>sf W m.1 m.2.1) (λ_=>rfl) Gr)))))))))
def Qd(l:ZLi):Option (Fw Int Unit):=
 BJ (some (.nx (0:Int))) λm=>BJ (E6 l m λ(o:Int) A=>Eg (λB=>B) ((PP (1:Int) A).bind λC=>some (.nx (Ck o C)))) λE=>some (.rt E)
def IH(l:ZLi):Option Int:=Gc (Qd l)
def eQ(W:Wd)(l:ZLi):VF (Qs W) [.v ((eT D.int) l)] (rV D.int) (IH l):=by
 refine El (B:=λ_=>[]) ?_;unfold Wj Qd;exact(BD (Dy (CP rfl)) (λo=>(BD (Ee (B:=(λ(m:Int)=>[.v ((eT D.int) l),.v (D.int m),.u])) (QP (AN rfl)) DX (.refl _) (λA C=>(Cr (QN rfl (QR (CP rfl) (AN rfl))) (λE=>(.same (.same (.drop .nil))))))) (λG=>(HD (AN rfl))))))
def Qa(A:Int):Option (Fw ZLi Unit):=
 BJ (((some []).bind Ge).bind λB=>some (.nx B)) λC=>BJ (some (.nx A)) λE=>BJ (whF (λ(l:ZLi×Int)=>some (l.2 != 0)) (λ(l:ZLi×Int)=>BJ ((Vj l.1 ((Dh (Bq l.2 (-l.2)):Int) - (1:Int))).bind λm=>some (.nx m)) λG=>Eg (λo=>(G,o)) (some (.nx (Bq l.2 (l.2 - (1:Int)))))) wN (C,E)) λH=>some (.rt H.1)
def Ky(l:Int):Option ZLi:=Gc (Qa l)
def V2(W:Wd)(l:Int):VF (Nc W) [.v (D.int l)] (rN (oL D.int)) (Ky l):=by
 refine El (B:=λ_=>[]) ?_;unfold Wh Qa;exact(BD (Fv (B1 (EN Dz))) (λC=>(BD (Dy (AN rfl)) (λE=>(BD (Sr (B:=(λ(m:ZLi×Int)=>[.v (D.int l),.w 1 ((oL D.int) m.1),.v (D.int m.2)])) (.refl _) (λo=>(cJ (AN rfl))) (λo=>(BD (Ss rfl (JT (nq (SF (AN rfl) (aG (AN rfl)))) (CP rfl)) rfl) (λG=>(Cr (QN rfl (JT (AN rfl) (CP rfl))) (λA=>(.refl _))))))) (λH=>(O9 rfl)))))))
def Mi(m:ZLi)(o:Int)(A:Int):Option (Fw ZLi Unit):=
 (EB m (λl=>some true) (λl=>if (decide (l=o))=true then some A else some l)).bind λB=>some (.rt B)
def J3(l:ZLi)(m:Int)(o:Int):Option ZLi:=Gc (Mi l m o)
def Yf(W:Wd)(l:ZLi)(m:Int)(o:Int):VF (M3 W) [.v ((eT D.int) l),.v (D.int m),.v (D.int o)] (rV (eT D.int)) (J3 l m o):=by
 refine El (B:=λ_=>[]) ?_;unfold RX Mi;exact(HD (NS (GJ (B1 (Cg (VI.k (QP (AN rfl))) (λA=>FG) (λA=>(aH (ID (N3 EX Mp (AN rfl) (AN rfl))) (AN rfl) (AN rfl) Gr)))))))
def WB(Q:Int)(P:Int):Option (Fw (List ZLi) Unit):=
 BJ (((((some []).bind Ge).bind λR=>some (R :: [])).bind Ge).bind λS=>some (.nx S)) λT=>BJ (((some P).bind Nm).bind λl=>E6 l T λ(U:(List ZLi)) X=>BJ (((some []).bind Ge).bind λY=>some (.nx Y)) λZ=>BJ (E6 U Z λ(s9:(List ZLi)) m=>BJ ((if (!m.isEmpty)=true then(atI m (-(1:Int))).bind λϕ=>some (ϕ+(1:Int))else some (0:Int)).bind λo=>some (.nx o)) λA=>Eg (λB=>B) ((Yw A (((Q - P)+X)+(1:Int))).bind λC=>E6 C s9 λ(E:(List ZLi)) G=>Eg (λH=>H) ((((some (G :: [])).bind Ge).bind λI=>M6 m I).bind λJ=>(Vj E J).bind λL=>some (.nx L)))) λN=>Eg (λ_=>N) (some (.nx ()))) λO=>some (.rt O)
def WF(l:Int)(m:Int):Option (List ZLi):=Gc (WB l m)
def eN(W:Wd)(l:Int)(m:Int):VF (Qq W) [.v (D.int l),.v (D.int m)] (rN (oL (eT D.int))) (WF l m):=by
 refine El (B:=λ_=>[]) ?_;unfold Wg WB;exact(BD (HC (B1 (EN (FU (LJ Dz) Dz)))) (λP=>(BD (Ee (Ej (AN rfl)) DX (.refl _) (λC E=>(BD (Fv (B1 (EN Dz))) (λQ=>(BD (Ee (Jx rfl) DX (.refl _) (λR G=>(BD (Dy (aH (nv (AN rfl)) (Fh (W6 (AN rfl) (aG (CP rfl))) (CP rfl)) (CP rfl) Gr)) (λo=>(Cr (Ee (B:=(λ(A:(List ZLi))=>[.v (D.int l),.v (D.int m),.y ((oL (eT D.int)) C),.v (D.int E),.w 4 ((oL (eT D.int)) A),.v ((eT D.int) G),.v (D.int o),.u])) (Kr (AN rfl) (Fh (Fh (JT (AN rfl) (AN rfl)) (AN rfl)) (CP rfl))) DX (.refl _) (λH I=>(Cr (Ss rfl (NT (AN rfl) (LJ (FU (AN rfl) Dz))) rfl) (λJ=>(.same (.same (.same (.same (.same (.same (.same (.drop .nil)))))))))))) (λL=>(.same (.same (.same (.same (.same (.drop (.drop (.same .nil)))))))))))))) (λN=>(Cr (aD 4 rfl rfl (QO rfl)) (λ_=>(.same (.same (.same (.drop (.drop (.same (.same (.same .nil)))))))))))))))) (λO=>(cD rfl)))))
def Kw(A:Int)(B:Int):Option (Fw Int Unit):=
 BJ (some (.nx (1:Int))) λC=>BJ (((some B).bind Nm).bind λl=>E6 l C λ(E:Int) o=>Eg (λG=>G) (((j5 E (A - o)).bind λH=>lC H (o+(1:Int))).bind λI=>some (.nx I))) λm=>some (.rt m)
def Kx(l:Int)(m:Int):Option Int:=Gc (Kw l m)
def QS(W:Wd)(l:Int)(m:Int):VF (IJ W) [.v (D.int l),.v (D.int m)] (rV D.int) (Kx l m):=by
 refine El (B:=λ_=>[]) ?_;unfold K6 Kw;exact(BD (Dy (CP rfl)) (λC=>(BD (Ee (B:=(λ(o:Int)=>[.v (D.int l),.v (D.int m),.v (D.int o),.u])) (Ej (AN rfl)) DX (.refl _) (λE G=>(Cr (Dy (nj (iT (AN rfl) (JT (AN rfl) (AN rfl))) (Fh (AN rfl) (CP rfl)))) (λH=>(.same (.same (.same (.drop .nil)))))))) (λA=>(HD (AN rfl))))))
def Tj(m:(Nat×List ZPi))(l:Int):Option (Fw Int Unit):=
 BJ (((if decide ((1:Int)<=l)=true then some (decide (l<=(m.1:Int)))else some false).bind λo=>some (!o)).bind λA=>if A=true then none else some (.nx ())) λ_=>(Kx (m.1:Int) l).bind λB=>some (.rt B)
def Tp(l:(Nat×List ZPi))(m:Int):Option Int:=Gc (Tj l m)
def aK(W:Wd)(l:(Nat×List ZPi))(m:Int):VF (Og W) [.z ((Lg W) l),.v (D.int m)] (rV D.int) (Tp l m):=by
 refine El (B:=λ_=>[]) ?_;unfold Uh Tj;exact(BD (HF (B:=(λ(_:Unit)=>[.z ((Lg W) l),.v (D.int m)])) (S6 (ID (Yc lW lW (CP rfl) (AN rfl) (JO (D1 rfl))))) aE (HE (.refl _))) (λ_=>(HD (B9 (DK (JO (D1 rfl)) (DK (AN rfl) CL)) (λo=>QS W o.1 o.2.1) (λ_=>rfl) Gr))))
def RK(l:(Nat×List ZPi))(m:Int):Option (Fw (List ZLi) Unit):=
 BJ (((Tp l m).bind λo=>some (decide ((400:Int) < o))).bind λA=>if A=true then none else some (.nx ())) λ_=>(WF (l.1:Int) m).bind λB=>some (.rt B)
def Ia(l:(Nat×List ZPi))(m:Int):Option (List ZLi):=Gc (RK l m)
def Yg(W:Wd)(m:(Nat×List ZPi))(o:Int):VF (J6 W) [.z ((Lg W) m),.v (D.int o)] (rN (oL (eT D.int))) (Ia m o):=by
 refine El (B:=λ_=>[]) ?_;unfold RY RK;exact(BD (HF (B:=(λ(_:Unit)=>[.z ((Lg W) m),.v (D.int o)])) (ID (qy (B9 (OR (D1 rfl) (DK (AN rfl) CL)) (λA=>aK W A.1 A.2.1) (λ_=>rfl) Gr) (CP rfl))) aE (HE (.refl _))) (λ_=>(Ek (B9 (DK (JO (D1 rfl)) (DK (AN rfl) CL)) (λl=>eN W l.1 l.2.1) (λ_=>rfl) Gs))))
structure Fp where
 ev:List ZLi
 kd:Str
 tk:List ZLi
 nu:List (ZLi×Int)
 hv:ZLi
 pb:ZLi
noncomputable abbrev fdF(a b c h k m:Nat)(kd:Str):List (Str×D):=[("everything",.ref a),("kind",.str kd),("takes",.ref b),("numbers",.ref c),("having",.ref h),("place_bits",.ref k),("known",.ref m)]
def Zi(W:Wd)(f:Fp)(L:Nat->Option Ob)(q m:Nat):Prop:=∃a b c h k,L q=some (.ins W.Field (fdF a b c h k m f.kd))/\L a=some (oL (eT D.int) f.ev)/\L b=some (oL (eT D.int) f.tk)/\L c=some (oDR D.int f.nu)/\L h=some (oL D.int f.hv)/\L k=some (oL D.int f.pb)
def Nx(W:Wd)(f:Fp)(L:Nat->Option Ob)(d:D):Prop:=∃q m,d=.ref q/\Zi W f L q m
section
variable{W:Wd}{f:Fp}{P P':Pq}{C:AU}{x:Str}{d:D}{o:Ob}
def AtO.of(h:∀L d,P L d->P' L d)(z:AtO P' C x o):AtO P C x o:=λL d q=>z L d (h L d q)
def AtN.of(h:∀L d,P L d->P' L d)(z:AtN P' C x):AtN P C x:=λL d q=>z L d (h L d q)
def qB:AtV (Nx W f) W.Field "kind" (D.str f.kd):=by rintro L d ⟨q,m,e,a,b,c,h,k,g,_⟩;exact⟨q,_,e,g,rfl⟩
def IS:AtO (Nx W f) W.Field "everything" (oL (eT D.int) f.ev):=by rintro L d ⟨q,m,e,a,b,c,h,k,g,l,_⟩;exact⟨q,_,a,e,g,rfl,l⟩
def UN:AtO (Nx W f) W.Field "takes" (oL (eT D.int) f.tk):=by rintro L d ⟨q,m,e,a,b,c,h,k,g,A,l,_⟩;exact⟨q,_,b,e,g,rfl,l⟩
def bS:AtO (Nx W f) W.Field "numbers" (oDR D.int f.nu):=by rintro L d ⟨q,m,e,a,b,c,h,k,g,A,B,l,_⟩;exact⟨q,_,c,e,g,rfl,l⟩
def gM:AtO (Nx W f) W.Field "having" (oL D.int f.hv):=by rintro L d ⟨q,m,e,a,b,c,h,k,g,A,B,E,l,_⟩;exact⟨q,_,h,e,g,rfl,l⟩
def Ve:AtO (Nx W f) W.Field "place_bits" (oL D.int f.pb):=by rintro L d ⟨q,m,e,a,b,c,h,k,g,A,B,E,G,l⟩;exact⟨q,_,k,e,g,rfl,l⟩
def kz(l:∀a b c h k m kd,(fdF a b c h k m kd).lookup x=none):AtN (Nx W f) W.Field x:=by rintro L d ⟨q,m,e,a,b,c,h,k,g,_⟩;exact⟨q,_,e,g,l ..⟩
end
def KP(m:Fp)(o:Int):Option (Fw ZLi Unit):=
 BJ ((atI m.ev o).bind λA=>some (.nx A)) λB=>(((some (m.tk.length:Int)).bind Nm).bind λC=>EB C (λl=>some (!decide (l∈B))) (λl=>some l)).bind λE=>some (.rt E)
def Gb(l:Fp)(m:Int):Option ZLi:=Gc (KP l m)
def VW(W:Wd)(l:Fp)(m:Int):VF (KZ W) [.q (Nx W l),.v (D.int m)] (rN (oL D.int)) (Gb l m):=by
 refine El (B:=λ_=>[]) ?_;unfold OL KP;exact(BD (Dy (JU (HH IS rfl) (AN rfl))) (λA=>(Ek (B1 (Cg (VI.k (Ej (SE (HH UN rfl)))) (λo=>(ID (W3 EX (AN rfl) (AN rfl)))) (λo=>(AN rfl)))))))
def FQ(m:Fp)(J:Int):Option (Fw Int Unit):=
 BJ ((atI m.ev J).bind λL=>some (.nx L)) λo=>BJ (some (.nx (0:Int))) λN=>BJ (E6 o N λ(O:Int) H=>Eg (λA=>A) ((atI m.tk H).bind λϭ=>E6 ϭ O λ(l:Int) I=>Eg (λB=>B) (if (!decide (I∈o))=true then Eg (λC=>C) (((((J3 o H I).bind λϬ=>some (Cp Ϭ)).bind λP=>An m.nu P).bind λE=>PP (1:Int) E).bind λQ=>some (.nx (Ck l Q)))else some (.nx l)))) λG=>some (.rt G)
def EU(l:Fp)(m:Int):Option Int:=Gc (FQ l m)
def Hs(W:Wd)(m:Fp)(o:Int):VF (DP W) [.q (Nx W m),.v (D.int o)] (rV D.int) (EU m o):=by
 refine El (B:=λ_=>[]) ?_;unfold Hw FQ;exact(BD (Dy (JU (HH IS rfl) (AN rfl))) (λC=>(BD (Dy (CP rfl)) (λO=>(BD (Ee (QP (AN rfl)) DX (.refl _) (λP E=>(Cr (Ee (QP (JU (HH UN rfl) (AN rfl))) DX (.refl _) (λG H=>(Cr (HF (B:=(λ(A:Int)=>[.q (Nx W m),.v (D.int o),.v ((eT D.int) C),.v (D.int A),.v (D.int E),.v (D.int H)])) (ID (W3 EX (AN rfl) (AN rfl))) (Cr (QN rfl (QR (CP rfl) (ie (HH bS rfl) (NS (GJ (QQ (B9 (DK (AN rfl) (DK (AN rfl) (DK (AN rfl) CL))) (λl=>Yf W l.1 l.2.1 l.2.2.1) (λ_=>rfl) Gr))))))) (λI=>(.refl _))) (HE (.refl _))) (λJ=>(.same (.same (.same (.same (.same (.drop .nil)))))))))) (λL=>(.same (.same (.same (.same (.drop (.same .nil)))))))))) (λN=>(HD (AN rfl))))))))
def FR(l:Fp)(G:Int):Option (Fw Int Unit):=
 BJ ((atI l.ev G).bind λH=>some (.nx H)) λI=>BJ (some (.nx (0:Int))) λJ=>BJ (E6 (Dj l.pb) J λ(C:Int) E=>Eg (λm=>m) ((Tq l.tk I E.2).bind λL=>if L=true then Eg (λo=>o) ((PP (1:Int) E.1).bind λA=>some (.nx (Ck C A)))else some (.nx C))) λB=>some (.rt B)
def EV(l:Fp)(m:Int):Option Int:=Gc (FR l m)
def Ht(W:Wd)(m:Fp)(o:Int):VF (DQ W) [.q (Nx W m),.v (D.int o)] (rV D.int) (EV m o):=by
 refine El (B:=λ_=>[]) ?_;unfold Hx FR;exact(BD (Dy (JU (HH IS rfl) (AN rfl))) (λC=>(BD (Dy (CP rfl)) (λJ=>(BD (Ee (nW Ve rfl) nQ (.refl _) (λL A=>(Cr (HF (B:=(λ(E:Int)=>[.q (Nx W m),.v (D.int o),.v ((eT D.int) C),.v (D.int E),.v (D.int A.1),.v (D.int A.2)])) (aI (B9 (OR (HH UN rfl) (DK (AN rfl) (DK (AN rfl) CL))) (λl=>sg W l.1 l.2.1 l.2.2.1) (λ_=>rfl) Gr)) (Cr (QN rfl (QR (CP rfl) (AN rfl))) (λG=>(.refl _))) (HE (.refl _))) (λH=>(.same (.same (.same (.same (.drop (.drop .nil)))))))))) (λI=>(HD (AN rfl))))))))
def LZ(f:Fp)(n:Int):Option Int:=if decide (f.kd = "one")=true then EU f n else EV f n
def Lw(W:Wd)(f:Fp)(L:Nat->Option Ob)(d:D):Prop:=∃q m l,d=.ref q/\Zi W f L q m/\L m=some (.mem l)/\∀n z:Int,0<=n->n < 1000->LZ f n=some z->l (.inl n)=z
section
variable{W:Wd}{f:Fp}{x:Str}{L L':Nat->Option Ob}{qn m:Nat}
theorem Lw.q:∀L d,Lw W f L d->Nx W f L d:=by rintro L d ⟨q,m,l,e,h,_⟩;exact⟨q,m,e,h⟩
def KS:AtO (Lw W f) W.Field "everything" (oL (eT D.int) f.ev):=AtO.of Lw.q IS
def gN:AtO (Lw W f) W.Field "having" (oL D.int f.hv):=AtO.of Lw.q gM
def k9(l:∀a b c h k m kd,(fdF a b c h k m kd).lookup x=none):AtN (Lw W f) W.Field x:=AtN.of Lw.q (kz l)
def Zi.mono(h:∀n o,L n=some o->L' n=some o):Zi W f L qn m->Zi W f L' qn m:=by rintro ⟨a,b,c,d,k,l,A,B,C,E,G⟩;exact⟨a,b,c,d,k,h _ _ l,h _ _ A,h _ _ B,h _ _ C,h _ _ E,h _ _ G⟩
end
abbrev bD(W:Wd):ME:=ZH (mB (m2 (eqD false) (D3 W.Field "kind" (AC 0)) (mC (.str "one")))) (Ms W.Field "linked_by_one" 2 (DP W) (AC 0) (AO (AC 1) BI)) (Ms W.Field "linked_by_all" 2 (DQ W) (AC 0) (AO (AC 1) BI))
def iV(W:Wd)(f:Fp)(n:Int):VE [.q (Nx W f),.v (D.int n)] (bD W) (rV D.int) (LZ f n):=
 aH (ID (N3 dO jy (sd qB rfl) (CP rfl)))
  (PB (kz λ_ _ _ _ _ _ _=>rfl) (λ_ _ h=>h) rfl (DK (AN rfl) CL) (λz=>Hs W f z.1) (λ_=>rfl) Gr)
  (PB (kz λ_ _ _ _ _ _ _=>rfl) (λ_ _ h=>h) rfl (DK (AN rfl) CL) (λz=>Ht W f z.1) (λ_=>rfl) Gr) Gr
def Fm(f:Fp)(n:Int):Option Int:=if 0<=n/\n < 1000 then LZ f n else none
def nz{m o:Type}[DecidableEq m]{l:List (m×o)}{k:m}{v:o}(h:An l k=some v):(k,v)∈l:=by
 unfold An at h
 cases B:l.find? λA=>decide (A.1=k)with
 | none=>ext
 | some x=>
  grind
def bE{W:Wd}{f:Fp}{n z:Int}{S:Sto}{q m:Nat}{J:Key->Int}(Y:0<=n)(hn1:n < 1000)(hz:LZ f n=some z)(hl:J (.inl n)=z)(hC:Zi W f (λk=>S[k]?) q m)(hm:S[m]?=some (.mem J)):rf (JB W) [.ref q,.int n] S m J z:=by
 intro A N;obtain⟨a,b,c,h,k,g0,g1,g2,g3,g4,g5⟩:=hC
 have ne:∀j o,S[j]?=some o->o≠Ob.mem J->j≠m:=λj o E G e=>by
  ext
 have B:(S.set m (.dK A))[m]?=some (.dK A):=Ao (BZ hm)
 have C:∀j o,S[j]?=some o->o≠Ob.mem J->(S.set m (.dK A))[j]?=some o:=λj o E G=>by rw[AZ (Bw (ne j o E G))];exact E
 have H:=C q _ g0 (λz=>nomatch z);have C1:Zi W f (λk=>(S.set m (.dK A))[k]?) q m:=⟨a,b,c,h,k,H,C a _ g1 (λz=>nomatch z),C b _ g2 (λz=>nomatch z),C c _ g3 (λz=>nomatch z),C h _ g4 (λz=>nomatch z),C k _ g5 (λz=>nomatch z)⟩
 have st:∀j,j < S.length->j≠m->(S.set m (.dK A))[j]?=S[j]?:=λj _ Q=>AZ (Bw Q)
 generalize Z:S.set m (.dK A)=S1 at B H C1 st
 have R:∀S2:Sto,S2[q]?=some (.ins W.Field (fdF a b c h k m f.kd))->D3 W.Field "known" (AC 0) [sR q,sI n] S2=.ok (.ref m) S2:=λS2 G=>KW (by rfl) G rfl
 have sq:∀(S2:Sto) l,S2[m]?=some (.dK l)->Ga (.ref m) S2=none:=λS2 l G=>by unfold Ga;ext
 have dg:∀(S2:Sto) l,S2[m]?=some (.dK l)->L6 (.ref m) (.int n) S2=some (An l (.inl n)):=λS2 l G=>by unfold L6;dsimp only;rw[G];try rfl
 have T:mB (m2 (inA true) (AC 1) (D3 W.Field "known" (AC 0))) [sR q,sI n] S1=.ok (!(An A (.inl n)).isSome) S1:=
  Vp (D9 (by rfl) (R S1 H) (UY (sq S1 A B) (dg S1 A B) true))
 cases U:An A (.inl n)with
 | some d=>
  have hd:d=.int z:=by rw[<-hl];exact(N.2 _ (nz U)).2
  subst hd;rw[U]at T;refine⟨S1,A,?_,B,N,st⟩;refine _root_.M.LR ?_;unfold Jn;refine IM (B2 (IM (Gw T) rfl)) ?_;exact LS (D9 (R S1 H) (by rfl) (NB (sq S1 A B) (by rw[dg S1 A B,U])))
 | none=>
  rw[U]at T;have hQ:L3 S1 [.q (Nx W f),.v (D.int n)] [.ref q,.int n]:=⟨λL hL=>⟨q,m,rfl,C1.mono hL⟩,rfl,trivial⟩;obtain⟨d,S2,hE,kS,rfl⟩:=iV W f n z hz S1 _ _ S1 (Vs.start (n:=2) hQ);have y8:=kS.at B;have P:=kS.at H
  have hlen:A.length < sizeLine:=by
   have E:=Iw N.1 λx O=>by
    obtain⟨y,X,rfl⟩:=A9.mp O;exact(N.2 y X).1
   rw[AH]at E
   have G:ZF.length=1000:=by unfold ZF;rw[AH,Km]
   rw[G]at E;exact ZK (Bd E (by decide))
  have nk:Du n∉A.map (·.1):=λO=>by
   have:=(DO A (.inl n)).mpr O
   ext
  have pe:CJ A (.inl n) (D.int z)=A++[(.inl n,D.int z)]:=by
   unfold CJ;rw[qY];intro c;obtain⟨y,X,G⟩:=Lz.mp c;exact nk (A9.mpr ⟨y,X,of_decide_eq_true G⟩)
  have hk2:qj J (A++[(.inl n,D.int z)]):=by
   refine⟨?_,λx O=>?_⟩
   ·rw[BX]
    exact Ff.mpr ⟨N.1,(Ba.mpr ⟨Il,EZ⟩),λx O y X=>by
     grind⟩
   ·rcases Ax.mp O with E | E
    ·exact N.2 x E
    ·rw[Ay.mp E]
     refine⟨?_,by rw[hl]⟩;unfold ZF;exact A9.mpr ⟨n.toNat,CU.mpr (by ext),by show Du ((n.toNat:Nat):Int)=_;rw[BY Y]⟩
  have Θ:Cb (D3 W.Field "known" (AC 0)) (AC 1) (bD W) [sR q,sI n] S1=oN [sR q,sI n] (S2.set m (.dK (A++[(.inl n,D.int z)]))):=by
   unfold Cb;rw[show bD W [sR q,sI n] S1=.ok (.int z) S2 from hE];dsimp only[Res.lift];rw[R S2 P];dsimp only;rw[show AC 1 [sR q,sI n] S2=.ok (.int n) S2 from rfl];dsimp only
   rw[show Qt (.ref m) (.int n) (.int z) S2=some (S2.set m (.dK (A++[(.inl n,D.int z)]))) by
    unfold Qt;dsimp only;rw[y8];show(if A.length < sizeLine then some (S2.set m (.dK (CJ A (Du n) (D.int z))))else none)=_
    ext]
  have I:(S2.set m (.dK (A++[(.inl n,D.int z)])))[m]?=some (.dK (A++[(.inl n,D.int z)])):=Ao (BZ y8)
  have hq3:(S2.set m (.dK (A++[(.inl n,D.int z)])))[q]?=some (.ins W.Field (fdF a b c h k m f.kd)):=by
   rw[AZ]
   ·exact P
   ·lia
  have zx:∀j,j < S.length->j≠m->(S2.set m (.dK (A++[(.inl n,D.int z)])))[j]?=S[j]?:=λj Q za=>by
   rw[AZ (Bw za),kS.2 j (by rw[<-Z,DB];exact Q)];exact st j Q za
  refine⟨_,A++[(.inl n,D.int z)],?_,I,hk2,zx⟩;refine LR ?_;unfold Jn;refine IM (B2 (IM (Gw T) Θ)) ?_;refine LS (D9 (R _ hq3) (by rfl) (NB (sq _ _ I) ?_));rw[dg _ _ I,<-pe,DC,qX rfl]
def TD(W:Wd)(f:Fp)(n:Int):VF (Ha W) [.q (Lw W f),.v (D.int n)] (rV D.int) (Fm f n):=λz l S G H=>by
 match G,H with
 | [d,x],⟨I,J,_⟩=>
  cases J
  obtain⟨q,m,O,rfl,C,E,A⟩:=I (λk=>S[k]?) λ_ _ h=>h
  unfold Fm at l;split at l
  ·rename_i o
   have B:=bE o.1 o.2 l (A n z o.1 o.2 l) C E;refine⟨.int z,S,?_,Keeps.refl S,rfl⟩;unfold Ha qh
   rw[show WL "known" [.ref q,.int n] S=some m by
    obtain⟨a,b,c,h,k,L,_⟩:=C;unfold WL;dsimp only;rw[show S[q]?=_ from L]
    rfl]
   dsimp only;rw[show S[m]?=_ from E];obtain⟨P,Q,R,_⟩:=B [] ⟨EZ,λ_ N=>nomatch N⟩;ext
  ·cases l
def nuS(l:List (ZLi×Int))(x:Int×ZLi):List (ZLi×Int):=CJ l x.2 x.1
noncomputable def hvP(k:Int)(h:ZLi)(p:Int):ZLi:=h.set p.toNat (Ck (h.getD p.toNat 0) (1 * 2 ^ k.toNat))
noncomputable def hvS(h:ZLi)(x:Int×ZLi):ZLi:=x.2.foldl (hvP x.1) h
def nuF(l:List ZLi):List (ZLi×Int):=(Dj l).foldl nuS []
def hv0(n:Nat):ZLi:=(Db 0 n).map λ_=>0
def hvF(n:Nat)(l:List ZLi):ZLi:=(Dj l).foldl hvS (hv0 n)
def NY(w:Nat×List ZPi)(g:Int)(kd:Str):Option Fp:=
 (Ia w g).bind λl=>(LY w).bind λm=>(EB l (λ_=>some true) IH).bind λo=>
  if l.length<=1000/\w.1<=1000/\∀r∈l,∀x∈r,0<=x/\x < (w.1:Int)then some ⟨l,kd,m,nuF l,hvF w.1 l,o⟩else none
structure Fc(W:Wd)(S1:Sto)(fs:List (Str×D))(T:Sto):Prop where
 kp:Keeps S1 T
 at':T[S1.length]?=some (.ins W.Field fs)
section
variable{W:Wd}{S1 T T':Sto}{fs:List (Str×D)}{x:Str}{d:D}{e:Lo}{m:ME}{j:Nat}{o:Ob}
def Fc.put(h:Fc W S1 fs T)(k:Keeps T T'):Fc W S1 (KQ x d fs) (T'.set S1.length (.ins W.Field (KQ x d fs))):=⟨(h.kp.trans k).set (AJ _) _,Ao (BZ (k.at h.at'))⟩
theorem Fc.set(h:Fc W S1 fs T)(l:S1.length < j):Fc W S1 fs (T.set j o):=⟨h.kp.set (Jr l) _,by rw[AZ (EM l)];exact h.at'⟩
def Fc.step(h:Fc W S1 fs T)(l:e[0]?=some (some (.ref S1.length)))(A:m e T=.ok d T')(k:Keeps T T')(B:fs.length < 1000):J1 W.Field x (AC 0) m e T=.ok (.nx e) (T'.set S1.length (.ins W.Field (KQ x d fs))):=SG A (KJ l) (k.at h.at') B
def FV(h:T[j]?=some o)(l:q < j):(T.set q o')[j]?=some o:=by rw[AZ (Au l)];exact h
def Vs.all(h:∀(i:Nat) (a:Sl),A[i]?=some a->∃x,e[i]?=some x/\a.ok T (K9 T) T x):Vs T A e (K9 T) T:=by
 refine⟨Keeps.refl T,λn o q=>?_,λn i q=>?_,λn l=>by unfold K9;ext,h⟩
 ·unfold K9 at q
  lia
 ·unfold K9 at q
  split at q <;> cases q
def bf(h:T[j]?=some o):K9 T j=.fz o:=by unfold K9;rw[h]
def qW(ho:mo e T=.ok (.ref n) T)(hi:mi e T=.ok (.int p) T)(B:mv e T=.ok (.int y) T)(C:T[n]?=some (.lst xs))(E:0<=p)(l:xs[p.toNat]?=some (.int z)):Yu g mo mi mv e T=.ok (.nx e) (T.set n (.lst (xs.set p.toNat (.int (g z y))))):=by
 have A:atL (.ref n) T=some (n,xs):=by unfold atL;dsimp only;rw[C]
 unfold Yu;rw[ho];dsimp only[Res.lift];rw[hi];dsimp only;rw[A];dsimp only;rw[qX E,l];rw[B];dsimp only;rw[A];dsimp only;rw[qX (AB.mp l).1]
end
theorem Xd(k:Int):∀(r h:ZLi),(r.foldl (hvP k) h).length=h.length
 | [],h=>rfl
 | p :: r,h=>by
  show(r.foldl (hvP k) (hvP k h p)).length=_;rw[Xd k r];exact DB
theorem kb:∀(l:List (Int×ZLi)) (h:ZLi),(l.foldl hvS h).length=h.length
 | [],h=>rfl
 | x :: l,h=>by
  show(l.foldl hvS (hvS h x)).length=_;rw[kb l];exact Xd _ _ _
theorem ju:∀(l:List (Int×ZLi)) (h:List (ZLi×Int)),(l.foldl nuS h).length<=h.length+l.length
 | [],h=>AJ _
 | x :: l,h=>by
  have m:=ju l (nuS h x)
  have o:(nuS h x).length<=h.length+1:=by
   unfold nuS CJ;split
   ·simp
   ·ext
  show(l.foldl nuS (nuS h x)).length<=_;rw[Az]
  lia
def gY(l:List m)(i:Nat):(Dj l)[i]?=(l[i]?).map λr=>((i:Int),r):=by
 unfold Dj;rw[AX,N1]
 cases l[i]? <;> simp
noncomputable abbrev eF7(q wn:Nat)(g:Int)(kd:Str)(a b c:Option D):Lo:=[sR q,sR wn,sI g,some (.str kd),a,b,c]
abbrev nlA(W:Wd):MS:=Yu (λa b=>Ck a b) (D3 W.Field "having" (AC 0)) (AC 6) (m2 Ri (mC (.int 1)) (AC 4))
abbrev nlB(W:Wd):MS:=BK (Cb (D3 W.Field "numbers" (AC 0)) (AC 5) (AC 4)) (Em (DM (AC 5)) (tgN 6) (nlA W))
abbrev nlG:MG:=MX 2 (FH (tgN 4) (FH (tgN 5) N5))
abbrev eF8(q wn:Nat)(g:Int)(kd:Str)(i:Nat)(r:ZLi)(z:Option D):Lo:=eF7 q wn g kd (some (.int (i:Int))) (some (eT D.int r)) z
def Y9(W:Wd)(hF:Fc W S1 fs T)(fa:fs.lookup ("everything" : Str)=some (.ref a)) (fc:fs.lookup ("numbers" : Str)=some (.ref c)) (fh:fs.lookup ("having" : Str)=some (.ref h)) (ha:S1.length < a) (hac:a < c) (Ρ:c < h) (Ta:T[a]?=some (oL (eT D.int) l)) (Tc:T[c]?=some (oDR D.int ([]:List (ZLi×Int)))) (Th:T[h]?=some (oL D.int (hv0 n))) (hev:l.length<=1000) (hr:∀r∈l,∀x∈r,0<=x/\x < (n:Int)) :
  ∃o e5 m A,Em (Mw (D3 W.Field "everything" (AC 0))) nlG (nlB W) (eF7 S1.length wn g kd none none none) T=.ok (.nx (eF7 S1.length wn g kd o e5 m)) A /\
   Fc W S1 fs A/\A[c]?=some (oDR D.int (nuF l))/\A[h]?=some (oL D.int (hvF n l))/\∀j,j≠c->j≠h->A[j]?=T[j]?:=by
 have hi:Mw (D3 W.Field "everything" (AC 0)) (eF7 S1.length wn g kd none none none) T=.ok (RA (Hr (.ref a))) T:=by
  unfold Mw;rw[KW (by rfl) hF.at' fa];dsimp only[Res.bind];rw[DT Ta]
 have B:(hv0 n).length=n:=by unfold hv0;rw[AH,CY]
 obtain⟨f,A,E,G⟩:=KU (v:=RA (Hr (.ref a))) (g:=nlG) (b:=nlB W)
  (λi e S=>(∃o e5 m,e=eF7 S1.length wn g kd o e5 m)/\Fc W S1 fs S/\S[c]?=some (oDR D.int (((Dj l).take i).foldl nuS []))/\S[h]?=some (oL D.int (((Dj l).take i).foldl hvS (hv0 n)))/\∀j,j≠c->j≠h->S[j]?=T[j]?)
  (λf S=>∃o e5 m,f=.nx (eF7 S1.length wn g kd o e5 m)/\Fc W S1 fs S/\S[c]?=some (oDR D.int (nuF l))/\S[h]?=some (oL D.int (hvF n l))/\∀j,j≠c->j≠h->S[j]?=T[j]?)
  ⟨⟨_,_,_,rfl⟩,hF,Tc,Th,λ_ _ _=>rfl⟩
  (λi e S I=>by
   obtain⟨_,_,_,_,h5⟩:=I;unfold RA;rw[DT ((h5 a (by lia) (by lia)).trans Ta)]
   exact congrArg some (WX l))
  (λi d e S J I=>by
   obtain⟨⟨o,e5,m,rfl⟩,Y,L,Z,So⟩:=I;rw[AX]at J;obtain⟨⟨k,r⟩,hx,rfl⟩:=D6.mp J;have ϩ:=hx;rw[gY]at ϩ;obtain⟨r0,N,hr2⟩:=D6.mp ϩ;cases hr2;have hrm:=A0 N;have Φ:=(AB.mp N).1
   have tk:(Dj l).take (i+1)=(Dj l).take i++[((i:Int),r)]:=by
    rw[Fe,hx];rfl
   refine⟨eF8 S1.length wn g kd i r m,S,rfl,?_⟩
   have O:Cb (D3 W.Field "numbers" (AC 0)) (AC 5) (AC 4) (eF8 S1.length wn g kd i r m) S=.ok (.nx (eF8 S1.length wn g kd i r m)) (S.set c (oDR D.int (CJ (((Dj l).take i).foldl nuS []) r (i:Int)))):=by
    unfold Cb;rw[show AC 4 (eF8 S1.length wn g kd i r m) S=.ok (.int (i:Int)) S from rfl];dsimp only[Res.lift];rw[KW (by rfl) Y.at' fc];dsimp only;rw[show AC 5 (eF8 S1.length wn g kd i r m) S=.ok (eT D.int r) S from rfl];dsimp only
    rw[lK _ r (i:Int) S c L (by
     have:=ju ((Dj l).take i) [];rw[By]at this;have h0:([]:List (ZLi×Int)).length=0:=rfl
     lia)]
   have P:Fc W S1 fs (S.set c (oDR D.int (CJ (((Dj l).take i).foldl nuS []) r (i:Int)))):=Y.set (by lia);have C:(S.set c (oDR D.int (CJ (((Dj l).take i).foldl nuS []) r (i:Int))))[h]?=some (oL D.int (((Dj l).take i).foldl hvS (hv0 n))):=FV Z Ρ;have Q:(S.set c (oDR D.int (CJ (((Dj l).take i).foldl nuS []) r (i:Int))))[c]?=some (oDR D.int (CJ (((Dj l).take i).foldl nuS []) r (i:Int))):=Ao (BZ L)
   have R:∀j,j≠c->j≠h->(S.set c (oDR D.int (CJ (((Dj l).take i).foldl nuS []) r (i:Int))))[j]?=T[j]?:=λj E G=>by rw[AZ (Bw E)];exact So j E G
   generalize S.set c (oDR D.int (CJ (((Dj l).take i).foldl nuS []) r (i:Int)))=S2 at O P C Q R;generalize hH:((Dj l).take i).foldl hvS (hv0 n)=H at C
   have hHl:H.length=n:=by rw[<-hH,kb,B]
   obtain⟨f,S3,q1,q2⟩:=KU (g:=tgN 6)
    (λj e S=>(∃z,e=eF8 S1.length wn g kd i r z)/\Fc W S1 fs S/\S[h]?=some (oL D.int ((r.take j).foldl (hvP (i:Int)) H))/\∀j,j≠h->S[j]?=S2[j]?)
    (λf S=>∃z,f=.nx (eF8 S1.length wn g kd i r z)/\Fc W S1 fs S/\S[h]?=some (oL D.int (r.foldl (hvP (i:Int)) H))/\∀j,j≠h->S[j]?=S2[j]?)
    ⟨⟨_,rfl⟩,P,C,λ_ _=>rfl⟩ (λ_ _ _ _=>rfl)
    (λj d e S J hJ=>by
     obtain⟨⟨z,rfl⟩,U,Sh3,So3⟩:=hJ;rw[AX]at J;obtain⟨p,O,rfl⟩:=D6.mp J;have hpr:=hr r hrm p (A0 O);refine⟨eF8 S1.length wn g kd i r (some (.int p)),S,rfl,?_⟩
     have hlp:p.toNat < ((r.take j).foldl (hvP (i:Int)) H).length:=by rw[Xd,hHl];ext
     have hsh:m2 Ri (mC (.int 1)) (AC 4) (eF8 S1.length wn g kd i r (some (.int p))) S=.ok (.int (1 * 2 ^ (i:Int).toNat)) S:=by
      refine D9 rfl rfl ?_;unfold Ri L2.intOp;dsimp only;rw[qX (⟨by lia,by lia,by decide⟩)]
     have ha:=qW (g:=λa b=>Ck a b) (mo:=D3 W.Field "having" (AC 0)) (mi:=AC 6) (z:=((r.take j).foldl (hvP (i:Int)) H).getD p.toNat 0) (KW (by rfl) U.at' fh) (by rfl) hsh Sh3 hpr.1 (by
      ext)
     refine⟨_,_,ha,⟨_,rfl⟩,U.set (by lia),?_,λk hk=>by rw[AZ (Bw hk)];exact So3 k hk⟩;rw[Ao (BZ Sh3),Fe,O];show some (Ob.lst _)=some (Ob.lst _);rw[show(some p).toList=[p]from rfl,Hq,mj,Vw];unfold hvP
     rw[List.map_set])
    (λe S hJ=>by
     ext)
   obtain⟨z,rfl,hS4,Sh4,X⟩:=q2;refine⟨_,S3,(B2 O).trans (IM (JA (by rfl)) q1),⟨_,_,_,rfl⟩,hS4,?_,?_,λj E G=>(X j G).trans (R j E G)⟩
   ·rw[X c (by lia),Q,tk,Hq]
    rfl
   ·rw[Sh4,tk,Hq,hH]
    rfl)
  (λe S I=>by
   obtain⟨⟨o,e5,m,rfl⟩,Y,L,Z,So⟩:=I;rw[AH,List.take_length]at L Z
   exact⟨o,e5,m,rfl,Y,L,Z,So⟩)
 obtain⟨o,e5,m,rfl,h3⟩:=G;exact⟨o,e5,m,A,(JA hi).trans E,h3⟩
abbrev y1(a:Nat):List (Str×D):=KQ "everything" (.ref a) []
abbrev y2(a:Nat)(kd:Str):List (Str×D):=KQ "kind" (.str kd) (y1 a)
abbrev y3(a:Nat)(kd:Str)(b:Nat):List (Str×D):=KQ "takes" (.ref b) (y2 a kd)
abbrev y4(a:Nat)(kd:Str)(b c:Nat):List (Str×D):=KQ "numbers" (.ref c) (y3 a kd b)
abbrev y5(a:Nat)(kd:Str)(b c h:Nat):List (Str×D):=KQ "having" (.ref h) (y4 a kd b c)
abbrev y6(a:Nat)(kd:Str)(b c h k:Nat):List (Str×D):=KQ "place_bits" (.ref k) (y5 a kd b c h)
abbrev y7(a:Nat)(kd:Str)(b c h k m:Nat):List (Str×D):=KQ "known" (.ref m) (y6 a kd b c h k)
noncomputable abbrev eF9(S1:Sto)(wn:Nat)(g:Int)(kd:Str):Lo:=eF7 S1.length wn g kd none none none
def lB(W:Wd)(G:NY w g kd=some f)(hw:S1[wn]?=some (Lg W w)) :
  ∃T,Hd W [.ref S1.length,.ref wn,.int g,.str kd] (S1++[.ins W.Field []])=.ok .non T/\Keeps S1 T/\∀L:Nat->Option Ob,(∀n o,S1.length<=n->T[n]?=some o->L n=some o)->Lw W f L (.ref S1.length):=by
 unfold NY at G;obtain⟨E,hev,G⟩:=BC G;obtain⟨U,htk,G⟩:=BC G;obtain⟨pb,hpb,G⟩:=BC G;split at G
 case isFalse=>cases G
 rename_i hg;obtain⟨hg1,hg2,hg3⟩:=hg;cases G;have F0:Fc W S1 [] (S1++[.ins W.Field []]):=⟨Keeps.app _ _,ER _ _⟩
 have l0:(S1++[Ob.ins W.Field []]).length=S1.length+1:=by rw[AY];rfl
 generalize S1++[Ob.ins W.Field []]=T0 at F0 l0;obtain⟨d,U1,c1,k1,a,rfl,ha,hA⟩:=Yg W w g E hev T0 [.ref wn,.int g] ⟨⟨wn,rfl,F0.kp.at hw⟩,rfl,trivial⟩;have m1:CF 2 (J6 W) (AO (AC 1) (AO (AC 2) BI)) (eF9 S1 wn g kd) T0=.ok (.ref a) U1:=(J9 (S1:=T0) rfl rfl).trans c1;have s1:=F0.step (x:="everything") rfl m1 k1 (by decide);have F1:=F0.put (x:="everything") (d:=.ref a) k1
 have N:S1.length < a:=by lia
 have A1:(U1.set S1.length (.ins W.Field (y1 a)))[a]?=some (oL (eT D.int) E):=FV hA N;generalize U1.set S1.length (.ins W.Field (y1 a))=T1 at s1 F1 A1;have s2:=F1.step (x:="kind") (m:=AC 3) (e:=eF9 S1 wn g kd) rfl rfl (Keeps.refl T1) (Bd (AJ 1) (by decide));have F2:=F1.put (x:="kind") (d:=.str kd) (Keeps.refl T1);have A2:(T1.set S1.length (.ins W.Field (y2 a kd)))[a]?=some (oL (eT D.int) E):=FV A1 N;generalize T1.set S1.length (.ins W.Field (y2 a kd))=T2 at s2 F2 A2;obtain⟨d,U3,c3,k3,b,rfl,hb,hB⟩:=aJ W w U htk T2 [.ref wn] ⟨⟨wn,rfl,F2.kp.at hw⟩,trivial⟩;have ab:a < b:=AR (BZ A2) hb;have m3:CF 1 (Lj W) (AO (AC 1) BI) (eF9 S1 wn g kd) T2=.ok (.ref b) U3:=(J9 (S1:=T2) rfl rfl).trans c3;have s3:=F2.step (x:="takes") rfl m3 k3 (Bd (AJ 2) (by decide));have F3:=F2.put (x:="takes") (d:=.ref b) k3;have A3:(U3.set S1.length (.ins W.Field (y3 a kd b)))[a]?=some (oL (eT D.int) E):=FV (k3.at A2) N;have B3:(U3.set S1.length (.ins W.Field (y3 a kd b)))[b]?=some (oL (eT D.int) U):=FV hB (by lia);generalize U3.set S1.length (.ins W.Field (y3 a kd b))=H at s3 F3 A3 B3;have bc:=BZ B3;have m4:Oc (eF9 S1 wn g kd) H=.ok (.ref H.length) (H++[oDR D.int ([]:List (ZLi×Int))]):=rfl;have X:=Keeps.app H [oDR D.int ([]:List (ZLi×Int))];have s4:=F3.step (x:="numbers") (e:=eF9 S1 wn g kd) rfl m4 X (Bd (AJ 3) (by decide));have Q:=F3.put (x:="numbers") (d:=.ref H.length) X;have C3:(H++[oDR D.int ([]:List (ZLi×Int))])[H.length]?=some (oDR D.int ([]:List (ZLi×Int))):=ER _ _;generalize hc:H.length=c at bc s4 Q C3;generalize H++[oDR D.int ([]:List (ZLi×Int))]=U4 at X s4 Q C3;have A4:=FV (o':=.ins W.Field (y4 a kd b c)) (X.at A3) N;have B4:=FV (o':=.ins W.Field (y4 a kd b c)) (X.at B3) (show S1.length < b by lia);have C4:=FV (o':=.ins W.Field (y4 a kd b c)) C3 (show S1.length < c by lia);generalize U4.set S1.length (.ins W.Field (y4 a kd b c))=T4 at s4 Q A4 B4 C4
 have v5:((((some w).bind λx2=>some (x2.1:Int)).bind Nm).bind λl=>EB l (λ_=>some true) (λ_=>some (0:Int)))=some (hv0 w.1):=by
  show((Nm (w.1:Int)).bind λl=>EB l (λ_=>some true) (λ_=>some (0:Int)))=_;rw[NV (by ext) (by lia)];show EB (Db 0 (w.1:Int).toNat) _ _=_;rw[As,E8 (f:=λ_=>(0:Int)) (by rw[CY];lia) λ_ _=>rfl];rfl
 obtain⟨d,U5,m5,Y,h,rfl,hh,hH⟩:=(B1 (Cg (VI.k (Ej (JO (D1 (A:=[.u,.z (Lg W w),.u,.u,.u,.u,.u]) (i:=1) rfl)))) (λ_=>FG) (λ_=>CP (enc:=D.int) (v:=0) (d:=.int 0) rfl))) _ v5 T4 (eF9 S1 wn g kd) _ T4 (Vs.all λi x B=>by
  match i,B with
  | 0,B=>cases B;exact⟨_,rfl,trivial⟩
  | 1,B=>cases B;exact⟨_,rfl,wn,rfl,bf (Q.kp.at hw)⟩
  | 2,B=>cases B;exact⟨_,rfl,trivial⟩
  | 3,B=>cases B;exact⟨_,rfl,trivial⟩
  | 4,B=>cases B;exact⟨_,rfl,trivial⟩
  | 5,B=>cases B;exact⟨_,rfl,trivial⟩
  | 6,B=>cases B;exact⟨_,rfl,trivial⟩
  | n+7,B=>cases B)
 have s5:=Q.step (x:="having") (e:=eF9 S1 wn g kd) rfl m5 Y (Bd (AJ 4) (by decide));have F5:=Q.put (x:="having") (d:=.ref h) Y;have ch:c < h:=AR (BZ C4) hh;have A5:=FV (o':=.ins W.Field (y5 a kd b c h)) (Y.at A4) N;have B5:=FV (o':=.ins W.Field (y5 a kd b c h)) (Y.at B4) (show S1.length < b by lia);have C5:=FV (o':=.ins W.Field (y5 a kd b c h)) (Y.at C4) (show S1.length < c by lia);have H5:=FV (o':=.ins W.Field (y5 a kd b c h)) hH (show S1.length < h by lia);generalize U5.set S1.length (.ins W.Field (y5 a kd b c h))=T5 at s5 F5 A5 B5 C5 H5;obtain⟨Z,e5,e6,T6,s6,F6,C6,H6,O6⟩:=Y9 W (wn:=wn) (n:=w.1) F5 rfl rfl rfl N (by lia) ch A5 C5 H5 hg1 hg3;have A6:=(O6 a (by lia) (by lia)).trans A5;have B6:=(O6 b (by lia) (by lia)).trans B5;have v7:((some E).bind λl=>EB l (λ_=>some true) (λx=>((some x).bind λx=>(some ()).bind λy=>some (x,y)).bind λz=>IH z.1))=some pb:=hpb
 obtain⟨d,U7,m7,R,k,rfl,hk,hK⟩:=(B1 (Cg (VI.k (sO (A:=[.q (λL d=>∃q fs n,d=.ref q/\L q=some (.ins W.Field fs)/\fs.lookup ("everything" : Str)=some (.ref n)/\L n=some (oL (eT D.int) E)),.u,.u,.u,.u,.u,.u]) (i:=0) (l:=E) (enc:=eT D.int) (C:=W.Field) (x:="everything") (λL d h=>h) rfl)) (λ_=>FG) (λx=>B9 (DK (AN (i:=0) rfl) CL) (λz=>eQ W z.1) (λ_=>rfl) Gr))) _ v7 T6 (eF7 S1.length wn g kd Z e5 e6) _ T6 (Vs.all λi x B=>by
  match i,B with
  | 0,B=>cases B;exact⟨_,rfl,.ref S1.length,rfl,λL P=>⟨S1.length,_,a,rfl,P _ _ (bf F6.at'),rfl,P _ _ (bf A6)⟩⟩
  | 1,B=>cases B;exact⟨_,rfl,trivial⟩
  | 2,B=>cases B;exact⟨_,rfl,trivial⟩
  | 3,B=>cases B;exact⟨_,rfl,trivial⟩
  | 4,B=>cases B;exact⟨_,rfl,trivial⟩
  | 5,B=>cases B;exact⟨_,rfl,trivial⟩
  | 6,B=>cases B;exact⟨_,rfl,trivial⟩
  | n+7,B=>cases B)
 have s7:=F6.step (x:="place_bits") (e:=eF7 S1.length wn g kd Z e5 e6) rfl m7 R (Bd (AJ 5) (by decide));have F7:=F6.put (x:="place_bits") (d:=.ref k) R;have zu:h < k:=AR (BZ H6) hk
 have cell:∀{j:Nat} {o:Ob},U7[j]?=some o->S1.length < j->(U7.set S1.length (.ins W.Field (y6 a kd b c h k)))[j]?=some o:=λI h2=>FV I h2
 have A7:=cell (R.at A6) N;have B7:=cell (R.at B6) (by lia);have C7:=cell (R.at C6) (by lia);have H7:=cell (R.at H6) (by lia);have K7:=cell hK (by lia);generalize U7.set S1.length (.ins W.Field (y6 a kd b c h k))=J at s7 F7 A7 B7 C7 H7 K7
 clear cell
 have m8:Jf (eF7 S1.length wn g kd Z e5 e6) J=.ok (.ref J.length) (J++[.dK []]):=rfl;have O:=Keeps.app J [Ob.dK []];have s8:=F7.step (x:="known") (e:=eF7 S1.length wn g kd Z e5 e6) rfl m8 O (Bd (AJ 6) (by decide));have F8:=F7.put (x:="known") (d:=.ref J.length) O;have M7:(J++[Ob.dK []])[J.length]?=some (.dK []):=ER _ _;have km:=BZ K7;generalize J.length=m at s8 F8 M7 km;generalize J++[Ob.dK []]=U8 at O s8 F8 M7
 have cell:∀{j:Nat} {o:Ob},U8[j]?=some o->S1.length < j->(U8.set S1.length (.ins W.Field (y7 a kd b c h k m)))[j]?=some o:=λI h2=>FV I h2
 have A8:=cell (O.at A7) N;have B8:=cell (O.at B7) (by lia);have C8:=cell (O.at C7) (by lia);have H8:=cell (O.at H7) (by lia);have K8:=cell (O.at K7) (by lia);have M8:=cell M7 (by lia);generalize U8.set S1.length (.ins W.Field (y7 a kd b c h k m))=T8 at s8 F8 A8 B8 C8 H8 K8 M8
 clear cell
 have Q8:=F8.at'
 have run:Ka W [.ref S1.length,.ref wn,.int g,.str kd] T0=.ok .non T8:=by
  refine ae (e:=eF7 S1.length wn g kd Z e5 e6) ?_;unfold P2;show(BK _ _) (eF9 S1 wn g kd) T0=_;rw[B2 s1,B2 s2,B2 s3,B2 s4,B2 s5,B2 s6,B2 s7];exact s8
 have C:Zi W ⟨E,kd,U,nuF E,hvF w.1 E,pb⟩ (λk=>T8[k]?) S1.length m:=⟨a,b,c,h,k,Q8,A8,B8,C8,H8,K8⟩
 have lkOk:∀n z:Int,0<=n->n < 1000->LZ ⟨E,kd,U,nuF E,hvF w.1 E,pb⟩ n=some z->LM W [.ref S1.length,.ref wn,.int g,.str kd] T8 (.inl n)=z:=λn z _ _ S=>by
  have hQ:L3 T8 [.q (Nx W ⟨E,kd,U,nuF E,hvF w.1 E,pb⟩),.v (D.int n)] [.ref S1.length,.int n]:=⟨λL P=>⟨_,m,rfl,C.mono P⟩,rfl,trivial⟩;unfold LM;dsimp only;rw[show vH "kind" S1.length T8=some kd by unfold vH;rw[Q8];rfl];unfold LZ at S;dsimp only at S
  by_cases ck:kd = "one"
  ·rw[wX ck,qX rfl]at S
   obtain⟨d,T,I,_,rfl⟩:=Hs W _ n z S T8 _ hQ;rw[qX (congrArg some ck),I];rfl
  ·rw[wY ck,qY Ab]at S
   obtain⟨d,T,I,_,rfl⟩:=Ht W _ n z S T8 _ hQ;rw[qY (λe=>ck (CK e)),I];rfl
 refine⟨T8.set m (.mem (LM W [.ref S1.length,.ref wn,.int g,.str kd] T8)),?_,F8.kp.set (by lia) _,λL P=>⟨S1.length,m,_,rfl,?_,P m _ (by lia) (Ao (BZ M8)),lkOk⟩⟩
 ·unfold Hd pS
  rw[run];dsimp only
  rw[show WL "known" [.ref S1.length,.ref wn,.int g,.str kd] T8=some m by
   unfold WL;dsimp only;rw[Q8]
   rfl]
  dsimp only;rw[M8]
 ·have up:∀{j:Nat} {o:Ob},T8[j]?=some o->S1.length<=j->j < m->L j=some o:=λI h2 h3=>P _ _ h2 (by rw[AZ (EM h3)];exact I)
  exact⟨a,b,c,h,k,up Q8 (AJ _) (by lia),up A8 (by lia) (by lia),up B8 (by lia) (by lia),up C8 (by lia) (by lia),up H8 (by lia) (by lia),up K8 (by lia) (by omega)⟩
def ii{W:Wd}{A:List Sl}{ml:ML}{p:Option ((Nat×List ZPi)×Int×Str×Unit)}(m:VA A ml p (λz=>[.z (Lg W z.1),.v (D.int z.2.1),.v (D.str z.2.2.1)])):VE A (RS W.Field 4 (Hd W) ml) (rQ (Lw W)) (p.bind λz=>NY z.1 z.2.1 z.2.2.1):=λf B C e F S E=>by
 obtain⟨z,G,H⟩:=BC B;obtain⟨I,S1,J,l,N⟩:=m z G C e F S E
 match I,N with
 | [d1,d2,d3],⟨⟨wn,O,hw⟩,P,Q,_⟩=>
  cases O;cases P;cases Q;obtain⟨R,T,U,X⟩:=lB W H hw;exact⟨_,R,cb J rfl T,l.trans U,λL Y=>X L λn o Z=>Y n o (Al l.1 Z)⟩
def Jb(l:Fp)(m:Int)(o:Int):Option (Fw Int Unit):=
 ((Fm l (m,()).1).bind λA=>(atI l.hv o).bind λB=>some (Bq A B)).bind λC=>some (.rt C)
def Fn(l:Fp)(m:Int)(o:Int):Option Int:=Gc (Jb l m o)
def TF(W:Wd)(l:Fp)(m:Int)(o:Int):VF (Jl W) [.q (Lw W l),.v (D.int m),.v (D.int o)] (rV D.int) (Fn l m o):=by
 refine El (B:=λ_=>[]) ?_;unfold NK Jb;exact(HD (SF (PB (k9 λ_ _ _ _ _ _ _=>rfl) (λ_ _ h=>h) rfl (DK (AN rfl) CL) (λA=>TD W l A.1) (λ_=>rfl) Gr) (JU (HH gN rfl) (AN rfl))))
def KM(J:Fp)(L:Int):Option (Fw (List ZPi) Unit):=
 BJ (some (.nx [])) λQ=>BJ ((Ky L).bind λl=>E6 l Q λ(N:(List ZPi)) m=>BJ (((Gb J (m,()).1).bind λo=>EB o (λA=>(((some (m,(A,()))).bind λO=>Fn J O.1 O.2.1).bind λB=>some (Bq B L)).bind λR=>some (decide (R=(0:Int)))) (λA=>some A)).bind λC=>some (.nx C)) λP=>Eg (λE=>E) (if (!P.isEmpty)=true then Eg (λG=>G) ((atI P (0:Int)).bind λS=>(Iv N m S).bind λH=>some (.nx H))else some (.nx N))) λI=>some (.rt I)
def Eu(l:Fp)(m:Int):Option (List ZPi):=Gc (KM l m)
def N4(W:Wd)(l:Fp)(m:Int):VF (IT W) [.q (Lw W l),.v (D.int m)] (rN (oDK D.int)) (Eu l m):=by
 refine El (B:=λ_=>[]) ?_;unfold OI KM;exact(BD (Fv Ya) (λO=>(BD (Ee (MW (B9 (DK (AN rfl) CL) (λE=>V2 W E.1) (λ_=>rfl) Gs)) DX (.refl _) (λP G=>(BD (HC (B1 (Cg (VI.k (MW (PB (k9 λ_ _ _ _ _ _ _=>rfl) Lw.q rfl (DK (AN rfl) CL) (λo=>VW W l o.1) (λ_=>rfl) Gs))) (λH=>(ID (N3 EX Mp (SF (PB (k9 λ_ _ _ _ _ _ _=>rfl) (λ_ _ h=>h) rfl (DK (AN rfl) (DK (AN rfl) CL)) (λC=>TF W l C.1 C.2.1) (λ_=>rfl) Gr) (AN rfl)) (CP rfl)))) (λH=>(AN rfl))))) (λI=>(Cr (HF (B:=(λ(A:(List ZPi))=>[.q (Lw W l),.v (D.int m),.w 2 ((oDK D.int) A),.v (D.int G),.y ((oL D.int) I)])) (nw (Gh rfl)) (Cr (YU rfl (AN rfl) (JU (Gh rfl) (CP rfl)) rfl) (λJ=>(.refl _))) (HE (.refl _))) (λL=>(.same (.same (.same (.drop (.drop .nil))))))))))) (λN=>(O9 rfl)))))
def Tl(m:Fp):Option (Fw (List (Int×ZPi)) Unit):=
 BJ (some (.nx [])) λO=>BJ (((PP (1:Int) (m.ev.length:Int)).bind λP=>some (P - (1:Int))).bind λQ=>some (.nx Q)) λL=>BJ (some (.nx (1:Int))) λo=>BJ ((Eu m L).bind λA=>some (.nx A)) λB=>BJ (whF (λ(l:(List (Int×ZPi))×Int×Int×(List ZPi))=>some (!l.2.2.2.isEmpty)) (λ(l:(List (Int×ZPi))×Int×Int×(List ZPi))=>BJ (E6 (l.2.2.2.map (·.1)) (l.1,l.2.1) λ(N:(List (Int×ZPi))×Int) C=>BJ (((An l.2.2.2 C).bind λR=>some (l.2.2.1,R)).bind λS=>(Iv N.1 C S).bind λϭ=>some (.nx ϭ)) λT=>Eg (λE=>(T,E)) ((PP (1:Int) C).bind λU=>some (.nx (E3 N.2 U)))) λG=>BJ (some (.nx (l.2.2.1+(1:Int)))) λϮ=>Eg (λH=>(G.1,G.2,Ϯ,H)) ((Eu m G.2).bind λI=>some (.nx I))) wN (O,L,o,B)) λJ=>some (.rt J.1)
def Pd(l:Fp):Option (List (Int×ZPi)):=Gc (Tl l)
def il(W:Wd)(C:Fp):VF (UR W) [.q (Lw W C)] (rN (oDK (eP D.int D.int))) (Pd C):=by
 refine El (B:=λ_=>[]) ?_;unfold Zf Tl;exact(BD (Fv Ya) (λN=>(BD (Dy (JT (QR (CP rfl) (SE (HH KS rfl))) (CP rfl))) (λO=>(BD (Dy (CP rfl)) (λG=>(BD (Fv (B9 (eM (λ_ _ h=>h) rfl (DK (AN rfl) CL)) (λm=>N4 W m.1 m.2.1) (λ_=>rfl) Gs)) (λH=>(BD (Sr (B:=(λ(l:(List (Int×ZPi))×Int×Int×(List ZPi))=>[.q (Lw W C),.w 1 ((oDK (eP D.int D.int)) l.1),.v (D.int l.2.1),.v (D.int l.2.2.1),.w 4 ((oDK D.int) l.2.2.2),.u])) (.refl _) (λE=>(ij (IN rfl))) (λE=>(BD (wb 4 rfl rfl (Ee (B:=(λ(o:(List (Int×ZPi))×Int)=>[.q (Lw W C),.w 1 ((oDK (eP D.int D.int)) o.1),.v (D.int o.2),.v (D.int E.2.2.1),.y ((oFK D.int) E.2.2.2),.u])) (sM rfl) DX (.refl _) (λP Q=>(BD (YU rfl (AN rfl) (LK (AN rfl) (eJ (Gh rfl) (AN rfl))) rfl) (λR=>(Cr (QN rfl (QR (CP rfl) (AN rfl))) (λI=>(.same (.same (.same (.same (.same (.drop .nil))))))))))))) (λS=>(BD (QN rfl (CP rfl)) (λϮ=>(Cr (Fv (B9 (eM (λ_ _ h=>h) rfl (DK (AN rfl) CL)) (λA=>N4 W A.1 A.2.1) (λ_=>rfl) Gs)) (λJ=>(.refl _))))))))) (λL=>(O9 rfl)))))))))))
def JZ(m:Fp)(o:(List (Int×ZPi))):Option (Fw Int Unit):=
 ((((some (m.ev.length:Int)).bind Nm).bind λA=>EB A (λl=>some (!(An o l).isSome)) (λl=>PP (1:Int) l)).bind λB=>some (VX B)).bind λC=>some (.rt C)
def HN(l:Fp)(m:(List (Int×ZPi))):Option Int:=Gc (JZ l m)
def TB(W:Wd)(l:Fp)(m:(List (Int×ZPi))):VF (Jj W) [.q (Lw W l),.z ((oDK (eP D.int D.int)) m)] (rV D.int) (HN l m):=by
 refine El (B:=λ_=>[]) ?_;unfold NH JZ;exact(HD (iP (GJ (B1 (Cg (VI.k (Ej (SE (HH KS rfl)))) (λo=>(ID (YZ (AN rfl) (D1 rfl)))) (λo=>(QR (CP rfl) (AN rfl))))))))
def Qb(J:(Nat×List ZPi))(L:Int)(N:Str):Option (Fw (List ZLi) Unit):=
 BJ (((some (J,(L,(N,())))).bind λm=>NY m.1 m.2.1 m.2.2.1).bind λO=>some (.nx O)) λo=>(((((((Pd o).bind λA=>some (A,())).bind λB=>some (o,B)).bind λl=>HN l.1 l.2.1).bind λC=>some (C,())).bind λE=>Ky E.1).bind λG=>EB G (λI=>some true) (λI=>atI o.ev I)).bind λH=>some (.rt H)
def NX(l:(Nat×List ZPi))(m:Int)(o:Str):Option (List ZLi):=Gc (Qb l m o)
def eO(W:Wd)(A:(Nat×List ZPi))(C:Int)(E:Str):VF (Qr W) [.z ((Lg W) A),.v (D.int C),.v (D.str E)] (rN (oL (eT D.int))) (NX A C E):=by
 refine El (B:=λ_=>[]) ?_;unfold Wi Qb;exact(BD (cC (ii (OR (D1 rfl) (DK (AN rfl) (DK (AN rfl) CL))))) (λH=>(Ek (B1 (Cg (VI.k (MW (B9 (DK (B9 (eM (λ_ _ h=>h) rfl (OR (GJ (B9 (eM (λ_ _ h=>h) rfl CL) (λm=>il W m.1) (λ_=>rfl) Gs)) CL)) (λl=>TB W l.1 l.2.1) (λ_=>rfl) Gr) CL) (λo=>V2 W o.1) (λ_=>rfl) Gs))) (λG=>FG) (λG=>(JU (HH KS rfl) (AN rfl))))))))
open L2
def jv(h:x.1 < x.2):nrm x=x:=by
 unfold nrm;rw[qY (by lia),qX (by omega)]
def jw(x:Int×Int):nrm (x.2,x.1)=nrm x:=by
 unfold nrm;dsimp only
 congr 1
 ·split <;> split <;> lia
 ·split <;> split <;> lia
def jB(h:l.Perm l'):JW l=JW l':=QX ((Dk l).trans (h.trans (Dk l').symm)) (PM l) (PM l')
def oA(h:(l.map nrm).Perm (qs.map nrm)):GM l=GM qs:=by
 unfold GM LO;have:=h.map XI;rw[BF,BF]at this;rw[show(λx=>XI (nrm x))=XI∘nrm from rfl,jB this]
def Fs.of(h:(ps.map nrm).Perm (l.map nrm))(f:Fs p l):Fs p ps:=by
 refine⟨λx m=>?_,h.nodup_iff.mpr f.2⟩;obtain⟨y,o,e⟩:=A9.mp (h.mem_iff.mp (dr m));have:=f.1 y o;unfold Fit at this ⊢;rw[<-e];exact this
def nr(ts:List ZPi)(x:Nat):ZLi:=Cp (Ef ts x)
def av:z∈nr ts x↔((x:Int),z)∈ts∨(z,(x:Int))∈ts:=by
 unfold nr;rw[(Et _).mem_iff];unfold Ef
 grind
open L2 L4
def Uc(l:ZLi)(k:Nat):CB l (k:Int)=some (l.getD k 0):=by
 unfold CB Ja
 by_cases c:k < l.length
 ·rw[wX (by ext),qX rfl,JC (by lia) (by rw[As];exact AM c)]
  simp only[AF,lg,cW]
  ext
 ·rw[wY (by ext),qY Ab]
  simp only[Bj,cW]
  ext
def prs(o:Nat):List ZPi:=(HP o).getD []
def WE:∀o:Nat,o < 8->HP o=some (prs o)/\(∀x∈prs o,0<=x.1/\x.1 < x.2/\x.2 < o)/\(prs o).Nodup/\(prs o).length<=21/\(2<=o->prs o≠[])/\∀y:Nat,y < 7->((prs o).filter λx=>decide ((y:Int)∈[x.1,x.2])).length<=6:=by decide +kernel
def gU:∀o:Nat,o < 8->∀s:Nat,s < 6->∃fs,Eo o s=some fs/\fs.length<=21:=by
 have h:∀o:Nat,o < 8->∀s:Nat,s < 6->(match Eo o s with | some fs=>decide (fs.length<=21) | none=>false)=true:=by decide +kernel
 intro o l s m;have:=h o l s m
 cases q:Eo o s with
 | none=>ext
 | some fs=>ext
def RM[DecidableEq l](m:List (l×o))(k:l)(v:o):(CJ m k v).length<=m.length+1:=by
 unfold CJ;split
 ·rw[AH];ext
 ext
def sj(A:ZLi)(Ζ:A.length<=63)(f:Nat)(hf:f<=1000){o:Nat}(h2:2<=o)(ho:o < 8):∃P,Ib A f o=some ((prs o).filter P):=by
 obtain⟨e1,-,-,hl,za,-⟩:=WE o ho;obtain⟨fs,e2,I⟩:=gU o ho (A.getD 0 0 / 7 % 6).toNat (by lia);rw[BY (by lia)]at e2;unfold Ib Mj;rw[e1,show CB A 0=some (A.getD 0 0)from Uc A 0];simp only[AF,Bj];rw[e2];simp only[AF]
 obtain⟨s1,e3,l1⟩:=SS (l:=fs) (s0:=([]:List (ZPi×Bool))) (q:=λzz Z'=>Eg (λJ=>J) ((Iv zz Z' true).bind λL=>some (.nx L))) (λm s=>s.length<=m.length) (AJ _) (by
  intro m x s hx N hs;have:=N.length_le;rw[AY,Aq]at this;refine⟨CJ s x true,?_,?_⟩
  ·rw[show Iv s x true=some (CJ s x true)from qX (by lia)]
   rfl
  ·rw[AY,Aq]
   exact Al (RM _ _ _) (by ext))
 rw[e3];simp only[Bj];rw[oS (by lia) (by lia) (by split <;> ext) (by split <;> lia)]
 have zh:0 < ((prs o).length:Int):=by have:=du.mpr (za h2);ext
 obtain⟨O,e4,-⟩:=SS (l:=Db (f:Int) ((if (63:Int) < (A.length:Int)then(63:Int)else(A.length:Int)) - (f:Int)).toNat) (q:=λC Q=>BJ (((atI A Q).bind λR=>az R ((prs o).length:Int)).bind (λS=>atI (prs o) S) |>.bind λT=>some (.nx T)) λE=>Eg (λU=>U) ((if (!(An C E).isSome)=true then some true else(An C E).bind λG=>some (!G)).bind λX=>(Iv C E X).bind λY=>some (.nx Y))) (λm s=>s.length<=21+m.length) (Al l1 I) (by
  intro m x s hx N hs;have B:=N.length_le;rw[AY,Aq,CY]at B;obtain⟨hx1,Z⟩:=Cu.mp hx;obtain⟨y,ey,-⟩:=bd (l:=A) (i:=x) (by lia) (by split at Z <;> lia);rw[ey];simp only[AF];rw[XW zh];simp only[AF];obtain⟨t,et,-⟩:=dZ y (za h2);rw[et];simp only[AF,Bj]
  have hb:∃b,(if (!(An s t).isSome)=true then some true else(An s t).bind λG=>some (!G))=some b:=by
   cases An s t with
   | none=>decide
   | some b=>exact⟨!b,rfl⟩
  obtain⟨b,hb⟩:=hb;rw[hb];simp only[AF];refine⟨CJ s t b,?_,?_⟩
  ·rw[show Iv s t b=some (CJ s t b)from qX (by split at B <;> lia)]
   rfl
  ·rw[AY,Aq]
   exact Al (RM _ _ _) (by lia))
 refine⟨λx=>match An O x with | some b=>b | none=>false,?_⟩;have H:=e4;simp only[Option.bind_assoc,AF]at H ⊢;rw[H];simp only[Bj]
 rw[IK (P:=λx=>match An O x with | some b=>b | none=>false) (by lia) (by
  intro x _
  cases An O x with
  | none=>rfl
  | some b=>rfl)]
 rfl
structure JK(o:Nat)(ts:List ZPi):Prop where
 rg:∀x∈ts,0<=x.1/\x.1 < x.2/\x.2 < o
 nd:ts.Nodup
 ln:ts.length<=21
 dg:∀y:Nat,y < 7->(ts.filter λx=>decide ((y:Int)∈[x.1,x.2])).length<=6
def oC(ho:o < 8)(P:Int×Int->Bool):JK o ((prs o).filter P):=by
 obtain⟨-,l,m,A,-,B⟩:=WE o ho;refine⟨λx C=>l x (BH.mp C).1,m.filter _,Al (Ca _ _) A,λy E=>?_⟩;refine Al ?_ (B y E);exact(yo _ dv).length_le
def kh(l:ZLi)(m:ts.length<=1000):∃hs,IQ l ts=some hs/\(hs=ts∨hs=ts.reverse.map λx=>(x.2,x.1)):=by
 unfold IQ KN;rw[show CB l 0=some (l.getD 0 0)from Uc l 0];simp only[AF]
 by_cases c:l.getD 0 0 / 42 % 2=0
 ·rw[wX c,qX rfl]
  exact⟨ts,rfl,.inl rfl⟩
 ·rw[wY c,qY Ab]
  rw[E8 (by rw[List.length_reverse];lia) λx _=>rfl];exact⟨_,rfl,.inr rfl⟩
theorem JK.nrm(h:JK o ts):ts.map nrm=ts:=by
 conv=>rhs;rw[<-Si ts]
 exact D7 λx l=>jv (h.rg x l).2.1
def JK.fit(h:JK o ts):Fs o ts:=by
 refine⟨λx l=>?_,by rw[h.nrm];exact h.nd⟩;have:=h.rg x l;unfold Fit;rw[jv this.2.1];grind
def JK.mem(h:JK o ts):t∈GM ts↔t∈ts:=by
 rw[(QU ts).mem_iff,h.nrm]
def JK.web(h:JK o ts)(A:1<=o)(ho:o<=60)(e:hs=ts∨hs=ts.reverse.map λx=>(x.2,x.1)):iL (o:Int) hs=some (o,GM ts):=by
 have l:(hs.map M.nrm).Perm (ts.map M.nrm):=by
  rcases e with rfl | rfl
  ·rfl
  ·rw[BF,show(M.nrm∘λx:Int×Int=>(x.2,x.1))=M.nrm from funext λx=>jw x,List.map_reverse]
   ext
 have m:hs.length=ts.length:=by have:=l.length_eq;rwa [AH,AH]at this
 unfold iL;rw[qX ⟨by lia,by lia,Fs.of l h.fit,by rw[m];have:=h.ln;lia⟩,oA l,As]
def j0{o:Nat}{us:List ZPi}{g:Int}(l:0<=g)(m:g < o):atI (Qj o us) g=some (nr us g.toNat):=by
 refine JC l ?_;unfold Qj;rw[AX,D8 (by ext)];rfl
def uS{o:Nat}{us:List ZPi}{g:Int}(l:0<=g)(m:g < o):XN (o,us) g=some (nr us g.toNat):=by
 unfold XN ah HM HJ;rw[wX l,qX rfl,wX m];rw[j0 l m];rfl
noncomputable def lnr(ts:List ZPi)(y:Int):ZLi:=(ts.filter λx=>decide (y∈[x.1,x.2])).map λx=>x.1+x.2 - y
def cn(L:ts.length<=1000)(y:Int):Ie ts y=some (Cp (lnr ts y)):=by
 unfold Ie Ml;simp only[AF,qJ (show([]:ZLi).length<=1000000 by decide),Bj]
 obtain⟨s,e,rfl⟩:=SS (l:=ts) (s0:=([]:ZLi)) (q:=λB o=>Eg (λA=>A) (if decide (y∈[o.1,o.2])=true then Eg (λC=>C) ((Vj B (o.1+o.2 - y)).bind λE=>some (.nx E))else some (.nx B))) (λm s=>s=lnr m y) rfl (by
  rintro m x s N G rfl;have H:=G.length_le;rw[AY,Aq]at H
  have I:(lnr m y).length<=m.length:=by unfold lnr;rw[AH];exact Ca _ _
  have J:lnr (m++[x]) y=if decide (y∈[x.1,x.2])=true then lnr m y++[x.1+x.2 - y]else lnr m y:=by
   unfold lnr;rw[RW];split
   ·rw[BX];rfl
   ·rfl
  rw[J]
  cases c:decide (y∈[x.1,x.2])with
  | true=>
   rw[qX rfl,qX rfl,X0 (by lia)];exact⟨_,rfl,rfl⟩
  | false=>exact⟨_,rfl,rfl⟩)
 rw[e];rfl
def cm:z∈lnr ts y↔(y,z)∈ts∨(z,y)∈ts:=by
 unfold lnr;rw[A9]
 constructor
 ·grind
 ·rintro(h | h)
  ·exact⟨_,BH.mpr ⟨h,wX (by simp)⟩,by lia⟩
  ·exact⟨_,BH.mpr ⟨h,wX (by simp)⟩,by ext⟩
def E4:x∈Cp l↔x∈l:=(Et l).mem_iff
def JK.near(h:JK o ts)(l:0<=g)(z:Int):z∈nr (GM ts) g.toNat↔z∈Cp (lnr ts g):=by
 rw[av,E4,cm,h.mem,h.mem,BY l]
def jr:∀n:Nat,n < 128->∀x:Nat,x < 7->Ck (n:Int) (1 * 2 ^ x)=((n ||| 2 ^ x:Nat):Int)/\(n ||| 2 ^ x) < 128/\∀y:Nat,y < 7->(n ||| 2 ^ x).testBit y=(n.testBit y||decide (x=y)):=by decide +kernel
def fB:∀x:Nat,x < 8->PP 1 (x:Int)=some (1 * 2 ^ x):=by decide +kernel
def vW(h:∀x∈l,0<=x/\x < 7):Ok (IH l) λr=>∃n:Nat,r=n/\n < 128/\∀y:Nat,y < 7->(n.testBit y=true↔(y:Int)∈l):=by
 unfold IH Qd;simp only[AF,Bj];refine OkF.out (OkF.seq (OkF.for (λm (s:Int)=>∃n:Nat,s=n/\n < 128/\∀y:Nat,y < 7->(n.testBit y=true↔(y:Int)∈m)) ⟨0,rfl,by decide,λy _=>by simp⟩ ?_) ?_)
 ·rintro m x s B L ⟨n,rfl,C,o⟩
  obtain⟨N,O⟩:=h x B
  obtain⟨k,rfl⟩:∃k:Nat,x=k:=⟨x.toNat,by lia⟩
  rw[fB k (by lia)];obtain⟨E,G,H⟩:=jr n C k (by lia);refine .nx ⟨n ||| 2 ^ k,E,G,λy A=>?_⟩;rw[H y A,MU,o y A,Ax,Ay,decide_eq_true_eq];refine⟨λq=>q.elim .inl λq=>.inr (by rw[q]),λq=>q.elim .inl λq=>.inr (by lia)⟩
 ·rintro s ⟨n,rfl,I,J⟩
  exact .rt ⟨n,rfl,I,J⟩
def Tg(us:List ZPi)(g:Int):ZLi:=Cp ([g]++nr us g.toNat)
def tkl(o:Nat)(us:List ZPi):List ZLi:=(Db 0 o).map (Tg us)
def qz{o:Nat}{us:List ZPi}{g:Int}(l:0<=g)(m:g < o):atI (tkl o us) g=some (Tg us g):=by
 refine JC l ?_;unfold tkl Db;rw[AX,AX,D8 (by lia)];show some (Tg us (0+(g.toNat:Int)))=_;rw[show(0:Int)+(g.toNat:Int)=g by lia]
def iw{o:Nat}{us:List ZPi}{g:Int}(l:0<=g)(m:g < o):Tk (tkl o us) g=Tg us g:=by
 unfold Tk;rw[qz l m];rfl
structure L7(o:Nat)(us:List ZPi):Prop where
 sm:o < 8
 len:∀g:Int,0<=g->g < o->(nr us g.toNat).length<=6
 rg:∀g:Int,0<=g->g < o->∀x∈nr us g.toNat,0<=x/\x < o/\x≠g
 nd:∀g:Int,0<=g->g < o->(nr us g.toNat).Nodup
section
variable{o:Nat}{us:List ZPi}
def Ul:x∈Tg us g↔x=g∨x∈nr us g.toNat:=by
 unfold Tg;rw[E4];simp
def L7.tg(h:L7 o us){g:Int}(l:0<=g)(m:g < o):(Tg us g).length<=7/\(∀x∈Tg us g,0<=x/\x < o)/\(Tg us g).Pairwise (· < ·):=by
 refine⟨?_,λx A=>?_,?_⟩
 ·unfold Tg
  rw[(Et _).length_eq,AY,Aq];have:=h.len g l m
  lia
 ·rcases Ul.mp A with rfl | A
  ·ext
  ·exact⟨(h.rg g l m x A).1,(h.rg g l m x A).2.1⟩
 ·have B:(Tg us g).Nodup:=by
   unfold Tg;rw[(Et _).nodup_iff];show(g :: nr us g.toNat).Nodup;rw[Ba];exact⟨λz=>(h.rg g l m g z).2.2 rfl,h.nd g l m⟩
  have:=(TR ([g]++nr us g.toNat))
  exact(Vz this B).imp λ⟨a,b⟩=>by lia
def oE(h:L7 o us):LY (o,us)=some (tkl o us):=by
 unfold LY OT;simp only[AF];rw[NV (by lia) (by have:=h.sm;lia),As];simp only[AF]
 rw[E8 (by rw[CY];have:=h.sm;lia) λx m=>by
  obtain⟨l,A⟩:=Cu.mp m;rw[uS l (by ext),vJ];simp only[AF];rw[Nf (by have:=h.len x l (by lia);rw[Aq];lia)]
  rfl]
 rfl
theorem YQ(f:Int->Int):∀l:ZLi,l.zip (l.map f)=l.map λg=>(g,f g)
 | []=>rfl
 | x :: l=>by rw[Ap,Jt,YQ f l];rfl
def nG{a b:ZLi}{x y z:Int}(A:b.Nodup)(B:(x,z)∈a.zip b)(C:(y,z)∈a.zip b):x=y:=by
 obtain⟨i,E,l⟩:=CW B;obtain⟨j,G,m⟩:=CW C;rw[JM]at E G;rw[Lx]at l m;have H:=(qo l);have I:=(qo m);have:i=j:=(R8 A).mp (H.2.trans I.2.symm)
 ext
end
open L2 L4
open Srt (ltL)
theorem ZJ:∀a:ZLi,ltL a a=false
 | []=>rfl
 | x :: a=>by unfold ltL;rw[qX rfl];exact ZJ a
section
variable{o:Nat}{us:List ZPi}
def gp(us:List ZPi)(gs:ZLi)(c:Int)(r:ZLi):Prop:=r.length=gs.length/\r.Nodup/\(∀y∈gs.zip r,y.2∈Tg us y.1)/\c∈r
def gp.rg(h:L7 o us){gs r:ZLi}{c:Int}(A:∀g∈gs,0<=g/\g < o)(l:gp us gs c r):∀x∈r,0<=x/\x < o:=λx B=>by
 obtain⟨i,C,rfl⟩:=CW B
 have E:i < gs.length:=by rw[<-l.1];exact C
 have m:(gs[i],r[i])∈gs.zip r:=by
  have:(gs.zip r)[i]'(by rw[JM];grind)=(gs[i],r[i]):=Lx;rw[<-this];exact CD _
 have:=A gs[i] (CD _);exact(h.tg this.1 this.2).2.1 _ (l.2.2.1 _ m)
end
def uu:∀n:Nat,n < 128->∀x:Nat,x < 7->hb (n:Int) (x:Int)=n.testBit x:=by decide +kernel
abbrev bit(n:Nat)(x:Int):Prop:=n.testBit x.toNat=true
def InS(us:List ZPi)(gs:ZLi)(P:Int->Prop)(r:ZLi):Prop:=r.length=gs.length/\r.Nodup/\(∀y∈gs.zip r,y.2∈Tg us y.1)/\∀x∈r,P x
section
variable{o:Nat}{us:List ZPi}{gs rest:ZLi}{P Q:Int->Prop}{g:Int}{n:Nat}
def InS.rg(h:L7 o us)(B:∀g∈gs,0<=g/\g < o)(l:InS us gs P r):∀x∈r,0<=x/\x < o:=λx C=>by
 obtain⟨i,E,rfl⟩:=CW C;have G:=l.1
 have m:(gs[i]'(by lia),r[i])∈gs.zip r:=by
  have:(gs.zip r)[i]'(by rw[JM];grind)=(gs[i]'(by lia),r[i]):=Lx;rw[<-this];exact CD _
 have A:=B _ (CD (show i < gs.length by lia));exact(h.tg A.1 A.2).2.1 _ (l.2.2.1 _ m)
def InS.imp(l:InS us gs P r)(i:∀x∈r,P x->Q x):InS us gs Q r:=⟨l.1,l.2.1,l.2.2.1,λx m=>i x m (l.2.2.2 x m)⟩
def tO(h:L7 o us)(I:n < 128)(B:∀g∈rest,0<=g/\g < o)(J:rest.Nodup):Sdr (Tk (tkl o us)) (n:Int) rest↔∃r,InS us rest (bit n) r:=by
 have T:=h.sm
 have hw:∀g∈rest,∀x,x∈w0 (Tk (tkl o us)) (n:Int) g↔x∈Tg us g/\bit n x:=λg m x=>by
  unfold w0;rw[BH,iw (B g m).1 (B g m).2]
  refine and_congr_right λa=>?_
  have:=(h.tg (B g m).1 (B g m).2).2.1 x a
  obtain⟨k,rfl⟩:∃k:Nat,x=k:=⟨x.toNat,by lia⟩
  unfold bit;rw[uu n I k (by lia),As]
 constructor
 ·rintro⟨f,L,N⟩
  refine⟨rest.map f,AH _,?_,λy G=>?_,λx U=>?_⟩
  ·unfold Jv
   rw[Bb]
   exact J.imp_of_mem λ{a b} E A ne e=>ne (N a E b A e)
  ·rw[YQ]at G
   obtain⟨g,m,rfl⟩:=A9.mp G;exact((hw g m _).mp (L g m)).1
  grind
 ·rintro⟨l,X,O,R,S⟩
  have ex:∀a:Int,∃z:Int,a∈rest->(a,z)∈rest.zip l:=λa=>by
   by_cases q:a∈rest
   ·obtain⟨i,Y,e⟩:=CW q
    refine⟨l[i]'(by ext),λ_=>?_⟩
    have:(rest.zip l)[i]'(by rw[JM];ext)=(a,l[i]'(by lia)):=by rw[Lx,e]
    rw[<-this];exact CD _
   ext
  have C:=λa=>LH (ex a)
  refine⟨λa=>Hm (ex a),λg m=>(hw g m _).mpr ⟨R _ (C g m),S _ (MQ (C g m)).2⟩,λa E b A e=>?_⟩;have e:Hm (ex a)=Hm (ex b):=e;have H:=C a E;rw[e]at H;exact nG O H (C b A)
def vI(h:L7 o us)(G:n < 128)(m:∀g∈rest,0<=g/\g < o)(C:rest.Nodup):Ok (Tq (tkl o us) rest (n:Int)) λb=>b=true↔∃r,InS us rest (bit n) r:=by
 have L:=h.sm
 have E:((tkl o us).length:Int)=o:=by unfold tkl;rw[AH,CY]
 have H:(∀t∈tkl o us,t.length<=1000/\∀x∈t,0<=x)/\∀g∈rest,0<=g/\g < ((tkl o us).length:Int):=by
  refine⟨λt B=>?_,λg l=>by ext⟩;obtain⟨g,l,rfl⟩:=A9.mp B;obtain⟨I,N⟩:=Cu.mp l;have:=h.tg I (by lia);exact⟨by omega,λx A=>(this.2.1 x A).1⟩
 have fs:=gP (T:=Tk (tkl o us)) (bits:=(n:Int)) (U:=Db 0 o) (n:=9) (λg l x A=>by
  rw[iw l.1 l.2]at A;have:=(h.tg l.1 l.2).2.1 x A
  exact Cu.mpr ⟨this.1,by ext⟩) (by rw[CY];lia) (by rw[CY];lia) (λg l=>⟨m g l,by rw[iw (m g l).1 (m g l).2];exact Ul.mpr (.inl rfl)⟩) C
 have J:Tq (tkl o us) rest (n:Int)=WT (Tk (tkl o us)) (n:Int) 9 rest:=qX H;rw[J]
 exact fs.imp λb hb=>hb.trans (tO h G m C)
end
end M
namespace L4
theorem W0{ρ l:Type}{c:l->Option Bool}{q:l->Option (Fw ρ l)}(I:l->Prop)(m:l->Nat)(h:∀s,I s->c s=some false∨(c s=some true/\∃s',q s=some (.nx s')/\I s'/\m s' < m s)) :
  ∀(n:Nat) (s:l),I s->m s < n->∃s',whF c q n s=some (.nx s')/\I s'/\c s'=some false
 | 0,s,_,o=>zX o (NQ _)
 | n+1,s,B,o=>by
  unfold whF
  rcases h s B with A | ⟨A,s',C,E,G⟩
  ·ext
  ·rw[A]
   rw[C];exact W0 I m h n s' E (by lia)
end L4
namespace M
open L2 L4
def SX(a b:Nat):Bq (a:Int) (b:Int)=((a &&& b:Nat):Int):=by
 rfl
def XO(a b:Nat):Ck (a:Int) (b:Int)=((a ||| b:Nat):Int):=by
 unfold Ck Bq iJ;rw[wY (by lia),wY (by lia)];rw[show(-(-(a:Int) - 1) - 1).toNat=a by lia,show(-(-(b:Int) - 1) - 1).toNat=b by lia]
 lia
def jq:∀a b:Nat,(a ||| b)=(a ^^^ b)+(a &&& b):=by
 intro a
 induction a using qq with
 | ind a o=>
  intro b
  by_cases h:a=0
  ·ext
  ·have e:=o (a / 2) (by lia) (b / 2)
   have A:=Nat.or_div_two (a:=a) (b:=b);have B:=Nat.xor_div_two (a:=a) (b:=b);have C:=VH (a:=a) (b:=b);have l:=Nat.or_mod_two_pow (a:=a) (b:=b) (n:=1);have m2:(a ^^^ b) % 2=(a % 2 ^^^ b % 2):=Nat.xor_mod_two_pow (n:=1);have m3:=O2 (a:=a) (b:=b) (n:=1)
   rcases KI a with m | m <;> rcases KI b with hb | hb <;> rw[m,hb]at l m2 m3 <;> simp only[Nat.reduceOr,Nat.reduceXor,Nat.reduceAnd]at l m2 m3 <;> lia
def nH(a b:Nat):E3 (a:Int) (b:Int)=((a ^^^ b:Nat):Int):=by
 unfold E3;rw[XO,SX,jq]
 ext
def pV:∀b:Nat,0 < b->∃i:Nat,b.testBit i=true/\(∀j,j < i->b.testBit j=false)/\b=(b &&& (b - 1))+2 ^ i/\∀j,(b &&& (b - 1)).testBit j=(b.testBit j&&!decide (i=j)):=by
 intro b
 induction b using qq with
 | ind b m=>
  intro hb
  rcases KI b with h | h
  ·obtain⟨i,B,o,C,A⟩:=m (b / 2) (by lia) (by lia)
   have d:=VH (a:=b) (b:=b - 1);rw[show(b - 1) / 2=b / 2 - 1 by grind]at d;have m3:(b &&& (b - 1)) % 2=(b % 2 &&& (b - 1) % 2):=O2 (n:=1);rw[h]at m3;simp at m3;refine⟨i+1,by grind,λj l=>?_,?_,λj=>?_⟩
   ·cases j with
    | zero=>rw[Nat.testBit_zero];lia
    | succ j=>rw[Is];exact o j (by lia)
   ·rw[MP];lia
   ·cases j with
    | zero=>
     grind
    | succ j=>
     rw[Is,Is,d,A j]
     simp
  ·have d:=VH (a:=b) (b:=b - 1)
   rw[show(b - 1) / 2=b / 2 by grind,Nat.and_self]at d;have m3:(b &&& (b - 1)) % 2=(b % 2 &&& (b - 1) % 2):=O2 (n:=1);rw[h,show(b - 1) % 2=0 by grind]at m3;simp at m3;refine⟨0,by ext,λj l=>zX l (NQ _),by rw[Nat.pow_zero];lia,λj=>?_⟩
   cases j with
   | zero=>
    ext
   | succ j=>
    rw[Is,Is,d];simp
def fY{b i:Nat}(h:b=(b &&& (b - 1))+2 ^ i)(hb:0 < b):Bq (b:Int) (-(b:Int))=((2 ^ i:Nat):Int):=by
 unfold Bq iJ;rw[wX (Int.natCast_nonneg b),wY (by lia)];rw[show(- -(b:Int) - 1).toNat=b - 1 by simp,As]
 lia
def lY(i:Nat):Dh ((2 ^ i:Nat):Int)=i+1:=by
 unfold Dh;have h:=EM (qp i);rw[qY (by rw[beq_iff_eq];lia),Int.natAbs_natCast,Nat.log2_two_pow]
def Bm(b:Nat)(l:ZLi):Prop:=l.Pairwise (· < ·)/\∀x:Int,x∈l↔0<=x/\b.testBit x.toNat=true
def WK{b N:Nat}(hb:b < 2 ^ N)(hN:N<=1000):Ok (Ky (b:Int)) (Bm b):=by
 unfold Ky Qa;simp only[AF,vK,Bj]
 obtain⟨⟨t,l⟩,e,P,B⟩:=W0 (c:=λs:ZLi×Int=>some (s.2 != 0)) (q:=λs:ZLi×Int=>BJ ((Vj s.1 ((Dh (Bq s.2 (-s.2)):Int) - 1)).bind λl=>some (.nx l)) λv=>Eg (λw=>(v,w)) (some (.nx (Bq s.2 (s.2 - 1)))))
  (λs=>∃c:Nat,s.2=c/\s.1.Pairwise (· < ·)/\(∀x∈s.1,0<=x/\x < N/\b.testBit x.toNat=true/\∀j:Nat,c.testBit j=true->x < j)/\(∀j:Nat,b.testBit j=true->(j:Int)∈s.1∨c.testBit j=true)/\(∀j:Nat,c.testBit j=true->b.testBit j=true))
  (λs=>N - s.1.length) (by
   rintro s ⟨c,B,C,o,J,G⟩
   by_cases L:c=0
   ·left
    ext
   ·right
    obtain⟨i,E,q2,Q,R⟩:=pV c (by lia)
    have hi:i < N:=by
     have:=G i E
     refine mY λH=>?_
     have S:=Z7 (AR hb (JG (by decide) H));rw[S]at this;cases this
    have O:s.1.length < N:=by
     have T:(s.1++[(i:Int)]).Nodup:=by
      refine Ff.mpr ⟨C.imp λh=>by lia,by simp,λx m y I=>?_⟩;rw[Ay.mp I];have:=(o x m).2.2.2 i E
      lia
     have:=Iw (k:=Db 0 N) T λx m=>by
      rw[Cu]
      rcases Ax.mp m with m | m
      ·have:=o x m;grind
      ·rw[Ay.mp m];lia
     rw[CY,AY,Aq]at this;exact this
    refine⟨by rw[B];exact congrArg some (bne_iff_ne.mpr (by lia)),(s.1++[(i:Int)],((c &&& (c - 1):Nat):Int)),?_,⟨_,rfl,?_,λx m=>?_,λj A=>?_,λj A=>?_⟩,?_⟩
    ·rw[B,fY Q (by lia),lY,X0 (by lia),show(c:Int) - 1=((c - 1:Nat):Int) by lia,SX]
     simp only[AF,Bj,pT]
     lia
    ·refine BV.mpr ⟨C,List.pairwise_singleton _ _,λx m y I=>?_⟩
     rw[Ay.mp I];exact(o x m).2.2.2 i E
    ·rcases Ax.mp m with m | m
     ·obtain⟨U,X,Y,Z⟩:=o x m
      refine⟨U,X,Y,λj A=>Z j ?_⟩
      grind
     ·rw[Ay.mp m]
      refine⟨by lia,by lia,by rw[As];exact G i E,λj A=>?_⟩;rw[R j,DZ]at A
      have za:i≠j:=by simpa using A.2
      have:¬j < i:=λz=>by grind
      lia
    ·grind
    ·grind
    ·rw[AY,Aq]
     grind) wN ([],(b:Int)) ⟨b,rfl,.nil,λ_ h=>(nomatch h),λj A=>.inr A,λ_ h=>h⟩ (by show N - 0 < wN;lia)
 refine⟨t,?_,?_⟩
 ·rw[e]
  rfl
 ·obtain⟨c,zI,C,o,J,G⟩:=P
  have L:c=0:=by
   have B:=CK B
   have:(c:Int)=0:=by rw[<-zI];simpa using B
   ext
  subst L;refine⟨C,λx=>⟨λm=>⟨(o x m).1,(o x m).2.2.1⟩,λ⟨x0,m⟩=>?_⟩⟩
  rcases J x.toNat m with h | h
  ·rwa [BY x0]at h
  ·simp at h
open L2 L4
open Srt (ltL)
theorem PY:∀{l k:ZLi},l.Pairwise (· < ·)->k.Pairwise (· < ·)->(∀x,x∈l↔x∈k)->l=k
 | [],[],_,_,_=>rfl
 | [],y :: k,_,_,h=>zX ((h y).mpr (Ae ..)) Il
 | x :: l,[],_,_,h=>zX ((h x).mp (Ae ..)) Il
 | x :: l,y :: k,B,C,h=>by
  have m:=G9.mp B;have A:=G9.mp C
  have e:x=y:=by
   rcases Aw.mp ((h x).mp (Ae ..))with a | a
   ·exact a
   ·rcases Aw.mp ((h y).mpr (Ae ..))with b | b
    ·exact b.symm
    ·have:=A.1 x a
     have:=m.1 y b
     lia
  subst e
  congr 1
  refine PY m.2 A.2 λz=>⟨λo=>?_,λo=>?_⟩
  ·rcases Aw.mp ((h z).mp (AT _ o))with a | a
   ·have:=m.1 z o;lia
   ·exact a
  grind
noncomputable def aS:ZLi->List ZLi
 | []=>[[]]
 | x :: l=>(aS l).map (x :: ·)++aS l
theorem M2(P:Int->Bool):∀l:ZLi,l.filter P∈aS l
 | []=>by simp[aS]
 | x :: l=>by
  unfold aS;rw[List.filter_cons];split
  ·exact Cm _ (A9.mpr ⟨_,M2 P l,rfl⟩)
  ·exact Bh _ (M2 P l)
def sts(o g:Nat):List ZLi:=(Ic o g).getD []
def Stg(o g:Nat)(r:ZLi):Prop:=r.length=g/\(∀x∈r,0<=x/\x < (o:Int))/\r.Pairwise (· < ·)
def tE:∀o:Nat,o < 8->∀g:Nat,g < 8->g<=o->1<=g->decide (Ia (o,[]) g=some (sts o g)/\Ic o g=some (sts o g)/\sts o g≠[]/\(sts o g).length<=35)=true:=by decide +kernel
def N6(o:Nat)(ho:o < 8)(g:Nat)(l:g < 8)(m:g<=o)(A:1<=g):Ia (o,[]) g=some (sts o g)/\Ic o g=some (sts o g)/\sts o g≠[]/\(sts o g).length<=35:=of_decide_eq_true (tE o ho g l m A)
def tD:∀o:Nat,o < 8->∀g:Nat,g < 8->g<=o->1<=g->decide (∀r∈sts o g,r.length=g/\(∀x∈r,0<=x/\x < (o:Int))/\r.Pairwise (· < ·))=true:=by decide +kernel
def w8(o:Nat)(ho:o < 8)(g:Nat)(l:g < 8)(m:g<=o)(A:1<=g):∀r∈sts o g,r.length=g/\(∀x∈r,0<=x/\x < (o:Int))/\r.Pairwise (· < ·):=of_decide_eq_true (tD o ho g l m A)
def sy:∀o:Nat,o < 8->∀g:Nat,g < 8->g<=o->1<=g->decide ((sts o g).Pairwise (λa b=>ltL a b=true)/\∀l∈aS (Db 0 o),l.length=g->l∈sts o g)=true:=by decide +kernel
def rB(o:Nat)(ho:o < 8)(g:Nat)(m:g < 8)(A:g<=o)(B:1<=g):(sts o g).Pairwise (λa b=>ltL a b=true)/\∀l∈aS (Db 0 o),l.length=g->l∈sts o g:=of_decide_eq_true (sy o ho g m A B)
section
variable{o g:Nat}{us:List ZPi}{r:ZLi}
def ee(ho:o < 8)(l:g<=o)(m:1<=g):Ia (o,us) g=some (sts o g):=(rfl).trans (N6 o ho g (by lia) l m).1
def Fx(ho:o < 8)(m:g<=o)(A:1<=g):r∈sts o g↔Stg o g r:=by
 have a:=w8 o ho g (by lia) m A;have b:=(rB o ho g (by lia) m A).2;refine⟨a r,?_⟩;rintro ⟨l,q,p⟩
 have e:r=(Db 0 o).filter λx=>decide (x∈r):=PY p ((XJ 0 o).filter _) λx=>by
  rw[BH,Cu,decide_eq_true_eq];exact⟨λh=>⟨⟨(q x h).1,by have:=(q x h).2;ext⟩,h⟩,λh=>h.2⟩
 have:=b _ (M2 (λx=>decide (x∈r)) (Db 0 o)) (by rw[<-e];exact l)
 lia
def XD(ho:o < 8)(m:g<=o)(A:1<=g):(sts o g).Nodup:=by
 have a:=(rB o ho g (by lia) m A).1
 exact a.imp λ{a b} l e=>by
  subst e;rw[ZJ]at l;cases l
end
def WV(h:l[i]?=some r):(Dj l).take (i+1)=(Dj l).take i++[((i:Int),r)]:=by
 rw[Fe]
 congr 1
 unfold Dj;ext
def xc{l:List ZLi}(A:l.Nodup){i:Nat}{r:ZLi}(h:l[i]?=some r):An (nuF l) r=some (i:Int):=by
 have m:∀k:Nat,k<=l.length->∀(j:Nat) (s:ZLi),j < k->l[j]?=some s->An (((Dj l).take k).foldl nuS []) s=some (j:Int):=by
  intro k
  induction k with
  | zero=>ext
  | succ k B=>
   intro H j s I o;have C:l[k]?=some (l[k]'(by assumption)):=AM (by lia);rw[WV C,Hq];show An (CJ _ _ _) s=_;rw[DC]
   by_cases e:j=k
   ·ext
   ·rw[qY,B (by lia) j s (by lia) o]
    intro c;obtain⟨E,G⟩:=AB.mp o;rw[<-G]at c;exact Ke.mp A j k E (by lia) (by lia) c
 have:=m l.length (AJ _) i r (AB.mp h).1 h;rwa [Cn (by unfold Dj;simp)]at this
def Hb(H:ZLi)(n:Nat)(P:Nat->Nat->Prop):Prop:=H.length=n/\∀p:Nat,p < n->∃h:Nat,H[p]?=some (h:Int)/\∀j,h.testBit j=true↔P p j
theorem kc{n k:Nat}:∀(r:ZLi) {H:ZLi} {P:Nat->Nat->Prop},(∀x∈r,0<=x/\x < (n:Int))->Hb H n P->Hb (r.foldl (hvP (k:Int)) H) n (λp j=>P p j∨((p:Int)∈r/\j=k))
 | [],H,P,_,h=>⟨h.1,λp l=>by
  obtain⟨b,m,o⟩:=h.2 p l
  exact⟨b,m,λj=>by rw[o];simp⟩⟩
 | x :: r,H,P,A,h=>by
  obtain⟨G,I⟩:=A x (Ae ..)
  have m:Hb (hvP (k:Int) H x) n (λp j=>P p j∨((p:Int)=x/\j=k)):=by
   refine⟨by unfold hvP;rw[DB];exact h.1,λp l=>?_⟩;obtain⟨b,B,C⟩:=h.2 p l;unfold hvP;rw[Dr]
   by_cases c:x.toNat=p
   ·rw[qX c,qX (by rw[h.1];ext)]
    refine⟨b ||| 2 ^ k,?_,λj=>?_⟩
    ·rw[Ea,c,B,gz,As,show(1:Int) * 2 ^ k=((2 ^ k:Nat):Int) by rw[yp];norm_cast,XO]
    ·rw[rp,MU,C,O0]
     rw[decide_eq_true_eq]
     have:(p:Int)=x:=by lia
     exact or_congr_right ⟨λe=>⟨this,e.symm⟩,λe=>e.2.symm⟩
   ·rw[qY c]
    refine⟨b,B,λj=>?_⟩;rw[C]
    have:¬(p:Int)=x:=by lia
    exact⟨.inl,λz=>z.elim id λz=>zX z.1 this⟩
  have o:=kc (k:=k) r (λy E=>A y (AT _ E)) m
  grind
def yB{n:Nat}{l:List ZLi}(G:∀r∈l,∀x∈r,0<=x/\x < (n:Int)):Hb (hvF n l) n (λp j=>∃r,l[j]?=some r/\(p:Int)∈r):=by
 have A:∀k:Nat,k<=l.length->Hb (((Dj l).take k).foldl hvS (hv0 n)) n (λp j=>j < k/\∃r,l[j]?=some r/\(p:Int)∈r):=by
  intro k
  induction k with
  | zero=>
   intro _;refine⟨by unfold hv0;rw[qt,Vw,AH,CY],λp m=>⟨0,?_,λj=>by simp⟩⟩;unfold hv0;rw[qt,Vw,AX,AM (by rw[CY];exact m)];rfl
  | succ k H=>
   intro N;have E:l[k]?=some (l[k]'(by lia)):=AM (by lia);rw[WV E,Hq];have o:=kc (k:=k) l[k] (G _ (CD _)) (H (by lia));refine⟨o.1,λp m=>?_⟩;obtain⟨b,B,C⟩:=o.2 p m;refine⟨b,B,λj=>(C j).trans ?_⟩
   constructor
   ·rintro(⟨a,q⟩ | ⟨a,rfl⟩)
    ·exact⟨by lia,q⟩
    ·exact⟨by lia,_,E,a⟩
   ·rintro⟨a,r,I,J⟩
    by_cases e:j=k
    ·lia
    ·exact .inl ⟨by lia,r,I,J⟩
 have:=A l.length (AJ _);rw[Cn (by unfold Dj;simp)]at this;refine⟨this.1,λp m=>?_⟩;obtain⟨b,B,C⟩:=this.2 p m;refine⟨b,B,λj=>(C j).trans ?_⟩;exact⟨λh=>h.2,λ⟨r,o,L⟩=>⟨(AB.mp o).1,r,o,L⟩⟩
def TQ(h:l.Nodup):(Cp l).Pairwise (· < ·):=(Vz (TR l) ((Et l).nodup_iff.mpr h)).imp λ⟨a,b⟩=>by lia
def io{s:ZLi}(h:s.Pairwise (· < ·)):s.Nodup:=h.imp λh=>by lia
noncomputable def wst(r:ZLi)(a b:Int):ZLi:=r.map λx=>if x=a then b else x
def wa(l:r.length<=1000)(a b:Int):J3 r a b=some (wst r a b):=by
 unfold J3 Mi
 rw[E8 (f:=λx=>if x=a then b else x) (by lia) λx _=>by
  lia]
 rfl
def Wy(l:a∈r):x∈wst r a b↔x=b∨(x∈r/\x≠a):=by
 unfold wst
 grind
def sH(l:r.Nodup)(hb:b∉r):(wst r a b).Nodup:=by
 unfold wst Jv;rw[Bb]
 refine l.imp_of_mem λ{x y} m o ne=>?_
 lia
structure Fk(o g:Nat)(us:List ZPi)(kd:Str)(f:Fp):Prop where
 ev:f.ev=sts o g
 kd:f.kd=kd
 tk:f.tk=tkl o us
 nu:f.nu=nuF (sts o g)
 hv:f.hv=hvF o (sts o g)
 pl:f.pb.length=(sts o g).length
 pb:∀(i:Nat) (r:ZLi),(sts o g)[i]?=some r->∃n:Nat,f.pb[i]?=some (n:Int)/\n < 128/\∀x:Int,0<=x->x < 7->(n.testBit x.toNat=true↔x∈r)
section
variable{o g:Nat}{us:List ZPi}{kd:Str}{f:Fp}{r r':ZLi}{i:Nat}
def qI(h:L7 o us)(m:g<=o)(A:1<=g):Ok (NY (o,us) g kd) (Fk o g us kd):=by
 have B:=h.sm
 have hb:∀r∈sts o g,∃n:Nat,IH r=some (n:Int)/\n < 128/\∀x:Int,0<=x->x < 7->(n.testBit x.toNat=true↔x∈r):=λr l=>by
  obtain⟨-,q,-⟩:=(Fx B m A).mp l
  obtain⟨v,e,n,rfl,C,E⟩:=vW λx G=>by have:=q x G;lia
  exact⟨n,e,C,λx H I=>by rw[E x.toNat (by ext),BY H]⟩
 obtain⟨-,-,-,J⟩:=N6 o B g (by lia) m A;unfold NY;rw[ee B m A,oE h];simp only[AF]
 rw[E8 (f:=λr=>(IH r).getD 0) (by lia) λr l=>by
  obtain⟨n,e,-⟩:=hb r l;rw[e]
  rfl]
 simp only[AF];rw[qX ⟨by lia,by show o<=1000;lia,λr l x G=>((Fx B m A).mp l).2.1 x G⟩];refine⟨_,rfl,rfl,rfl,rfl,rfl,rfl,AH _,λi r l=>?_⟩;obtain⟨n,e,C,E⟩:=hb r (A0 l);refine⟨n,?_,C,E⟩;ext
def Lk1(us:List ZPi)(r r':ZLi):Prop:=∃a∈r,∃b∈Tg us a,b∉r/\Cp (wst r a b)=r'
def LkA(us:List ZPi)(r r':ZLi):Prop:=∃s,InS us r (·∈r') s
def cB(h:L7 o us){a b:Int}(C:Stg o g r)(A:a∈r)(hb:b∈Tg us a)(m:b∉r):Stg o g (Cp (wst r a b)):=by
 obtain⟨l,q,p⟩:=C;have B:=q a A;have E:=(h.tg B.1 B.2).2.1 b hb;refine⟨by rw[(Et _).length_eq];unfold wst;ext,λx G=>?_,TQ (sH (io p) m)⟩
 rcases(Wy A).mp (E4.mp G)with rfl | ⟨h,_⟩
 ·exact E
 ·exact q x h
def Uk(h:l[i]?=some x):atI l (i:Int)=some x:=JC (by lia) (by assumption)
def lZ{b n:Nat}{P:Nat->Prop}(hb:∀j,b.testBit j=true↔P j)(j:Nat):(b ||| 2 ^ n).testBit j=true↔P j∨n=j:=by
 grind
def PN{n:Nat}(h:n<=1000000):PP 1 (n:Int)=some ((2 ^ n:Nat):Int):=by
 unfold PP;rw[qX ⟨by lia,by lia,by decide⟩,As,yp]
 norm_cast
def xY(h:L7 o us)(E:g<=o)(G:1<=g)(F:Fk o g us kd f)(O:(sts o g)[i]?=some r):Ok (EU f i) λv=>∃l:Nat,v=l/\∀j,l.testBit j=true↔∃r',(sts o g)[j]?=some r'/\Lk1 us r r':=by
 have H:=h.sm;have I:=(Fx H E G).mp (A0 O);obtain⟨-,-,-,Y⟩:=N6 o H g (by lia) E G;unfold EU FQ;rw[F.ev,Uk O];simp only[AF,Bj];refine OkF.out (OkF.seq (OkF.for (λA (s:Int)=>∃l:Nat,s=l/\∀j,l.testBit j=true↔∃r',(sts o g)[j]?=some r'/\∃a∈A,∃b∈Tg us a,b∉r/\Cp (wst r a b)=r') ⟨0,rfl,λj=>by simp⟩ ?_) ?_)
 ·rintro A a s P Z ⟨l,rfl,J⟩
  have Q:=I.2.1 a P;rw[F.tk,qz Q.1 Q.2];refine OkF.map (OkF.for (λm (s:Int)=>∃l:Nat,s=l/\∀j,l.testBit j=true↔∃r',(sts o g)[j]?=some r'/\((∃a∈A,∃b∈Tg us a,b∉r/\Cp (wst r a b)=r')∨∃b∈m,b∉r/\Cp (wst r a b)=r')) ⟨l,rfl,λj=>by rw[J];simp⟩ ?_) ?_
  ·rintro m b s hb T ⟨l,rfl,R⟩
   by_cases c:b∈r
   ·rw[wX c]
    refine .nx ⟨l,rfl,λj=>(R j).trans ⟨λ⟨r',e,z⟩=>⟨r',e,z.imp id λ⟨b,hb,z⟩=>⟨b,Cm _ hb,z⟩⟩,λ⟨r',e,z⟩=>⟨r',e,z.imp id λ⟨L,B,z⟩=>?_⟩⟩⟩
    rcases Ax.mp B with q | q
    ·exact⟨L,q,z⟩
    ·rw[Ay.mp q]at z
     exact zX c z.1
   ·rw[wY c]
    have hw:=cB h I P hb c;obtain⟨k,S,U⟩:=CW ((Fx H E G).mpr hw)
    have C:(sts o g)[k]?=some (Cp (wst r a b)):=by rw[AM S,U]
    rw[wa (by rw[I.1];lia)];simp only[AF];rw[F.nu,xc (XD H E G) C];simp only[AF];rw[PN (by lia)];simp only[AF];rw[XO];refine .nx ⟨_,rfl,λj=>(lZ R j).trans ⟨?_,?_⟩⟩
    ·rintro(⟨r',e,z⟩ | rfl)
     ·exact⟨r',e,z.imp id λ⟨b,hb,z⟩=>⟨b,Cm _ hb,z⟩⟩
     ·exact⟨_,C,.inr ⟨b,by simp,c,rfl⟩⟩
    ·rintro⟨r',e,z | ⟨L,B,X,N⟩⟩
     ·exact .inl ⟨r',e,.inl z⟩
     ·rcases Ax.mp B with q | q
      ·exact .inl ⟨r',e,.inr ⟨L,q,X,N⟩⟩
      ·right
       rw[Ay.mp q]at N;rw[<-N,<-C]at e;exact(List.getElem?_inj S (XD H E G)).mp e.symm
  ext
 ·rintro s ⟨l,rfl,J⟩
  exact .rt ⟨l,rfl,J⟩
def gX{A:Type}{m:List A}{l:List (Int×A)}{x:Int×A}(h:l++[x] <+: Dj m):∃r,m[l.length]?=some r/\x=((l.length:Int),r):=by
 obtain⟨t,C⟩:=h
 have B:(Dj m)[l.length]?=some x:=by rw[<-C,Bc];simp
 unfold Dj at B;rw[AX,N1]at B
 cases E:m[l.length]? with
 | none=>ext
 | some r=>ext
def yQ(h:L7 o us)(C:g<=o)(E:1<=g)(F:Fk o g us kd f)(L:(sts o g)[i]?=some r):Ok (EV f i) λv=>∃l:Nat,v=l/\∀j,l.testBit j=true↔∃r',(sts o g)[j]?=some r'/\LkA us r r':=by
 have G:=h.sm;have H:=(Fx G C E).mp (A0 L);obtain⟨-,-,-,hl⟩:=N6 o G g (by lia) C E;unfold EV FR;rw[F.ev,Uk L];simp only[AF,Bj];refine OkF.out (OkF.seq (OkF.for (λm (s:Int)=>∃l:Nat,s=l/\∀j,l.testBit j=true↔j < m.length/\∃r',(sts o g)[j]?=some r'/\LkA us r r') ⟨0,rfl,λj=>by simp⟩ ?_) ?_)
 ·rintro m x s N R ⟨l,rfl,A⟩
  obtain⟨n',O,rfl⟩:=gX R
  have S:m.length < (sts o g).length:=by rw[<-F.pl];exact(AB.mp O).1
  have B:=AM S;generalize (sts o g)[m.length]=r' at B;have T:=(Fx G C E).mp (A0 B);obtain⟨n,P,U,Q⟩:=F.pb _ _ B;rw[O]at P;cases P;obtain⟨b,X,hb⟩:=vI h U H.2.1 (io H.2.2);rw[F.tk];rw[X];simp only[AF]
  have I:b=true↔LkA us r r':=by
   rw[hb]
   refine exists_congr λs=>⟨λq=>q.imp λx N=>?_,λq=>?_⟩
   ·intro z
    have:=InS.rg h H.2.1 q x N;exact(Q x this.1 (by lia)).mp z
   ·refine q.imp λx _ z=>?_
    have:=T.2.1 x z;exact(Q x this.1 (by lia)).mpr z
  have up:∀j,(j < (m++[((m.length:Int),(n:Int))]).length/\∃r',(sts o g)[j]?=some r'/\LkA us r r')↔(j < m.length/\∃r',(sts o g)[j]?=some r'/\LkA us r r')∨(m.length=j/\LkA us r r'):=λj=>by
   rw[AY,Aq]
   constructor
   ·rintro⟨a,s,Y,Z⟩
    by_cases e:m.length=j
    ·ext
    ·exact .inl ⟨by lia,s,Y,Z⟩
   ·rintro(⟨a,q⟩ | ⟨rfl,q⟩)
    ·exact⟨by lia,q⟩
    ·exact⟨by ext,r',B,q⟩
  cases b with
  | true=>
   have J:=I.mp rfl;rw[qX rfl,PN (by lia)];simp only[AF];rw[XO];exact .nx ⟨_,rfl,λj=>(lZ A j).trans (Iff.trans ⟨λz=>z.imp id λe=>⟨e,J⟩,λz=>z.imp id λe=>e.1⟩ (up j).symm)⟩
  | false=>
   have J:¬LkA us r r':=λz=>by ext
   exact .nx ⟨l,rfl,λj=>(A j).trans (Iff.trans ⟨.inl,λz=>z.elim id λe=>zX e.2 J⟩ (up j).symm)⟩
 ·rintro s ⟨l,rfl,A⟩
  refine .rt ⟨l,rfl,λj=>(A j).trans ⟨λz=>z.2,λ⟨r',e,z⟩=>⟨?_,r',e,z⟩⟩⟩;rw[show(Dj f.pb).length=f.pb.length by unfold Dj;simp,F.pl];exact(AB.mp e).1
def Lk(kd:Str)(us:List ZPi)(r r':ZLi):Prop:=if kd = "one" then Lk1 us r r' else LkA us r r'
def kF(h:L7 o us)(m:g<=o)(A:1<=g)(F:Fk o g us kd f)(B:(sts o g)[i]?=some r):Ok (Fm f i) λv=>∃l:Nat,v=l/\∀j,l.testBit j=true↔∃r',(sts o g)[j]?=some r'/\Lk kd us r r':=by
 have C:=h.sm;obtain⟨-,-,-,E⟩:=N6 o C g (by lia) m A;have G:=(AB.mp B).1;unfold Fm LZ;rw[qX ⟨by lia,by lia⟩,F.kd]
 by_cases c:kd = "one"
 ·rw[wX c,qX rfl,show Lk kd us r=Lk1 us r from funext λ_=>qX c]
  exact xY h m A F B
 ·rw[wY c,qY Ab,show Lk kd us r=LkA us r from funext λ_=>qY c]
  exact yQ h m A F B
def lh(h:L7 o us)(B:g<=o)(C:1<=g)(F:Fk o g us kd f)(m:(sts o g)[i]?=some r){c:Int}(E:0<=c/\c < o):Ok (Fn f i c) λv=>∃l:Nat,v=l/\∀j,l.testBit j=true↔∃r',(sts o g)[j]?=some r'/\Lk kd us r r'/\c∈r':=by
 obtain⟨v,e,l,rfl,I⟩:=kF h B C F m
 obtain⟨-,J⟩:=yB λr m x L=>((Fx h.sm B C).mp m).2.1 x L
 obtain⟨b,N,O⟩:=J c.toNat (by ext);unfold Fn Jb;rw[e,F.hv,JC E.1 N];simp only[AF];rw[SX];refine⟨_,rfl,_,rfl,λj=>?_⟩;rw[Nat.testBit_and,DZ,I,O];dsimp only;rw[BY E.1];exact⟨λ⟨⟨r',A,G⟩,r'',P,H⟩=>by ext,λ⟨r',A,G,H⟩=>⟨⟨r',A,G⟩,r',A,H⟩⟩
def qS(h:L7 o us)(F:Fk o g us kd f)(l:(sts o g)[i]?=some r):Gb f i=some ((Db 0 o).filter λc=>!decide (c∈r)):=by
 have m:=h.sm;unfold Gb KP;rw[F.ev,Uk l,F.tk,show(tkl o us).length=o by unfold tkl;rw[AH,CY]];simp only[AF,Bj];rw[NV (by lia) (by lia),As];simp only[AF];rw[IK (by rw[CY];lia) λ_ _=>rfl];rfl
end
open L2 L4
structure Dl(f:Fp)(N:Nat)(cl:Nat->ZLi)(B:Nat->Int->Nat->Prop):Prop where
 ln:f.ev.length=N
 sm:N<=400
 cs:∀n,n < N->Gb f n=some (cl n)/\(cl n).length<=1000/\(cl n).Pairwise (· < ·)
 bh:∀n,n < N->∀c∈cl n,Ok (Fn f n c) λv=>∃l:Nat,v=l/\∀j,l.testBit j=true↔B n c j
 rg:∀n c j,B n c j->j < N
abbrev TL:=List (Int×ZPi)
structure Fa(N:Nat)(cl:Nat->ZLi)(B:Nat->Int->Nat->Prop)(T:TL):Prop where
 nd:(T.map (·.1)).Nodup
 rg:∀n∈T.map (·.1),0<=n/\n < (N:Int)
 ok:∀(m:Nat) z,An T (m:Int)=some z->1<=z.1/\z.2∈cl m/\(∀j,B m z.2 j->∃y,An T (j:Int)=some y/\y.1 < z.1)/\(∀c∈cl m,c < z.2->∃j,B m c j/\∀y,An T (j:Int)=some y->z.1<=y.1)/\(2<=z.1->∀c∈cl m,∃j,B m c j/\∀y,An T (j:Int)=some y->z.1<=y.1+1)
 no:∀m:Nat,m < N->An T (m:Int)=none->∀c∈cl m,∃j,B m c j/\An T (j:Int)=none
 hi:∀(m:Nat) z,An T (m:Int)=some z->z.1<=N
section
variable{f:Fp}{N:Nat}{cl:Nat->ZLi}{B:Nat->Int->Nat->Prop}{b:Nat}
def Vn(B:Nat->Int->Nat->Prop)(b m:Nat)(c:Int):Prop:=∀j,B m c j->b.testBit j=false
def Fst(cl:Nat->ZLi)(B:Nat->Int->Nat->Prop)(b m:Nat)(c:Int):Prop:=c∈cl m/\Vn B b m c/\∀l∈cl m,l < c->¬Vn B b m l
def Tz(h:¬Vn B b m c):∃j,B m c j/\b.testBit j=true:=EY λz=>h λj l=>by
 ext
def lq:(a &&& b)=0↔∀j,a.testBit j=true->b.testBit j=false:=by
 constructor
 ·intro h j l
  have:yn (a &&& b) j=yn 0 j:=by rw[h]
  grind
 ·intro h
  refine Nat.eq_of_testBit_eq λj=>?_
  ext
def FN(cl:Nat->ZLi)(B:Nat->Int->Nat->Prop)(b:Nat)(K:List ZPi):Prop:=(K.map (·.1)).Nodup/\(∀n∈K.map (·.1),0<=n/\b.testBit n.toNat=true)/\∀(m:Nat) c,An K (m:Int)=some c↔b.testBit m=true/\Fst cl B b m c
def bZ(hb:b < 2 ^ N)(h:b.testBit i=true):i < N:=mY λl=>by
 have m:=Z7 (AR hb (JG (by decide) l))
 ext
def Pn{l:Type}{K:List (Int×l)}(m:(K.map (·.1)).Nodup)(o:∀n∈K.map (·.1),0<=n/\n < (N:Int)):K.length<=N:=by
 have:=Iw (k:=Db 0 N) m λx A=>by rw[Cu];have:=o x A;ext
 rwa [CY,AH]at this
open Classical in
def WU(D:Dl f N cl B)(hb:b < 2 ^ N):Ok (Eu f (b:Int)) (FN cl B b):=by
 obtain⟨l,e,lu,O⟩:=WK hb (by have:=D.sm;lia)
 have Q:∀x∈l,0<=x/\x < (N:Int):=λx C=>by
  obtain⟨x0,C⟩:=(O x).mp C;have:=bZ hb C
  ext
 unfold Eu KM;rw[e];simp only[AF,Bj];refine OkF.out (OkF.seq (OkF.for (λpre (s:List ZPi)=>(s.map (·.1)).Nodup/\(∀n∈s.map (·.1),n∈pre)/\∀(m:Nat) c,An s (m:Int)=some c↔(m:Int)∈pre/\Fst cl B b m c) ⟨by simp,λ_ h=>h,λm c=>⟨λh=>(nomatch h),λh=>(nomatch h.1)⟩⟩ ?_) ?_)
 ·rintro pre x s C U ⟨I,J,R⟩
  obtain⟨x0,E⟩:=(O x).mp C
  obtain⟨m,rfl⟩:∃m:Nat,x=m:=⟨x.toNat,by lia⟩
  rw[As]at E;have X:=bZ hb E;obtain⟨c1,c2,c3⟩:=D.cs m X
  have hxp:(m:Int)∉pre:=by
   have:=lu.sublist U.sublist;rw[BV]at this;intro z;have:=this.2.2 _ z _ (YM _)
   lia
  rw[c1];simp only[AF]
  rw[IK (P:=λc=>decide (Vn B b m c)) (by lia) λc hc=>by
   obtain⟨v,e1,q,rfl,hq⟩:=D.bh m X c hc;rw[e1];simp only[AF];rw[SX]
   congr 1
   refine decide_eq_decide.mpr ?_;rw[show((q &&& b:Nat):Int)=0↔(q &&& b)=0 by ext,lq]
   exact forall_congr' λj=>imp_congr_left (hq j)]
  simp only[AF,Bj]
  have L:∀c,c∈(cl m).filter (λc=>decide (Vn B b m c))↔c∈cl m/\Vn B b m c:=λc=>by ext
  have Y:((cl m).filter λc=>decide (Vn B b m c)).Pairwise (· < ·):=c3.filter _;generalize (cl m).filter (λc=>decide (Vn B b m c))=o at L Y
  cases o with
  | nil=>
   have nf:∀c,¬Fst cl B b m c:=λc ⟨G,H,_⟩=>nomatch (L c).mpr ⟨G,H⟩
   refine .nx ⟨I,λn A=>Cm _ (J n A),λk c=>(R k c).trans ⟨λ⟨a,q⟩=>⟨Cm _ a,q⟩,λ⟨a,q⟩=>⟨?_,q⟩⟩⟩
   rcases Ax.mp a with a | a
   ·exact a
   ·have e:k=m:=by have:=Ay.mp a;lia
    grind
  | cons c0 o=>
   have S:Fst cl B b m c0:=by
    obtain⟨G,H⟩:=(L c0).mp (Ae ..);refine⟨G,H,λZ T h4 h5=>?_⟩
    rcases Aw.mp ((L Z).mpr ⟨T,h5⟩)with h | h
    ·lia
    ·have:=(G9.mp Y).1 Z h;lia
   have f1:∀c,Fst cl B b m c↔c=c0:=λc=>⟨by
    rintro ⟨G,H,T⟩
    rcases Int.lt_trichotomy c c0 with h | h | h
    ·exact zX H (S.2.2 c G h)
    ·exact h
    ·exact zX S.2.1 (T c0 S.1 h),λh=>by lia⟩
   have hsl:=Pn I λn A=>Q n ((YB pre [(m:Int)]).trans U.sublist |>.subset (J n A))
   have hN:=D.sm;rw[show(!(c0 :: o).isEmpty)=true from rfl,qX rfl,show atI (c0 :: o) 0=some c0 from JC (by decide) rfl];simp only[AF];rw[show Iv s (m:Int) c0=some (CJ s (m:Int) c0)from qX (by lia)];refine .nx ⟨?_,λn A=>?_,λk c=>?_⟩
   ·rw[HR]
    grind
   ·rw[HR]at A
    grind
   ·rw[DC]
    by_cases e:(k:Int)=m
    ·have e':k=m:=by lia
     subst e';rw[qX rfl,f1];exact⟨λh=>⟨by simp,(CK h).symm⟩,λh=>by rw[h.2]⟩
    ext
 ·rintro s ⟨I,J,R⟩
  refine .rt ⟨I,λn A=>(O n).mp (J n A),λm c=>(R m c).trans (and_congr_left λ_=>?_)⟩;ext
structure Rnd(N:Nat)(cl:Nat->ZLi)(B:Nat->Int->Nat->Prop)(s:TL×Int×Int×List ZPi)(b:Nat):Prop where
 lf:s.2.1=b
 lt:b < 2 ^ N
 bt:∀j,b.testBit j=true↔j < N/\An s.1 (j:Int)=none
 st:1<=s.2.2.1
 nd:(s.1.map (·.1)).Nodup
 rg:∀n∈s.1.map (·.1),0<=n/\n < (N:Int)
 ok:∀(m:Nat) z,An s.1 (m:Int)=some z->z.1 < s.2.2.1/\1<=z.1/\z.2∈cl m/\(∀j,B m z.2 j->∃y,An s.1 (j:Int)=some y/\y.1 < z.1)/\(∀c∈cl m,c < z.2->∃j,B m c j/\∀y,An s.1 (j:Int)=some y->z.1<=y.1)/\(2<=z.1->∀c∈cl m,∃j,B m c j/\∀y,An s.1 (j:Int)=some y->z.1<=y.1+1)
 mn:2<=s.2.2.1->∀m:Nat,m < N->An s.1 (m:Int)=none->∀c∈cl m,∃j,B m c j/\∀y,An s.1 (j:Int)=some y->s.2.2.1<=y.1+1
 fn:FN cl B b s.2.2.2
 sl:s.2.2.1<=s.1.length+1
def ZL{l:ZLi}{P:Int->Prop}(h:∃c∈l,P c):∃c∈l,P c/\∀c'∈l,c' < c->¬P c':=by
 induction l with
 | nil=>ext
 | cons x l G=>
  by_cases H:∃c∈l,P c
  ·obtain⟨c,I,J,A⟩:=G H
   by_cases C:P x/\x < c
   ·exact⟨x,Ae ..,C.1,λc' o E m=>by
     rcases Aw.mp o with h | h
     ·ext
     ·exact A c' h (by lia) m⟩
   ·exact⟨c,AT _ I,J,λc' o E m=>by
     rcases Aw.mp o with h | h
     ·exact C ⟨by rw[<-h];exact m,by ext⟩
     ·exact A c' h E m⟩
  ext
def oR(D:Dl f N cl B)(h:Rnd N cl B s b)(za:s.2.2.2≠[]) :
  ∃s' E,BJ (E6 (s.2.2.2.map (·.1)) (s.1,s.2.1) λ(Z:TL×Int) Q=>BJ (((An s.2.2.2 Q).bind λΜ=>some (s.2.2.1,Μ)).bind λϛ=>(Iv Z.1 Q ϛ).bind λϭ=>some (.nx ϭ)) λΝ=>Eg (λR=>(Ν,R)) ((PP (1:Int) Q).bind λΛ=>some (.nx (E3 Z.2 Λ)))) (λη=>BJ (some (.nx (s.2.2.1+(1:Int)))) λϮ=>Eg (λv42=>(η.1,η.2,Ϯ,v42)) ((Eu f η.2).bind λx48=>some (.nx x48)))=some (.nx (ρ:=TL) s')/\Rnd N cl B s' E/\s.1.length < s'.1.length:=by
 obtain⟨T,left,J,K⟩:=s;obtain⟨lf,lt,S,st,nd,rg,ok,mn,fn,sl⟩:=h;dsimp only at lf S st nd rg ok mn fn za sl ⊢;subst lf;have hN:=D.sm;obtain⟨k1,k2,k3⟩:=fn
 have kN:∀n∈K.map (·.1),0<=n/\n < (N:Int):=λn L=>by
  obtain⟨a,q⟩:=k2 n L;have:=bZ lt q
  lia
 have kT:∀n∈K.map (·.1),An T n=none:=λn L=>by
  obtain⟨a,q⟩:=k2 n L;have:=((S _).mp q).2;rwa [BY a]at this
 obtain⟨⟨G,U⟩,e,X,Y,t3,E,rfl,b1,b2⟩:=SS (s0:=(T,(b:Int))) (q:=λ(Z:TL×Int) Q=>BJ (((An K Q).bind λΜ=>some (J,Μ)).bind λϛ=>(Iv Z.1 Q ϛ).bind λϭ=>some (.nx ϭ)) λΝ=>Eg (λR=>(Ν,R)) ((PP (1:Int) Q).bind λΛ=>some (.nx (E3 Z.2 Λ))))
  (λpre s=>(s.1.map (·.1)).Nodup/\(∀n∈s.1.map (·.1),0<=n/\n < (N:Int))/\(∀n,An s.1 n=if n∈pre then(An K n).map λc=>(J,c)else An T n)/\∃E:Nat,s.2=E/\E < 2 ^ N/\∀j:Nat,E.testBit j=true↔b.testBit j=true/\(j:Int)∉pre)
  ⟨nd,rg,λn=>by simp,b,rfl,lt,λj=>by simp⟩ (by
   rintro pre x ⟨G,U⟩ hx hp ⟨X,Y,t3,E,rfl,b1,b2⟩;dsimp only at X Y t3 ⊢;obtain⟨x0,xN⟩:=kN x hx;obtain⟨-,xb⟩:=k2 x hx
   have xp:x∉pre:=by
    have:=k1.sublist hp.sublist;unfold Jv at this;rw[BV]at this
    exact λz=>this.2.2 _ z _ (YM _) rfl
   obtain⟨c,l⟩:=DY.mp ((DO K x).mpr hx);have hl:=Pn X Y;rw[l];simp only[AF];rw[show Iv G x (J,c)=some (CJ G x (J,c))from qX (by lia)];rw[show x=((x.toNat:Nat):Int) by lia,PN (by grind)];simp only[AF];rw[nH,<-show x=((x.toNat:Nat):Int) by lia];refine⟨_,rfl,?_,λn L=>?_,λn=>?_,_,rfl,Nat.xor_lt_two_pow b1 (Nat.pow_lt_pow_right (by decide) (by lia)),λj=>?_⟩
   ·rw[HR]
    split
    ·exact X
    ·rename_i hk
     exact Ff.mpr ⟨X,by simp,λy C z o=>by rw[Ay.mp o];lia⟩
   ·rw[HR]at L
    split at L
    ·exact Y n L
    ·rcases Ax.mp L with h | h
     ·exact Y n h
     ·rw[Ay.mp h];exact⟨x0,xN⟩
   ·rw[DC]
    by_cases e:n=x
    ·subst e
     rw[qX rfl,qX (by simp),l];rfl
    ·rw[qY e,t3]
     have:n∈pre++[x]↔n∈pre:=by rw[Ax,Ay];exact⟨λz=>z.elim id λz=>zX z e,.inl⟩
     lia
   ·rw[Nat.testBit_xor,O0,bne_iff_ne,ne_eq,Ax,Ay]
    have hb':=b2 j
    by_cases e:x.toNat=j
    ·subst e
     rw[wX rfl];have:E.testBit x.toNat=true:=(b2 _).mpr ⟨xb,by rw[BY x0];exact xp⟩;rw[this];refine⟨λz=>zX rfl z,λz=>zX (.inr (by lia)) z.2⟩
    ·rw[wY e]
     have:¬(j:Int)=x:=by lia
     lia)
 rw[e];simp only[Bj];obtain⟨K',eK,hK⟩:=WU D b1;rw[eK]
 have tv:∀n,An G n=match An K n with | some c=>some (J,c) | none=>An T n:=λn=>by
  rw[t3]
  by_cases h:n∈K.map (·.1)
  ·rw[qX h]
   obtain⟨c,l⟩:=DY.mp ((DO K n).mpr h);rw[l];rfl
  ·rw[qY h]
   cases l:An K n with
   | none=>rfl
   | some c=>exact zX ((DO K n).mp (by rw[l];rfl)) h
 have H:∀n z,An T n=some z->An G n=some z:=λn z o=>by
  grind
 have Ϙ:∀n z,An G n=some z->An T n=some z∨(An T n=none/\z.1=J):=λn z o=>by
  rw[tv]at o
  cases l:An K n with
  | none=>rw[l]at o;exact .inl o
  | some c=>
   rw[l]at o;cases o;exact .inr ⟨kT n ((DO K n).mp (by rw[l];rfl)),rfl⟩
 have bt':∀j,E.testBit j=true↔j < N/\An G (j:Int)=none:=λj=>by
  rw[b2,S,tv]
  constructor
  ·rintro⟨⟨I,A⟩,h3⟩
   refine⟨I,?_⟩
   cases l:An K (j:Int)with
   | none=>exact A
   | some c=>exact zX ((DO K _).mp (by rw[l];rfl)) h3
  ·rintro⟨I,A⟩
   cases l:An K (j:Int)with
   | none=>rw[l]at A;exact⟨⟨I,A⟩,λz=>by have:=(DO K _).mpr z;grind⟩
   | some c=>rw[l]at A;cases A
 have up:∀(j:Nat) (r:Int),r<=J->(∀y,An T (j:Int)=some y->r<=y.1)->∀y,An G (j:Int)=some y->r<=y.1:=λj r hr h y C=>by
  rcases Ϙ _ _ C with I | ⟨_,A⟩
  ·exact h y I
  ·lia
 have hlen:T.length < G.length:=by
  cases K with
  | nil=>ext
  | cons x K=>
   have hx:=kT x.1 (Ae ..);have L:=Ba.mpr ⟨λz=>Ab (by have:=(DO T _).mpr z;rw[hx]at this;exact this),nd⟩
   have:=Iw L λy C=>by
    rw[<-DO]
    rcases Aw.mp C with h | h
    ·subst h
     rw[tv];obtain⟨c,l⟩:=DY.mp ((DO (x :: K) x.1).mpr (Ae ..));rw[l];rfl
    ·obtain⟨z,o⟩:=DY.mp ((DO T y).mpr h)
     rw[H _ _ o];rfl
   rw[Az,AH,AH]at this
   assumption
 refine⟨(G,(E:Int),J+1,K'),E,rfl,⟨rfl,b1,bt',by show 1<=J+1;lia,X,Y,λm z o=>?_,λ_ m hm o c l=>?_,hK,by show J+1<=(G.length:Int)+1;lia⟩,hlen⟩
 ·dsimp only at o ⊢
  rcases Ϙ _ _ o with I | ⟨I,A⟩
  ·obtain⟨o1,o2,o3,o4,o5,o6⟩:=ok m z I
   refine⟨by lia,o2,o3,λj hj=>?_,λc l yw=>?_,λA c l=>?_⟩
   ·obtain⟨y,y1,y2⟩:=o4 j hj
    exact⟨y,H _ _ y1,y2⟩
   ·obtain⟨j,O,P⟩:=o5 c l yw
    exact⟨j,O,up j z.1 (by lia) P⟩
   ·obtain⟨j,O,P⟩:=o6 A c l
    refine⟨j,O,λy C=>?_⟩;have:=up j (z.1 - 1) (by lia) (λy C=>by have:=P y C;lia) y C
    lia
  ·obtain⟨r,c⟩:=z
   have l:An K (m:Int)=some c:=by
    have:=tv (m:Int);rw[o]at this
    cases l:An K (m:Int)with
    | none=>lia
    | some c'=>lia
   subst A;obtain⟨f0,f1,f2,f3⟩:=(k3 m c).mp l;refine⟨by dsimp only;lia,st,f1,λj hj=>?_,λc' zI yw=>?_,λA c' zI=>?_⟩
   ·have hjN:=D.rg _ _ _ hj
    cases hv:An T (j:Int)with
    | none=>
     have:=(S j).mpr ⟨hjN,hv⟩;rw[f2 j hj]at this;cases this
    | some y=>exact⟨y,H _ _ hv,(ok j y hv).1⟩
   ·obtain⟨j,O,P⟩:=Tz (f3 c' zI yw)
    refine⟨j,O,λy C=>?_⟩
    rcases Ϙ _ _ C with q | ⟨_,q⟩
    ·rw[((S j).mp P).2]at q;cases q
    ·dsimp only;lia
   ·obtain⟨j,O,P⟩:=mn A m ((S m).mp f0).1 I c' zI
    refine⟨j,O,λy C=>?_⟩
    rcases Ϙ _ _ C with q | ⟨_,q⟩
    ·exact P y q
    ·dsimp only;lia
 ·dsimp only at o ⊢
  obtain⟨I,A⟩:=(b2 m).mp ((bt' m).mpr ⟨hm,o⟩)
  have nl:¬Vn B b m c:=λhl=>by
   obtain⟨c0,q1,q2,q3⟩:=ZL ⟨c,l,hl⟩;have:=(k3 m c0).mpr ⟨I,q1,q2,q3⟩;exact A ((DO K _).mp (by rw[this];rfl))
  obtain⟨j,O,P⟩:=Tz nl;refine⟨j,O,λy C=>?_⟩
  rcases Ϙ _ _ C with q | ⟨_,q⟩
  ·rw[((S j).mp P).2]at q;cases q
  ·lia
def lE(D:Dl f N cl B):Ok (Pd f) (Fa N cl B):=by
 have hN:=D.sm;unfold Pd Tl;rw[D.ln,PN (by lia)];simp only[AF,Bj];have hp:=qp N;rw[show((2 ^ N:Nat):Int) - 1=((2 ^ N - 1:Nat):Int) by omega]
 have lt:2 ^ N - 1 < 2 ^ N:=by omega
 obtain⟨K,S,T⟩:=WU D lt;rw[S];simp only[AF,Bj];have U:Rnd N cl B ([],((2 ^ N - 1:Nat):Int),1,K) (2 ^ N - 1):=⟨rfl,lt,λj=>by rw[Nat.testBit_two_pow_sub_one,decide_eq_true_eq];exact⟨λh=>⟨h,rfl⟩,λh=>h.1⟩,yq 1,EZ,λ_ h=>(nomatch h),λm z h=>(nomatch h),λh=>zX (show(2:Int)<=1 from h) (by decide),T,yq 1⟩
 obtain⟨l,e,⟨b,h⟩,C⟩:=W0 (c:=λ(X:TL×Int×Int×(List ZPi))=>some (!X.2.2.2.isEmpty)) (q:=λ(s:TL×Int×Int×(List ZPi))=>BJ (E6 (s.2.2.2.map (·.1)) (s.1,s.2.1) λ(O:TL×Int) E=>BJ (((An s.2.2.2 E).bind λY=>some (s.2.2.1,Y)).bind λZ=>(Iv O.1 E Z).bind λϭ=>some (.nx ϭ)) λΝ=>Eg (λG=>(Ν,G)) ((PP (1:Int) E).bind λΛ=>some (.nx (E3 O.2 Λ)))) (λH=>BJ (some (.nx (s.2.2.1+(1:Int)))) λϮ=>Eg (λI=>(H.1,H.2,Ϯ,I)) ((Eu f H.2).bind λJ=>some (.nx J)))) (λs=>∃b,Rnd N cl B s b) (λs=>N - s.1.length) (by
   rintro s ⟨b,h⟩
   cases A:s.2.2.2 with
   | nil=>left;rfl
   | cons x K=>
    right
    obtain⟨l,b',P,L,e3⟩:=oR D h (by ext);rw[A]at P;refine⟨rfl,l,P,⟨b',L⟩,?_⟩;have:=Pn L.nd L.rg
    grind) wN _ ⟨_,U⟩ (by show N - 0 < wN;lia)
 simp only[Bj]at e;rw[e];refine⟨l.1,rfl,?_⟩
 have A:l.2.2.2=[]:=by
  have:=CK C
  cases A:l.2.2.2 with
  | nil=>rfl
  | cons x K=>ext
 obtain⟨lf,lt,Q,st,R,rg,ok,mn,fn,sl⟩:=h;refine⟨R,rg,λm z o=>(ok m z o).2,λm hm o c C=>?_,λm z o=>by have:=(ok m z o).1;have:=Pn R rg;lia⟩;have hb:=(Q m).mpr ⟨hm,o⟩
 have nl:¬Vn B b m c:=λhl=>by
  obtain⟨c0,q1,q2,q3⟩:=ZL ⟨c,C,hl⟩;have:=(fn.2.2 m c0).mpr ⟨hb,q1,q2,q3⟩;rw[A]at this;cases this
 obtain⟨j,j1,j2⟩:=Tz nl;exact⟨j,j1,((Q j).mp j2).2⟩
end
def eZ(l:ZLi)(x:Int):VX (l++[x])=VX l+x:=by
 rw[XB,XB,List.sum_append];simp
def oH(P:Int->Bool):∀n:Nat,∃b:Nat,VX (((Db 0 n).filter P).map λx=>((2 ^ x.toNat:Nat):Int))=b/\b < 2 ^ n/\∀j,b.testBit j=true↔j < n/\P (j:Int)=true:=by
 intro n
 induction n with
 | zero=>exact⟨0,rfl,by decide,λj=>by simp⟩
 | succ n B=>
  obtain⟨b,l,C,m⟩:=B
  have e:Db 0 (n+1)=Db 0 n++[(n:Int)]:=by
   unfold Db;rw[JL,BX];simp
  rw[e,RW]
  by_cases o:P (n:Int)=true
  ·rw[qX o,BX,List.map_singleton,eZ,l,As]
   refine⟨b+2 ^ n,by rfl,by rw[MP];lia,λj=>?_⟩;have A:=Nat.two_pow_add_eq_or_of_lt C 1;rw[Nat.mul_one]at A;rw[Nat.add_comm,A,rp,O0,MU,decide_eq_true_eq,m]
   constructor
   ·rintro(rfl | ⟨a,q⟩)
    ·ext
    ·exact⟨by lia,q⟩
   ·rintro⟨a,q⟩
    by_cases e:n=j
    ·exact .inl e
    ·exact .inr ⟨by lia,q⟩
  ·rw[qY o]
   refine⟨b,l,by rw[MP];lia,λj=>(m j).trans ⟨λ⟨a,q⟩=>⟨by lia,q⟩,λ⟨a,q⟩=>⟨?_,q⟩⟩⟩
   grind
section
variable{f:Fp}{N:Nat}{cl:Nat->ZLi}{B:Nat->Int->Nat->Prop}{T:TL}
def gm(D:Dl f N cl B):∃b:Nat,HN f T=some (b:Int)/\b < 2 ^ N/\∀j,b.testBit j=true↔j < N/\An T (j:Int)=none:=by
 have C:=D.sm;obtain⟨b,l,m,o⟩:=oH (λx=>!(An T x).isSome) N;refine⟨b,?_,m,λj=>(o j).trans (and_congr_right λ_=>by ext)⟩;unfold HN JZ;rw[D.ln];simp only[AF];rw[NV (by lia) (by lia),As];simp only[AF]
 rw[Py (by rw[CY];lia) (λ_ _=>rfl) λx A _=>by
  obtain⟨E,G⟩:=Cu.mp A
  conv=>lhs;rw[show x=((x.toNat:Nat):Int) by lia]
  exact PN (by lia)]
 simp only[AF];rw[l];rfl
end
def evN(o g:Nat)(n:Int):ZLi:=(sts o g).getD n.toNat []
def clS(o g:Nat)(n:Nat):ZLi:=(Db 0 o).filter λc=>!decide (c∈evN o g n)
def BS(o g:Nat)(us:List ZPi)(kd:Str)(n:Nat)(c:Int)(j:Nat):Prop:=∃r l,(sts o g)[n]?=some r/\(sts o g)[j]?=some l/\Lk kd us r l/\c∈l
section
variable{o g:Nat}{us:List ZPi}{kd:Str}{f:Fp}{T:TL}
def Oi{n:Nat}{r:ZLi}(h:(sts o g)[n]?=some r):evN o g n=r:=by
 unfold evN;ext
def yK(h:L7 o us)(C:g<=o)(E:1<=g)(F:Fk o g us kd f):Dl f (sts o g).length (clS o g) (BS o g us kd):=by
 have I:=h.sm;obtain⟨-,-,-,G⟩:=N6 o I g (by lia) C E;refine⟨by rw[F.ev],by lia,λn A=>?_,λn A c H=>?_,λn c j ⟨r,B,_,e,_⟩=>(AB.mp e).1⟩
 ·have m:=AM A
  refine⟨?_,?_,(XJ 0 o).filter _⟩
  ·rw[qS h F m]
   unfold clS;rw[Oi m]
  ·have:=Ca (λc=>!decide (c∈evN o g n)) (Db 0 o)
   rw[CY]at this;unfold clS
   lia
 ·have m:=AM A
  unfold clS at H;obtain⟨J,-⟩:=BH.mp H;obtain⟨L,N⟩:=Cu.mp J
  refine(lh h C E F m ⟨L,by lia⟩).imp λv ⟨l,e,G⟩=>⟨l,e,λj=>(G j).trans ⟨λ⟨B,q⟩=>⟨_,B,m,q⟩,λ⟨r,B,O,q⟩=>?_⟩⟩
  ext
def vN(h:L7 o us)(A:g<=o)(B:1<=g):∃T:TL,Fa (sts o g).length (clS o g) (BS o g us kd) T /\
  NX (o,us) g kd=some (((Db 0 (sts o g).length).filter λn=>!(An T n).isSome).map (evN o g)):=by
 have H:=h.sm;obtain⟨-,-,-,U⟩:=N6 o H g (by lia) A B;obtain⟨f,I,F⟩:=qI (kd:=kd) h A B;have D:=yK h A B F;obtain⟨T,eT,J⟩:=lE D
 have at':∀n∈Db 0 (sts o g).length,atI f.ev n=some (evN o g n):=λn C=>by
  obtain⟨E,X⟩:=Cu.mp C;have G:=AM (l:=sts o g) (i:=n.toNat) (by ext);rw[F.ev,JC E G]
  congr 1
  have:=Oi G;rw[BY E]at this;exact this.symm
 refine⟨T,J,?_⟩
 ·obtain⟨b,L,N,O⟩:=gm (T:=T) D
  obtain⟨l,P,Q,R⟩:=WK N (by lia)
  have S:l=(Db 0 (sts o g).length).filter λn=>!(An T n).isSome:=PY Q ((XJ 0 _).filter _) λx=>by
   rw[R,BH,Cu,O]
   constructor
   ·rintro⟨m,a,q⟩
    rw[BY m]at q;ext
   ·rintro⟨⟨m,a⟩,q⟩
    refine⟨m,by lia,?_⟩;rw[BY m];ext
  unfold NX Qb;simp only[AF];rw[I];simp only[AF,Bj];rw[eT];simp only[AF];rw[L];simp only[AF];rw[P];simp only[AF];rw[S,E8 (by have:=Ca (λn=>!(An T n).isSome) (Db 0 (sts o g).length);rw[CY]at this;lia) λn C=>at' n (BH.mp C).1];rfl
end
open L2 L4
open Srt (ltL)
def T9:z∈Ef us x↔((x:Int),z)∈us∨(z,(x:Int))∈us:=by
 rw[<-av];exact E4.symm
theorem WI:∀{us:List ZPi},us.Nodup->(∀t∈us,t.1 < t.2)->(Ef us x).Nodup
 | [],_,_=>EZ
 | t :: us,h,l=>by
  have m:=WI (x:=x) (Ba.mp h).2 λs B=>l s (AT _ B)
  have C:=(Ba.mp h).1;have lt:=l t Ae
  have e:Ef (t :: us) x=((if t.1=(x:Int)then[t.2]else[])++(if t.2=(x:Int)then[t.1]else[]))++Ef us x:=by
   unfold Ef;rw[Kn]
  rw[e]
  have lt':∀a b:Int,(a,b)∈us->a < b:=λa b E=>l _ (AT _ E)
  by_cases o:t.1=(x:Int)
  ·rw[qX o,qY (by grind),Bp]
   show(t.2 :: Ef us x).Nodup;rw[Ba];refine⟨λz=>?_,m⟩
   rcases T9.mp z with z | z
   ·grind
   ·have:=lt' _ _ z;lia
  ·rw[qY o,md]
   by_cases A:t.2=(x:Int)
   ·rw[qX A]
    show(t.1 :: Ef us x).Nodup;rw[Ba];refine⟨λz=>?_,m⟩
    rcases T9.mp z with z | z
    ·have:=lt' _ _ z;lia
    ·rw[<-A]at z;exact C z
   ext
section
variable{o:Nat}{ts:List ZPi}
def JK.ties(h:JK o ts)(ho:o < 8):L7 o (GM ts):=by
 have rg:∀g:Int,0<=g->g < o->∀x∈nr (GM ts) g.toNat,0<=x/\x < o/\x≠g:=λg m A x l=>by
  rw[av,h.mem,h.mem,BY m]at l
  rcases l with l | l
  ·have:0<=g/\g < x/\x < o:=h.rg _ l;lia
  ·have:0<=x/\x < g/\g < o:=h.rg _ l;lia
 have B:∀g:Int,0<=g->g < o->(nr (GM ts) g.toNat).Nodup:=λg _ _=>by
  refine(Et _).nodup_iff.mpr (WI ?_ λt C=>?_)
  ·rw[(QU ts).nodup_iff,h.nrm];exact h.nd
  ·exact(h.rg t (h.mem.mp C)).2.1
 refine⟨ho,λg m A=>?_,rg,B⟩;have E:=Ba.mpr ⟨λz=>(rg g m A g z).2.2 rfl,B g m A⟩
 have:=Iw (k:=Db 0 o) E λx l=>by
  rw[Cu]
  rcases Aw.mp l with rfl | l
  ·ext
  ·have:=rg g m A x l;ext
 rw[CY,Az]at this
 lia
def uc(h:JK o ts)(y:Int):(lnr ts y).Nodup:=by
 unfold lnr Jv;rw[Bb]
 refine(h.nd.filter _).imp_of_mem λ{a b} B l ne e=>ne ?_
 obtain⟨C,m⟩:=BH.mp B;obtain⟨E,A⟩:=BH.mp l;have m:=of_decide_eq_true m;have A:=of_decide_eq_true A;have G:=h.rg a C;have H:=h.rg b E;simp only[Aw,Il,or_false]at m A
 refine Prod.ext ?_ ?_ <;> lia
def tF(h:JK o ts)(g:Int):([g]++Cp (lnr ts g)).Nodup:=by
 show(g :: Cp (lnr ts g)).Nodup;rw[Ba,(Et _).nodup_iff,E4,cm];refine⟨λz=>?_,uc h g⟩
 rcases z with z | z <;> (have:=h.rg _ z;ext)
def oK(h:JK o ts)(l:0<=g):x∈[g]++Cp (lnr ts g)↔x∈Tg (GM ts) g:=by
 rw[Ul,h.near l];simp
structure Rw(us:List ZPi)(gs:ZLi)(s:List ZLi):Prop where
 mem:∀r,r∈s↔r.length=gs.length/\r.Nodup/\∀y∈gs.zip r,y.2∈Tg us y.1
 nd:s.Nodup
 ln:s.length<=7 ^ gs.length
def aW(h:r.length=n+1):∃t p,r=t++[p]/\t.length=n:=by
 have l:r≠[]:=λz=>by ext
 exact⟨r.dropLast,r.getLast l,(List.dropLast_concat_getLast l).symm,by ext⟩
def OZ:(t++[p]).Nodup↔t.Nodup/\p∉t:=by
 grind
noncomputable def lnx(v:ZLi)(r:ZLi):List ZLi:=(v.filter λp=>!decide (p∈r)).map λp=>r++[p]
def SK:t∈lnx v r↔∃p,t=r++[p]/\p∈v/\p∉r:=by
 unfold lnx
 grind
def cj:(lnx v r).length<=v.length:=by
 unfold lnx;rw[AH];exact Ca _ _
theorem UB(l:v.length<=7):∀L:List ZLi,(L.flatMap (lnx v)).length<=7 * L.length
 | []=>by simp
 | t :: L=>by
  rw[Kn,AY,Az];have:=UB l L;have:=cj (v:=v) (r:=t)
  lia
def Rw.step(h:Rw us gs s)(A:∀x,x∈v↔x∈Tg us g)(B:v.Nodup)(C:v.length<=7):Rw us (gs++[g]) (s.flatMap (lnx v)):=by
 refine⟨λr=>?_,?_,?_⟩
 ·rw[List.mem_flatMap]
  constructor
  ·rintro⟨t,m,E⟩
   obtain⟨p,rfl,L,G⟩:=SK.mp E;obtain⟨a,b,c⟩:=(h.mem t).mp m;refine⟨by rw[AY,AY,a];rfl,OZ.mpr ⟨b,G⟩,λy l=>?_⟩;rw[Uu a.symm]at l
   rcases Ax.mp l with l | l
   ·exact c y l
   ext
  ·rintro⟨a,b,c⟩
   rw[AY,Aq]at a;obtain⟨t,p,rfl,m⟩:=aW a;obtain⟨H,I⟩:=OZ.mp b;rw[Uu m.symm]at c;refine⟨t,(h.mem t).mpr ⟨m,H,λy l=>c y (Cm _ l)⟩,SK.mpr ⟨p,rfl,(A p).mpr (c (g,p) (Bh _ (by simp))),I⟩⟩
 ·unfold Jv
  rw[List.pairwise_flatMap];refine⟨λt _=>?_,h.nd.imp λ{a b} ne x J y l e=>?_⟩
  ·unfold lnx
   rw[Bb]
   refine(B.filter _).imp λ{a b} ne e=>ne ?_
   simpa using e
  ·obtain⟨p,rfl,_⟩:=SK.mp J
   obtain⟨q,rfl,_⟩:=SK.mp l;ext
 ·have:=UB C s
  have:=h.ln;rw[AY,Aq,MP]
  lia
end
end M
namespace L4
open L2
abbrev Ry:=List (ZLi×List (List ZLi))
def cP(l:List ZLi):Option (List ZLi):=if l.all (λr=>!r.isEmpty)=true/\(ddR l).length<=76 then some (VY l)else none
noncomputable def jO(l:List ZLi)(x:ZLi):Option (List ZLi):=if l.all (λr=>!r.isEmpty)=true/\x≠[]then(l.findIdx? (·==x)).map l.eraseIdx else none
def bp(o:Ry):Pq:=λL d=>∃n l,d=.ref n/\L n=some (oDR D.ref l)/\∀st bs,An o st=some bs->bs.length<=1000/\(∀b∈bs,b.length<=1000)/\∃m,An l st=some m/\Nst (eT D.int) bs L (.ref m)
theorem WM(f:m->o):∀(l:List m) (j:Nat),(l.map f).eraseIdx j=(l.eraseIdx j).map f
 | [],_=>rfl
 | _ :: _,0=>rfl
 | a :: l,j+1=>congrArg (f a :: ·) (WM f l j)
def gZ{E:Type}{f g:E->D}{l:List E}{v:P4}{m:ME}{e:Lo}{S:Sto}(H:∀S',Keeps S S'->v S'=some (l.map f))(I:l.length<=1000000)(J:∀x∈l,∀S',Keeps S S'->∃G,m (some (f x) :: e) S'=.ok (g x) G/\Keeps S' G) :
  ∃S',Gz v (tgN 0) Ex m (D0 v S) 0 (none :: e) S []=.ok (l.map g) S'/\Keeps S S':=by
 obtain⟨r,P,Q,B,_,R,rfl⟩:=Xr (g:=tgN 0) (c:=Ex)
  (λi B S' o=>(∃z,B=z :: e)/\Keeps S S'/\o=(l.take i).map g) ⟨⟨none,rfl⟩,Keeps.refl _,rfl⟩ (by rintro i B S' o ⟨_,k,_⟩;exact H _ k)
  (by
   rintro i d B S' o A ⟨⟨z,rfl⟩,k,rfl⟩;rw[AX]at A
   cases C:l[i]? with
   | none=>rw[C]at A;cases A
   | some x=>
    rw[C]at A;cases A;obtain⟨L,N,O⟩:=J x (A0 C) S' k;refine⟨?_,some (f x) :: e,S',rfl,true,S',rfl,.inl ⟨rfl,g x,L,N,⟨_,rfl⟩,k.trans O,?_⟩⟩
    ·rw[AH,By]
     exact Bd (Al (Sf _ _) I) (by decide)
    ·rw[Vr,C,BX]
     rfl)
 ext
noncomputable def rowT(o i:Nat):List ZPi:=(BO (o - 1 - i)).map λj:Nat=>((i:Int),(i:Int)+1+j)
noncomputable def prs(o:Nat):List ZPi:=(BO o).flatMap (rowT o)
section
variable{S0 S S':Sto}{A:List Sl}{e:Lo}{F:Fz}{a b m:ME}
def YX(C:VE A a (rO (oL (eT D.int))) pl):VE A (Na a) (rN (oL (eT D.int))) (pl.bind cP):=λv E S0 e F S G=>by
 obtain⟨l,H,o⟩:=BC E;obtain⟨d,S',I,B,n,rfl,J⟩:=C l H S0 e F S G;unfold cP at o;split at o
 ·rename_i L
  cases o;refine⟨_,S'++[.lst ((VY l).map Kv)],?_,B.trans (Keeps.app _ _),_,rfl,B.1,ER _ _⟩;unfold Na;rw[I];dsimp only[Res.bind];rw[J];unfold oL;dsimp only;rw[show IZ (l.map (eT D.int))=some l from Mh l L.1]
  ext
 ·cases o
def nR(hi:A[i]?=some (.w i (oL (eT D.int) l)))(h:VE A m (rV (eT D.int)) p)(L:((A.set i .u).all (Sl.oth i))=true) :
  VS A (Fj (ZG (AC i) m)) R (p.bind λv=>(jO l v).bind λB=>some (.nx B)) (λB=>A.set i (.w i (oL (eT D.int) B))):=λf N S0 e F S C=>by
 obtain⟨v,O,o⟩:=BC N;obtain⟨B,o,P⟩:=BC o;cases P;unfold jO at o;split at o
 ·rename_i Q
  cases G:l.findIdx? (·==v)with
  | none=>ext
  | some j=>
   rw[G]at o;cases o;obtain⟨x,H,n,rfl,T,E⟩:=C.sl i _ hi;obtain⟨d,S',U,I,rfl⟩:=h v O S0 e F S C;have X:=C.grow I
   have J:ZG (AC i) m e S=.ok .non (S'.set n (.lst ((l.map (eT D.int)).eraseIdx j))):=by
    unfold ZG;rw[show AC i e S=.ok (.ref n) S by unfold AC;rw[H]];dsimp only[Res.bind];rw[show atL (.ref n) S=some (n,l.map (eT D.int)) by unfold atL;dsimp only;rw[E];rfl];rw[U];dsimp only;rw[show atL (.ref n) S'=some (n,l.map (eT D.int)) by unfold atL;dsimp only;rw[I.at E];rfl];dsimp only;have Y:IZ (l.map (eT D.int))=some l:=Mh l Q.1;have Z:IZ [eT D.int v]=some [v]:=Mh [v] (by ext);rw[Y,Z];dsimp only;rw[G]
   rw[show(l.map (eT D.int)).eraseIdx j=(l.eraseIdx j).map (eT D.int)from WM _ _ _]at J;exact⟨_,_,Lp J,e,_,rfl,X.put L hi H (by rw[E7 (BZ E)];exact T),C.fle S'⟩
 ·cases o
noncomputable def bY(left:List ZLi)(bs:List (List ZLi)):List Bool:=bs.map λb=>b.any λr=>Rs r left
def sK{J:Ry}{left:List ZLi}{st:ZLi}(Q:A[0]?=some (.q (bp J)))(R:A[2]?=some (.w 2 (oL (eT D.int) left)))(T:A[4]?=some (.v (eT D.int st))) :
  VL A (DI 1 (DM (m2 ixA (AC 0) (AC 4))) (tgN 0) Ex (mQ gn (Mr (DF (DI 1 (DM (AC 0)) (tgN 0) Ex (m2 (inA false) (AC 0) (AC 4))))))) D.bl ((An J st).map (bY left)):=λv U S0 e F S o=>by
 obtain⟨bs,hb,rfl⟩:=D6.mp U;obtain⟨d,X,n,l,rfl,Y,Z⟩:=Vs.qAt o Q;obtain⟨lb,H,mm,g5,m',E,em,g6,g7,g8⟩:=Z st bs hb;cases em;obtain⟨x4,k4,rfl⟩:=o.sl 4 _ T;have L:=Iy Y;have N:=Iy g6;have ix:=D9 (KJ X) (KJ k4) (NB (tK (o.fz _ _ L)) (by rw[lN (o.fz _ _ L) st,g5];rfl))
 have B:∀p∈E.zip bs,∀S',Keeps S S'->∃zN,mQ gn (Mr (DF (DI 1 (DM (AC 0)) (tgN 0) Ex (m2 (inA false) (AC 0) (AC 4))))) (some (D.ref p.1) :: e) S'=.ok (.bl (p.2.any λr=>Rs r left)) zN/\Keeps S' zN:=λp hp S' k=>by
  obtain⟨i,hi⟩:=Ew hp;obtain⟨r1,O⟩:=Kf.mp hi;obtain⟨r,C,G⟩:=g8 i p.2 O;rw[r1]at C;cases C;have I:=o.grow k
  have fr:Oh F S S' p.1=.fz (oL (eT D.int) p.2):=by rw[E7 (BZ (o.fz _ _ (Iy G)))];exact Iy G
  have J':Vs S0 (.z (oL (eT D.int) p.2) :: A) (some (D.ref p.1) :: e) (Oh F S S') S':=I.cons ⟨p.1,rfl,fr⟩;have vv:=se (A:=.z (oL (eT D.int) p.2) :: A) (NR (GJ (B1 (Cg (VI.k (iO (i:=0) rfl)) (λx=>FG) (λx=>cF (AN (i:=0) rfl) (IN (i:=4) R))))))
  obtain⟨d,zN,c1,c2,P⟩:=vv (p.2.any λr=>Rs r left) (by
   simp only[AF];rw[E8 (Al (H _ (A0 O)) (by decide)) λ_ _=>rfl]
   simp[Zs]) S0 _ _ _ J'
  have P:d=.bl (p.2.any λr=>Rs r left):=P
  ext
 have ez:(E.zip bs).map (λp=>D.ref p.1)=E.map D.ref:=by
  rw[show(λp:Nat×List ZLi=>D.ref p.1)=D.ref∘Prod.fst from rfl,<-BF,List.map_fst_zip (by ext)]
 have eb:(E.zip bs).map (λp=>D.bl (p.2.any λr=>Rs r left))=(bY left bs).map D.bl:=by
  unfold bY;rw[BF,show(λp:Nat×List ZLi=>D.bl (p.2.any λr=>Rs r left))=(D.bl∘λb=>b.any λr=>Rs r left)∘Prod.snd from rfl,<-BF,mI (by ext)]
 obtain⟨S',C,G⟩:=gZ (v:=Hr (.ref mm)) (λS' k=>by rw[ez];exact DT (k.at (o.fz _ _ N))) (by rw[JM];lia) B;rw[eb]at C;exact⟨S',(SW (Ii ix (o.fz _ _ N))).trans C,G⟩
end
end L4
namespace M
open L2 L4
def HK(Co:(List ZPi))(o:ZLi)(C:Int)(Eh:Str):Option (Fw (List ZLi) Unit):=
 BJ (if (decide (Eh=("one" : Str)))=true then BJ ((((some (o.length:Int)).bind Nm).bind λE=>EB E (λG=>((((atI o G).bind λϚ=>some (Ϛ,())).bind λΚ=>some (Co,Κ)).bind λϗ=>Ie ϗ.1 ϗ.2.1).bind λx7=>some (decide (C∈x7))) (λG=>some G)).bind λH=>some (.nx H)) λv3=>((EB v3 (λI=>some true) (λI=>(((some (C :: [])).bind Ge).bind λJ=>M6 (Nu o none (some I)) J).bind λL=>M6 L (Nu o (some (I+(1:Int))) none))).bind TU).bind λΛ=>some (.rt Λ)else some (.nx ())) λ_=>BJ (((((some []).bind Ge).bind λN=>some (N :: [])).bind Ge).bind λO=>some (.nx O)) λϮ=>BJ (E6 o Ϯ λ(P:(List ZLi)) A=>BJ ((((some (A :: [])).bind Ge).bind λQ=>(Ie Co A).bind λR=>M6 Q R).bind λS=>some (.nx S)) λT=>BJ (((some []).bind Ge).bind λϜ=>some (.nx Ϝ)) λU=>BJ (E6 P U λ(X:(List ZLi)) B=>Eg (λY=>Y) ((EB T (λl=>some (!decide (l∈B))) (λl=>((some (l :: [])).bind Ge).bind λZ=>M6 B Z)).bind λx62=>(M6 X x62).bind λl63=>some (.nx l63))) λs73=>Eg (λ_=>s73) (some (.nx ()))) λs77=>((EB s77 (λm=>some (decide (C∈m))) (λm=>some m)).bind TU).bind λx83=>some (.rt x83)
def EO(l:(List ZPi))(m:ZLi)(o:Int)(A:Str):Option (List ZLi):=Gc (HK l m o A)
def TC(W:Wd)(m:(List ZPi))(o:ZLi)(A:Int)(C:Str):VF (Jk W) [.z ((oL (eP D.int D.int)) m),.v ((eT D.int) o),.v (D.int A),.v (D.str C)] (rN (oL (eT D.int))) (EO m o A C):=by
 refine El (B:=λ_=>[]) ?_;unfold NJ HK;exact(BD (HF (B:=(λ(_:Unit)=>[.z ((oL (eP D.int D.int)) m),.v ((eT D.int) o),.v (D.int A),.v (D.str C),.u,.u,.u,.u,.u,.u])) (ID (N3 dO jy (AN rfl) (CP rfl))) (BD (HC (B1 (Cg (VI.k (Ej (nh (AN rfl)))) (λO=>(ID (sY EX (AN rfl) (GJ (B9 (OR (D1 rfl) (DK (W6 (AN rfl) (AN rfl)) CL)) (λN=>RB W N.1 N.2.1) (λ_=>rfl) Gs))))) (λO=>(AN rfl))))) (λY=>(Ek (YY (GJ (B1 (Cg (VI.k (Jx rfl)) (λP=>FG) (λP=>(NT (NT (cH (AN rfl) W1 (SD (AN rfl))) (LJ (FU (AN rfl) Dz))) (cH (AN rfl) (SD (Fh (AN rfl) (CP rfl))) W1)))))))))) (HE (.refl _))) (λ_=>(BD (HC (B1 (EN (FU (LJ Dz) Dz)))) (λϮ=>(BD (Ee (QP (AN rfl)) DX (.refl _) (λE G=>(BD (HC (cI (GJ (B1 (EN (FU (AN rfl) Dz)))) (GJ (B9 (OR (D1 rfl) (DK (AN rfl) CL)) (λl=>RB W l.1 l.2.1) (λ_=>rfl) Gs)))) (λH=>(BD (Fv (B1 (EN Dz))) (λQ=>(BD (Ee (B:=(λ(I:(List ZLi))=>[.z ((oL (eP D.int D.int)) m),.v ((eT D.int) o),.v (D.int A),.v (D.str C),.u,.y ((oL (eT D.int)) E),.v (D.int G),.y ((oL D.int) H),.w 8 ((oL (eT D.int)) I),.u])) (Jx rfl) DX (.refl _) (λR S=>(Cr (iM rfl (B1 (Cg (VI.k (Jx rfl)) (λJ=>(ID (W3 EX (AN rfl) (AN rfl)))) (λJ=>(NT (AN rfl) (LJ (FU (AN rfl) Dz)))))) rfl) (λT=>(.same (.same (.same (.same (.same (.same (.same (.same (.same (.drop .nil)))))))))))))) (λU=>(Cr (aD 8 rfl rfl (QO rfl)) (λ_=>(.same (.same (.same (.same (.same (.same (.drop (.drop (.drop (.same .nil)))))))))))))))))))) (λX=>(Ek (YY (GJ (B1 (Cg (VI.k (Jx rfl)) (λL=>(ID (sW EX (AN rfl) (AN rfl)))) (λL=>(AN rfl)))))))))))))
def KO(o:(List ZPi))(A:ZLi)(B:Int)(C:Str):Option (Fw (List ZLi) Unit):=
 (((EO o A B C).bind λl=>EB l (λm=>some true) (λm=>some (Cp m))).bind cP).bind λE=>some (.rt E)
def FM(l:(List ZPi))(m:ZLi)(o:Int)(A:Str):Option (List ZLi):=Gc (KO l m o A)
def VV(W:Wd)(m:(List ZPi))(o:ZLi)(A:Int)(C:Str):VF (Gf W) [.z ((oL (eP D.int D.int)) m),.v ((eT D.int) o),.v (D.int A),.v (D.str C)] (rN (oL (eT D.int))) (FM m o A C):=by
 refine El (B:=λ_=>[]) ?_;unfold OK KO;exact(Ek (YX (GJ (B1 (Cg (VI.k (MW (B9 (OR (D1 rfl) (DK (AN rfl) (DK (AN rfl) (DK (AN rfl) CL)))) (λl=>TC W l.1 l.2.1 l.2.2.1 l.2.2.2.1) (λ_=>rfl) Gs))) (λE=>FG) (λE=>(NS (GJ (QQ (AN rfl))))))))))
def LU(A:ZLi)(B:Int)(l:Int):Option (Fw ZLi Unit):=
 BJ ((((some ((A.length:Int) - B)).bind λC=>some (if C > (0:Int)then C else(0:Int))).bind λE=>some (if E < l then E else l)).bind λH=>some (.nx H)) λI=>(((some I).bind Nm).bind λm=>EB m (λG=>some true) (λG=>(jd A (some (B+G)) none (some l)).bind λo=>some (VX o))).bind λJ=>some (.rt J)
def JI(l:ZLi)(m:Int)(o:Int):Option ZLi:=Gc (LU l m o)
def W9(W:Wd)(l:ZLi)(m:Int)(o:Int):VF (Ll W) [.v (eF l),.v (D.int m),.v (D.int o)] (rN (oL D.int)) (JI l m o):=by
 refine El (B:=λ_=>[]) ?_;unfold Pz LU;exact(BD (Dy (W4 (AN rfl) (nc (CP rfl) (JT (W5 (AN rfl)) (AN rfl))))) (λC=>(Ek (B1 (Cg (VI.k (Ej (AN rfl))) (λA=>FG) (λA=>(iP (GJ (iS (AN rfl) (SD (Fh (AN rfl) (AN rfl))) W1 (SD (AN rfl)))))))))))
def fre(pl:Int)(st:ZLi):ZLi:=(Db 0 pl.toNat).filter λc=>!decide (c∈st)
def bhO(ties:List ZPi)(kd:Str)(st:ZLi)(c:Int):List ZLi:=(FM ties st c kd).getD []
def csO(ties:List ZPi)(pl:Int)(kd:Str)(l:List ZLi):Ry:=l.map λst=>(st,(fre pl st).map (bhO ties kd st))
def lw(A S:Sto)(no:Nat->Prop)(m:Nat)(bs:List (List ZLi)):Prop:=∃l:List Nat,S[m]?=some (.lst (l.map D.ref))/\l.length=bs.length/\∀(k:Nat) o,bs[k]?=some o->∃r,l[k]?=some r/\S[r]?=some (oL (eT D.int) o)/\A.length<=r/\¬no r
structure CI(S0:Sto)(n:Nat)(cs:Ry)(l:List (ZLi×Nat))(S:Sto):Prop where
 n0:S0.length<=n
 n1:n < S.length
 kp:Keeps S0 S
 at':S[n]?=some (oDR D.ref l)
 ky:l.map (·.1)=cs.map (·.1)
 ad:∀x∈l,S0.length<=x.2/\x.2≠n/\x.2 < S.length
 nd:(l.map (·.2)).Nodup
 ls:∀(i:Nat) x y,l[i]?=some x->cs[i]?=some y->lw S0 S (λr=>r=n∨r∈l.map (·.2)) x.2 y.2
def lw.keep(h:lw B S no m bs)(k:∀r o,S[r]?=some o->¬no r∨r=m->C[r]?=some o)(E:∀r,r < S.length->no' r->no r):lw B C no' m bs:=by
 obtain⟨G,H,I,J⟩:=h;refine⟨G,k _ _ H (.inr rfl),I,λi L N=>?_⟩;obtain⟨r,O,l,P,A⟩:=J i L N;exact⟨r,O,k _ _ l (.inl A),P,λz=>A (E r (BZ l) z)⟩
def jS{m o:Type}[DecidableEq m]{k:m}{v:o}{l:List (m×o)}(h:k∉l.map (·.1)):CJ l k v=l++[(k,v)]:=by
 unfold CJ
 ext
theorem Ye[DecidableEq m]:∀{l:List (m×o)},k∉l.map (·.1)->An (l++[(k,v)]) k=some v
 | [],_=>by simp[An]
 | x :: l,h=>by
  rw[Ap,Aw,not_or]at h;have:=Ye (v:=v) h.2;unfold An at this ⊢;rw[List.cons_append,MK (by lia)];exact this
section
variable{S0 S S2:Sto}{n m r:Nat}{cs:Ry}{l:List (ZLi×Nat)}{st:ZLi}{bs:List (List ZLi)}{xs:List ZLi}
def CI.last(c:CI S0 n (cs++[(st,bs)]) (l++[(st,m)]) S):lw S0 S (λr=>r=n∨r∈(l++[(st,m)]).map (·.2)) m bs:=by
 have o:l.length=cs.length:=by
  have:=congrArg Ev c.ky;simpa using this
 exact c.ls l.length (st,m) (st,bs) (by simp) (by rw[o];simp)
def CI.app(c:CI S0 n (cs++[(st,bs)]) (l++[(st,m)]) S)(k:Keeps S S2)(hr:S.length<=r)(G:S2[r]?=some (oL (eT D.int) xs)):∃B:List Nat,S[m]?=some (.lst (B.map D.ref))/\B.length=bs.length/\CI S0 n (cs++[(st,bs++[xs])]) (l++[(st,m)]) (S2.set m (.lst (B.map D.ref++[.ref r]))):=by
 obtain⟨B,O,L,P⟩:=c.last;obtain⟨Q,R,T⟩:=c.ad (st,m) (by simp)
 have U:l.length=cs.length:=by
  have:=congrArg Ev c.ky;simpa using this
 have ml:=AR T k.1
 have H:∀j o,S[j]?=some o->j≠m->(S2.set m (.lst (B.map D.ref++[.ref r])))[j]?=some o:=λj o q A=>by rw[AZ (Bw A)];exact k.at q
 refine⟨B,O,L,c.n0,by rw[DB];exact AR c.n1 k.1,(c.kp.trans k).set Q _,H _ _ c.at' (Bw R),?_,λx ϩ=>?_,c.nd,λi x y C E=>?_⟩
 ·have:=c.ky
  ext
 ·obtain⟨X,Y,Z⟩:=c.ad x ϩ
  exact⟨X,Y,by rw[DB];exact AR Z k.1⟩
 ·by_cases z:i < l.length
  ·rw[AV z]at C
   rw[AV (by ext)]at E
   have hxm:x.2≠m:=λe=>by
    have:=c.nd
    grind
   have I:=c.ls i x y (by grind) (by rw[AV (by lia)];exact E)
   exact I.keep (λj o q A=>H j o q (by
    grind)) λ_ _ h=>h
  ·have M':i=l.length:=by
    have:=(AB.mp C).1;simp at this;lia
   subst M';rw[BA (AJ _),IA]at C;rw[U,BA (AJ _),IA]at E;cases C;cases E;refine⟨B++[r],by ext,by simp[L],λj ys A=>?_⟩
   by_cases z:j < bs.length
   ·rw[AV z]at A
    obtain⟨q,q1,q2,q3,N⟩:=P j ys A;refine⟨q,by rw[AV (by ext)];exact q1,H _ _ q2 (λe=>N (.inr (by rw[e];simp))),q3,N⟩
   ·have J:j=bs.length:=by
     have:=(AB.mp A).1;simp at this;lia
    subst J;rw[BA (AJ _),IA]at A;cases A;refine⟨r,by ext,by rw[AZ (by lia)];exact G,by have:=c.kp.1;lia,λz=>?_⟩
    rcases z with z | z
    ·have:=c.n1;lia
    ·obtain⟨x,G,e⟩:=A9.mp z
     have:=(c.ad x G).2.2
     lia
def CI.new(c:CI S0 n cs l S)(O:st∉l.map (·.1)):CI S0 n (cs++[(st,[])]) (l++[(st,S.length)]) ((S++[Ob.lst []]).set n (oDR D.ref (l++[(st,S.length)]))):=by
 have G:l.length=cs.length:=by
  have:=congrArg Ev c.ky;simpa using this
 have P:=c.n1
 have H:∀j o,S[j]?=some o->j≠n->((S++[Ob.lst []]).set n (oDR D.ref (l++[(st,S.length)])))[j]?=some o:=λj o q A=>by
  rw[AZ (Bw A),AV (BZ q)];exact q
 refine⟨c.n0,by rw[DB,AY];lia,(c.kp.trans (Keeps.app _ _)).set c.n0 _,by rw[Ao (by rw[AY];lia)],by rw[BX,BX,c.ky];rfl,λx E=>?_,?_,λi x y B C=>?_⟩
 ·rw[DB,AY,Aq]
  rcases Ax.mp E with z | z
  ·obtain⟨I,J,Q⟩:=c.ad x z
   exact⟨I,J,by lia⟩
  ·rw[Ay.mp z]
   exact⟨c.kp.1,by show S.length≠n;lia,by ext⟩
 ·rw[BX,Ff]
  refine⟨c.nd,by simp,λa L b hb e=>?_⟩;obtain⟨x,E,rfl⟩:=A9.mp L;have:=(c.ad x E).2.2;ext
 ·by_cases z:i < l.length
  ·rw[AV z]at B
   rw[AV (by lia)]at C
   refine(c.ls i x y B C).keep (λj o q A=>H j o q ?_) λr R h=>?_
   ·rcases A with A | A
    ·exact λe=>A (.inl e)
    ·rw[A];exact(c.ad x (A0 B)).2.1
   grind
  ·have N:i=l.length:=by
    have:=(AB.mp B).1;simp at this;lia
   subst N;rw[BA (AJ _),IA]at B;rw[G,BA (AJ _),IA]at C;cases B;cases C;exact⟨[],by show _[S.length]?=_;rw[AZ (by lia)];exact ER _ _,rfl,λk xs h=>by simp at h⟩
end
abbrev qV(W:Wd):MS:=sIf (mB (m2 (inA true) (AC 6) (AC 5))) (Fj (Nr (m2 ixA (AC 4) (AC 5)) (CF 4 (Gf W) (AO (AC 0) (AO (AC 5) (AO (AC 6) (AO (AC 3) BI))))))) sNx
noncomputable abbrev EC(t l n:Nat)(pl:Int)(kd:Str)(m o:Option D):Lo:=[sR t,sI pl,sR l,some (.str kd),sR n,m,o]
def vf(ties:List ZPi)(pl:Int)(kd:Str)(st:ZLi):Prop:=∀c,0<=c->c < pl->c∉st->FM ties st c kd=some (bhO ties kd st c)/\(bhO ties kd st c).length<=1000
section
variable{W:Wd}{S0 S:Sto}{t so n m:Nat}{pl:Int}{kd:Str}{cs:Ry}{l:List (ZLi×Nat)}{st:ZLi}{ties:List ZPi}
def uM(c:CI S0 n (cs++[(st,bs)]) (l++[(st,m)]) S)(A:st∉l.map (·.1))(B:S0[t]?=some (oL (eP D.int D.int) ties))(hb:FM ties st z kd=some xs)(I:bs.length<=1000) :
  ∃S',Fj (Nr (m2 ixA (AC 4) (AC 5)) (CF 4 (Gf W) (AO (AC 0) (AO (AC 5) (AO (AC 6) (AO (AC 3) BI)))))) (EC t so n pl kd (some (eT D.int st)) (some (.int z))) S=.ok (.nx (EC t so n pl kd (some (eT D.int st)) (some (.int z)))) S'/\CI S0 n (cs++[(st,bs++[xs])]) (l++[(st,m)]) S':=by
 obtain⟨d,J,C,k,r,rfl,E,G⟩:=VV W ties st z kd xs hb S [.ref t,eT D.int st,.int z,.str kd] ⟨⟨t,rfl,c.kp.at B⟩,rfl,rfl,rfl,trivial⟩;obtain⟨L,o,N,H⟩:=c.app k E G;have ix:m2 ixA (AC 4) (AC 5) (EC t so n pl kd (some (eT D.int st)) (some (.int z))) S=.ok (.ref m) S:=D9 rfl rfl (NB (tK c.at') (by rw[lN c.at' st,Ye A];rfl));exact⟨_,Lp (Xz ix o ((J9 rfl rfl).trans C) (k.at o) (ZK (by rw[AH];lia))),H⟩
def ka(c:CI S0 n (cs++[(st,[])]) (l++[(st,m)]) S)(G:st∉l.map (·.1))(H:S0[t]?=some (oL (eP D.int D.int) ties))(hb:vf ties pl kd st)(Q:0<=pl)(R:pl<=1000) :
  ∃C S',Em (iR1 (AO (AC 1) BI)) (tgN 6) (qV W) (EC t so n pl kd (some (eT D.int st)) I) S=.ok (.nx (EC t so n pl kd (some (eT D.int st)) C)) S'/\CI S0 n (cs++[(st,(fre pl st).map (bhO ties kd st))]) (l++[(st,m)]) S':=by
 obtain⟨f,S',e,y6,rfl,J⟩:=KU (g:=tgN 6) (b:=qV W) (xs:=JY 0 pl.toNat)
  (λi e S'=>∃y6,e=EC t so n pl kd (some (eT D.int st)) y6/\CI S0 n (cs++[(st,((Db 0 i).filter λc=>!decide (c∈st)).map (bhO ties kd st))]) (l++[(st,m)]) S')
  (λf S'=>∃y6,f=.nx (EC t so n pl kd (some (eT D.int st)) y6)/\CI S0 n (cs++[(st,(fre pl st).map (bhO ties kd st))]) (l++[(st,m)]) S')
  ⟨I,rfl,c⟩ (λ_ _ _ _=>rfl)
  (by
   rintro i d e S' L ⟨y6,E,A⟩
   subst E;obtain⟨T,rfl⟩:=Yv L;rw[Int.zero_add]
   have U:Db 0 (i+1)=Db 0 i++[(i:Int)]:=by
    unfold Db;rw[JL,BX];simp
   have o:(((Db 0 i).filter λc=>!decide (c∈st)).map (bhO ties kd st)).length<=1000:=by
    rw[AH];have:=Ca (λc=>!decide (c∈st)) (Db 0 i);rw[CY]at this
    lia
   have B:mB (m2 (inA true) (AC 6) (AC 5)) (EC t so n pl kd (some (eT D.int st)) (some (.int i))) S'=.ok (!decide ((i:Int)∈st)) S':=Vp (D9 rfl rfl (Qo EX true (i:Int) rfl))
   by_cases h:(i:Int)∈st
   ·refine⟨EC t so n pl kd (some (eT D.int st)) (some (.int i)),S',rfl,.nx (EC t so n pl kd (some (eT D.int st)) (some (.int i))),S',?_,sI i,rfl,?_⟩
    ·rw[wX h]at B
     exact(Gw B).trans (qY Ab)
    ext
   ·obtain⟨N,X⟩:=hb i (by lia) (by ext) h
    obtain⟨O,P,Y⟩:=uM A G H N o;refine⟨EC t so n pl kd (some (eT D.int st)) (some (.int i)),S',rfl,.nx (EC t so n pl kd (some (eT D.int st)) (some (.int i))),O,?_,sI i,rfl,?_⟩
    ·rw[wY h]at B
     exact(Gw B).trans ((qX rfl).trans P)
    ext)
  (λe S' ⟨y6,E,A⟩=>⟨y6,by rw[E],by rw[V9]at A;exact A⟩)
 exact⟨y6,S',(JA (bM rfl (by lia) (by lia))).trans e,J⟩
end
open Classical in
def HQ(ties:List ZPi)(pl:Int)(l:List ZLi)(kd:Str):Option Ry:=
 if 0<=pl/\pl<=1000/\l.Nodup/\l.length<=1000/\∀st∈l,vf ties pl kd st then some (csO ties pl kd l)else none
section
variable{W:Wd}{S0 S:Sto}{t so n:Nat}{pl:Int}{kd:Str}{cs:Ry}{l:List (ZLi×Nat)}{st:ZLi}{ties:List ZPi}{y0:List ZLi}
def put_ok(c:CI S0 n cs l S)(o:st∉l.map (·.1))(B:l.length<=1000):Cb (AC 4) (AC 5) (DF (Dc BI)) (EC t so n pl kd (some (eT D.int st)) m) S=.ok (.nx (EC t so n pl kd (some (eT D.int st)) m)) ((S++[Ob.lst []]).set n (oDR D.ref (l++[(st,S.length)]))):=by
 have A:(S++[Ob.lst []])[n]?=some (oDR D.ref l):=(Keeps.app S _).at c.at';have:=lK l st S.length (S++[.lst []]) n A (by lia);rw[jS o]at this;unfold Cb;rw[show DF (Dc BI) (EC t so n pl kd (some (eT D.int st)) m) S=.ok (.ref S.length) (S++[.lst []])from rfl];dsimp only[Res.lift];rw[show AC 4 (EC t so n pl kd (some (eT D.int st)) m) (S++[Ob.lst []])=.ok (.ref n) (S++[.lst []])from rfl];dsimp only;rw[show AC 5 (EC t so n pl kd (some (eT D.int st)) m) (S++[Ob.lst []])=.ok (eT D.int st) (S++[.lst []])from rfl];ext
def jn(c:CI S0 n [] [] S)(L:S0[t]?=some (oL (eP D.int D.int) ties))(hs:S0[so]?=some (oL (eT D.int) y0))(N:0<=pl)(O:pl<=1000)(P:y0.Nodup)(Y:y0.length<=1000)(hb:∀st∈y0,vf ties pl kd st) :
  ∃Q R l S',Em (DM (AC 2)) (tgN 5) (BK (Cb (AC 4) (AC 5) (DF (Dc BI))) (Em (iR1 (AO (AC 1) BI)) (tgN 6) (qV W))) (EC t so n pl kd none none) S=.ok (.nx (EC t so n pl kd Q R)) S'/\CI S0 n (csO ties pl kd y0) l S':=by
 obtain⟨f,S',e,y5,y6,l,rfl,T⟩:=KU (g:=tgN 5) (b:=BK (Cb (AC 4) (AC 5) (DF (Dc BI))) (Em (iR1 (AO (AC 1) BI)) (tgN 6) (qV W)))
  (λi e S'=>∃y5 y6 l,e=EC t so n pl kd y5 y6/\CI S0 n (csO ties pl kd (y0.take i)) l S')
  (λf S'=>∃y5 y6 l,f=.nx (EC t so n pl kd y5 y6)/\CI S0 n (csO ties pl kd y0) l S')
  ⟨none,none,[],rfl,c⟩ (λ_ _ _ ⟨_,_,_,_,c⟩=>DT (c.kp.at hs))
  (by
   rintro i d e S' o ⟨y5,y6,l,A,m⟩
   subst A;rw[AX]at o
   cases B:y0[i]? with
   | none=>ext
   | some st=>
    rw[B]at o;cases o
    have H:y0.take (i+1)=y0.take i++[st]:=by rw[Vr,B];rfl
    have I:l.map (·.1)=y0.take i:=by
     rw[m.ky];unfold csO;rw[BF];exact Q0 _
    have C:st∉l.map (·.1):=by
     rw[I];intro z;have:=P.sublist (Qy (i+1) y0);rw[H,Ff]at this;exact this.2.2 st z st (by simp) rfl
    have E:l.length<=1000:=by
     rw[<-AH,I,By];lia
    obtain⟨G,U,X,J⟩:=ka (m.new C) C L (hb st (A0 B)) N O
    exact⟨EC t so n pl kd (some (eT D.int st)) y6,S',rfl,.nx (EC t so n pl kd (some (eT D.int st)) G),U,(B2 (put_ok m C E)).trans X,_,_,_,rfl,by
     rw[H];unfold csO at J ⊢;rw[BX]
     exact J⟩)
  (λe S' ⟨y5,y6,l,A,m⟩=>⟨y5,y6,l,by rw[A],by ext⟩)
 exact⟨y5,y6,l,S',(JA (Ii rfl (c.kp.at hs))).trans e,T⟩
def CI.cal(c:CI S0 n cs l S)(A:(cs.map (·.1)).Nodup)(H:∀x∈cs,x.2.length<=1000/\∀b∈x.2,b.length<=1000)(L:Nat->Option Ob)(C:∀n o,S0.length<=n->S[n]?=some o->L n=some o):bp cs L (.ref n):=by
 refine⟨n,l,rfl,C _ _ c.n0 c.at',λst bs h=>?_⟩
 have E:(st,bs)∈cs:=by
  unfold An at h;obtain⟨x,I,J⟩:=D6.mp h;have N:=mq I
  have e:x.1=st:=by simpa using N
  have:=Ws I;rw[<-e,<-J];exact this
 obtain⟨i,G⟩:=Ew E
 have O:l.length=cs.length:=by
  have:=congrArg Ev c.ky;simpa using this
 have B:i < l.length:=by rw[O];exact(AB.mp G).1
 have m:=AM B
 have ek:(l[i]).1=st:=by
  have:=congrArg (λz=>z[i]?) c.ky;simp only[AX,m,G,R6]at this;exact CK this
 obtain⟨P,Q,R,T⟩:=c.ls i _ _ m G;refine⟨(H _ E).1,(H _ E).2,(l[i]).2,?_,(l[i]).2,P,rfl,C _ _ (c.ad _ (CD B)).1 Q,R,λk U X=>?_⟩
 ·have Y:(l.map (·.1)).Nodup:=by rw[c.ky];exact A
  have Z:∀(l:List (ZLi×Nat)) (x:ZLi×Nat),x∈l->(l.map (·.1)).Nodup->An l x.1=some x.2:=λl=>by
   induction l with
   | nil=>intro x h;cases h
   | cons a l ih=>
    intro x m A;rw[Ap,Ba]at A;unfold An
    rcases Aw.mp m with rfl | m
    ·rw[List.find?_cons_of_pos (by simp)];rfl
    ·rw[MK (by
      intro z
      have z:a.1=x.1:=by simpa using z
      exact A.1 (by rw[z];exact A9.mpr ⟨x,m,rfl⟩))]
     exact ih x m A.2
  grind
 ·obtain⟨r,r1,r2,r3,_⟩:=T k U X
  exact⟨r,r1,C _ _ r3 r2⟩
end
def XA(W:Wd)(ties:List ZPi)(pl:Int)(y0:List ZLi)(kd:Str):VF (Lm W) [.z (oL (eP D.int D.int) ties),.v (.int pl),.z (oL (eT D.int) y0),.v (.str kd)] (rQ bp) (HQ ties pl y0 kd):=λv o S E A=>by
 unfold HQ at o;split at o
 ·rename_i B
  obtain⟨G,H,I,J,hb⟩:=B;cases o
  match E,A with
  | [d1,d2,d3,d4],A=>
   obtain⟨⟨t,rfl,N⟩,rfl,⟨Y,rfl,O⟩,rfl,_⟩:=A;have P:CI S S.length [] [] (S++[oDR D.ref []]):=⟨AJ _,by simp,Keeps.app _ _,ER _ _,rfl,λx m=>(nomatch m),EZ,λi x y m=>by simp at m⟩;obtain⟨Z,x6,l,Q,e,c⟩:=jn P N O G H I J hb
   have ky:(csO ties pl kd y0).map (·.1)=y0:=by
    unfold csO;rw[BF];exact Q0 _
   refine⟨.ref S.length,Q,LR ?_,c.kp,λL R=>c.cal (by ext) (λx m=>?_) L R⟩
   ·unfold P1
    refine(B2 (LQ rfl)).trans ?_;exact(B2 e).trans (LS rfl)
   ·unfold csO at m
    obtain⟨st,T,rfl⟩:=A9.mp m;refine⟨?_,λb C=>?_⟩
    ·rw[AH]
     have:=Ca (λc=>!decide (c∈st)) (Db 0 pl.toNat);rw[CY]at this;unfold fre
     lia
    ·obtain⟨c,B,rfl⟩:=A9.mp C
     obtain⟨U,c2⟩:=BH.mp B;obtain⟨X,c4⟩:=Cu.mp U;exact(hb st T c X (by lia) (by ext)).2
 ·cases o
def Mm(I:Ry)(J:(List ZLi)):Option (Fw (List ZLi) Unit):=
 BJ (some (.nx J)) λL=>BJ (some (.nx false)) λN=>BJ (whF (λ(l:Bool×(List ZLi))=>some (!l.1)) (λ(l:Bool×(List ZLi))=>BJ (some (.nx true)) λO=>Eg (λE=>(E.2,E.1)) (E6 l.2 (l.2,O) λ(m:(List ZLi)×Bool) G=>Eg (λH=>(H.1,H.2)) ((((((An I G).map (bY m.1))).bind λP=>some (P.all id)).bind λQ=>some (!Q)).bind λo=>if o=true then BJ ((jO m.1 G).bind λA=>some (.nx A)) λB=>Eg (λC=>(B,C)) (some (.nx false))else some (.nx (m.1,m.2))))) wN (N,L)) λR=>some (.rt R.2)
def Ig(l:Ry)(m:(List ZLi)):Option (List ZLi):=Gc (Mm l m)
def RC(W:Wd)(m:Ry)(o:(List ZLi)):VF (J8 W) [.q (bp m),.z ((oL (eT D.int)) o)] (rN (oL (eT D.int))) (Ig m o):=by
 refine El (B:=λ_=>[]) ?_;unfold Rc Mm;exact(BD (Fv (B1 (W2 (NR (D1 rfl))))) (λG=>(BD (Dy (CP rfl)) (λH=>(BD (Sr (B:=(λ(l:Bool×(List ZLi))=>[.q (bp m),.z ((oL (eT D.int)) o),.w 2 ((oL (eT D.int)) l.2),.v (D.bl l.1),.u])) (.refl _) (λA=>(S6 (aI (AN rfl)))) (λA=>(BD (Dy (CP rfl)) (λI=>(Cr (Ee (MW (B1 (W2 (NR (IN rfl))))) DX (.refl _) (λJ L=>(Cr (HF (S6 (ID (ig (NR (GJ (B1 (sK rfl rfl rfl))))))) (BD (nR rfl (AN rfl) rfl) (λC=>(Cr (Dy (CP rfl)) (λE=>(.refl _))))) (HE (.refl _))) (λN=>(.same (.same (.same (.same (.drop .nil))))))))) (λO=>(.refl _))))))) (λP=>(O9 rfl)))))))
def jR(o:ZLi):Option (Fw Bool Unit):=
 BJ ((CB o (0:Int)).bind λx7=>some (.nx x7)) λv1=>BJ (some (.nx (((2:Int)+(v1 % 5))+(if (decide (((v1 / 84) % 8)=(1:Int)))=true then 1 else 0)))) λl=>BJ ((Ib o (3:Int) l).bind λΜ=>some (.nx Μ)) λA=>BJ (((IQ o A).bind λΛ=>iL l Λ).bind λx37=>some (.nx x37)) λΝ=>BJ ((((CB o (1:Int)).bind λx55=>((((some ((3:Int) :: ((5:Int) :: []))).bind Ge).bind λl51=>atI l51 (if (decide (l < (6:Int)))=true then 1 else 0)).bind λB=>some (if B < l then B else l)).bind λx56=>az x55 x56).bind λϜ=>some ((1:Int)+Ϝ)).bind λx59=>some (.nx x59)) λC=>BJ ((((some (("one" : Str) :: (("all" : Str) :: []))).bind Ge).bind λl71=>((CB o (2:Int)).bind λx70=>some (x70 % 2)).bind λx72=>atI l71 x72).bind λx73=>some (.nx x73)) λE=>BJ ((Ic l C).bind λx80=>some (.nx x80)) λm=>BJ (((some (A,(l,(m,(E,()))))).bind λϯ=>HQ ϯ.1 ϯ.2.1 ϯ.2.2.1 ϯ.2.2.2.1).bind λx91=>some (.nx x91)) λG=>BJ ((NX Ν C E).bind λH=>some (.nx H)) λI=>BJ (((Ig G m).bind λJ=>some (!decide (J=I))).bind λL=>if L=true then some (.rt false)else some (.nx ())) λ_=>BJ ((JI o (3:Int) (5:Int)).bind λN=>E6 N () λ(_:Unit) O=>BJ (((some []).bind Ge).bind λP=>some (.nx P)) λQ=>BJ (E6 m (Q,O) λ(R:(List ZLi)×Int) S=>BJ (if (decide ((0:Int) < (R.2 % 4)))=true then Eg (λT=>T) ((Vj R.1 S).bind λU=>some (.nx U))else some (.nx R.1)) λX=>Eg (λY=>(X,Y)) ((((om (2:Int) (40:Int)).bind λZ=>j5 ((R.2 % 2) * 3) Z).bind λx144=>some ((R.2 / 2)+x144)).bind λx145=>some (.nx x145))) λs147=>Eg (λ_=>()) (((((Ig G s147.1).bind λl157=>EB l157 (λϰ=>some true) (λϰ=>some (Rs ϰ I))).bind λx158=>some (x158.all id)).bind λx159=>some (!x159)).bind λx161=>if x161=true then some (.rt false)else some (.nx ()))) λ_=>some (.rt true)
def jm(l:ZLi):Option Bool:=Gc (jR l)
def we(W:Wd)(S:ZLi):VF (dL W) [.v (eF S)] (rV D.bl) (jm S):=by
 refine El (B:=λ_=>[]) ?_;unfold rY jR;exact(BD (Dy (B9 (DK (AN rfl) (DK (CP rfl) CL)) (λT=>Fi W T.1 T.2.1) (λ_=>rfl) Gr)) (λU=>(BD (Dy (Fh (Fh (CP rfl) (LL rfl (AN rfl))) (iX (N3 EX Mp (LL rfl (PD rfl (AN rfl))) (CP rfl))))) (λX=>(BD (HC (B9 (DK (AN rfl) (DK (CP rfl) (DK (AN rfl) CL))) (λC=>Yh W C.1 C.2.1 C.2.2.1) (λ_=>rfl) Gs)) (λG=>(BD (HC (sQ (AN rfl) (GJ (B9 (DK (AN rfl) (OR (Gh rfl) CL)) (λH=>VU W H.1 H.2.1) (λ_=>rfl) Gs)))) (λY=>(BD (Dy (Fh (CP rfl) (iU (B9 (DK (AN rfl) (DK (CP rfl) CL)) (λI=>Fi W I.1 I.2.1) (λ_=>rfl) Gr) (W4 (AN rfl) (JU (GJ (B1 (EN (FU (CP rfl) (FU (CP rfl) Dz))))) (iX (qw (AN rfl) (CP rfl)))))))) (λJ=>(BD (Dy (JU (GJ (B1 (EN (FU (CP rfl) (FU (CP rfl) Dz))))) (LL rfl (B9 (DK (AN rfl) (DK (CP rfl) CL)) (λL=>Fi W L.1 L.2.1) (λ_=>rfl) Gr)))) (λN=>(BD (HC (B9 (DK (AN rfl) (DK (AN rfl) CL)) (λO=>Yi W O.1 O.2.1) (λ_=>rfl) Gs)) (λP=>(BD (cC (B9 (OR (Gh rfl) (DK (AN rfl) (OR (Gh rfl) (DK (AN rfl) CL)))) (λϯ=>XA W ϯ.1 ϯ.2.1 ϯ.2.2.1 ϯ.2.2.2.1) (λ_=>rfl) xG)) (λQ=>(BD (HC (B9 (OR (Gh rfl) (DK (AN rfl) (DK (AN rfl) CL))) (λE=>eO W E.1 E.2.1 E.2.2.1) (λ_=>rfl) Gs)) (λR=>(BD (HF (ID (sV (Xo EX) (GJ (B9 (eM (λ_ _ h=>h) rfl (OR (Gh rfl) CL)) (λm=>RC W m.1 m.2.1) (λ_=>rfl) Gs)) (Gh rfl))) (HD (CP rfl)) (HE (.refl _))) (λ_=>(BD (Ee (B:=(λ(_:Unit)=>[.v (eF S),.v (D.int U),.v (D.int X),.y ((oL (eP D.int D.int)) G),.y ((Lg W) Y),.v (D.int J),.v (D.str N),.y ((oL (eT D.int)) P),.q (bp Q),.y ((oL (eT D.int)) R),.u,.u,.u])) (MW (B9 (DK (AN rfl) (DK (CP rfl) (DK (CP rfl) CL))) (λl=>W9 W l.1 l.2.1 l.2.2.1) (λ_=>rfl) Gs)) DX (.refl _) (λ_ Z=>(BD (Fv (B1 (EN Dz))) (λv121=>(BD (Ee (B:=(λ(o:(List ZLi)×Int)=>[.v (eF S),.v (D.int U),.v (D.int X),.y ((oL (eP D.int D.int)) G),.y ((Lg W) Y),.v (D.int J),.v (D.str N),.y ((oL (eT D.int)) P),.q (bp Q),.y ((oL (eT D.int)) R),.v (D.int o.2),.w 11 ((oL (eT D.int)) o.1),.u])) (Jx rfl) DX (.refl _) (λΞ x124=>(BD (HF (ID (qy (LL rfl (AN rfl)) (CP rfl))) (Cr (Ss rfl (AN rfl) rfl) (λv128=>(.refl _))) (HE (.refl _))) (λs132=>(Cr (Dy (Fh (PD rfl (AN rfl)) (iT (nZ rfl (LL rfl (AN rfl))) (sT (CP rfl) (CP rfl))))) (λv134=>(.same (.same (.same (.same (.same (.same (.same (.same (.same (.same (.same (.same (.drop .nil))))))))))))))))))) (λs147=>(Cr (HF (S6 (ID (ig (NR (GJ (B1 (Cg (VI.k (MW (B9 (eM (λ_ _ h=>h) rfl (OR (IN rfl) CL)) (λA=>RC W A.1 A.2.1) (λ_=>rfl) Gs))) (λϰ=>FG) (λϰ=>(cF (AN rfl) (Gh rfl)))))))))) (HD (CP rfl)) (HE (.refl _))) (λ_=>(.same (.same (.same (.same (.same (.same (.same (.same (.same (.same (.drop (.drop (.same .nil))))))))))))))))))))) (λ_=>(HD (CP rfl))))))))))))))))))))))))
open L2 L4
open Srt (ltL)
def Ans(kd:Str)(us:List ZPi)(r:ZLi)(c:Int)(s:ZLi):Prop:=if kd = "one" then ∃a∈r,c∈nr us a.toNat/\s=wst r a c else gp us r c s
def oI{s r:ZLi}(hs:s.Nodup)(h:∀x∈s,x∈r)(m:s.length=r.length):∀x∈r,x∈s:=λx o=>EY λl=>by
 have:=Iw (k:=r) (Ba.mpr ⟨l,hs⟩) λy A=>by
  grind
 rw[Az]at this
 lia
section
variable{o g:Nat}{us ts:List ZPi}{kd:Str}{r r':ZLi}{c:Int}
def qe(h:L7 o us)(A:Stg o g r)(G:c∉r):(∃s,Ans kd us r c s/\Cp s=r')↔Stg o g r'/\Lk kd us r r'/\c∈r':=by
 unfold Ans Lk
 by_cases k:kd = "one"
 ·simp only[qX k]
  constructor
  ·rintro⟨s,⟨a,m,L,rfl⟩,rfl⟩
   have hb:=Ul.mpr (.inr L);exact⟨cB h A m hb G,⟨a,m,c,hb,G,rfl⟩,E4.mpr ((Wy m).mpr (.inl rfl))⟩
  ·rintro⟨-,⟨a,m,b,hb,N,rfl⟩,B⟩
   have e:c=b:=by
    rcases(Wy m).mp (E4.mp B)with e | e
    ·exact e
    ·ext
   subst e
   rcases Ul.mp hb with e | e
   ·ext
   ·exact⟨_,⟨a,m,e,rfl⟩,rfl⟩
 ·simp only[qY k]
  constructor
  ·rintro⟨s,l,rfl⟩
   have rg:=gp.rg h A.2.1 l;refine⟨⟨by rw[(Et _).length_eq,l.1,A.1],λx C=>rg x (E4.mp C),TQ l.2.1⟩,⟨s,l.1,l.2.1,l.2.2.1,λx C=>E4.mpr C⟩,E4.mpr l.2.2.2⟩
  ·rintro⟨H,⟨s,I,E,O,J⟩,B⟩
   have all:=oI E J (by rw[I,A.1,H.1]);exact⟨s,⟨I,E,O,all c B⟩,PY (TQ E) H.2.2 λx=>E4.trans ⟨J x,all x⟩⟩
def nI(l:r.Nodup)(m:k < r.length)(x:Int):r.take k++[x]++r.drop (k+1)=wst r r[k] x:=by
 have e:r.set k x=r.take k++x :: r.drop (k+1):=by rw[List.set_eq_take_append_cons_drop,qX m]
 rw[Bc,FZ,<-e]
 refine Dt λi=>?_
 unfold wst;rw[AX,Dr]
 by_cases c:k=i
 ·subst c
  ext
 ·rw[qY c]
  cases A:r[i]? with
  | none=>rfl
  | some y=>
   obtain⟨C,B⟩:=AB.mp A;show some y=some (if y=r[k]then x else y);rw[qY];intro z;rw[<-B]at z;exact c ((R8 l).mp z).symm
def cR(h:∀r∈f,r≠[]):TU f=some (JW f):=qX (Im.mpr λr l=>by
 ext)
def uY(h:JK o ts)(H:∀g∈gs,0<=g/\g < (o:Int))(L:gs.Nodup)(U:gs≠[])(X:gs.length<=6)(x:Int):Ok (EO ts gs x "one") λB=>(∀s,s∈B↔∃a∈gs,x∈nr (GM ts) a.toNat/\s=wst gs a x)/\B.length<=117649:=by
 have N:=h.ln;unfold EO HK;rw[qX (wX rfl)];simp only[AF];rw[NV (by ext) (by lia),As];simp only[AF]
 rw[IK (P:=λk:Int=>decide (x∈Cp (lnr ts (gs.getD k.toNat 0)))) (by rw[CY];lia) λk m=>by
  obtain⟨E,I⟩:=Cu.mp m
  have l:k.toNat < gs.length:=by ext
  rw[JC E (AM l)];simp only[AF];rw[cn (by lia),Ea,AM l]
  rfl]
 simp only[AF,Bj];have O:=Ca (λk:Int=>decide (x∈Cp (lnr ts (gs.getD k.toNat 0)))) (Db 0 gs.length);rw[CY]at O
 rw[E8 (f:=λk:Int=>wst gs (gs.getD k.toNat 0) x) (by lia) λk m=>by
  obtain⟨E,I⟩:=Cu.mp (BH.mp m).1
  have l:k.toNat < gs.length:=by lia
  rw[vJ];simp only[AF];rw[show k=((k.toNat:Nat):Int) by lia,vU gs (by lia),show((k.toNat:Nat):Int)+1=((k.toNat+1:Nat):Int) by rfl,lR gs (by assumption),Nf (by rw[By,Aq];grind)];simp only[AF];rw[Nf (by rw[AY,By,ES,Aq];grind),nI L l,As,Ea,AM l]
  rfl]
 simp only[AF]
 have G:∀s,s∈((Db 0 gs.length).filter λk:Int=>decide (x∈Cp (lnr ts (gs.getD k.toNat 0)))).map (λk:Int=>wst gs (gs.getD k.toNat 0) x)↔∃a∈gs,x∈nr (GM ts) a.toNat/\s=wst gs a x:=λs=>by
  rw[A9]
  constructor
  ·rintro⟨k,m,rfl⟩
   obtain⟨Q,J⟩:=BH.mp m;obtain⟨E,I⟩:=Cu.mp Q
   have l:k.toNat < gs.length:=by lia
   have C:gs.getD k.toNat 0=gs[k.toNat]:=by rw[Ea,AM l];rfl
   rw[C]at J ⊢;exact⟨_,CD l,(h.near (H _ (CD l)).1 x).mpr (of_decide_eq_true J),rfl⟩
  ·rintro⟨a,R,S,rfl⟩
   obtain⟨k,m,rfl⟩:=CW R
   have C:gs.getD ((k:Int)).toNat 0=gs[k]:=by rw[As,Ea,AM m];rfl
   refine⟨(k:Int),BH.mpr ⟨Cu.mpr ⟨by lia,by ext⟩,?_⟩,by rw[C]⟩;rw[C];exact wX ((h.near (H _ (CD m)).1 x).mp S)
 have A:(((Db 0 gs.length).filter λk:Int=>decide (x∈Cp (lnr ts (gs.getD k.toNat 0)))).map (λk:Int=>wst gs (gs.getD k.toNat 0) x)).length<=117649:=by rw[AH];lia
 generalize ((Db 0 gs.length).filter λk:Int=>decide (x∈Cp (lnr ts (gs.getD k.toNat 0)))).map (λk:Int=>wst gs (gs.getD k.toNat 0) x)=f at G A
 rw[cR λr T z=>by
  obtain⟨a,_,_,e⟩:=(G r).mp T;rw[z]at e;unfold wst at e
  ext]
 exact⟨_,rfl,λs=>(Dk f).mem_iff.trans (G s),by rw[(Dk f).length_eq];exact A⟩
def uf(h:JK o ts)(ho:o < 8)(T:∀g∈gs,0<=g/\g < (o:Int))(h0:gs≠[])(U:gs.length<=6)(x:Int)(X:¬kd = "one"):Ok (EO ts gs x kd) λB=>(∀s,s∈B↔gp (GM ts) gs x s)/\B.length<=117649:=by
 unfold EO HK;rw[wY X,qY Ab];simp only[Bj,vK,vJ,AF];refine OkF.out (OkF.seq (OkF.for (λl s=>Rw (GM ts) l s) ⟨λr=>?_,by simp,AJ _⟩ ?_) ?_)
 ·ext
 ·intro l g s I Y E
  have Z:=Y.length_le;rw[AY,Aq]at Z;have m:=T g I;rw[cn (by have:=h.ln;lia)];simp only[AF]
  have A:=λx=>oK h (x:=x) m.1
  have C:=tF h g
  have J:([g]++Cp (lnr ts g)).length<=7:=by
   have:=Iw (k:=Db 0 o) C λx hx=>by
    have:=((h.ties ho).tg m.1 m.2).2.1 x ((A x).mp hx);rw[Cu];ext
   rw[CY]at this
   lia
  rw[Nf (by rw[<-AY];lia)];generalize [g]++Cp (lnr ts g)=v at J A C;simp only[AF,Bj];have R:(7:Nat) ^ l.length<=16807:=Al (JG (by decide) (show l.length<=5 by lia)) (by decide);have G:=E.ln;refine OkF.seq (OkF.for (λL N=>N=L.flatMap (lnx v)) rfl ?_) ?_
  ·rintro L r N O P rfl
   have H:=P.length_le;rw[AY,Aq]at H;have hrl:=((E.mem r).mp O).1;rw[Py (by lia) (λ_ _=>rfl) λp _ _=>Nf (by rw[Aq];lia)];simp only[AF];have k1:=UB J L;have k2:=cj (v:=v) (r:=r);unfold lnx at k2;rw[Nf (by lia)];refine .nx ?_;rw[List.flatMap_append,Kn,List.flatMap_nil,Bp];rfl
  ·rintro N rfl
   exact .nx (E.step A C J)
 ·intro s E
  have R:(7:Nat) ^ gs.length<=117649:=Al (JG (by decide) U) (by decide);have G:=E.ln;rw[IK (by lia) λ_ _=>rfl];simp only[AF]
  have Q:∀r,r∈s.filter (λr=>decide (x∈r))↔gp (GM ts) gs x r:=λr=>by
   rw[BH,E.mem,decide_eq_true_eq];exact⟨λ⟨⟨a,b,c⟩,d⟩=>⟨a,b,c,d⟩,λ⟨a,b,c,d⟩=>⟨⟨a,b,c⟩,d⟩⟩
  have S:(s.filter λr=>decide (x∈r)).length<=117649:=Al (Ca _ _) (Al G R);generalize s.filter (λr=>decide (x∈r))=f at Q S
  rw[cR λr O z=>by
   have:=((Q r).mp O).1
   grind]
  exact .rt ⟨λr=>(Dk f).mem_iff.trans (Q r),by rw[(Dk f).length_eq];exact S⟩
def lans(h:JK o ts)(ho:o < 8)(hs:Stg o g gs)(C:1<=g)(m:g<=6)(x:Int)(kd:Str):Ok (EO ts gs x kd) λB=>(∀s,s∈B↔Ans kd (GM ts) gs x s)/\B.length<=117649:=by
 have A:gs≠[]:=λz=>by have:=hs.1;rw[z]at this;simp at this;lia
 by_cases k:kd = "one"
 ·subst k
  refine(uY h hs.2.1 (io hs.2.2) A (by rw[hs.1];exact m) x).imp λB l=>⟨λs=>(l.1 s).trans ?_,l.2⟩
  rfl
 ·refine(uf h ho hs.2.1 A (by rw[hs.1];exact m) x k).imp λB l=>⟨λs=>(l.1 s).trans ?_,l.2⟩
  unfold Ans;rw[qY k]
end
open L2 L4
def uO(I:m->Prop)(l:m->Nat)(o:I s0)(A:l s0 < n)(h:∀s,I s->∃b,c s=some b/\(b=true->OkF (q s) (λs'=>I s'/\l s' < l s) λ_=>False)):OkF (whF c q n s0) (λs=>I s/\c s=some false) R:=by
 obtain⟨s',e,B,C⟩:=W0 I l (λs E=>by
  obtain⟨b,hb,G⟩:=h s E;cases b
  ·exact .inl hb
  ·rcases G rfl with⟨s',e,h⟩ | ⟨_,_,z⟩
   ·exact .inr ⟨hb,s',e,h⟩
   ext) n s0 o A
 exact .inl ⟨s',e,B,C⟩
def Clo(l:Ry)(L:List ZLi)(r:ZLi):Prop:=∀bs,An l r=some bs->∀b∈bs,∃x∈b,x∈L
def qQ:(bY L bs).all id=true↔∀b∈bs,∃x∈b,x∈L:=by
 unfold bY Rs;simp
def xD(h:∀r∈k,r≠[])(l:x∈k):jO k x=some (k.erase x):=by
 unfold jO
 rw[qX ⟨Im.mpr λr m=>by
  cases r with
  | nil=>exact zX rfl (h _ m)
  | cons a r=>rfl,h x l⟩,List.erase_eq_eraseIdx]
 unfold List.idxOf?
 grind
def Clo.mono(h:∀x∈L,x∈M)(m:Clo o L r):Clo o M r:=λbs hb b A=>(m bs hb b A).imp λx l=>⟨l.1,h x l.2⟩
def kG(J:∀r∈rows,∃bs,An m r=some bs)(nd:rows.Nodup)(za:∀r∈rows,r≠[])(hl:rows.length<=1000) :
  Ok (Ig m rows) λl=>l.Sublist rows/\(∀r∈l,Clo m l r)/\∀M:List ZLi,(∀r∈M,r∈rows)->(∀r∈M,Clo m M r)->∀r∈M,r∈l:=by
 unfold Ig Mm;simp only[Bj];refine OkF.out (OkF.seq (uO (λs:Bool×List ZLi=>s.2.Sublist rows/\(∀M:List ZLi,(∀r∈M,r∈rows)->(∀r∈M,Clo m M r)->∀r∈M,r∈s.2)/\(s.1=true->∀r∈s.2,Clo m s.2 r)) (λs=>if s.1=true then 0 else s.2.length+1) ⟨.refl _,λM h _=>h,λh=>nomatch h⟩ (by show rows.length+1 < wN;lia) ?_) ?_)
 ·rintro⟨d,l⟩ ⟨C,N,S⟩
  refine⟨_,rfl,λT=>?_⟩
  cases d with
  | true=>cases T
  | false=>
  have G:=nd.sublist C;refine OkF.map (OkF.for (λo (s:List ZLi×Bool)=>s.1.Sublist l/\(∀x∈l,x∉o->x∈s.1)/\(∀M:List ZLi,(∀r∈M,r∈rows)->(∀r∈M,Clo m M r)->∀r∈M,r∈s.1)/\(s.2=true->s.1=l/\∀r∈o,Clo m l r)/\(s.2=false->s.1.length < l.length)) ⟨.refl _,λ_ h _=>h,N,λ_=>⟨rfl,λ_ h=>nomatch h⟩,λh=>nomatch h⟩ ?_) ?_
  ·rintro o x ⟨k,e⟩ U hp ⟨A,O,H,P,X⟩
   have B:=O x U (by
    have:=G.sublist hp.sublist
    grind)
   obtain⟨bs,hb⟩:=J x (C.subset U)
   refine OkF.map ?_ λs h=>h
   rw[hb];simp only[R6,AF];have Q:=qQ (L:=k) (bs:=bs)
   cases Y:(bY k bs).all id with
   | true=>
    rw[Y]at Q;refine .nx ⟨A,λy Z hn=>O y Z λz=>hn (Cm _ z),H,λh=>?_,X⟩;obtain⟨I,R⟩:=P h;refine⟨I,λr E=>?_⟩
    rcases Ax.mp E with z | z
    ·exact R r z
    ·rw[Ay.mp z]
     intro bs' hb' b hm
     ext
   | false=>
    rw[Y]at Q;rw[qX (show(!false)=true from rfl),xD (λr E=>za r (C.subset (A.subset E))) B];have ndk:=G.sublist A;refine .nx ⟨(List.erase_sublist).trans A,λy Z hn=>?_,λM m1 m2 r E=>?_,λh=>(nomatch h),λ_=>?_⟩
    ·ext
    ·rw[ndk.mem_erase_iff]
     refine⟨λe=>?_,H M m1 m2 r E⟩;subst e
     have:=Q.mpr λb hm=>(m2 r E).mono (H M m1 m2) bs hb b hm
     cases this
    ·have:=LA B
     have:=A.length_le;have:=MJ B
     dsimp only at *
     grind
  ·rintro⟨k,e⟩ ⟨A,O,H,P,X⟩
   refine⟨⟨A.trans C,H,λh=>?_⟩,?_⟩
   ·obtain⟨I,R⟩:=P h
    dsimp only at I ⊢;rw[I];exact R
   lia
 ·rintro⟨d,l⟩ ⟨⟨C,N,S⟩,T⟩
  exact .rt ⟨C,S (by ext),N⟩
theorem XC:∀{l a b:List C},l.Nodup->a.Sublist l->b.Sublist l->(∀x,x∈a↔x∈b)->a=b
 | [],a,b,_,m,hb,_=>by ext
 | x :: l,a,b,B,m,hb,h=>by
  obtain⟨o,A⟩:=Ba.mp B
  cases m with
  | cons _ m=>
   cases hb with
   | cons _ hb=>exact XC A m hb h
   | cons_cons _ hb=>exact zX (m.subset ((h x).mpr Ae)) o
  | cons_cons _ m=>
   cases hb with
   | cons _ hb=>exact zX (hb.subset ((h x).mp Ae)) o
   | cons_cons _ hb=>
    congr 1
    refine XC A m hb λy=>?_
    grind
def vQ(l:List ZLi):(ddR l).Nodup:=by
 have m:∀(r l:List ZLi),(ddR l).Nodup->(ddR (l++r)).Nodup:=by
  intro r
  induction r with
  | nil=>simp
  | cons x r o=>
   intro l h;rw[show l++x :: r=(l++[x])++r by simp];refine o _ ?_;rw[ND];split
   ·exact h
   ·exact OZ.mpr ⟨h,by assumption⟩
 exact m l [] .nil
open L2 L4
open Srt (ltL)
section
variable{o g:Nat}{ts:List ZPi}{kd:Str}{T:TL}
def sx(ho:o < 8)(l:g<=o)(m:1<=g)(h:Stg o g r):∃n:Nat,(sts o g)[n]?=some r/\n < (sts o g).length:=by
 obtain⟨n,A,e⟩:=CW ((Fx ho l m).mpr h);exact⟨n,by ext,A⟩
def vV(h:(sts o g)[n]?=some r):c∈clS o g n↔(0<=c/\c < (o:Int))/\c∉r:=by
 unfold clS;rw[BH,Cu,Oi h];simp
def UC(ho:o < 8)(H:g<=o)(I:1<=g):r∈((Db 0 (sts o g).length).filter λn=>!(An T n).isSome).map (evN o g)↔∃n:Nat,(sts o g)[n]?=some r/\An T (n:Int)=none:=by
 rw[A9]
 constructor
 ·rintro⟨x,C,rfl⟩
  obtain⟨E,J⟩:=BH.mp C;obtain⟨m,L⟩:=Cu.mp E;have A:=AM (l:=sts o g) (i:=x.toNat) (by lia);have:=Oi A;rw[BY m]at this;refine⟨x.toNat,by rw[this];exact A,?_⟩;rw[BY m];ext
 ·rintro⟨n,B,G⟩
  exact⟨(n:Int),BH.mpr ⟨Cu.mpr ⟨by lia,by have:=(AB.mp B).1;ext⟩,by rw[G];rfl⟩,Oi B⟩
def cp(h:JK o ts)(ho:o < 8)(C:g<=o)(m:1<=g)(H:g<=6)(hs:Stg o g r)(I:c∉r):Ok (FM ts r c kd) λl=>(∀r',r'∈l↔Stg o g r'/\Lk kd (GM ts) r r'/\c∈r')/\l.length<=1000:=by
 obtain⟨B,J,O,L⟩:=lans h ho hs m H c kd;have A:=h.ties ho
 have E:∀r',r'∈B.map Cp↔Stg o g r'/\Lk kd (GM ts) r r'/\c∈r':=λr'=>by
  rw[<-qe A hs I,A9];ext
 obtain⟨-,-,-,N⟩:=N6 o ho g (by lia) C m;have P:=Al (Iw (vQ _) λx G=>(Fx ho C m).mpr ((E x).mp (dQ.mp G)).1) N;unfold FM KO;rw[J];simp only[AF];rw[E8 (by lia) λ_ _=>rfl];simp only[AF]
 rw[show cP (B.map Cp)=some (VY (B.map Cp))from qX ⟨Im.mpr λx G=>by
  grind,by lia⟩]
 refine⟨_,rfl,λr'=>?_,?_⟩
 ·unfold VY
  rw[(Dk _).mem_iff,dQ];exact E r'
 ·unfold VY
  rw[(Dk _).length_eq]
  lia
theorem W8{f:ZLi->List (List ZLi)}:∀{l:List ZLi},r∈l->An (l.map λs=>(s,f s)) r=some (f r)
 | x :: l,h=>by
  unfold An;rw[Ap]
  by_cases e:x=r
  ·ext
  ·rw[MK (by simpa using e)]
   exact W8 ((Aw.mp h).resolve_left (Bw e))
def ue(h:JK o ts)(ho:o < 8)(m:g<=o)(A:1<=g)(B:g<=6):HQ ts o (sts o g) kd=some (csO ts o kd (sts o g)):=by
 obtain⟨-,-,-,G⟩:=N6 o ho g (by lia) m A;unfold HQ;refine qX ⟨by lia,by lia,XD ho m A,by lia,λst C c H I E=>?_⟩;obtain⟨l,e,-,J⟩:=cp (kd:=kd) h ho m A B ((Fx ho m A).mp C) E;unfold bhO;ext
def dU(h:JK o ts)(ho:o < 8)(A:g<=o)(B:1<=g)(Q:g<=6){L:List ZLi}{n:Nat}(m:(sts o g)[n]?=some r):Clo (csO ts o kd (sts o g)) L r↔∀c∈clS o g n,∃j H,BS o g (GM ts) kd n c j/\(sts o g)[j]?=some H/\H∈L:=by
 have I:=A0 m;have R:=(Fx ho A B).mp I;have S:An (csO ts o kd (sts o g)) r=some ((fre o r).map (bhO ts kd r)):=W8 I
 have E:∀c∈clS o g n,∀x,x∈bhO ts kd r c↔∃j,BS o g (GM ts) kd n c j/\(sts o g)[j]?=some x:=λc C x=>by
  have G:=((vV m).mp C).2;obtain⟨l,e,U,-⟩:=cp h ho A B Q R G;unfold bhO;rw[e];refine(U x).trans ⟨λ⟨a,q⟩=>?_,λ⟨j,⟨r1,r2,J,N,q⟩,O⟩=>?_⟩
  ·obtain⟨j,P,-⟩:=sx ho A B a
   exact⟨j,⟨r,x,m,P,q⟩,P⟩
  ·rw[m]at J
   rw[O]at N;cases J;cases N;exact⟨(Fx ho A B).mp (A0 O),q⟩
 have X:∀c,c∈fre o r↔c∈clS o g n:=λc=>by
  unfold fre clS;rw[Oi m,As]
 unfold Clo;rw[S]
 constructor
 ·intro z c C
  obtain⟨x,Y,Z⟩:=z _ rfl _ (A9.mpr ⟨c,(X c).mpr C,rfl⟩);obtain⟨j,j1,j2⟩:=(E c C x).mp Y;exact⟨j,x,j1,j2,Z⟩
 grind
abbrev Lst(o g:Nat)(T:TL):List ZLi:=((Db 0 (sts o g).length).filter λn=>!(An T n).isSome).map (evN o g)
def ZN:(Lst o g T).Sublist (sts o g):=by
 have e:(Db 0 (sts o g).length).map (evN o g)=sts o g:=Dt λi=>by
  rw[AX];unfold Db;rw[AX]
  by_cases c:i < (sts o g).length
  ·rw[D8 c,AM c]
   simp only[R6]
   congr 1
   have:=Oi (AM c);rw[<-this]
   congr 1
   ext
  ext
 conv=>rhs;rw[<-e]
 exact dv.map _
def kL(h:JK o ts)(ho:o < 8)(l:g<=o)(m:1<=g)(G:g<=6)(F:Fa (sts o g).length (clS o g) (BS o g (GM ts) kd) T):∀r∈Lst o g T,Clo (csO ts o kd (sts o g)) (Lst o g T) r:=λr H=>by
 obtain⟨n,B,I⟩:=(UC ho l m).mp H;rw[dU h ho l m G B];intro c J;obtain⟨j,C,A⟩:=F.no n (AB.mp B).1 I c J;obtain⟨N,L,O,E,q⟩:=id C;exact⟨j,L,C,E,(UC ho l m).mpr ⟨j,E,A⟩⟩
def Zc(h:JK o ts)(ho:o < 8)(C:g<=o)(E:1<=g)(H:g<=6)(F:Fa (sts o g).length (clS o g) (BS o g (GM ts) kd) T)(I:∀r∈M,r∈sts o g)(J:∀r∈M,Clo (csO ts o kd (sts o g)) M r):∀r∈M,r∈Lst o g T:=by
 have m:∀(k:Nat) (n:Nat) (r:ZLi) (z:Int×Int),(sts o g)[n]?=some r->An T (n:Int)=some z->z.1 < k->r∉M:=by
  intro k
  induction k with
  | zero=>intro n r z _ A L;have:=(F.ok n z A).1;lia
  | succ k N=>
   intro n r z B A L l;obtain⟨-,O,P,-⟩:=F.ok n z A;obtain⟨j,Q,R,S,U⟩:=(dU h ho C E H B).mp (J r l) _ O;obtain⟨y,y1,y2⟩:=P j R;exact N j Q y S y1 (by lia) U
 intro r l;obtain⟨n,B,e⟩:=CW (I r l)
 have G:(sts o g)[n]?=some r:=by rw[AM B,e]
 refine(UC ho C E).mpr ⟨n,G,?_⟩
 cases X:An T (n:Int)with
 | none=>rfl
 | some z=>exact zX l (m (z.1.toNat+1) n r z G X (by lia))
end
def n8(m:ZLi)(C:m.length<=63):∃l,JI m 3 5=some l/\l.length<=5:=by
 unfold JI LU;simp only[AF,Bj]
 have o:∃k:Nat,k<=5/\(if (if (m.length:Int) - 3 > (0:Int)then(m.length:Int) - 3 else(0:Int)) < (5:Int)then(if (m.length:Int) - 3 > (0:Int)then(m.length:Int) - 3 else(0:Int))else(5:Int))=(k:Int):=⟨(if (if (m.length:Int) - 3 > (0:Int)then(m.length:Int) - 3 else(0:Int)) < (5:Int)then(if (m.length:Int) - 3 > (0:Int)then(m.length:Int) - 3 else(0:Int))else(5:Int)).toNat,by split <;> split <;> lia,by split <;> split <;> grind⟩
 obtain⟨k,A,B⟩:=o;rw[B,NV (by lia) (by lia),As];simp only[AF]
 rw[E8 (by rw[CY];lia) λx _=>by
  rfl]
 exact⟨_,rfl,by rw[AH,CY];exact A⟩
def xq(A:ZLi)(Ζ:A.length<=63):jm A=some true:=by
 refine Ok.is ?_;unfold jm jR;rw[show CB A 0=some (A.getD 0 0)from Uc A 0,show CB A 1=some (A.getD 1 0)from Uc A 1,show CB A 2=some (A.getD 2 0)from Uc A 2];simp only[AF,Bj]
 have ho:∃o:Nat,2<=o/\o < 8/\(2+A.getD 0 0 % 5+if decide (A.getD 0 0 / 84 % 8=1)=true then 1 else 0)=(o:Int):=
  ⟨(2+A.getD 0 0 % 5+if decide (A.getD 0 0 / 84 % 8=1)=true then 1 else 0).toNat,by split <;> grind,by split <;> grind,by split <;> grind⟩
 obtain⟨o,o2,C,eo⟩:=ho;rw[eo];obtain⟨P,e1⟩:=sj A Ζ 3 (by decide) o2 C;rw[show Ib A 3 o=_ from e1];have G:=oC C P;generalize (prs o).filter P=ts at G;simp only[AF,Bj];obtain⟨O,e2,h2⟩:=kh A (ts:=ts) (by have:=G.ln;lia);rw[e2];simp only[AF];rw[G.web (by lia) (by lia) h2];simp only[AF,Bj,few2]
 have hg:∃g:Nat,1<=g/\g<=5/\g<=o/\(((atI [(3:Int),5] (if decide ((o:Int) < 6)=true then 1 else 0)).bind λI=>some (if I < (o:Int)then I else(o:Int))).bind λS=>az (A.getD 1 0) S)=some ((g:Int) - 1):=by
  by_cases c:(o:Int) < 6
  ·rw[wX c,qX rfl,show atI [(3:Int),5] 1=some 5 from JC (by decide) rfl]
   simp only[AF]
   have hm:(0:Int) < (if (5:Int) < (o:Int)then(5:Int)else(o:Int))/\(if (5:Int) < (o:Int)then(5:Int)else(o:Int))<=5/\(if (5:Int) < (o:Int)then(5:Int)else(o:Int))<=o:=by split <;> lia
   rw[XW hm.1];have h1:=qu (A.getD 1 0) (show(if (5:Int) < (o:Int)then(5:Int)else(o:Int))≠0 by grind);have h2:=iI (A.getD 1 0) hm.1;exact⟨(A.getD 1 0 % (if (5:Int) < (o:Int)then(5:Int)else(o:Int))).toNat+1,by ext,by lia,by grind,by congr 1;lia⟩
  ·rw[wY c,qY Ab,show atI [(3:Int),5] 0=some 3 from JC (by decide) rfl]
   simp only[AF];rw[qX (by lia),XW (by decide)];exact⟨(A.getD 1 0 % 3).toNat+1,by ext,by lia,by lia,by congr 1;lia⟩
 obtain⟨g,H,g5,go,eg⟩:=hg;rw[eg];simp only[AF,Bj];rw[show(1:Int)+((g:Int) - 1)=(g:Int) by lia]
 obtain⟨kd,ek⟩:∃kd:Str,atI [("one" : Str), "all"] (A.getD 2 0 % 2)=some kd:=by
  obtain⟨x,Q,-⟩:=dZ (l:=[("one" : Str), "all"]) (A.getD 2 0) (by simp);exact⟨x,Q⟩
 rw[ek];have U:=G.ties C;obtain⟨-,es,za,hl⟩:=N6 o C g (by grind) go H;obtain⟨T,X,eL⟩:=vN U go H
 have R:g<=6:=by grind
 have A':=ue (kd:=kd) G C go H R
 have J:∀r∈sts o g,r≠[]:=λr B z=>by
  have:=((Fx C go H).mp B).1;rw[z]at this;simp at this
  lia
 have hv:∀r∈sts o g,∃bs,An (csO ts o kd (sts o g)) r=some bs:=λr B=>⟨_,W8 B⟩
 have Y:=XD C go H;rw[es];simp only[AF,Bj];rw[A'];simp only[AF,Bj];rw[eL];obtain⟨l,el,l1,l2,l3⟩:=kG hv Y J (by lia);rw[el]
 have eq:=XC Y l1 ZN λx=>⟨Zc G C go H R X (λr B=>l1.subset B) l2 x,l3 _ (λr B=>ZN.subset B) (kL G C go H R X) x⟩
 simp only[AF,Bj];rw[wX eq];simp only[sD,Eb,if_false,Bj];obtain⟨Z,ec,-⟩:=n8 A Ζ;rw[ec];simp only[AF,Bj,vK];refine OkF.out (OkF.seq (OkF.for (λ_ _=>True) trivial ?_) λ_ _=>.rt rfl);intro L d _ hd _ _;refine OkF.seq (OkF.imp (OkF.for (λL (s:List ZLi×Int)=>s.1.Sublist L) .slnil ?_) (λ_ h=>h) λ_ h=>h) ?_
 ·intro p x s Q hp O
  have zh:=hp.length_le;have hsl:=O.length_le;rw[AY,Aq]at zh
  refine OkF.seq (N:=λk=>k.Sublist (p++[x])) ?_ λk E=>?_
  ·split
   ·rw[X0 (by lia)]
    exact .nx (O.append (.refl _))
   ·exact .nx (O.trans (YB _ _))
  ·rw[show om 2 40=some (2 ^ (40:Int).toNat)from qX ⟨by decide,by decide,by decide⟩]
   simp only[AF];rw[show j5 (s.2 % 2 * 3) (2 ^ (40:Int).toNat)=some _ from qX (.inr ⟨by decide,by decide⟩)];exact .nx E
 ·rintro⟨k,e⟩ E
  dsimp only at E ⊢;obtain⟨m,em,m1,m2,-⟩:=kG (λr B=>hv r (E.subset B)) (Y.sublist E) (λr B=>J r (E.subset B)) (by have:=E.length_le;lia);rw[em];simp only[AF];have hml:=(m1.trans E).length_le;rw[E8 (m:=λx=>some (Rs x (Lst o g T))) (by lia) λx Q=>congrArg some (wX (Zc G C go H R X (λr B=>E.subset (m1.subset B)) m2 x Q))];simp only[AF];rw[show(m.map λ_=>true).all id=true by simp]
  exact OkF.map (N:=λ_=>True) (.nx trivial) λ_ _=>trivial
def good:∀(W:Wd),W.excs.Nodup->∀l:ZLi,l.length<=63->∃S',dL W [.fro (l.map D.int)] []=.ok (.bl true) S':=λW _ l h=>VF.law (by rw[<-xq l h];exact we W l)
end M
structure PySem.W.Fast:Prop where(tw10387298853333392821 tw14446057118631472685 tw160598637793930414 tw14832522380085388625 tw4789160720071312296 tw5261537067228425625 tw16630901675150677008 tw6269110963910623966 tw8239258940373689408 tw5186963515251513163 tw6367493348927802379 tw11306588297506051460 tw139998102627253208 tw7392937444262802619 tw4216519197585757801 tw14165153808741577359 tw17388694144657366022 tw16329998541965138205 tw11810415434354350917 tw14326625858279526068 tw9317989501313366221 tw2321418147666111765 tw10578600722300654712 tw17877076804701709580 tw13243166792941185835 tw656703088236512071 tw10154751888532632714 tw10295718846778532759 tw1096470238489195784 tw12867257019256378841 tw5193488857317363392 tw2961258418599923023 tw6787019781876347033 tw10055960832423061694 tw7426526769316238053 tw13473220047925838636 tw10847431199050596383 tw10216315838331050214 tw4881125922669059102 tw9641364964382403260 tw271213107734449877 tw13214718336387012618 tw8494283970066157748 tw8859863184660018815 tw17508239014911037800 tw13815269547745872539 tw18444974352651075070 tw13797817892187485484 tw4418615696129546318 tw5772669352160344657 tw6563622971846205240 tw2740957188155741664 tw1325591461028600711 tw13690378239978323105 tw16443309360090494876 tw9348893760279450017 tw14077182752306947801 tw17373784045468362279 tw16559367273620513978 tw12337196498218509463 tw10452105587182743325 tw18332598476158923264 tw982042001086760128 tw8013465112221456998 tw5167283079807044517 tw6407659742943405406 tw14487954901188150856 tw11391673318529804536 tw401936061279490538 tw16179638078458981089 tw16181780464756617793 tw8728702615950620453 tw10694163036691613419 tw9564626466178558573 tw9487078890612185667 tw9240843235533616154 tw3301476617301923122 tw746164430142093237 tw12159343569845761816 tw4271933402017760920 tw16023961223579475255 tw9458836445910997761 tw10028194851715918193 tw10009618280499117233 tw4859747828235188585 tw12284876565013677464 tw13773844486702857579 tw14086916685414225085 tw11626224643110917619 tw9083925431260323086 tw7789459247125250306 tw7494128276189689521 tw5042812781562121372 tw7799974591954840347 tw15620539431384585753 tw11696447654755716601 tw16063151884216323849 tw475147713070054623 tw4073955672165890665 tw3583425377621514345 tw17263589343041201964 tw10498658601495099704 tw7823823123679028321 tw2679886312921566074 tw8921706676107122526 tw9836951481301589481 tw16766966755400196835 tw2031630829348360845 tw10521551773941094616 tw12606823324025419115 tw18410278489668572443 tw12157530769175997838 tw14852689939173824908 tw14894310454697417362 tw71368846607051697 tw8682452626696620111 tw2467365732066811192 tw9933976370822010307 tw8004758351200758004:True)
namespace M
open L2 PySem.W
def vY{l:OpenLaw}{w:Bo}{K:Frag}{h:B0}{B:Str->Option AG}{fa:AU}(X:K.In h)(G:h.Ns BQ B)(C:B "law" = some (.ref fa))
  {f1 f2 f3 f4 f5 f6 f7 f8 f9 E H I J L N O P Q R S U Y Z f24 f25 f26 f27 f28 f29 f30 f31 f32 f33 f34 f35 f36 f37 A o m:AU} {zk zc:Tok}
  (o_Web:ClsAt K "Web" o)
  (o_Field:ClsAt K "Field" m)
  (d1:ED K "checked_ties" Mb f1)
  (d2:ED K "near_sets_of" MZ f2)
  (d4:ED K "refuse_no_place" Jy f4)
  (d5:ED K "near" jH f5)
  (d6:ED K "takes_of" TW f6)
  (d7:ED K "bits_of" V8 f7)
  (d8:ED K "members" V6 f8)
  (d9:ED K "settle" TX f9)
  (d10:ED K "fits" jJ E)
  (d11:ED K "with_step" RD H)
  (d12:ED K "sets_of" V5 I)
  (d13:ED K "ways_to_choose" Ku J)
  (d14:ED K "how_many" TY L)
  (d15:ED K "standings" RE N)
  (d22:ED K "falling_now" N9 Y)
  (d23:ED K "fallen" Ys Z)
  (d24:ED K "lasting_bits" Ma f24)
  (d25:ED K "lasting" V7 f25)
  (d26:ED K "_law_cell_at" Mc f26)
  (d27:ED K "_law_pairs" PR f27)
  (d28:ED K "_law_first_ties" Jz f28)
  (d29:ED K "_law_ties" RF f29)
  (d30:ED K "_law_handed" OA f30)
  (d31:ED K "_law_near" RH f31)
  (d32:ED K "_law_sets" RG f32)
  (d33:ED K "_law_answers" Md f33)
  (d34:ED K "_law_behind" OB f34)
  (d35:ED K "_law_turns" PQ f35)
  (d36:ED K "_law_calls" PU f36)
  (d37:ED K "_law_left" RI f37)
  (d38:ED K "law" jI A)
  (d3:ON K o "__init__" "Web.__init__" TZ f3)
  (d16:ON K m "linked_by_one" "Field.linked_by_one" Hu O)
  (d17:ON K m "linked_by_all" "Field.linked_by_all" Hv P)
  (d18:ON K m "__init__" "Field.__init__" PV Q)
  (d19:ON K m "calls" "Field.calls" OC R)
  (d20:ON K m "linked" "Field.linked" Me S)
  (d21:ON K m "behind" "Field.behind" Mf U)
  (on:findIn K (.ref o) "places" = some none)
  (Ty:findIn K (.ref o) "ties" = some none)
  (XL:findIn K (.ref o) "near_sets" = some none)
  (mt:findIn K (.ref m) "everything" = some none)
  (aaa:findIn K (.ref m) "kind" = some none)
  (BT:findIn K (.ref m) "takes" = some none)
  (KK:findIn K (.ref m) "numbers" = some none)
  (LE:findIn K (.ref m) "having" = some none)
  (aab:findIn K (.ref m) "place_bits" = some none)
  (Cl:findIn K (.ref m) "known" = some none)
  (z_all:QB K BQ "all" = some none)
  (z_any:QB K BQ "any" = some none)
  (z_enumerate:QB K BQ "enumerate" = some none)
  (z_int:QB K BQ "int" = some none)
  (z_len:QB K BQ "len" = some none)
  (z_list:QB K BQ "list" = some none)
  (z_max:QB K BQ "max" = some none)
  (z_min:QB K BQ "min" = some none)
  (z_range:QB K BQ "range" = some none)
  (z_reversed:QB K BQ "reversed" = some none)
  (z_set:QB K BQ "set" = some none)
  (z_sorted:QB K BQ "sorted" = some none)
  (z_sum:QB K BQ "sum" = some none)
  (z_tuple:QB K BQ "tuple" = some none)
  (aac:QB K BQ "MOST_PLACES" = some (some (.int 60 zk)))
  (aad:QB K BQ "MOST_STANDINGS" = some (some (.int 400 zc)))
  : ∃(W:Wd) (T:Txt K B W),fa=T.IO.f/\W.excs.Nodup/\∀(s:AK) (v:AG),Zt s T.IO.fd ⟨[v],[]⟩ [("script",v)]:=by
 obtain⟨zl,_,_,_,_,_,_,_,_,_,l,c,k⟩:=d38;have F:=kx (st:=jI) l c k
 let W:Wd:=⟨o,m⟩
 let T:Txt K B W:={
  aap:=mkD X G d1 (bd2 λ_ _ _ _ _ _ _ _ _ _=>rfl)
  aaq:=mkD X G d2 (bd2 λ_ _ _ _ _ _ _ _ _ _=>rfl)
  aae:=mkM d3 (bd3 λ_ _ _ _ _ _ _ _ _ _ _=>rfl)
  aar:=mkD X G d4 (bd2 λ_ _ _ _ _ _ _ _ _ _=>rfl)
  aas:=mkD X G d5 (bd2 λ_ _ _ _ _ _ _ _ _ _=>rfl)
  aat:=mkD X G d6 (bd1 λ_ _ _ _ _ _ _ _ _=>rfl)
  aau:=mkD X G d7 (bd1 λ_ _ _ _ _ _ _ _ _=>rfl)
  aaf:=mkD X G d8 (bd1 λ_ _ _ _ _ _ _ _ _=>rfl)
  v9:=mkD X G d9 (bd5 λ_ _ _ _ _ _ _ _ _ _ _ _ _=>rfl)
  aav:=mkD X G d10 (bd3 λ_ _ _ _ _ _ _ _ _ _ _=>rfl)
  aaw:=mkD X G d11 (bd3 λ_ _ _ _ _ _ _ _ _ _ _=>rfl)
  aax:=mkD X G d12 (bd2 λ_ _ _ _ _ _ _ _ _ _=>rfl)
  aay:=mkD X G d13 (bd2 λ_ _ _ _ _ _ _ _ _ _=>rfl)
  aaz:=mkD X G d14 (bd2 λ_ _ _ _ _ _ _ _ _ _=>rfl)
  aaA:=mkD X G d15 (bd2 λ_ _ _ _ _ _ _ _ _ _=>rfl)
  aag:=mkM d16 (bd2 λ_ _ _ _ _ _ _ _ _ _=>rfl)
  aah:=mkM d17 (bd2 λ_ _ _ _ _ _ _ _ _ _=>rfl)
  ST:=mkM d18 (bd4 λ_ _ _ _ _ _ _ _ _ _ _ _=>rfl)
  aai:=mkM d19 (bd2 λ_ _ _ _ _ _ _ _ _ _=>rfl)
  Tm:=mkM d20 (bd2 λ_ _ _ _ _ _ _ _ _ _=>rfl)
  aaj:=mkM d21 (bd3 λ_ _ _ _ _ _ _ _ _ _ _=>rfl)
  aak:=mkD X G d22 (bd2 λ_ _ _ _ _ _ _ _ _ _=>rfl)
  aaB:=mkD X G d23 (bd1 λ_ _ _ _ _ _ _ _ _=>rfl)
  aaC:=mkD X G d24 (bd2 λ_ _ _ _ _ _ _ _ _ _=>rfl)
  aaD:=mkD X G d25 (bd3 λ_ _ _ _ _ _ _ _ _ _ _=>rfl)
  Id:=mkD X G d26 (bd2 λ_ _ _ _ _ _ _ _ _ _=>rfl)
  aal:=mkD X G d27 (bd1 λ_ _ _ _ _ _ _ _ _=>rfl)
  aaE:=mkD X G d28 (bd2 λ_ _ _ _ _ _ _ _ _ _=>rfl)
  aaF:=mkD X G d29 (bd3 λ_ _ _ _ _ _ _ _ _ _ _=>rfl)
  aaG:=mkD X G d30 (bd2 λ_ _ _ _ _ _ _ _ _ _=>rfl)
  aam:=mkD X G d31 (bd2 λ_ _ _ _ _ _ _ _ _ _=>rfl)
  aaH:=mkD X G d32 (bd2 λ_ _ _ _ _ _ _ _ _ _=>rfl)
  aaI:=mkD X G d33 (bd4 λ_ _ _ _ _ _ _ _ _ _ _ _=>rfl)
  aaJ:=mkD X G d34 (bd4 λ_ _ _ _ _ _ _ _ _ _ _ _=>rfl)
  aaK:=mkD X G d35 (bd3 λ_ _ _ _ _ _ _ _ _ _ _=>rfl)
  aaL:=mkD X G d36 (bd4 λ_ _ _ _ _ _ _ _ _ _ _ _=>rfl)
  aan:=mkD X G d37 (bd2 λ_ _ _ _ _ _ _ _ _ _=>rfl)
  IO:=⟨A,_,F,F.binds ((bd1 λ_ _ _ _ _ _ _ _ _=>rfl) _ _),vt X G zl⟩
  ld:=mkO X G o_Web d3
  on:=on
  Ty:=Ty
  XL:=XL
  ce:=mkO X G o_Field d18
  mt:=mt
  aaa:=aaa
  BT:=BT
  KK:=KK
  LE:=LE
  aab:=aab
  Cl:=Cl
  aaS:=mkE d16
  aaT:=mkE d17
  aaU:=mkE d19
  aaV:=mkE d20
  aaW:=mkE d21
  aaN:=EK X G z_all
  aaX:=EK X G z_any
  aaO:=EK X G z_enumerate
  aaP:=EK X G z_int
  Fr:=EK X G z_len
  aaM:=EK X G z_list
  aaQ:=EK X G z_max
  aao:=EK X G z_min
  dl:=EK X G z_range
  aaY:=EK X G z_reversed
  aaZ:=EK X G z_set
  zn:=EK X G z_sorted
  aaR:=EK X G z_sum
  LT:=EK X G z_tuple
  aac:=⟨zk,vt X G aac⟩
  aad:=⟨zc,vt X G aad⟩ }
 refine⟨W,T,?_,EZ,λs v=>.of_eq rfl⟩;have e:=C.symm.trans (vt X G zl);cases e;rfl
def walk{l:OpenLaw}{q:BN}{m:List Str}{L:(Str->Option AG)->B0->Prop}{I:Bo->B0->Prop}{d:DefRec}{K:Params->Frag}(N:l.most=some 63)(C:d.params.defaults=[])
  (O:∀(w:Bo) (h:B0),I w h->(K w.params).In h)
  (F:∀(w:Bo) (o:Str->Option AG) (A:AU) (h:B0),(K w.params).In h->h.Ns BQ o->o d.name=some (.ref A) ->
   ∃(W:Wd) (T:Txt (K w.params) o W),A=T.IO.f/\W.excs.Nodup/\∀(s:AK) (v:AG),Zt s T.IO.fd ⟨[v],[]⟩ [("script",v)])
  (good:∀(W:Wd),W.excs.Nodup->∀B:ZLi,B.length<=63->∃P,dL W [.fro (B.map D.int)] []=.ok (.bl true) P) :
  WalkO q m L I l.row.toRowW d [] (λf vs=>dk f vs):=
 L2.nP (n:=63) (k:=18) (x:="script") (CX:=λw=>CXG l.prog w) (sp:=λw=>i9 (K w.params)) N (by decide) C ⟨rfl,by decide,by decide⟩ O
  (λw o A h Q G E=>by
   obtain⟨W,T,e,R,hb⟩:=F w o A h Q G E;subst e
   exact⟨T.IO.fd,hb,λJ _ _=>kJ (uN T) (good W R)⟩)
  (λ_ _ a B S U X=>⟨a,B,rfl,vE U X,S,λ_=>rfl⟩) (λw H s e Y z=>vT z)
end M
open PySem.W
set_option maxRecDepth 100000 in
set_option maxHeartbeats 0 in
theorem PySem.Challenge.cw_guardround_k21_whole_closed_lists_last_holds : PySem.Challenge.rw_guardround_k21_whole_closed_lists_last.Holds := by
 w_on;o_law;k_head;(case hw=>w_witness2)
 k_fill
 refine M.walk (l:=Gq) rfl rfl (λw h Y=>by first | exact kIn_of Y | exact km_in_of Y) ?F M.good
 case F=>
  intro w mg fa h KX G hmg;refine' M.vY (l:=Gq) (w:=w) KX G hmg ?o_Web ?o_Field ?d1 ?d2 ?d4 ?d5 ?d6 ?d7 ?d8 ?d9 ?d10 ?d11 ?d12 ?d13 ?d14 ?d15 ?d22 ?d23 ?d24 ?d25 ?d26 ?d27 ?d28 ?d29 ?d30 ?d31 ?d32 ?d33 ?d34 ?d35 ?d36 ?d37 ?d38 ?d3 ?d16 ?d17 ?d18 ?d19 ?d20 ?d21 ?on ?Ty ?XL ?mt ?aaa ?BT ?KK ?LE ?aab ?Cl ?z_all ?z_any ?z_enumerate ?z_int ?z_len ?z_list ?z_max ?z_min ?z_range ?z_reversed ?z_set ?z_sorted ?z_sum ?z_tuple ?aac ?aad
  (case o_Web | o_Field=>exact⟨by k_is,by k_is,by k_is,by k_is,by k_is,by k_is,by k_is⟩)
  (case d1 | d2 | d4 | d5 | d6 | d7 | d8 | d9 | d10 | d11 | d12 | d13 | d14 | d15 | d22 | d23 | d24 | d25 | d26 | d27 | d28 | d29 | d30 | d31 | d32 | d33 | d34 | d35 | d36 | d37 | d38=>exact⟨by k_is,_,_,_,_,_,_,_,_,_,by k_is,by k_is,by k_is⟩)
  (case d3 | d16 | d17 | d18 | d19 | d20 | d21=>exact⟨by k_is,by k_is,_,_,_,_,_,_,_,_,_,by k_is,by k_is,by k_is⟩)
  (case on | Ty | XL | mt | aaa | BT | KK | LE | aab | Cl | z_all | z_any | z_enumerate | z_int | z_len | z_list | z_max | z_min | z_range | z_reversed | z_set | z_sorted | z_sum | z_tuple | aac | aad=>k_is)
#print axioms PySem.Challenge.cw_guardround_k21_whole_closed_lists_last_holds
