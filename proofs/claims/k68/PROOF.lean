import PyProof.Rows.All
import Wide.All
import OpenK.AllK
import Wide.FinOn
import Lean
import PyProof.EqAt
import PyProof.EqKinds
import PyProof.TupleCall
import PyProof.ExcBaseAll.ValueError
import PyProof.NsDelKeeps
import PyProof.NeKinds
import PyProof.Rows.SortShell
import PyProof.Rows.FStr
import PyProof.FString
import PyProof.ExcAttrAll.ValueError
import PyProof.ExcArgsOwn
import PyProof.Rows.SortRuns
import PyProof.TupleIter
import PyProof.Dict
import KE.KDictSum
import PyProof.Rows.SetFrom
import PyProof.SetRoads
import PyProof.Rows.Range3
import PyProof.WalksMore
import PyProof.TupleOfSeq
import PyProof.EnumMake
import PyProof.SliceList
import PyProof.MinMaxWalk
import PyProof.Rows.EnumRows
import PyProof.WalkInts
import PyProof.Rows.SeqCalls
import KE.KRevIter
import PyProof.CollectIter
import PyProof.TupleOfGen
import PyProof.Rows.FactsT2
import PyProof.ListRange
import PyProof.Rows.CallKwBuiltin
import PyProof.ZipIter
import PyProof.Rows.ZipGen
import PyProof.Rows.RuleM_int
import PyProof.Rows.AssignMoreSeq
import KE.KIntText
import PyProof.Rows.StrKeys3
import PyProof.StrBlock
import PyProof.StrCalls2
import PyProof.StrWalks
import PyProof.Rows.RuleN_abs
import PyProof.DictFindH
import PySem.Challenge.RW_guardround_k68_whole_called_anew
set_option Elab.async false
set_option linter.all false
set_option maxRecDepth 100000
set_option maxHeartbeats 8000000
noncomputable abbrev ZLi:=List Int
noncomputable abbrev ZPi:=Int×Int
theorem qX{c:Prop}{h:Decidable c}(l:c){m:Sort u}{t e:m}:ite c t e=t:=if_pos l
theorem qY{c:Prop}{h:Decidable c}(l:Not c){m:Sort u}{t e:m}:ite c t e=e:=if_neg l
theorem wX{p:Prop}[i:Decidable p](h:p):decide p=true:=decide_eq_true h
theorem wY{p:Prop}[i:Decidable p](h:Not p):decide p=false:=decide_eq_false h
theorem zX{a b:Prop}(h:a)(n:Not a):b:=absurd h n
noncomputable section
open Array renaming back?->ur,ext'->vE,getD_eq_getD_getElem?->Jq,getElem?_eq_getElem->V5,getElem?_toList->Zb,length_toList->CN,mem_toList_iff->GM,perm_iff_toList_perm->Ke,toList->qS,toList_map->MP
open Array.Perm renaming refl->Qb
open Bool renaming and_eq_true->CS,eq_iff_iff->NV,false_and->OY,false_eq_true->DM,false_ne_true->AN,false_or->qR,not_true->Pj,or_eq_true->HF,true_and->Xz
open Classical renaming byContradiction->Jp,choose->DJ,choose_spec->EK
open Eq renaming trans->Ip
open False renaming elim->Et
open ForInStep renaming yield->JE
open Int renaming ediv_one->u8,emod_lt_of_pos->gX,emod_nonneg->Vf,fdiv_eq_ediv_of_nonneg->Wr,le_antisymm->pN,le_refl->xt,lt_of_le_of_lt->gW,lt_trans->R6,lt_trichotomy->R5,natCast_nonneg->K5,one_mul->xr,sub_zero->u7,toNat_natCast->At,toNat_of_nonneg->Ax
open List renaming Nodup->Kg,all_cons->MD,all_eq_true->ES,all_map->ZW,any_cons->JN,any_eq_false->gU,any_eq_true->FC,any_toArray->NB,append_assoc->CT,append_nil->By,drop_drop->pM,drop_eq_getElem_cons->C0,drop_nil->qQ,drop_of_length_le->II,eq_nil_of_length_eq_zero->JY,ext_getElem?->IH,filterMap_cons->PZ,filter_cons_of_neg->X9,filter_cons_of_pos->X8,find?_cons->CD,find?_eq_none->FP,find?_eq_some_iff_append->TU,find?_isSome->gR,find?_some->VV,flatMap_append->PY,flatMap_cons->Ln,flatMap_eq_nil_iff->X7,flatten_append->dI,foldl_append->IG,foldl_nil->V3,forIn_cons->lC,forIn_nil->V2,getD_eq_getElem?_getD->BI,getElem?_append_left->Av,getElem?_append_right->Bd,getElem?_drop->Qa,getElem?_eq_getElem->AO,getElem?_eq_none->Bs,getElem?_eq_none_iff->Go,getElem?_eq_some_iff->AE,getElem?_inj->gP,getElem?_map->Ad,getElem?_range->CP,getElem?_replicate->D9,getElem?_set->De,getElem?_set_ne->Ae,getElem?_set_self->As,getElem?_zipIdx->JX,getElem_inj->Se,getElem_map->kg,getElem_mem->Du,getElem_of_mem->Bl,getElem_zip->JK,length->JW,length_append->AQ,length_cons->BC,length_drop->FB,length_erase_of_mem->MC,length_filter_le->JD,length_map->AC,length_nil->EC,length_range->D8,length_replicate->N8,length_set->EB,length_singleton->Ac,length_take->Dt,length_zip->Jl,lookup->JV,lookup_cons->Bi,map->Re,mapM_toArray->gN,map_append->Ba,map_congr_left->DA,map_cons->Az,map_drop->qP,map_id->OX,map_id'->uj,map_map->BB,map_nil->Ka,map_take->Xw,mem_append->Ag,mem_append_left->BP,mem_append_right->BR,mem_cons->Af,mem_cons_of_mem->AV,mem_cons_self->AZ,mem_filter->BE,mem_filterMap->QZ,mem_flatMap->FA,mem_map->Ai,mem_map_of_mem->C9,mem_of_find?_eq_some->Lb,mem_of_getElem?->Al,mem_of_mem_take->bQ,mem_range->Ea,mem_range'->lB,mem_range'_1->Rc,mem_singleton->AG,mem_singleton_self->X6,mergeSort_perm->dH,ne_nil_of_mem->QY,nil_append->VU,nodup_append->Dd,nodup_cons->Bu,nodup_nil->EZ,not_mem_nil->Cw,of_mem_zip->Jk,pairwise_append->DS,pairwise_cons->HG,pairwise_iff_getElem->Dp,pairwise_map->Bc,pairwise_mergeSort->X5,pairwise_singleton->D7,perm_append_comm->Zj,perm_ext_iff_of_nodup->V1,range->BJ,range'->Gc,range'_succ->Sd,range_succ->HD,range_succ_eq_map->ZV,replicate->B1,set_set->ui,size_toArray->Au,sublist_append_left->Xv,take_add_one->Lm,take_append_drop->JC,take_length->Gk,take_of_length_le->EJ,take_sublist->gM,take_zero->pL,zipIdx_nil->lA,zip_cons_cons->gB
open List.Pairwise renaming and->V4,nil->u6,of_map->TV
open List.Perm renaming append_left->MM,refl->NI
open List.Sublist renaming refl->xq
open Nat renaming add_le_add_left->CA,and_div_two->Ve,and_mod_two_pow->Pd,le_antisymm->pK,le_of_eq->u5,le_of_lt->Kd,le_of_not_lt->TR,le_of_succ_le->R4,le_refl->AM,le_succ->MB,le_trans->Aj,lt_irrefl->ER,lt_of_le_of_lt->Aq,lt_of_lt_of_le->AX,lt_of_not_le->k9,lt_or_ge->Zi,lt_succ_of_lt->R3,lt_succ_self->Dw,lt_trans->u0,lt_trichotomy->MA,min_eq_left->Vd,min_le_right->TQ,mod_two_eq_zero_or_one->Kz,ne_of_gt->FS,ne_of_lt->BK,not_lt->Ky,not_lt_zero->Fh,one_mul->xo,pow_le_pow_right->dG,pow_succ->Zh,strongRecOn->pJ,sub_self->uz,succ_ne_self->k6,testBit->xn,testBit_and->Vc,testBit_lt_two_pow->Zg,testBit_or->Wp,testBit_succ->Gn,testBit_two_pow->KZ,testBit_zero->Gm,two_pow_pos->pI,zero_add->IQ,zero_le->Do,zero_testBit->kz
open Nat.succ renaming inj->L9
open Ne renaming symm->Ck
open Option renaming bind_some->AJ,getD_none->fy,getD_some->Rb,isSome_iff_exists->Ce,isSome_map->IA,isSome_some->bO,map->ug,map_eq_some_iff->Hz
open Option.some renaming inj->Bq
open Or renaming inl->Ra,inr->RZ
open Prod renaming ext->pH
open Prod.mk renaming inj->G6,injEq->Vb
open PyProof renaming noPylong_small->Wn
open PyProof.Rows renaming AllBare->Lp,Call_->uo,IntsAre->HE,IsTup->lD,Keyed->Dv,SortKind->Qk,SortSt->Fq,Subscript_->qN,args_tuple_getitem->qM,arrOf->BD,boot_abs->xm,boot_int->xl,boot_list->xj,boot_max->xi,boot_min->xh,boot_range->TK,boot_sorted->xg,boot_sum->xf,boot_tuple->Rz,bubble->qL,callWith_builtin1->xc,callWith_type1->Bt,entry_tuple_getitem->pD,envOfC->Oq,firstOfTuple'->dC,general'->Zd,listUpdate_at->dB,ltAt'->ua,mirror->MJ,mirror_perm->Xt,pairsOf->NR,pairsOf_size->VX,pendingOf->CU,reverseSlice'->Sb,reverseSlice'_eq->OM,seqEpoch_at->ku,seqObj->Kv,slot_tuple_getitem->Ci,sortedHeap->qH,subscriptTail->c8,subscriptTail_builtinR->gH,tuples'->uV,wpS_bind->B9,wpS_forRange->JL,wpS_get->ZS,wpS_modify->MF,wpS_mono->Qd,wpS_pure->DH
open PyProof.Rows.IsTup renaming new->gV
open PyProof.Rows.SortSt renaming mk'->NA
open PySem renaming Addr->Ab,Around->Cf,BindsTo->Za,Builtin->uq,DictEntry->Rg,FuncData->MN,Heap->DO,IsEnum->Wq,IsPart->Qm,IsRange->ul,IsRangeIter->Xx,ItemsOf->uk,Keyword->ZX,NameKind->Ql,Paired->Gf,PassesOwn->Wo,Program->Bw,Scope->Va,Shared->AS,Stmt->DB,Value->AK,Within->X3,World->CV,again->ft,assign->TM,assignEach->Fo,atKey->ON,attributeBase->Gb,backTo->Eo,backToKw->Zf,behindInMarks->Cz,binaryOp->Dc,bindArgs->kx,bindC->fq,bindL->fo,bootBuiltins->JM,builtinsNs->Ze,cLine->FK,call->dE,call_range_1->gK,callerA->VZ,cellsFrom->Cd,codeAny->Li,codeAny_builtin->X2,codeAny_mono->VY,compareOp->B2,concat_meets->gJ,entryOfKey->qK,eval->CF,firstArgMember->Qj,foldedSetIterable->Gi,getItem->Lh,getMethod->fm,holding->RY,isTrue->qJ,keywordEach->Qi,letOwnedTupleGo->PX,mainGlobals->BZ,mem_of_lookup->ED,model->Aw,newFunctionEnv->Zc,noFill_tuple_add->Wi,preSum->TJ,pushCells->FR,pushCells_keeps->X1,pyIter->qI,pyNext->Wh,rangeSize_one->dA,rawInt->Qh,relabel->Lg,seqIndex_of->kt,seq_tuple_add->c9,setItem->uZ,sizeLine_eq->kr,size_of_entries->xX,sliceBounds->Kb,slot_list_getitem->uY,small_one->uw,spliced->uX,standAt->uW,starEach->Aa,storeName->uv,subscripted->Xs,swapsWith->HB,sysModules->Cm,tupleKind->Wg,tupleKind_room_in1->IN,valueAt->VW,wpAny->Am,wpAny_Call_Name_kw->Fm,wpAny_Dict_empty->uu,wpAny_Name->qG,wpAny_assign_Name->uU,wpAny_attempt->Sa,wpAny_bind->AB,wpAny_callSpecial?_slot->Db,wpAny_call_entry->Da,wpAny_comprehension_free->c7,wpAny_dictEntries->E9,wpAny_dictEpoch->Ku,wpAny_eqBool_int->Wf,wpAny_execs_cons->ut,wpAny_execs_nil->PV,wpAny_field->Io,wpAny_fieldsOf->Qg,wpAny_holding->IC,wpAny_isInstance->We,wpAny_isOneOf_keyiter->Pa,wpAny_isTrue_Compare1->ke,wpAny_loadName_cell->pC,wpAny_loadName_local->kn,wpAny_loadPart'->PU,wpAny_mono->IM,wpAny_newObj_type->CY,wpAny_notOrdered_dict->kc,wpAny_of_eq->kl,wpAny_passesOwn->GK,wpAny_pure->AL,wpAny_pyIter_enum->NQ,wpAny_pyIter_keyiter->kj,wpAny_pyIter_range->qF,wpAny_pyIter_rangeiter->gF,wpAny_pyIter_tuple->MH,wpAny_pyNext_range_end->gD,wpAny_rule->TH,wpAny_sequenceKey->uT,wpAny_setField->Qe,wpAny_truthy_bool->E8,wpAny_typeNameOfWhole_keyiter->Fj,wpAny_typeNameOf_keyiter->IB,wpAny_typeOf->Op
open PySem.Around renaming under->X0,under_plainId->OA
open PySem.Builtin renaming bitAnd->Bn,bitNot->gZ,bitOr->Cq,bitXor->Ex
open PySem.Builtin.Dict renaming dictSlotArgs->Qn,dictSlotNone->xx,samePairs->Sf,showsAll->Ld
open PySem.Builtin.Dict_items renaming ownsTuple->NT
open PySem.Builtin.Int renaming intBits->D3
open PySem.Builtin.List renaming listExtendWith->xw,listItems->Kh
open PySem.Builtin.Range renaming rangeFitsLong->vD,rangeSize->Bo,small->Ej
open PySem.Builtin.Slice renaming sliceAdjust->JO,sliceApplied->Pi,sliceFields->vC,slicePartIndex->vB,slicePlaces->FY
open PySem.Builtin.SmallTypes renaming nextOf->FH
open PySem.Builtin.Tuple renaming tupleExact->Df,tupleIsExact->vA,tupleItemsOf->Ph
open PySem.Calls renaming Name_function_global->Vg,callWith_builtin->YC,spliced_cons->Pe,spliced_nil->Lc
open PySem.Challenge renaming pw_guardround_k68_whole_called_anew->qO,rw_guardround_k68_whole_called_anew->IF
open PySem.Code renaming frames->u9,isFrame->ZZ
open PySem.Data renaming cell->YB,fields->TW
open PySem.F renaming args_dict_keyiterator_next_1->OP,args_object_init_2->gY,args_tuple_add_2->Kw,args_tuple_iterator_next_1->Ws,called_tuple->YA,entry_dict_keyiterator_next->OW,entry_tuple_add->Ll,entry_tuple_iterator_next->Xy,plainAttrs_list->V0,plain_list_iadd->pP,plain_tuple_new->pO,slot_dict_iter->Wm,slot_dict_keyiterator_next->DI,slot_dict_ne->X4,slot_enumerate_next->gC,slot_tuple_add->MK,slot_tuple_iterator_next->Gp
open PySem.Heap renaming ExtBut->bS,SameBut->FQ,get?_push_of_some->AR,get?_push_size->Ah,get?_update_ne->dJ,get?_update_other->ZY,get?_update_self->N9,lt_size->Ao,size_push->Eb
open PySem.Heap.IsSliceOf renaming new->um
open PySem.Heap.SameBut renaming refl->xu,update->IR
open PySem.IsRange renaming new->Rf
open PySem.NameKind renaming cell->DU,free->Gj
open PySem.Obj renaming cls_mapFields->kf,data_mapFields->Kx,isFreed_of_fields->bP,mapFields->uh,mapSeq->Gg
open PySem.Paired renaming length->EG,snoc->ZU
open PySem.SeqAt.RcAt renaming tuples->ux
open PySem.Str renaming ofString->IP
open PySem.Value renaming bool->dD,bytes->uf,float->ue,int->KY,isInt->ud,isStrOf->pE,none->EY,ref->BW,str->Xu,type->HC
open PySem.W renaming Frag->AI,callWith_K->Os,cellsFrom_some->Wl,codeIn->TN,emptyDict->DV,findIn->EL,fnOf->JZ,handedIn->dF,hasDictIn->Pc,instObj->Ei,isFn->Wj,kdu_collect->ZT,keepIn->Fs,lookIn->NU,makesIn->fx,methodObj->Pb,mg_none_of->Fn,mg_of->fj,nsIn->Rw,plainGet->Lj,plainGet_of->OO,plainOver->bN,takerIn->Ry
open PySem.W.Looks renaming here->uy
open PySem.W.WData renaming int->xY
open PySem.W.WShape renaming has->uc
open PySem.Walks renaming range->ub
open PySem.Within renaming cons->xZ
open Std.Legacy.Range renaming forIn_eq_forIn_range'->pG,size->pF
open Sum renaming inl->EA,inr->Rx
open True renaming intro->NS
namespace L2
open PySem PySem.Spec PyProof.Rows
noncomputable abbrev Key:=Sum Int Str
noncomputable def WN:Key->AK->Bool
 | .inl k,v=>ud k v
 | .inr x,v=>pE x v
noncomputable def keyH(w:CV):Key->Int
 | .inl k=>hashInt k
 | .inr x=>hashStr w x
theorem D1:∀{k:Key} {v:AK},WN k v=true->(∃i t,k=EA i/\v=KY i t)∨(∃x t,k=Rx x/\v=Xu x t)
 | .inl i,v,h=>by
  obtain⟨t,e⟩:=AK.isInt_shape (k:=i) (v:=v) h;exact .inl ⟨i,t,rfl,e⟩
 | .inr x,v,h=>by
  obtain⟨t,e⟩:=AK.isStrOf_shape (x:=x) (v:=v) h;exact .inr ⟨x,t,rfl,e⟩
theorem et(i:Int)(t:Tok):WN (.inl i) (.int i t)=true:=by simp[WN,ud]
theorem eo(x:Str)(t:Tok):WN (.inr x) (.str x t)=true:=by simp[WN,pE]
theorem tG(a b:Int):decide ((EA a:Key)=EA b)=(a==b):=by
 by_cases e:a=b
 ·subst e;simp
 ·have h:¬(EA a:Key)=EA b:=λq=>e (EA.inj q)
  rw[wY h];exact(beq_eq_false_iff_ne.mpr e).symm
theorem tD(a b:Str):decide ((Rx a:Key)=Rx b)=decide (a=b):=by
 by_cases e:a=b
 ·subst e;simp
 ·have h:¬(Rx a:Key)=Rx b:=λq=>e (Rx.inj q)
  rw[wY h,wY e]
theorem tF(a:Int)(b:Str):decide ((EA a:Key)=Rx b)=false:=wY (λq=>nomatch q)
theorem tE(a:Str)(b:Int):decide ((Rx a:Key)=EA b)=false:=wY (λq=>nomatch q)
noncomputable def Eu(prog:Bw)(w:CV):PySem.KeyKind prog w Key where
 is:=WN
 hash:=keyH w
 inj:=λv a b o hb=>by
  rcases D1 o with⟨i,t,rfl,rfl⟩ | ⟨x,t,rfl,rfl⟩
  ·rcases D1 hb with⟨j,u,rfl,e⟩ | ⟨y,u,rfl,e⟩
   ·injection e with l _;rw[l]
   ·exact nomatch e
  ·rcases D1 hb with⟨j,u,rfl,e⟩ | ⟨y,u,rfl,e⟩
   ·exact nomatch e
   ·injection e with l _;rw[l]
 byValue:=λk v h=>by
  rcases D1 h with⟨i,t,rfl,rfl⟩ | ⟨x,t,rfl,rfl⟩ <;> rfl
 pyHash:=λm h=>by
  rcases D1 m with⟨i,t,rfl,rfl⟩ | ⟨x,t,rfl,rfl⟩
  ·exact wpAny_pyHash_int h
  ·exact wpAny_pyHash_str h
 eqBool:=λs m h=>by
  rcases D1 s with⟨i,t,rfl,rfl⟩ | ⟨x,t,rfl,rfl⟩
  ·rcases D1 m with⟨j,u,rfl,rfl⟩ | ⟨y,u,rfl,rfl⟩
   ·rw[tG]at h;exact Wf h
   ·rw[tF]at h;exact SeqAt.EqAt.int_str i t y u _ _ _ _ h
  ·rcases D1 m with⟨j,u,rfl,rfl⟩ | ⟨y,u,rfl,rfl⟩
   ·rw[tE]at h;exact SeqAt.EqAt.str_int x t j u _ _ _ _ h
   ·rw[tD]at h;exact wpAny_eqBool_str h
 «strs»:=λk x t v h=>by
  rcases D1 h with⟨i,u,rfl,e⟩ | ⟨y,u,rfl,e⟩
  ·exact nomatch e
  ·injection e with l _
   subst l
   cases v <;> rfl
theorem Yx(prog:Bw)(w:CV)(i:Int)(t:Tok):(Eu prog w).is (.inl i) (.int i t)=true:=et i t
theorem Yw(prog:Bw)(w:CV)(x:Str)(t:Tok):(Eu prog w).is (.inr x) (.str x t)=true:=eo x t
inductive V where
 | non | bl (b:Bool) | int (i:Int) | str (x:Str) | byt (b:Array UInt8) | flt (b:UInt64) | ref (a:Ab) | ty (n:String)
 deriving DecidableEq
noncomputable def RelV:V->AK->Prop
 | .non,u=>u=EY
 | .bl b,u=>u=dD b
 | .int i,u=>∃t,u=KY i t
 | .str x,u=>∃t,u=Xu x t
 | .byt b,u=>∃t,u=uf b t
 | .flt b,u=>∃t,u=ue b t
 | .ref a,u=>u=BW a
 | .ty n,u=>u=HC n
noncomputable abbrev CG:List V->List AK->Prop:=Gf RelV
theorem CG.length(r:CG xs us):xs.length=us.length:=EG r
theorem CG.get:∀{xs:List V} {us:List AK} {i:Nat} {x:V},CG xs us->xs[i]?=some x->∃u,us[i]?=some u/\RelV x u
 | _,_,_,_,.nil,e=>by simp at e
 | _,_,0,_,.cons r _,e=>by simp at e;subst e;exact⟨_,rfl,r⟩
 | _,_,i+1,x,.cons _ t,e=>by
  obtain⟨u,l,m⟩:=CG.get (i:=i) (x:=x) t (by simpa using e);exact⟨u,by simpa using l,m⟩
theorem CG.set(r:RelV x u):∀{xs:List V} {us:List AK} (i:Nat),CG xs us->CG (xs.set i x) (us.set i u)
 | _,_,_,.nil=>.nil
 | _,_,0,.cons _ t=>.cons r t
 | _,_,i+1,.cons q t=>.cons q (CG.set r i t)
theorem CG.append:∀{xs ys:List V} {us l:List AK},CG xs us->CG ys l->CG (xs++ys) (us++l)
 | _,_,_,_,.nil,s=>s
 | _,_,_,_,.cons r t,s=>.cons r (CG.append t s)
theorem CG.take:∀{xs:List V} {us:List AK} (n:Nat),CG xs us->CG (xs.take n) (us.take n)
 | _,_,0,_=>.nil
 | _,_,_+1,.nil=>.nil
 | _,_,n+1,.cons r t=>.cons r (CG.take n t)
theorem CG.drop:∀{xs:List V} {us:List AK} (n:Nat),CG xs us->CG (xs.drop n) (us.drop n)
 | _,_,0,r=>r
 | _,_,_+1,.nil=>.nil
 | _,_,n+1,.cons _ t=>CG.drop n t
noncomputable def OV:Option V->Option AK->Prop
 | some v,some u=>RelV v u
 | none,none=>True
 | _,_=>False
noncomputable def KV{l:Type}:List (l×V)->List (l×AK)->Prop:=Gf λ(p:l×V) (q:l×AK)=>p.1=q.1/\RelV p.2 q.2
noncomputable def kV:Key->V
 | .inl i=>.int i
 | .inr x=>.str x
inductive HO where
 | lst (xs:List V)
 | tup (xs:List V)
 | dK (f':List (Key×V)) | dT (f':List (List Key×V))
 | set (S:Int->Bool) (n:Nat)
 | ins (C dx:Ab) (fs:List (Str×V))
 | own (x:Ab)
 | xd (fs:List (Str×V))
 | met (f x:Ab)
 | rng (lo hi:Int)
 | frz (o:Obj) (u:HO)
 | tbl (ps:Array AK)
 | ext (φ:DO->Prop)
noncomputable abbrev Hp:=Ab->Option HO
noncomputable def upd(H:Hp)(a:Ab)(o:HO):Hp:=λb=>if b=a then some o else H b
theorem CB:upd H a o a=some o:=by unfold upd;rw[qX rfl]
theorem Bv(h:b≠a):upd H a o b=H b:=by unfold upd;rw[qY h]
theorem wP{H:Hp}{a b:Ab}{o u:HO}(h:H a=some o)(h':H b=some u)(d:o≠u):a≠b:=by
 intro e;subst e;rw[h]at h';exact d (Bq h')
theorem Cy{H:Hp}{a b:Ab}{o:HO}(h:H a=some o)(h':H b=none):a≠b:=by
 intro e;subst e;rw[h]at h';cases h'
section
variable(P:Bw)(w:CV)
noncomputable def D2(H:Hp)(h:DO)(a:Ab):HO->Prop
 | .lst l=>l.length<=sizeLine/\∃(s:List AK) (n:Nat),CG l s/\h.get? a=some { cls:=.type "list",data:=.seq s.toArray n }
 | .tup l=>(l.length<=sizeLine/\∃o,h.get? a=some o/\o.dict=none)/\∃s:List AK,CG l s/\lD h a s.toArray
 | .dK A=>A.length<=sizeLine/\(a==Cm)=false/\∃G,KV A G/\h.DictOf (Eu P w) a G
 | .dT A=>A.length<=sizeLine/\(a==Cm)=false/\∃l:List (List Key×Ab×AK),
   Gf (λ(p:List Key×V) (q:List Key×Ab×AK)=>p.1=q.1/\H q.2.1=some (.tup (p.1.map kV))/\RelV p.2 q.2.2) A l /\
   ∃o I N,h.get? a=some o/\o.ExactDict/\o.data=.dict I N/\I.toList=l.map (qK (Wg (Eu P w)))/\(l.map (·.1)).Nodup
 | .set S n=>h.SetOf (intKind P w) a S n
 | .ins C B fs=>H B=some (.own a)/\fs.length<=1000/\B≠a/\h.get? a=some (Ei C B) /\
   ∃m,h.Ns1 B m/\(∀f,OV (fs.lookup f) (m f))/\X3 m (fs.map (·.1))
 | .own _=>∃o,h.get? a=some o
 | .xd fs=>∃m,h.Ns1 a m/\∀f,OV (fs.lookup f) (m f)
 | .rng lo O=>∃t u v,h.get? a=some { cls:=.type "range",data:=.fields #[.int lo t,.int O u,.int 1 v] }
 | .frz o u=>h.get? a=some o/\D2 H h a u
 | .tbl Q=>h.get? a=some { cls:=.none,data:=.fields Q }
 | .met f x=>h.get? a=some (Pb (.ref f) (.ref x))
 | .ext E=>E h/\(∃o,h.get? a=some o)/\∀J L:DO,E J->(∀o,J.get? a=some o->L.get? a=some o)->E L
noncomputable def HOk(H:Hp)(h:DO):Prop:=∀a o,H a=some o->D2 P w H h a o
end
section
variable{P:Bw}{w:CV}{H H':Hp}{h h':DO}{a:Ab}{o:HO}
theorem D2.lt(x:D2 P w H h a o):a < h.objs.size:=by
 cases o with
 | lst l=>obtain⟨_,_,_,_,e⟩:=x;exact Ao e
 | tup l=>obtain⟨_,_,_,p⟩:=x;exact p.lt
 | dK m=>obtain⟨_,_,_,_,o,_,_,e,_⟩:=x;exact Ao e
 | dT m=>obtain⟨_,_,_,_,o,_,_,e,_⟩:=x;exact Ao e
 | set S n=>obtain⟨o,_,_,_,e,_⟩:=x;exact Ao e
 | ins C s fs=>obtain⟨_,_,_,e,_⟩:=x;exact Ao e
 | own y=>obtain⟨_,e⟩:=x;exact Ao e
 | xd fs=>obtain⟨_,⟨_,_,_,e,_⟩,_⟩:=x;exact Ao e
 | rng lo A=>obtain⟨_,_,_,e⟩:=x;exact Ao e
 | frz B u=>obtain⟨e,_⟩:=x;exact Ao e
 | tbl E=>exact Ao (show h.get? a=some _ from x)
 | met f y=>exact Ao (show h.get? a=some _ from x)
 | ext G=>obtain⟨_,⟨_,e⟩,_⟩:=x;exact Ao e
theorem Gf.mapP{s A:Type}{F G:s->A->Prop}:∀{l:List s} {m:List A},Gf F l m->(∀a b,F a b->G a b)->Gf G l m
 | _,_,.nil,_=>.nil
 | _,_,.cons r t,f=>.cons (f _ _ r) (Gf.mapP t f)
theorem D2.stay(x:D2 P w H h a o)(k:∀b u,(b=a∨H b=some (.own a))->h.get? b=some u->h'.get? b=some u)
  (ho:∀b,H b=some (.own a)->H' b=some (.own a)) (J:∀b xs,H b=some (.tup xs)->H' b=some (.tup xs)):D2 P w H' h' a o:=by
 induction o with
 | lst xs=>obtain⟨z,A,n,r,e⟩:=x;exact⟨z,A,n,r,k _ _ (.inl rfl) e⟩
 | tup xs=>obtain⟨⟨z,L,B,N⟩,A,r,l,e,c⟩:=x;exact⟨⟨z,L,k _ _ (.inl rfl) B,N⟩,A,r,l,k _ _ (.inl rfl) e,c⟩
 | dK O=>obtain⟨z,y,Q,r,l,m,s,e,c⟩:=x;exact⟨z,y,Q,r,l,m,s,k _ _ (.inl rfl) e,c⟩
 | dT O=>
  obtain⟨z,y,xs,r,l,m,s,e,c⟩:=x;exact⟨z,y,xs,Gf.mapP r λp q z=>⟨z.1,J _ _ z.2.1,z.2.2⟩,l,m,s,k _ _ (.inl rfl) e,c⟩
 | set S n=>obtain⟨l,m,s,t,e,c⟩:=x;exact⟨l,m,s,t,k _ _ (.inl rfl) e,c⟩
 | ins C U fs=>
  obtain⟨d,z,R,e,E,⟨G,m,s,B,c⟩,r⟩:=x;exact⟨ho _ d,z,R,k _ _ (.inl rfl) e,E,⟨G,m,s,k _ _ (.inr d) B,c⟩,r⟩
 | own y=>obtain⟨l,e⟩:=x;exact⟨l,k _ _ (.inl rfl) e⟩
 | xd fs=>obtain⟨E,⟨G,m,s,e,c⟩,r⟩:=x;exact⟨E,⟨G,m,s,k _ _ (.inl rfl) e,c⟩,r⟩
 | rng lo X=>obtain⟨t,u,v,e⟩:=x;exact⟨t,u,v,k _ _ (.inl rfl) e⟩
 | frz l u T=>obtain⟨e,q⟩:=x;exact⟨k _ _ (.inl rfl) e,T q⟩
 | tbl I=>
  have e:h.get? a=some { cls:=.none,data:=.fields I }:=x;show h'.get? a=some { cls:=.none,data:=.fields I };exact k a _ (.inl rfl) e
 | met f y=>
  have e:h.get? a=some (Pb (.ref f) (.ref y)):=x;show h'.get? a=some (Pb (.ref f) (.ref y));exact k a _ (.inl rfl) e
 | ext Y=>obtain⟨p,⟨o,e⟩,st⟩:=x;exact⟨st _ _ p λo q=>k _ _ (.inl rfl) q,⟨o,k _ _ (.inl rfl) e⟩,st⟩
theorem HOk.lt(x:HOk P w H h)(e:H a=some o):a < h.objs.size:=(x a o e).lt
theorem HOk.fresh(x:HOk P w H h)(e:h.objs.size<=a):H a=none:=by
 cases q:H a with
 | none=>rfl
 | some u=>exact zX (AX (x.lt q) e) (ER _)
theorem HOk.kept(x:HOk P w H h)(k:∀b u,h.get? b=some u->h'.get? b=some u):HOk P w H h':=λa o e=>
 (x a o e).stay (λb u _ q=>k b u q) (λ_ q=>q) λ_ _ q=>q
theorem HOk.laid(x:HOk P w H h)(k:∀b u,h.get? b=some u->h'.get? b=some u)(m:h.objs.size<=a)(new:D2 P w (upd H a o) h' a o):HOk P w (upd H a o) h':=λb u e=>by
 have l:=x.fresh m
 by_cases hb:b=a
 ·subst hb;rw[CB]at e;cases e;exact new
 ·rw[Bv hb]at e
  exact(x b u e).stay (λc v _ q=>k c v q) (λc q=>by rw[Bv (Cy q l)];exact q) λc s q=>by rw[Bv (Cy q l)];exact q
end
noncomputable def Rd(H:Hp)(a:Ab)(u:HO):Prop:=H a=some u∨∃o,H a=some (.frz o u)
theorem Rd.ok(r:Rd H a u)(x:HOk P w H h):D2 P w H h a u:=by
 rcases r with r | ⟨o,r⟩
 ·exact x a u r
 ·obtain⟨_,q⟩:=x a _ r
  exact q
noncomputable def Mut:Option HO->Prop
 | some (.lst _)=>True
 | some (.dK _)=>True
 | some (.dT _)=>True
 | some (.set _ _)=>True
 | some (.ins _ _ _)=>True
 | some (.ext _)=>True
 | _=>False
section
variable{P:Bw}{w:CV}{H:Hp}{h h':DO}{x e:Ab}
theorem HOk.write(ok:HOk P w H h)(o:Mut (H x))(B:e=x∨H e=some (.own x))(k:∀b u,b≠e->h.get? b=some u->h'.get? b=some u)(Ϥ:∃u,h'.get? e=some u)
  (new:D2 P w (upd H x o') h' x o'):HOk P w (upd H x o') h':=λb u q=>by
 have Ϯ:∀c y,H c=some (.own y)->c≠x:=λc y r z=>by subst z;rw[r]at o;exact o
 have m:∀c s,H c=some (.tup s)->c≠x:=λc s r z=>by subst z;rw[r]at o;exact o
 by_cases hb:b=x
 ·subst hb;rw[CB]at q;cases q;exact new
 ·rw[Bv hb]at q
  by_cases l:b=e
  ·have C:H b=some (.own x):=by
    rcases B with z | z
    ·exact zX (l.trans z) hb
    ·rw[l];exact z
   rw[q]at C;cases C;obtain⟨v,E⟩:=Ϥ;exact⟨v,by rw[l];exact E⟩
  ·refine(ok b u q).stay (λc v A r=>k c v ?_ r) (λc r=>by rw[Bv (Ϯ c b r)];exact r) λc s r=>by rw[Bv (m c s r)];exact r
   rcases A with rfl | A
   ·exact l
   ·rintro rfl
    rcases B with z | z
    ·exact Ϯ c b A z
    ·rw[A]at z;cases z;exact hb rfl
end
structure Un(fs ex:List Ab)(H H':Hp)(h h':DO):Prop where
 keep:∀b o,h.get? b=some o->H b=none->b∉fs->b∉ex->h'.get? b=some o
 slot:∀b o,h.get? b=some o->H b=none->b∈fs->b∉ex->∃sl,h'.get? b=some { o with slots:=sl }
 free:∀b o,h.get? b=some o->H b=none->b∉ex->H' b=none
 there:∀b o,h.get? b=some o->b∉ex->∃o',h'.get? b=some o'
 tups:∀b xs,H b=some (.tup xs)->H' b=some (.tup xs)
 frzs:∀b o u,H b=some (.frz o u)->H' b=some (.frz o u)
 tbls:∀b ps,H b=some (.tbl ps)->∃more,H' b=some (.tbl (ps++more))
section
variable{fs ex:List Ab}{H H1:Hp}{h h1 h':DO}{a x e:Ab}{o:HO}
theorem Un.any(u:Un fs ex H H1 h h1)(q:h.get? b=some l)(n:H b=none)(m:b∉ex):∃sl,h1.get? b=some { l with slots:=sl }:=by
 by_cases hb:b∈fs
 ·exact u.slot b l q n hb m
 ·exact⟨l.slots,u.keep b l q n hb m⟩
theorem Un.kept(k:∀b u,h.get? b=some u->h'.get? b=some u):Un fs ex H H h h':=
 ⟨λb l q _ _ _=>k b l q,λb l q _ _ _=>⟨l.slots,k b l q⟩,λ_ _ _ n _=>n,λb l q _=>⟨l,k b l q⟩,λ_ _ q=>q,λ_ _ _ q=>q,λ_ m q=>⟨#[],by rw[q];simp⟩⟩
theorem Un.refl:Un fs ex H H h h:=Un.kept λ_ _ q=>q
theorem Un.laid(k:∀b u,h.get? b=some u->h'.get? b=some u)(m:h.objs.size<=a)(l:H a=none):Un fs ex H (upd H a o) h h' where
 keep:=λb u q _ _ _=>k b u q
 slot:=λb u q _ _ _=>⟨u.slots,k b u q⟩
 free:=λb u q n _=>by rw[Bv (BK (AX (Ao q) m))];exact n
 there:=λb u q _=>⟨u,k b u q⟩
 tups:=λb s q=>by rw[Bv (Cy q l)];exact q
 frzs:=λb u s q=>by rw[Bv (Cy q l)];exact q
 tbls:=λb A q=>⟨#[],by rw[Bv (Cy q l),q];simp⟩
theorem Un.write(m:Mut (H x))(B:e=x∨H e=some (.own x))(k:∀b u,b≠e->h.get? b=some u->h'.get? b=some u)(Ϥ:∃u,h'.get? e=some u):Un fs ex H (upd H x o) h h':=by
 have A:∀b,H b=none->b≠x:=λb n z=>by subst z;rw[n]at m;exact m
 have hb:∀b,H b=none->b≠e:=λb n z=>by
  subst z
  rcases B with r | r
  ·exact A b n r
  ·rw[n]at r;cases r
 have s:∀b u,H b=some u->¬Mut (some u)->b≠x:=λb u q C z=>by subst z;rw[q]at m;exact C m
 refine⟨λb u q n _ _=>k b u (hb b n) q,λb u q n _ _=>⟨u.slots,k b u (hb b n) q⟩,λb u q n _=>by rw[Bv (A b n)];exact n,λb u q _=>?_,
  λb E q=>by rw[Bv (s b _ q λz=>z)];exact q,λb u E q=>by rw[Bv (s b _ q λz=>z)];exact q,λb G q=>⟨#[],by rw[Bv (s b _ q λz=>z),q];simp⟩⟩
 by_cases l:b=e
 ·subst l;exact Ϥ
 ·exact⟨u,k b u l q⟩
end
noncomputable def trk(h:DO)(H:Hp):List Ab:=(BJ h.objs.size).filter λa=>(H a).isSome
noncomputable def XX(h:DO)(H:Hp):DO:=PySem.W.hideAll h (trk h H)
theorem fB(h:DO)(H:Hp):(XX h H).objs.size=h.objs.size:=PySem.W.hideAll_size _ _
theorem ji(e:h.get? b=some o)(n:H b=none):(XX h H).get? b=some o:=
 PySem.W.hideAll_get _ e λl=>by
  have q:(H b).isSome=true:=(BE.mp l).2;rw[n]at q;simp at q
theorem nI(e:(XX h H).get? b=some o):h.get? b=some o/\H b=none:=by
 have l:h.get? b=some o:=PySem.W.of_hideAll (trk h H) e;refine⟨l,?_⟩
 cases q:H b with
 | none=>rfl
 | some x=>
  have m:b∈trk h H:=BE.mpr ⟨Ea.mpr (Ao l),by simp[q]⟩;have z:(XX h H).get? b=none:=PySem.W.hideAll_none (trk h H) m;rw[z]at e;cases e
structure Mod(K:AI)(mg:Str->Option AK)(base:DO):Prop where
 kin:K.In base
 glob:base.Ns BZ mg
 blt:∃mb,base.Ns Ze mb/\∀x:Str,x≠"__name__"->mb x=JM x
 nolimit:base.NoLimit
structure Cx where
 prog:Bw
 w:CV
 K:AI
 mg:Str->Option AK
 base:DO
 A:Cf
 N:List Str
 s₀:AS
 H₀:Hp
 env:Env
 outer:List Env
 stack:List Env
 ex:List Ab
 fn:Str->Bool
 calm:Bool
 pn:List (Ab×Obj)
 xe:AK->AS->Prop
noncomputable def frs(l:List Env):List Ab:=l.filterMap (·.frame)
noncomputable abbrev Cx.fs(X:Cx):List Ab:=frs X.outer
noncomputable def Vis(l:Va)(x:Str):Prop:=l.names.lookup x=some .local∨l.names.lookup x=some .cell∨l.names.lookup x=some .free
noncomputable def Loc(l:Va)(x:Str):Prop:=l.names.lookup x=some .local∨l.names.lookup x=some .cell
noncomputable def Look(env:Env)(h:DO)(m:Str->Option AK)(x:Str)(u:AK):Prop:=
 (env.kindOf x=some .local/\m x=some u)∨((env.kindOf x=some .cell∨env.kindOf x=some .free)/\∃c,env.cells.lookup x=some c/\h.IsCell c (some u))
structure Cx.Ok(X:Cx):Prop where
 mod:Mod X.K X.mg X.base
 kind:X.env.scope.kind=.function
 glob:X.env.globals=BZ
 blt:X.env.builtins=Ze
 above:X.s₀.heap.objs.size<=X.env.locals
 inj:∀x y c,X.env.cells.lookup x=some c->X.env.cells.lookup y=some c->x=y
 has:∀x,(X.env.kindOf x=some .cell∨X.env.kindOf x=some .free)->∃c,X.env.cells.lookup x=some c
 cab:∀x c,X.fn x=true->X.env.cells.lookup x=some c->X.s₀.heap.objs.size<=c
 hd:X.calm=true->X.A.handled=none
 frames:X.A.frames=some X.stack
 stk:X.stack=X.outer∨(X.stack=X.env :: X.outer/\X.env.frame=some X.env.locals)
 exf:∀b∈X.ex,b≠X.env.locals/\∀x c,X.env.cells.lookup x=some c->c≠b
 bs:∀b o,X.base.get? b=some o->X.s₀.heap.get? b=some o/\X.H₀ b=none
 bsz:X.base.objs.size<=X.s₀.heap.objs.size
 noex:∀b o,X.base.get? b=some o->b∉X.ex
 exfs:∀b∈X.ex,b∉X.fs
 funs:X.s₀.heap.FunFrames X.base X.outer
 frf:∀b∈X.fs,X.H₀ b=none
structure Inv(X:Cx)(ζ:List (Ab×Obj))(σ:List (Option V))(H:Hp)(s:AS):Prop where
 ok:X.Ok
 os:s.os=X.s₀.os
 bare:Lp s.gens
 base:Un X.fs X.ex X.H₀ H X.s₀.heap s.heap
 loc:∃m,s.heap.Ns X.env.locals m/\∀(i:Nat) (x:Str) (v:V),X.N[i]?=some x->σ[i]?=some (some v)->Vis X.env.scope x->∃u,RelV v u/\Look X.env s.heap m x u
 cell:∀x c,X.env.cells.lookup x=some c->∃v,s.heap.IsCell c v
 free:H X.env.locals=none
 freeC:∀x c,X.env.cells.lookup x=some c->H c=none
 pin:∀p∈X.pn++ζ,s.heap.get? p.1=some p.2/\H p.1=none/\p.1≠X.env.locals/\p.1∉X.fs/\∀v,p.2.data≠.cell v
 hok:HOk X.prog X.w H s.heap
 len:σ.length=X.N.length
section
variable{X:Cx}{ζ:List (Ab×Obj)}{σ:List (Option V)}{H H':Hp}{s:AS}{h':DO}
theorem Cx.Ok.nofr(ok:X.Ok)(e:X.base.get? b=some o):b∉X.fs:=λhb=>by
 have:=(ok.funs.mem hb).1;rw[e]at this;cases this
theorem Inv.bs(I:Inv X ζ σ H s):∀b o,X.base.get? b=some o->s.heap.get? b=some o/\H b=none:=λb o e=>
 ⟨I.base.keep b o (I.ok.bs b o e).1 (I.ok.bs b o e).2 (I.ok.nofr e) (I.ok.noex b o e),I.base.free b o (I.ok.bs b o e).1 (I.ok.bs b o e).2 (I.ok.noex b o e)⟩
theorem Inv.bk(I:Inv X ζ σ H s):∀b o,X.base.get? b=some o->s.heap.get? b=some o:=λb o e=>(I.bs b o e).1
theorem Inv.mod(I:Inv X ζ σ H s):Mod X.K X.mg X.base:=I.ok.mod
theorem Inv.kIn(I:Inv X ζ σ H s):X.K.In s.heap:=I.ok.mod.kin.keeps I.bk
theorem Inv.lt(I:Inv X ζ σ H s):X.env.locals < s.heap.objs.size:=let ⟨_,l,_⟩:=I.loc;l.lt
theorem Inv.sz(I:Inv X ζ σ H s):X.s₀.heap.objs.size<=s.heap.objs.size:=Aj I.ok.above (Kd I.lt)
theorem Inv.nofs(I:Inv X ζ σ H s)(h:s.heap.objs.size<=a):a∉X.fs:=λhb=>by
 obtain⟨_,o,l,_⟩:=I.ok.funs.mem hb;exact zX (AX (Ao l) (Aj I.sz h)) (ER _)
theorem Inv.cne(I:Inv X ζ σ H s):∀x c,X.env.cells.lookup x=some c->c≠X.env.locals:=λx c e z=>by
 obtain⟨v,o,l,hd⟩:=I.cell x c e;obtain⟨m,⟨C,E,G,A,B,_⟩,_⟩:=I.loc;rw[z,A]at l;cases l;rw[B]at hd;cases hd
theorem Inv.funs(I:Inv X ζ σ H s):s.heap.FunFrames X.base X.outer:=by
 have all:∀(l:List Env),(∀b∈frs l,b∈X.fs)->X.s₀.heap.FunFrames X.base l->s.heap.FunFrames X.base l:=by
  intro l
  induction l with
  | nil=>intro _ _;trivial
  | cons C r E=>
   intro B G;obtain⟨J,⟨L,o,m,N,O,hd⟩,P⟩:=G;have A:L∈X.fs:=B L (by unfold frs;rw[PZ,m];exact AZ)
   obtain⟨sl,e⟩:=I.base.slot L o O (I.ok.frf L A) A λz=>I.ok.exfs L z A
   exact⟨J,⟨L,_,m,N,e,hd⟩,E (λb hb=>B b (by unfold frs;rw[PZ,m];exact AV _ hb)) P⟩
 exact all X.outer (λ_ hb=>hb) I.ok.funs
theorem Inv.stack(I:Inv X ζ σ H s):s.heap.FunFrames X.base X.stack:=by
 rcases I.ok.stk with e | ⟨e,l⟩
 ·rw[e];exact I.funs
 ·rw[e]
  obtain⟨m,o,_⟩:=I.loc;refine .cons (by rw[I.ok.kind];decide) l o ?_ I.funs;exact DO.get?_none_of_le (Aj I.ok.bsz I.ok.above)
theorem Inv.stkSub(I:Inv X ζ σ H s):∀b∈frs X.stack,b∈X.env.locals :: X.fs:=λb hb=>by
 rcases I.ok.stk with e | ⟨e,l⟩
 ·rw[e]at hb;exact AV _ hb
 ·rw[e]at hb
  unfold frs at hb;rw[PZ,l]at hb;exact hb
theorem Inv.stkFree(I:Inv X ζ σ H s):∀b∈frs X.stack,H b=none:=λb hb=>by
 rcases Af.mp (I.stkSub b hb)with e | hb
 ·rw[e];exact I.free
 ·obtain⟨_,o,l,_⟩:=I.ok.funs.mem hb
  exact I.base.free b o l (I.ok.frf b hb) λz=>I.ok.exfs b z hb
theorem Inv.step{g':Array GenState}{t':Nat}{d':Drawn}{ch:List Ab}(I:Inv X ζ σ H s)
  (L:∀b∈ch,(b∈X.ex∨X.s₀.heap.objs.size<=b)/\b≠X.env.locals/\(∀x c,X.env.cells.lookup x=some c->c≠b)/\∀p∈X.pn++ζ,p.1≠b)
  (keep:∀b o,b≠X.env.locals->b∉X.fs->b∉ch->s.heap.get? b=some o->H b=none->h'.get? b=some o)
  (G:∀b o,b≠X.env.locals->b∈X.fs->b∉ch->s.heap.get? b=some o->H b=none->∃sl,h'.get? b=some { o with slots:=sl }) (free:∀b o,b∉ch->s.heap.get? b=some o->H b=none->H' b=none)
  (there:∀b o,b∉ch->s.heap.get? b=some o->∃o',h'.get? b=some o')
  (N:∀b xs,H b=some (.tup xs)->H' b=some (.tup xs)) (O:∀b o u,H b=some (.frz o u)->H' b=some (.frz o u)) (P:∀b ps,H b=some (.tbl ps)->∃more,H' b=some (.tbl (ps++more)))
  (ns:∀m,s.heap.Ns X.env.locals m->h'.Ns X.env.locals m) (S:HOk X.prog X.w H' h') (hg:Lp g') :
  Inv X ζ σ H' { s with heap:=h',gens:=g',drawn:=d',toks:=t' }:=by
 have Q:∀b o,X.s₀.heap.get? b=some o->b≠X.env.locals:=λb o e=>BK (AX (Ao e) I.ok.above)
 have C:∀b o,X.s₀.heap.get? b=some o->b∉X.ex->b∉ch:=λb o e A hb=>by
  rcases(L b hb).1 with z | z
  ·exact A z
  ·exact zX (AX (Ao e) z) (ER _)
 have B:∀x c,X.env.cells.lookup x=some c->∀v,s.heap.IsCell c v->h'.IsCell c v:=by
  rintro x c e v ⟨o,J,hd⟩
  have ϯ:c∉ch:=λz=>(L c z).2.2.1 x c e rfl
  by_cases U:c∈X.fs
  ·obtain⟨sl,q⟩:=G c o (I.cne x c e) U ϯ J (I.freeC x c e)
   exact⟨_,q,hd⟩
  ·exact⟨o,keep c o (I.cne x c e) U ϯ J (I.freeC x c e),hd⟩
 refine⟨I.ok,I.os,hg,⟨λb o e n hb A=>?_,λb o e n hb A=>?_,λb o e n A=>?_,λb o e A=>?_,λb xs e=>N b xs (I.base.tups b xs e),λb o xs e=>O b o xs (I.base.frzs b o xs e),λb ps e=>?_⟩,?_,λx c e=>?_,?_,λx c e=>?_,λp Y=>?_,S,I.len⟩
 ·exact keep b o (Q b o e) hb (C b o e A) (I.base.keep b o e n hb A) (I.base.free b o e n A)
 ·obtain⟨sl,E⟩:=I.base.slot b o e n hb A
  obtain⟨T,R⟩:=G b _ (Q b o e) hb (C b o e A) E (I.base.free b o e n A);exact⟨T,R⟩
 ·obtain⟨o',E⟩:=I.base.there b o e A
  exact free b o' (C b o e A) E (I.base.free b o e n A)
 ·obtain⟨o',E⟩:=I.base.there b o e A
  exact there b o' (C b o e A) E
 ·obtain⟨m1,E⟩:=I.base.tbls b ps e
  obtain⟨m2,R⟩:=P b _ E;exact⟨m1++m2,by rw[R,Array.append_assoc]⟩
 ·obtain⟨m,hn,hl⟩:=I.loc
  refine⟨m,ns m hn,λi x v E R e3=>?_⟩;obtain⟨u,r,l⟩:=hl i x v E R e3;refine⟨u,r,?_⟩
  rcases l with l | ⟨k,c,e,z⟩
  ·exact .inl l
  ·exact .inr ⟨k,c,e,B x c e _ z⟩
 ·obtain⟨v,z⟩:=I.cell x c e
  exact⟨v,B x c e v z⟩
 ·obtain⟨m,⟨o,_,_,J,_⟩,_⟩:=I.loc
  exact free _ o (λz=>(L _ z).2.1 rfl) J I.free
 ·obtain⟨v,o,J,hd⟩:=I.cell x c e
  exact free c o (λz=>(L c z).2.2.1 x c e rfl) J (I.freeC x c e)
 ·obtain⟨e,n,Z,nf,d⟩:=I.pin p Y
  have ϯ:p.1∉ch:=λz=>(L p.1 z).2.2.2 p Y rfl
  exact⟨keep p.1 p.2 Z nf ϯ e n,free p.1 p.2 ϯ e n,Z,nf,d⟩
theorem Inv.un{t':Nat}(I:Inv X ζ σ H s)(u:Un X.fs [] H H' s.heap h')(l:HOk X.prog X.w H' h'):Inv X ζ σ H' { s with heap:=h',toks:=t' }:=by
 obtain⟨m,⟨o,N,O,B,r⟩,_⟩:=id I.loc;obtain⟨sl,E⟩:=u.any B I.free (by simp)
 exact I.step (g':=s.gens) (d':=s.drawn) (ch:=[]) (λ_ z=>nomatch z) (λb o _ hb _ e n=>u.keep b o e n hb (by simp)) (λb o _ hb _ e n=>u.slot b o e n hb (by simp)) (λb o _ e n=>u.free b o e n (by simp)) (λb o _ e=>u.there b o e (by simp)) u.tups u.frzs u.tbls (λP G=>by
  obtain⟨Q,J,A,C,L⟩:=G;rw[B]at C;cases C
  exact⟨_,J,A,E,L⟩) l I.bare
theorem Inv.call{g':Array GenState}{t':Nat}{d':Drawn}{ch:List Ab}(I:Inv X ζ σ H s)(u:Un (frs X.stack) ch H H' s.heap h')(A:HOk X.prog X.w H' h')(L:Lp g')
  (E:∀b∈ch,(b∈X.ex∨X.s₀.heap.objs.size<=b)/\b≠X.env.locals/\(∀x c,X.env.cells.lookup x=some c->c≠b)/\∀p∈X.pn++ζ,p.1≠b) :
  Inv X ζ σ H' { s with heap:=h',gens:=g',drawn:=d',toks:=t' }:=by
 obtain⟨m,⟨o,Q,R,G,r⟩,_⟩:=id I.loc
 obtain⟨sl,B⟩:=u.any G I.free λz=>(E _ z).2.1 rfl
 exact I.step (ch:=ch) E (λb o B hb l e n=>u.keep b o e n (λz=>(Af.mp (I.stkSub b z)).elim B hb) l) (λb o _ _ l e n=>u.any e n l) (λb o l e n=>u.free b o e n l) (λb o l e=>u.there b o e l) u.tups u.frzs u.tbls (λS N=>by
  obtain⟨T,O,C,J,P⟩:=N;rw[G]at J;cases J
  exact⟨_,O,C,B,P⟩) A L
theorem Inv.turned{t':Nat}{it:Ab}(I:Inv X ζ σ H s)(k:∀b o,b≠it->s.heap.get? b=some o->h'.get? b=some o)(B:H it=none)(A:it≠X.env.locals)
  (C:it∈X.ex∨X.s₀.heap.objs.size<=it) (E:∀x c,X.env.cells.lookup x=some c->c≠it) (G:∀p∈X.pn++ζ,p.1≠it):Inv X ζ σ H { s with heap:=h',toks:=t' }:=by
 have ϰ:∀b u,H b=some u->b≠it:=λb u e z=>by rw[z,B]at e;cases e
 refine I.step (g':=s.gens) (d':=s.drawn) (ch:=[it]) (λb hb=>?_) (λb o _ _ l e _=>k b o (λz=>l (by simp[z])) e) (λb o _ _ l e _=>⟨o.slots,k b o (λz=>l (by simp[z])) e⟩) (λ_ _ _ _ n=>n)
  (λb o l e=>⟨o,k b o (λz=>l (by simp[z])) e⟩) (λ_ _ e=>e) (λ_ _ _ e=>e) (λb P e=>⟨#[],by rw[e];simp⟩) (λm J=>?_) (λb u e=>?_) I.bare
 ·have e:b=it:=by simpa using hb
  subst e;exact⟨C,A,E,G⟩
 ·obtain⟨o,L,N,O,r⟩:=J
  exact⟨o,L,N,k _ o (Ck A) O,r⟩
 ·refine(I.hok b u e).stay (λc v l q=>k c v ?_ q) (λ_ q=>q) λ_ _ q=>q
  rcases l with z | z
  ·rw[z];exact ϰ b u e
  ·exact ϰ c _ z
theorem Inv.tok(I:Inv X ζ σ H s)(t:Nat):Inv X ζ σ H { s with toks:=t }:=I.un (h':=s.heap) (t':=t) Un.refl I.hok
theorem Inv.kept(I:Inv X ζ σ H s)(k:∀b u,s.heap.get? b=some u->h'.get? b=some u):Inv X ζ σ H { s with heap:=h',toks:=t' }:=I.un (Un.kept k) (I.hok.kept k)
theorem Inv.laid(I:Inv X ζ σ H s)(k:∀b u,s.heap.get? b=some u->h'.get? b=some u)(l:s.heap.objs.size<=a)(new:D2 X.prog X.w (upd H a o) h' a o) :
  Inv X ζ σ (upd H a o) { s with heap:=h',toks:=t' }:=I.un (Un.laid k l (I.hok.fresh l)) (I.hok.laid k l new)
theorem Inv.write(I:Inv X ζ σ H s)(l:Mut (H x))(m:e=x∨H e=some (.own x))(k:∀b u,b≠e->s.heap.get? b=some u->h'.get? b=some u)(Ϥ:∃u,h'.get? e=some u)
  (new:D2 X.prog X.w (upd H x o) h' x o):Inv X ζ σ (upd H x o) { s with heap:=h',toks:=t' }:=I.un (Un.write l m k Ϥ) (I.hok.write l m k Ϥ new)
theorem Inv.pins_of(I:Inv X ζ σ H s)(h:∀p∈pins',s.heap.get? p.1=some p.2/\H p.1=none/\p.1≠X.env.locals/\p.1∉X.fs/\∀v,p.2.data≠.cell v):Inv X pins' σ H s:=
 ⟨I.ok,I.os,I.bare,I.base,I.loc,I.cell,I.free,I.freeC,λp l=>(Ag.mp l).elim (λz=>I.pin p (BP _ z)) (h p),I.hok,I.len⟩
theorem Yu{N:List Str}(hN:N.Nodup){i j:Nat}{x:Str}(a:N[i]?=some x)(b:N[j]?=some x):i=j:=by
 obtain⟨o,l⟩:=AE.mp a;obtain⟨A,m⟩:=AE.mp b;exact(Se hN).mp (l.trans m.symm)
theorem V9{M:Model}{A:Cf}{E:AK->AS->Prop}{i:Nat}{x:Str}{v:V}{u:AK}{Q:Unit->AS->Prop}(I:Inv X ζ σ H s)(hN:X.N.Nodup)(hi:X.N[i]?=some x)(J:Loc X.env.scope x)(r:RelV v u)
  (h:∀s',Inv X ζ (σ.set i (some v)) H s'->(∃a,FQ a s.heap s'.heap/\(a=X.env.locals∨X.env.cells.lookup x=some a))->Q () s') (hf:X.fn x=true∨X.env.scope.names.lookup x=some .local:=by first | exact .inl rfl | exact .inr rfl | assumption):Am M A (uv X.env x u) Q E s:=by
 obtain⟨m,hn,hl⟩:=id I.loc
 have T:(X.env.scope.kind==.class||(X.env.scope.kind==.module&&X.env.locals != X.env.globals))=false:=by rw[I.ok.kind];rfl
 have O:i < σ.length:=by rw[I.len];exact(AE.mp hi).1
 have cne:=I.cne
 have B:∀{a:Ab} {h':DO},(∃o,s.heap.get? a=some o/\H a=none)->FQ a s.heap h'->HOk X.prog X.w H h':=λ{a h'} ha l b ob e=>by
  obtain⟨_,_,zd⟩:=ha
  refine(I.hok b ob e).stay (λc Z G q=>(l.2 c ?_).trans q) (λ_ q=>q) λ_ _ q=>q
  rintro rfl
  rcases G with rfl | G
  ·rw[zd]at e;cases e
  ·rw[zd]at G;cases G
 rcases J with P | P
 ·refine wpAny_storeName_local P hn (λh' yO l=>?_) T
  obtain⟨oL,_,_,hoL,_⟩:=id hn;refine h _ ⟨I.ok,I.os,I.bare,⟨λb o e n hb J=>?_,λb o e n hb J=>?_,I.base.free,λb o e J=>?_,I.base.tups,I.base.frzs,I.base.tbls⟩,⟨_,yO,λj y v' C L e3=>?_⟩,λy c e=>?_,I.free,I.freeC,λp hp=>?_,B ⟨oL,hoL,I.free⟩ l,by simpa using I.len⟩ ⟨_,l,.inl rfl⟩
  ·exact(l.2 b (BK (AX (Ao e) I.ok.above))).trans (I.base.keep b o e n hb J)
  ·obtain⟨sl,C⟩:=I.base.slot b o e n hb J
   exact⟨sl,(l.2 b (BK (AX (Ao e) I.ok.above))).trans C⟩
  ·obtain⟨o',C⟩:=I.base.there b o e J
   exact⟨o',(l.2 b (BK (AX (Ao e) I.ok.above))).trans C⟩
  ·by_cases R:j=i
   ·subst R
    rw[hi]at C;cases C;rw[As O]at L;cases L;exact⟨u,r,.inl ⟨P,by simp⟩⟩
   ·rw[Ae (Ck R)]at L
    obtain⟨u',r',q⟩:=hl j y v' C L e3;refine⟨u',r',?_⟩
    rcases q with⟨k,e⟩ | ⟨k,c,e,z⟩
    ·refine .inl ⟨k,?_⟩
     have:y≠x:=λe=>R (Yu hN C (e▸hi))
     simp[this,e]
    ·exact .inr ⟨k,c,e,z.sameBut l (cne y c e)⟩
  ·obtain⟨Z,z⟩:=I.cell y c e
   exact⟨Z,z.sameBut l (cne y c e)⟩
  ·obtain⟨e,n,ne,nf,d⟩:=I.pin p hp
   exact⟨(l.2 p.1 ne).trans e,n,ne,nf,d⟩
 ·have S:X.fn x=true:=by
   rcases hf with z | z
   ·exact z
   ·rw[z]at P;cases P
  obtain⟨c,G⟩:=I.ok.has x (.inl P);obtain⟨Z,z⟩:=I.cell x c G;refine wpAny_storeName_cell I.ok.kind P G z (λh' yC l=>?_);obtain⟨oc,U,Y⟩:=id z;refine h { s with heap:=h' } ⟨I.ok,I.os,I.bare,⟨λb o e n hb J=>?_,λb o e n hb J=>?_,I.base.free,λb o e J=>?_,I.base.tups,I.base.frzs,I.base.tbls⟩,⟨m,hn.sameBut l (Ck (cne x c G)),λj y v' C L e3=>?_⟩,λy c' e=>?_,I.free,I.freeC,λp hp=>?_,B ⟨oc,U,I.freeC x c G⟩ l,by simpa using I.len⟩ ⟨c,l,.inr G⟩
  ·exact(l.2 b (BK (AX (Ao e) (I.ok.cab x c S G)))).trans (I.base.keep b o e n hb J)
  ·obtain⟨sl,C⟩:=I.base.slot b o e n hb J
   exact⟨sl,(l.2 b (BK (AX (Ao e) (I.ok.cab x c S G)))).trans C⟩
  ·obtain⟨o',C⟩:=I.base.there b o e J
   exact⟨o',(l.2 b (BK (AX (Ao e) (I.ok.cab x c S G)))).trans C⟩
  ·by_cases R:j=i
   ·subst R
    rw[hi]at C;cases C;rw[As O]at L;cases L;exact⟨u,r,.inr ⟨.inl P,c,G,yC⟩⟩
   ·rw[Ae (Ck R)]at L
    obtain⟨u',r',q⟩:=hl j y v' C L e3;refine⟨u',r',?_⟩
    rcases q with q | ⟨k,c',e,z'⟩
    ·exact .inl q
    ·refine .inr ⟨k,c',e,z'.sameBut l ?_⟩
     rintro rfl;exact R (Yu hN C (I.ok.inj _ _ _ e G▸hi))
  ·by_cases ϱ:c'=c
   ·subst ϱ;exact⟨_,yC⟩
   ·obtain⟨w2,z2⟩:=I.cell y c' e
    exact⟨w2,z2.sameBut l ϱ⟩
  ·obtain⟨e,n,ne,nf,d⟩:=I.pin p hp
   refine⟨(l.2 p.1 ?_).trans e,n,ne,nf,d⟩;intro q;rw[q,U]at e;have q':oc=p.2:=Bq e;exact d Z (by rw[<-q'];exact Y)
theorem Tz(I:Inv X ζ σ H s)(hN:X.N.Nodup)(hi:X.N[i]?=some x)(l:Loc X.env.scope x)(r:RelV v u)
  (h:∀s',Inv X ζ (σ.set i (some v)) H s'->Q () s') (m:X.fn x=true∨X.env.scope.names.lookup x=some .local:=by first | exact .inl rfl | exact .inr rfl | assumption):Am M A (uv X.env x u) Q E s:=
 V9 I hN hi l r (λs' o _=>h s' o) m
theorem Inv.call'(I:Inv X ζ σ H s)(ho:s'.os=s.os)(u:Un (frs X.stack) ch H H' s.heap s'.heap)(l:HOk X.prog X.w H' s'.heap)(m:Lp s'.gens)
  (o:∀b∈ch,(b∈X.ex∨X.s₀.heap.objs.size<=b)/\b≠X.env.locals/\(∀x c,X.env.cells.lookup x=some c->c≠b)/\∀p∈X.pn++ζ,p.1≠b):Inv X ζ σ H' s':=by
 obtain⟨h',g',d',t',A⟩:=s';have e:A=s.os:=ho;subst e;exact I.call (g':=g') (t':=t') (d':=d') u l m o
end
noncomputable abbrev XK:=AK->Option Ab->Hp->Prop
noncomputable abbrev St:=List (Option V)
noncomputable abbrev VK:=V->Hp->Prop
noncomputable abbrev TE:=St->Hp->VK->Prop
noncomputable abbrev TT:=St->Hp->(Bool->Hp->Prop)->Prop
noncomputable abbrev TA:=St->Hp->(List V->Hp->Prop)->Prop
structure fg where
 nx:St->Hp->Prop
 rt:VK
 bk:St->Hp->Prop:=λ_ _=>False
 ct:St->Hp->Prop:=λ_ _=>False
noncomputable abbrev TS:=fg->St->Hp->Prop
noncomputable def EP(X:Cx)(m:List (Ab×Obj))(o:St)(Q:VK)(u:AK)(s':AS):Prop:=∃v l,Inv X m o l s'/\RelV v u/\Q v l
noncomputable def TP(X:Cx)(m:List (Ab×Obj))(o:St)(Q:Bool->Hp->Prop)(b:Bool)(s':AS):Prop:=∃l,Inv X m o l s'/\Q b l
noncomputable def AP(X:Cx)(o:List (Ab×Obj))(s:St)(Q:List V->Hp->Prop)(us:List AK)(s':AS):Prop:=∃l m,Inv X o s m s'/\CG l us/\Q l m
noncomputable def SP(X:Cx)(o:List (Ab×Obj))(D:fg)(f:Flow)(s':AS):Prop:=
 match f with
 | .next=>∃l m,Inv X o l m s'/\D.nx l m
 | .brk=>∃l m,Inv X o l m s'/\D.bk l m
 | .cont=>∃l m,Inv X o l m s'/\D.ct l m
 | .ret u=>∃v l m,Inv X o l m s'/\RelV v u/\D.rt v m
noncomputable def PE(X:Cx)(e:Expr)(t:TE):Prop:=
 ∀(m:List (Ab×Obj)) (s:AS) (l:St) (H:Hp) (Q:VK),Inv X m l H s->t l H Q->Am (Aw X.prog X.w) X.A (CF e X.env) (EP X m l Q) X.xe s
noncomputable def PT(X:Cx)(e:Expr)(t:TT):Prop:=
 ∀(m:List (Ab×Obj)) (s:AS) (l:St) (H:Hp) (Q:Bool->Hp->Prop),Inv X m l H s->t l H Q->Am (Aw X.prog X.w) X.A (qJ e X.env (CF e X.env)) (TP X m l Q) X.xe s
noncomputable def PW(X:Cx)(e:Expr)(t:TT):Prop:=
 ∀(l:Sem AK) (o:List (Ab×Obj)) (s:AS) (m:St) (H:Hp) (Q:Bool->Hp->Prop),Inv X o m H s->t m H Q->Am (Aw X.prog X.w) X.A (qJ e X.env l) (TP X o m Q) X.xe s
theorem PW.pt(h:PW X e t):PT X e t:=h _
noncomputable def PA(X:Cx)(es:List Expr)(t:TA):Prop:=
 ∀(pos:Pos) (m:List (Ab×Obj)) (s:AS) (l:St) (H:Hp) (Q:List V->Hp->Prop),Inv X m l H s->t l H Q->Am (Aw X.prog X.w) X.A (uX (Eo pos (Aa es X.env))) (AP X m l Q) X.xe s
noncomputable def PS(X:Cx)(st:DB)(t:TS):Prop:=
 ∀(l:List (Ab×Obj)) (s:AS) (m:St) (H:Hp) (D:fg),Inv X l m H s->t D m H->Am (Aw X.prog X.w) X.A (exec st X.env) (SP X l D) X.xe s
noncomputable def PSs(X:Cx)(st:List DB)(t:TS):Prop:=
 ∀(l:List (Ab×Obj)) (s:AS) (m:St) (H:Hp) (D:fg),Inv X l m H s->t D m H->Am (Aw X.prog X.w) X.A (execs st X.env) (SP X l D) X.xe s
theorem thn{l:Type}{t:Sem l}{Q m:l->AS->Prop}{M:Model}{A:Cf}{E:AK->AS->Prop}{s:AS}(h:Am M A t Q E s)(o:∀a s,Q a s->m a s):Am M A t m E s:=IM h o λ_ _ x=>x
section
variable{X:Cx}
noncomputable def qw(i:Nat):TE:=λl H Q=>∃v,l[i]?=some (some v)/\Q v H
noncomputable def tC(v:V):TE:=λ_ H Q=>Q v H
theorem rm(hN:X.N[i]?=some x)(C:Vis X.env.scope x)(hd:(x==("__debug__" : Str))=false:=by decide) (E:(x==("__classdict__" : Str))=false:=by decide):PE X (.Name x pos) (qw i):=by
 intro G s J H Q I h;obtain⟨v,e,h⟩:=h;obtain⟨m,L,O⟩:=I.loc;obtain⟨u,r,l⟩:=O i x v hN e C;have fin:EP X G J Q u s:=⟨v,H,I,r,h⟩
 rcases l with⟨o,P⟩ | ⟨o,c,A,B⟩
 ·exact qG (kn I.ok.kind o L P fin) hd
 ·rcases o with o | o
  ·exact qG (pC I.ok.kind o A B fin) hd
  ·exact qG (wpAny_loadName_free I.ok.kind o A B fin E) hd
theorem sC{i j pos}:PE X (.Constant (.int i) j pos) (tC (.int i)):=λ_ _ _ H _ I h=>wpAny_Constant_int ⟨.int i,H,I.tok _,⟨_,rfl⟩,h⟩
theorem wA{b j pos}:PE X (.Constant (.bool b) j pos) (tC (.bl b)):=λ_ _ _ H _ I h=>Constant_bool ⟨.bl b,H,I,rfl,h⟩
theorem sA{j pos}:PE X (.Constant .none j pos) (tC .non):=λ_ _ _ H _ I h=>Constant_none ⟨.non,H,I,rfl,h⟩
theorem rp{x j pos}:PE X (.Constant (.str x) j pos) (tC (.str x)):=λ_ _ _ H _ I h=>Calls.Constant_str ⟨.str x,H,I.tok _,⟨_,rfl⟩,h⟩
noncomputable def Gl(X:Cx)(x:Str):Prop:=X.env.kindOf x=some .globalImplicit
theorem XU(I:Inv X o B H s)(l:Gl X x)(m:X.mg x=some u)(h:Q u s)
  (hd:(x==("__debug__" : Str))=false:=by decide):Am (Aw X.prog X.w) X.A (CF (.Name x pos) X.env) Q E s:=
 Vg I.ok.kind l (Calls.loadGlobal_global (by rw[I.ok.glob];exact I.mod.glob.keeps I.bk) m h) hd
theorem LL(I:Inv X J L H s)(l:Gl X x)(m:X.mg x=none)(o:JM x=some u)(h:Q u s)
  (B:x≠"__name__":=by decide) (hd:(x==("__debug__" : Str))=false:=by decide):Am (Aw X.prog X.w) X.A (CF (.Name x pos) X.env) Q E s:=by
 obtain⟨N,C,G⟩:=I.mod.blt;exact Vg I.ok.kind l (Calls.loadGlobal_builtin (by rw[I.ok.glob];exact I.mod.glob.keeps I.bk) m (by rw[I.ok.blt];exact C.keeps I.bk) ((G x B).trans o) h) hd
theorem mr(l:Gl X x)(m:X.mg x=some u)(r:RelV v u)(hd:(x==("__debug__" : Str))=false:=by decide):PE X (.Name x pos) (tC v):=
 λ_ _ _ H _ I h=>XU I l m ⟨v,H,I,r,h⟩ hd
variable{a b:Expr}{ta tb:TE}{pos:Pos}
noncomputable def PC(X:Cx)(op:CmpOp)(a b:Expr)(t:TE):Prop:=
 ∀(B:List (Ab×Obj)) (s:AS) (o:St) (H:Hp) (Q:VK),Inv X B o H s->t o H Q ->
  Am (Aw X.prog X.w) X.A (CF a X.env) (λv l=>Am (Aw X.prog X.w) X.A (CF b X.env) (λu m=>Am (Aw X.prog X.w) X.A (B2 op v u) (EP X B o Q) X.xe m) X.xe l) X.xe s
noncomputable def tB(t:TE):TT:=λl H Q=>t l H λx m=>∃c,x=.bl c/\Q c m
theorem sE(h:PC X op a b t)(l:Cz op b=false:=by first | exact nobehind _ (by decide) (by decide) | rfl):PE X (.Compare a [op] [b] pos) t:=λm s o H Q I hw=>wpAny_Compare1 (h m s o H Q I hw) l
theorem ig(h:PC X op a b t)(l:Cz op b=false:=by first | exact nobehind _ (by decide) (by decide) | rfl):PT X (.Compare a [op] [b] pos) (tB t):=by
 intro m s o H Q I hw;refine ke (thn (h m s o H _ I hw) λv J l=>thn l λu L A=>thn A λc N ⟨x,B,C,E,G⟩=>?_) l;obtain⟨d,rfl,q⟩:=G;cases E;exact E8 ⟨B,C,q⟩
variable{tA tB':TT}{rest:List Expr}
noncomputable def vZ(t u:TT):TT:=λl H Q=>t l H λc m=>if c=true then u l m Q else Q false m
noncomputable def tOr(t u:TT):TT:=λl H Q=>t l H λc m=>if c=true then Q true m else u l m Q
noncomputable def tNot(t:TT):TT:=λl H Q=>t l H λc m=>Q (!c) m
theorem mN(l:PT X a tA):PW X (.BoolOp .And [a] pos) tA:=by
 intro A m s o H Q I h;refine isTrue_and (thn (l m s o H Q I h) λc B e=>?_)
 cases c with
 | true=>exact isTrue_and_nil e
 | false=>exact e
theorem rT(l:PT X a tA):PW X (.BoolOp .Or [a] pos) tA:=by
 intro A m s o H Q I h;refine isTrue_or (thn (l m s o H Q I h) λc B e=>?_)
 cases c with
 | false=>exact isTrue_or_nil e
 | true=>exact e
theorem rW(C:PT X a tA)(hb:PW X (.BoolOp .And (b :: rest) pos) tB'):PW X (.BoolOp .And (a :: b :: rest) pos) (vZ tA tB'):=by
 intro E l s m H Q I h;refine isTrue_and (thn (C l s m H _ I h) λc G ⟨o,A,B⟩=>?_)
 cases c with
 | true=>exact hb E l G m o Q A B
 | false=>exact⟨o,A,B⟩
theorem vt(C:PT X a tA)(hb:PW X (.BoolOp .Or (b :: rest) pos) tB'):PW X (.BoolOp .Or (a :: b :: rest) pos) (tOr tA tB'):=by
 intro E l s m H Q I h;refine isTrue_or (thn (C l s m H _ I h) λc G ⟨o,A,B⟩=>?_)
 cases c with
 | true=>exact⟨o,A,B⟩
 | false=>exact hb E l G m o Q A B
theorem rX(l:PT X a tA):PT X (.UnaryOp .Not a pos) (tNot tA):=by
 intro m s o H Q I h;exact isTrue_not (l m s o H (λc A=>Q (!c) A) I h)
noncomputable def vY(ta tb:TE):TE:=λl H Q=>ta l H λx m=>∃c,x=.bl c/\if c=true then tb l m Q else Q (.bl false) m
theorem rq{op}{t}(h:PE X a t):PE X (.BoolOp op [a] pos) t:=λl s m H Q I hw=>BoolOp_one (h l s m H Q I hw)
theorem sH(C:PE X a ta)(hb:PE X (.BoolOp .And (b :: rest) pos) tb):PE X (.BoolOp .And (a :: b :: rest) pos) (vY ta tb):=by
 intro m s o H Q I h;refine BoolOp_and (thn (C m s o H _ I h) λv E ⟨x,A,B,G,l⟩=>?_);obtain⟨c,rfl,l⟩:=l;cases G;refine E8 ?_
 cases c with
 | true=>exact hb m E o A Q B l
 | false=>exact⟨.bl false,A,B,rfl,l⟩
noncomputable def tIf(t:TT)(ta tb:TE):TE:=λl H Q=>t l H λc m=>if c=true then ta l m Q else tb l m Q
theorem iy(E:PT X c tA)(G:PE X a ta)(hb:PE X b tb):PE X (.IfExp c a b pos) (tIf tA ta tb):=by
 intro l s m H Q I h;refine wpAny_IfExp (thn (E l s m H _ I h) λd o ⟨A,B,C⟩=>?_)
 cases d with
 | true=>exact G l o m A Q B C
 | false=>exact hb l o m A Q B C
end
noncomputable def SqL(K:AI)(H:Hp)(a:Ab)(xs:List V):Prop:=
 Rd H a (.lst xs) ∨
  ∃(o:Obj) (l:Array AK) (n:Nat),K.lookup a=some o/\o.cls=.type "list"/\o.dict=none/\o.data=.seq l n/\l.size<=sizeLine/\CG xs l.toList
noncomputable def SqT(K:AI)(H:Hp)(a:Ab)(xs:List V):Prop:=
 Rd H a (.tup xs) ∨
  ∃(o:Obj) (l:Array AK) (n:Nat),K.lookup a=some o/\o.cls=.type "tuple"/\o.data=.seq l n/\l.size<=sizeLine/\CG xs l.toList
noncomputable def absV:AK->Option V
 | .none=>some .non
 | .bool b=>some (.bl b)
 | .int i _=>some (.int i)
 | .str x _=>some (.str x)
 | .bytes b _=>some (.byt b)
 | .float b _=>some (.flt b)
 | .ref a=>some (.ref a)
 | .type n=>some (.ty n)
 | _=>none
theorem RelV.abs(r:RelV x u):absV u=some x:=by
 cases x with
 | non=>cases r;rfl
 | bl _=>cases r;rfl
 | int _=>obtain⟨t,rfl⟩:=r;rfl
 | str _=>obtain⟨t,rfl⟩:=r;rfl
 | byt _=>obtain⟨t,rfl⟩:=r;rfl
 | flt _=>obtain⟨t,rfl⟩:=r;rfl
 | ref _=>cases r;rfl
 | ty _=>cases r;rfl
theorem RelV.inj(r:RelV x u)(q:RelV y u):x=y:=Bq (r.abs.symm.trans q.abs)
theorem CG.inj:∀{xs ys:List V} {us:List AK},CG xs us->CG ys us->xs=ys
 | _,_,_,.nil,.nil=>rfl
 | _,_,_,.cons r t,.cons l m=>by rw[r.inj l,CG.inj t m]
section
variable{X:Cx}{ζ:List (Ab×Obj)}{σ:St}{H:Hp}{s:AS}{a:Ab}{xs ys:List V}
theorem Inv.list(I:Inv X ζ σ H s)(h:SqL X.K H a xs):∃l:List AK,CG xs l/\PlainL s.heap a l.toArray/\xs.length<=sizeLine:=by
 rcases h with h | ⟨o,l,n,m,A,hd,B,C,r⟩
 ·obtain⟨z,l,n,r,e⟩:=h.ok I.hok
  exact⟨l,r,⟨_,n,e,rfl,rfl,rfl⟩,z⟩
 ·refine⟨l.toList,r,⟨o,n,I.kIn a o m,A,hd,by simpa using B⟩,?_⟩
  have e:=r.length;simp only[CN]at e
  lia
theorem Inv.tuple(I:Inv X ζ σ H s)(h:SqT X.K H a xs):∃l:List AK,CG xs l/\lD s.heap a l.toArray/\xs.length<=sizeLine:=by
 rcases h with h | ⟨o,l,n,m,A,B,C,r⟩
 ·obtain⟨z,l,r,p⟩:=h.ok I.hok
  exact⟨l,r,p,z.1⟩
 ·refine⟨l.toList,r,⟨o,I.kIn a o m,A,n,by simpa using B⟩,?_⟩
  have e:=r.length;simp only[CN]at e
  lia
theorem Inv.list_inj(I:Inv X ζ σ H s)(h:SqL X.K H a xs)(h':SqL X.K H a ys):xs=ys:=by
 obtain⟨A,r,⟨o,n,e,_,_,d⟩,_⟩:=I.list h;obtain⟨its',B,⟨C,E,l,_,_,m⟩,_⟩:=I.list h';rw[e]at l;cases l;rw[d]at m
 injection m with d1 _
 have:A=its':=by simpa using congrArg qS d1
 subst this;exact r.inj B
theorem Inv.tuple_inj(I:Inv X ζ σ H s)(h:SqT X.K H a xs)(h':SqT X.K H a ys):xs=ys:=by
 obtain⟨A,r,⟨o,e,_,n,d⟩,_⟩:=I.tuple h;obtain⟨its',B,⟨C,l,_,E,m⟩,_⟩:=I.tuple h';rw[e]at l;cases l;rw[d]at m
 injection m with d1 _
 have:A=its':=by simpa using congrArg qS d1
 subst this;exact r.inj B
end
section
variable{X:Cx}{st:DB}{rest:List DB}{t u:TS}{e:Expr}{te:TE}{pos:Pos}
noncomputable def vQ:TS:=λD l H=>D.nx l H
noncomputable def tSeq(t u:TS):TS:=λD l H=>t { D with nx:=u D } l H
theorem mR:PSs X [] vQ:=λ_ _ l H _ I h=>PV ⟨l,H,I,h⟩
theorem ij(o:PS X st t)(A:PSs X rest u):PSs X (st :: rest) (tSeq t u):=by
 intro m s B H D I h;refine ut (thn (o m s B H { D with nx:=u D } I h) λf C q=>?_)
 cases f with
 | next=>
  obtain⟨l,E,G,q⟩:=q;exact A m C l E D G q
 | ret v=>exact q
 | brk=>exact q
 | cont=>exact q
theorem mP(l:PS X st t):PSs X [st] t:=by
 intro m s o H D I h;refine ut (thn (l m s o H D I h) λf A q=>?_)
 cases f with
 | next=>exact PV q
 | ret v=>exact q
 | brk=>exact q
 | cont=>exact q
theorem Inv.quiet(I:Inv X l m H s):interactive X.env=false:=by simp[interactive,I.ok.kind]
noncomputable def vS(te:TE):TS:=λD l H=>te l H λ_ m=>D.nx l m
theorem mS(m:PE X e te)(o:HB e none pos.line X.env=pure false:=by rfl):PS X (.Expr e pos) (vS te):=by
 intro A s l H D I h;exact wpAny_Expr_any (thn (m A s l H _ I h) λv G ⟨x,B,C,J,E⟩=>⟨l,B,C,E⟩) I.quiet o
noncomputable def tRet(te:TE):TS:=λD l H=>te l H D.rt
theorem rZ(m:PE X e te):PS X (.Return (some e) pos) (tRet te):=by
 intro o s l H D I h;exact wpAny_Return_some (thn (m o s l H _ I h) λv G ⟨x,A,B,C,E⟩=>⟨x,l,A,B,C,E⟩)
noncomputable def tIfS(c:TT)(t u:TS):TS:=λD l H=>c l H λb m=>if b=true then t D l m else u D l m
theorem vw(E:PT X c tc)(G:PSs X a t)(hb:PSs X b u):PS X (.If c a b pos) (tIfS tc t u):=by
 intro l s m H D I h;refine wpAny_If (thn (E l s m H _ I h) λd o ⟨A,B,C⟩=>?_)
 cases d with
 | true=>exact G l o m A D B C
 | false=>exact hb l o m A D B C
noncomputable def qz:TS:=λ_ _ _=>False
theorem im:PS X st qz:=λ_ _ _ _ _ _ h=>h.elim
end
noncomputable abbrev TG:=V->St->Hp->(St->Hp->Prop)->Prop
noncomputable abbrev TGs:=List V->St->Hp->(St->Hp->Prop)->Prop
noncomputable def PG(X:Cx)(C:Expr)(t:TG):Prop:=
 ∀(m:List (Ab×Obj)) (s:AS) (o:St) (H:Hp) (v:V) (u:AK) (Q:St->Hp->Prop),Inv X m o H s->RelV v u->t v o H Q ->
  Am (Aw X.prog X.w) X.A (TM C X.env u) (λ_ E=>∃l B,Inv X m l B E/\Q l B) X.xe s
noncomputable def PGs(X:Cx)(ts:List Expr)(t:TGs):Prop:=
 ∀(m:List (Ab×Obj)) (s:AS) (o:St) (H:Hp) (B:List V) (C:List AK) (Q:St->Hp->Prop),Inv X m o H s->CG B C->t B o H Q ->
  Am (Aw X.prog X.w) X.A (assignInOrder ((Fo ts X.env).map (·.2)) C) (λ_ G=>∃l E,Inv X m l E G/\Q l E) X.xe s
noncomputable abbrev xR:=V->V->V->Hp->(Hp->Prop)->Prop
noncomputable def xV(X:Cx)(t:xR):Prop:=
 ∀(l:List (Ab×Obj)) (s:AS) (m:St) (H:Hp) (o i v:V) (B C u:AK) (Q:Hp->Prop),Inv X l m H s->RelV o B->RelV i C->RelV v u->t o i v H Q ->
  Am (Aw X.prog X.w) X.A (uZ B C u) (λ_ G=>∃E,Inv X l m E G/\Q E) X.xe s
noncomputable abbrev TIp:=V->V->Hp->VK->Prop
noncomputable def PIp(X:Cx)(op:Operator)(t:TIp):Prop:=
 ∀(l:List (Ab×Obj)) (s:AS) (m:St) (H:Hp) (x y:V) (v u:AK) (Q:VK),Inv X l m H s->RelV x v->RelV y u->t x y H Q ->
  Am (Aw X.prog X.w) X.A (inplaceOp op v u) (EP X l m Q) X.xe s
section
variable{X:Cx}{pos:Pos}
noncomputable def ca(i:Nat):TG:=λv l H Q=>Q (l.set i (some v)) H
theorem mj(hN:X.N.Nodup)(hi:X.N[i]?=some x)(l:Loc X.env.scope x)(m:X.fn x=true∨X.env.scope.names.lookup x=some .local:=by first | exact .inl rfl | exact .inr rfl | assumption):PG X (.Name x pos) (ca i):=by
 intro A s B H v u Q I r h;exact uU (Tz I hN hi l r (λC o=>⟨_,H,o,h⟩) m)
noncomputable def gNil:TGs:=λl m H Q=>l=[]/\Q m H
noncomputable def xB(t:TG)(u:TGs):TGs:=λm o H Q=>∃v r,m=v :: r/\t v o H λl s=>u r l s Q
theorem mf:PGs X [] gNil:=by
 intro m s l H o A Q I r h;obtain⟨e,h⟩:=h;subst e;cases r;exact assignInOrder_nil ⟨l,H,I,h⟩
theorem iu(o:PG X e t)(A:PGs X es u)
  (B:(Fo (e :: es) X.env).map (·.2)=TM e X.env :: (Fo es X.env).map (·.2):=by rfl):PGs X (e :: es) (xB t u):=by
 intro m s C H P R Q I r h;obtain⟨v,S,E,h⟩:=h;subst E
 cases r with
 | cons r G=>
  rw[B];refine assignInOrder_cons (thn (o m s C H _ _ _ I r h) λ_ J ⟨l,L,N,O⟩=>?_);exact A m J l L _ _ Q N G O
noncomputable def gTup(K:AI)(n:Nat)(t:TGs):TG:=λv m H Q=>∃a l,v=.ref a/\SqT K H a l/\l.length=n/\t l m H Q
theorem rl(B:X.calm=true)(h:PGs X es t)
  (C:(Fo es X.env).length=n:=by rfl) (E:(Fo es X.env).findIdx? (·.1)=none:=by rfl):PG X (.Tuple es k pos) (gTup X.K n t):=by
 intro l s m H v u Q I r hw;obtain⟨a,G,J,L,N,hw⟩:=hw;subst J;cases r;obtain⟨T,A,O,U⟩:=I.tuple L
 refine assign_Tuple_tuple (I.ok.hd B) O (by simp[C,<-N,A.length]) E λP R=>?_
 have S:Inv X l m H { s with heap:=P }:=I.kept (t':=s.toks) λb o e=>R b o (BK (Ao e)) e
 exact h l _ m H G _ Q S (by simpa using A) hw
noncomputable def rB(te:TE)(g:TG):TS:=λD l H=>te l H λx m=>g x l m D.nx
theorem rh(o:PE X e te)(A:PG X tg g)(B:swapsWithSole [tg] e pos.line X.env=pure false:=by rfl)(hw:swappedStores [tg] e X.env=pure none:=by rfl)
  (C:(Fo [tg] X.env).map (·.2)=[TM tg X.env]:=by rfl):PS X (.Assign [tg] e pos) (rB te g):=by
 intro l s m H D I h;refine wpAny_Assign_stores (thn (o l s m H _ I h) λv E ⟨x,G,J,L,N⟩=>?_) B hw;rw[C]
 exact thn (A l E m G x v _ J L N) λ_ O q=>q
theorem rY(hN:X.N.Nodup)(hi:X.N[i]?=some x)(m:Loc X.env.scope x)(o:PE X e te)(A:HB e (some (.Name x l)) pos.line X.env=pure false:=by rfl)(B:X.fn x=true∨X.env.scope.names.lookup x=some .local:=by first | exact .inl rfl | exact .inr rfl | assumption) :
  PS X (.Assign [.Name x l] e pos) (rB te (ca i)):=by
 intro C s E H D I h;refine wpAny_Assign_Name (thn (o C s E H _ I h) λv Q ⟨y,G,J,L,O⟩=>?_) A;exact Tz J hN hi m L (λR P=>⟨_,G,P,O⟩) B
noncomputable def tAug(i:Nat)(te:TE)(m:TIp):TS:=λD l H=>∃x,l[i]?=some (some x)/\te l H λy o=>m x y o λz s=>D.nx (l.set i (some z)) s
theorem rf(hN:X.N.Nodup)(hi:X.N[i]?=some x)(E:Loc X.env.scope x)(P:PE X e te)(ho:PIp X op Q)(R:X.fn x=true∨X.env.scope.names.lookup x=some .local:=by first | exact .inl rfl | exact .inr rfl | assumption) :
  PS X (.AugAssign (.Name x L) op e pos) (tAug i te Q):=by
 intro G s O H D I h;obtain⟨v,S,h⟩:=h;obtain⟨m,T,U⟩:=I.loc
 have J:Vis X.env.scope x:=by rcases E with k | k;exact .inl k;exact .inr (.inl k)
 obtain⟨u,r,l⟩:=U i x v hi S J;refine wpAny_AugAssign_Name ?_
 have go:Am (Aw X.prog X.w) X.A (CF e X.env) (λw B=>Am (Aw X.prog X.w) X.A (inplaceOp op u w) (λr C=>Am (Aw X.prog X.w) X.A (uv X.env x r) (λ_=>SP X G D .next) X.xe C) X.xe B) X.xe s:=by
  refine thn (P G s O H _ I h) λw Y ⟨y,Z,I1,r1,q1⟩=>?_
  refine thn (ho G Y O Z v y u w _ I1 r r1 q1) λz s2 ⟨zv,H2,I2,r2,q2⟩=>?_
  exact Tz I2 hN hi E r2 (λs3 I3=>⟨_,H2,I3,q2⟩) R
 rcases l with⟨o,hm⟩ | ⟨o,c,hc,yu⟩
 ·exact kn I.ok.kind o T hm go
 ·rcases o with o | o
  ·exact pC I.ok.kind o hc yu go
  ·rcases E with k | k
   ·have:X.env.scope.names.lookup x=some .free:=o
    rw[k]at this;cases this
   ·have:X.env.scope.names.lookup x=some .free:=o
    rw[k]at this;cases this
noncomputable def vX(to s te:TE)(A:V->V->Hp->VK->Prop)(m:TIp)(B:xR):TS:=λD l H=>to l H λo C=>s l C λi E=>A o i E λx G=>te l G λy I=>m x y I λz J=>B o i z J λL=>D.nx l L
noncomputable def xW(X:Cx)(t:V->V->Hp->VK->Prop):Prop:=
 ∀(l:List (Ab×Obj)) (s:AS) (m:St) (H:Hp) (o i:V) (B C:AK) (Q:VK),Inv X l m H s->RelV o B->RelV i C->t o i H Q ->
  Am (Aw X.prog X.w) X.A (Lh B C) (EP X l m Q) X.xe s
theorem mV(ho:PE X o to)(hi:PE X i O)(P:xW X Q)(R:PE X e te)(S:PIp X op C)(T:xV X U)
  (Y:∀l m new,augStore i l m new=(do RY [new,l,m] (uZ l m new);release [new,l,m] [];pure .next):=by intros;rfl):PS X (.AugAssign (.Subscript o i tpos) op e pos) (vX to O te Q C U):=by
 intro B s A H D I h;refine wpAny_AugAssign_SubscriptAny (thn (ho B s A H _ I h) λl Z ⟨G,H1,I1,J,q1⟩=>?_) Y
 refine thn (hi B Z A H1 _ I1 q1) λm s2 ⟨L,H2,I2,N,q2⟩=>?_
 refine thn (P B s2 A H2 G L l m _ I2 J N q2) λE s3 ⟨x3,H3,I3,r3,q3⟩=>?_
 refine thn (R B s3 A H3 _ I3 q3) λv s4 ⟨x4,H4,I4,r4,q4⟩=>?_
 refine thn (S B s4 A H4 x3 x4 E v _ I4 r3 r4 q4) λnew s5 ⟨x5,H5,I5,r5,q5⟩=>?_
 exact thn (T B s5 A H5 G L x5 l m new _ I5 J N r5 q5) λ_ s6 ⟨H6,I6,q6⟩=>⟨A,H6,I6,q6⟩
noncomputable def ipI(f:Int->Int->Int):TIp:=λx y H Q=>∃i j,x=.int i/\y=.int j/\Q (.int (f i j)) H
theorem tL:PIp X .Add (ipI λi j=>i+j):=by
 intro B s C H x y v u Q I l m h;obtain⟨i,j,o,A,q⟩:=h;subst o;subst A;obtain⟨t,rfl⟩:=l;obtain⟨E,rfl⟩:=m;exact iadd_int ⟨.int _,H,I.tok _,⟨_,rfl⟩,q⟩
noncomputable def qv(c:TT)(C:TS):TS:=λD l H=>∃W:Nat->St->Hp->Prop,(∃m,W m l H)/\∀m l H,W m l H ->
 c l H λb s=>if b=true then ∃N:St->Hp->Prop,(∀o A,N o A->∃B,B < m/\W B o A)/\C { D with nx:=N,ct:=N,bk:=D.nx } l s else D.nx l s
theorem ik(S:Wo (Aw X.prog X.w) X.A X.env X.xe)(hc:PT X c tc)(hb:PSs X body tb):PS X (.While c body [] pos) (qv tc tb):=by
 intro J s σ H D I h;obtain⟨W,⟨m0,w0⟩,o⟩:=h;refine wpAny_While (codeAny_whileLoop (λn s'=>∃B T,Inv X J B T s'/\W n B T) ?_ m0 ⟨σ,H,I,w0⟩);rintro n s1 ⟨m,U,I1,w1⟩;refine GK S (thn (hc J s1 m U _ I1 (o n m U w1)) λb s2 ⟨Y,Z,E⟩=>?_)
 cases b with
 | true=>
  obtain⟨N,hN,E⟩:=E;rw[qX rfl];refine GK S (thn (hb J s2 m Y _ Z E) λf s3 G=>?_)
  cases f with
  | next=>
   obtain⟨l,C,L,O⟩:=G;obtain⟨P,Q,R⟩:=hN l C O;exact⟨P,Q,l,C,L,R⟩
  | cont=>
   obtain⟨l,C,L,O⟩:=G;obtain⟨P,Q,R⟩:=hN l C O;exact⟨P,Q,l,C,L,R⟩
  | brk=>exact G
  | ret v=>exact G
 | false=>
  rw[qY AN];exact PV ⟨m,Y,Z,E⟩
end
structure It where
 go:Nat->Hp->Prop
 yld:Nat->Hp->V->Hp->Prop
 stop:Nat->Hp->Prop
noncomputable def PQ(X:Cx)(l:List (Ab×Obj))(H:Hp)(b:Ab):Prop:=
 H b=none/\b≠X.env.locals/\b∉X.fs/\(b∈X.ex∨X.s₀.heap.objs.size<=b)/\(∀x c,X.env.cells.lookup x=some c->c≠b)/\∀p∈X.pn++l,p.1≠b
theorem Inv.fpOk(I:Inv X l B H s)(hb:s.heap.objs.size<=b)(m:o b=none):PQ X l o b:=by
 refine⟨m,FS (AX I.lt hb),I.nofs hb,.inr (Aj I.sz hb),λx c e z=>?_,λp A z=>?_⟩
 ·obtain⟨v,q⟩:=I.cell x c e
  exact zX (AX q.lt (by rw[z];exact hb)) (ER _)
 ·exact zX (AX (Ao (I.pin p A).1) (by rw[z];exact hb)) (ER _)
structure Vx(P:Bw)(w:CV)(K:AI)(tg:Expr)(J:It)(fp:List Ab)(it:Ab)(tn:Nat->DO->Prop):Prop where
 mem:it∈fp
 obj:∀i h,tn i h->∀b∈fp,∃o,h.get? b=some o/\∀v,o.data≠.cell v
 keep:∀i h h',tn i h->(∀b∈fp,∀o,h.get? b=some o->h'.get? b=some o)->tn i h'
 item:∀(X:Cx),X.prog=P->X.w=w->X.K=K->X.calm=true->∀(i:Nat) (ζ:List (Ab×Obj)) (s:AS) (σ:St) (H:Hp) (E:AK->AS->Prop),Inv X ζ σ H s->(∀b∈fp,PQ X ζ H b)->tn i s.heap->J.go i H ->
  Am (Aw P w) X.A (Wh (.ref it)) (λr s1=>∃u,r=some u /\
   Am (Aw P w) X.A (PX tg (.ref it) u) (λ_ s2=>∃x H',Inv X ζ σ H' s2/\RelV x u/\J.yld i H x H'/\tn (i+1) s2.heap/\∀b∈fp,H' b=none) E s1) E s
 done:∀(X:Cx),X.prog=P->X.w=w->X.K=K->X.calm=true->∀(i:Nat) (ζ:List (Ab×Obj)) (s:AS) (σ:St) (H:Hp) (E:AK->AS->Prop),Inv X ζ σ H s->(∀b∈fp,PQ X ζ H b)->tn i s.heap->J.stop i H ->
  Am (Aw P w) X.A (Wh (.ref it)) (λr s1=>r=none/\Inv X ζ σ H s1) E s
 self:∀(A:Cf) (i:Nat) (s:AS) (Q:AK->AS->Prop) (E:AK->AS->Prop),tn i s.heap->Q (.ref it) s->Am (Aw P w) A (qI (.ref it)) Q E s
noncomputable abbrev TI:=St->Hp->(It->Hp->Prop)->Prop
noncomputable def PIE(X:Cx)(o:List (Ab×Obj))(C:St)(tg:Expr)(R:It->Hp->Prop)(l:AK)(s:AS):Prop:=
 ∃(it:Ab) (A:List Ab) (B:Nat->DO->Prop) (J:It) (m:Hp),l=.ref it/\Inv X o C m s/\Vx X.prog X.w X.K tg J A it B/\B 0 s.heap/\(∀b∈A,PQ X o m b)/\R J m
noncomputable def PI(X:Cx)(tg iter:Expr)(o:TI):Prop:=
 ∀(m:List (Ab×Obj)) (s:AS) (l:St) (H:Hp) (R:It->Hp->Prop),Inv X m l H s->o l H R ->
  Am (Aw X.prog X.w) X.A (CF iter X.env) (λv B=>Am (Aw X.prog X.w) X.A (qI v) (PIE X m l tg R) X.xe B) X.xe s
theorem Y9(ho:s.heap.get? it=some o)(m:o.cls=.type n)(hd:o.data=.fields vs)
  (B:["enumerate", "zip", "dict_itemiterator", "dict_reverseitemiterator", "odict_iterator", "itertools.zip_longest", "itertools.pairwise"].contains n=false) (l:Q () s):Am M A (PX tg (.ref it) u) Q E s:=by
 unfold PX
 cases tg <;> first
  | exact AL l
  | (cases u <;> first
    | exact AL l
    | (refine AB (wpAny_load ho ?_)
       rw[m,hd];show Am M A (if (["enumerate", "zip", "dict_itemiterator", "dict_reverseitemiterator", "odict_iterator", "itertools.zip_longest", "itertools.pairwise"].contains n&&vs[0]?==some (Qh _))=true then _ else _) Q E s;rw[qY (by intro h;rw[B,OY]at h;cases h)]
       exact AL l))
noncomputable def Itl(K:AI)(a:Ab):It:=
 ⟨λi H=>∃l x,SqL K H a l/\l[i]?=some x,λi H x m=>m=H/\∀l,SqL K H a l->l[i]?=some x,λi H=>∃l,SqL K H a l/\l.length<=i⟩
noncomputable def Itt(K:AI)(a:Ab):It:=
 ⟨λi H=>∃l x,SqT K H a l/\l[i]?=some x,λi H x m=>m=H/\∀l,SqT K H a l->l[i]?=some x,λi H=>∃l,SqT K H a l/\l.length<=i⟩
noncomputable def Itr(lo:Int)(n:Nat):It:=⟨λi _=>i < n,λi H x l=>l=H/\x=.int (lo+i),λi _=>n<=i⟩
theorem dX{P}{w}{K}{tg}(a it:Ab):Vx P w K tg (Itl K a) [it] it (λi h=>h.IsListIter it a i) where
 mem:=by simp
 obj:=λi h st b hb=>by
  have e:b=it:=by simpa using hb
  subst e;obtain⟨o,e,c,d⟩:=st;exact⟨o,e,λv z=>by rw[d]at z;cases z⟩
 keep:=λi h l st k=>st.at λo e=>k it (by simp) o e
 item:=by
  intro X B hw C T i U s Y H E I m st G;subst B hw C;obtain⟨xs,x,A,J⟩:=G;obtain⟨i',L,p,hz⟩:=I.list A;obtain⟨u,hu,ru⟩:=L.get J;obtain⟨N,O,f2,Q,R,S⟩:=m it (by simp)
  refine wpAny_pyNext_list_item st p.isList (x:=u) (by simpa using hu) λl Z sb=>?_
  have I1:Inv X U Y H { s with heap:=l }:=I.turned (t':=s.toks) (λb o hb e=>(sb.2 b hb).trans e) N O Q R S;obtain⟨o,e,c,d⟩:=id Z;exact⟨u,rfl,Y9 (s:={ s with heap:=l }) e c d (by decide) ⟨x,H,I1,ru,⟨rfl,λys hy=>by rw[I.list_inj hy A];exact J⟩,Z,λb hb=>(m b hb).1⟩⟩
 done:=by
  intro X B hw C T i U s Y H E I m st G;subst B hw C;obtain⟨xs,A,J⟩:=G;obtain⟨i',L,p,hz⟩:=I.list A;obtain⟨N,O,f2,Q,R,S⟩:=m it (by simp);have hl:=L.length
  exact wpAny_pyNext_list_end (I.ok.hd T) st p.isList (by simp;lia) λl eb=>⟨rfl,I.turned (t':=s.toks) (λb o hb e=>eb b o hb e) N O Q R S⟩
 self:=λ_ _ _ _ _ st h=>wpAny_pyIter_listiter st h
theorem Zx{P}{w}{K}{tg}(a it:Ab):Vx P w K tg (Itt K a) [it] it (λi h=>h.IsTupleIter it a i) where
 mem:=by simp
 obj:=λi h st b hb=>by
  have e:b=it:=by simpa using hb
  subst e;obtain⟨o,e,c,d⟩:=st;exact⟨o,e,λv z=>by rw[d]at z;cases z⟩
 keep:=λi h l st k=>st.at λo e=>k it (by simp) o e
 item:=by
  intro X B hw C U i Y s Z H E I m st G;subst B hw C;obtain⟨xs,x,A,J⟩:=G;obtain⟨L,N,p,hz⟩:=I.tuple A;obtain⟨u,hu,ru⟩:=N.get J;obtain⟨O,Q,f2,R,S,T⟩:=m it (by simp)
  refine wpAny_pyNext_tuple_item st (show s.heap.IsTuple a L.toArray from p) (x:=u) (by simpa using hu) λl tx sb=>?_
  have I1:Inv X Y Z H { s with heap:=l }:=I.turned (t':=s.toks) (λb o hb e=>(sb.2 b hb).trans e) O Q R S T;obtain⟨o,e,c,d⟩:=id tx;exact⟨u,rfl,Y9 (s:={ s with heap:=l }) e c d (by decide) ⟨x,H,I1,ru,⟨rfl,λys hy=>by rw[I.tuple_inj hy A];exact J⟩,tx,λb hb=>(m b hb).1⟩⟩
 done:=by
  intro X B hw C U i Y s Z H E I m st G;subst B hw C;obtain⟨xs,A,J⟩:=G;obtain⟨L,N,p,hz⟩:=I.tuple A;obtain⟨O,Q,f2,R,S,T⟩:=m it (by simp);have hl:=N.length
  exact wpAny_pyNext_tuple_end (I.ok.hd U) st (show s.heap.IsTuple a L.toArray from p) (by simp;lia) λl eb=>⟨rfl,I.turned (t':=s.toks) (λb o hb e=>eb b o hb e) O Q R S T⟩
 self:=λ_ _ _ _ _ st h=>wpAny_pyIter_tupleiter st h
theorem Zy{P}{w}{K}{tg}(it:Ab)(lo:Int)(n:Nat):Vx P w K tg (Itr lo n) [it] it (λi h=>Xx h it (lo+(i:Nat) * 1) ((n:Int) - (i:Nat)) 1) where
 mem:=by simp
 obj:=λi h st b hb=>by
  have e:b=it:=by simpa using hb
  subst e
  exact⟨_,st,λv z=>by
   have Y:TW _=YB v:=z
   cases Y⟩
 keep:=λi h l st k=>k it (by simp) _ st
 item:=by
  intro X A hw B C i R s S H E I m st G;subst A hw B;obtain⟨J,L,Z,N,O,Q⟩:=m it (by simp);have W:=ub (prog:=X.prog) (w:=X.w) (I.ok.hd C) it lo 1 n
  refine W.item i s _ _ G st λv l T hv U kk=>?_
  obtain⟨t,rfl⟩:=hv;have I1:Inv X R S H { s with heap:=l,toks:=T }:=I.turned (λb o hb e=>kk b o (by simpa using hb) e) J L N O Q;refine⟨_,rfl,Y9 (s:={ s with heap:=l,toks:=T }) (n:="range_iterator") U rfl rfl (by decide) ⟨.int (lo+i),H,I1,⟨t,?_⟩,⟨rfl,rfl⟩,U,λb hb=>(m b hb).1⟩⟩;rw[Int.mul_one]
 done:=by
  intro X A hw B C i R s S H E I m st G;subst A hw B;obtain⟨J,L,Z,N,O,Q⟩:=m it (by simp)
  exact gD (I.ok.hd C) st (by have:n<=i:=G;lia) λl eb=>⟨rfl,I.turned (t':=s.toks) (λb o hb e=>eb b o hb e) J L N O Q⟩
 self:=λ_ _ _ _ _ st h=>gF st h
section
variable{X:Cx}
noncomputable def wo(K:AI)(m:TE):TI:=λo H R=>m o H λx l=>∃a,x=.ref a/\(∃s,SqL K l a s)/\R (Itl K a) l
noncomputable def iTup(K:AI)(m:TE):TI:=λo H R=>m o H λx l=>∃a,x=.ref a/\(∃s,SqT K l a s)/\R (Itt K a) l
theorem mZ{l}{B}(C:PE X l B):PI X tg l (wo X.K B):=by
 intro E s G H R I h
 refine thn (C E s G H _ I h) λv m ⟨x,J,A,L,N⟩=>?_
 obtain⟨a,e,⟨P,O⟩,q⟩:=N;subst e;cases L;obtain⟨Q,S,p,T⟩:=A.list O;refine wpAny_pyIter_list p.isList ?_;refine⟨m.heap.objs.size,[m.heap.objs.size],_,_,J,rfl,A.kept (t':=m.toks) λb o e=>AR _ e,dX a _,⟨_,Ah _ rfl,rfl,rfl⟩,λb hb=>?_,q⟩
 have e:b=m.heap.objs.size:=by simpa using hb
 subst e;exact A.fpOk (AM _) (A.hok.fresh (AM _))
theorem rk{l}{B}(C:PE X l B):PI X tg l (iTup X.K B):=by
 intro E s G H R I h
 refine thn (C E s G H _ I h) λv m ⟨x,J,A,L,N⟩=>?_
 obtain⟨a,e,⟨Q,O⟩,q⟩:=N;subst e;cases L;obtain⟨P,S,p,T⟩:=A.tuple O;refine MH (show m.heap.IsTuple a P.toArray from p) ?_;refine⟨m.heap.objs.size,[m.heap.objs.size],_,_,J,rfl,A.kept (t':=m.toks) λb o e=>AR _ e,Zx a _,⟨_,Ah _ rfl,rfl,rfl⟩,λb hb=>?_,q⟩
 have e:b=m.heap.objs.size:=by simpa using hb
 subst e;exact A.fpOk (AM _) (A.hok.fresh (AM _))
theorem Yo{l}{m}{H}{s}{R}{E}{lo hi}{t u v}{B}(I:Inv X l m H s)(G:-(2 ^ 62)<=lo)(J:lo < 2 ^ 62)(L:-(2 ^ 62)<=hi)(N:hi < 2 ^ 62)
  (q:R (Itr lo (hi - lo).toNat) H):Am (Aw X.prog X.w) X.A (qI (.ref s.heap.objs.size)) (PIE X l m tg R) E { s with heap:=s.heap.push { cls:=.type "range",data:=.fields #[.int lo t,.int hi u,.int 1 v] },toks:=B }:=by
 refine qF (Rf ..) (uw G J L N) ?_
 have C:Inv X l m H { s with heap:=s.heap.push { cls:=.type "range",data:=.fields #[.int lo t,.int hi u,.int 1 v] },toks:=B }:=I.kept λb o e=>AR _ e
 refine⟨(s.heap.push { cls:=.type "range",data:=.fields #[.int lo t,.int hi u,.int 1 v] }).objs.size,[(s.heap.push { cls:=.type "range",data:=.fields #[.int lo t,.int hi u,.int 1 v] }).objs.size],_,_,H,rfl,
  C.kept (t':=B) λb o e=>AR _ e,Zy _ lo (hi - lo).toNat,?_,λb hb=>?_,q⟩
 ·have O:lo+((0:Nat):Int) * 1=lo:=by simp
  have P:(((hi - lo).toNat:Nat):Int) - ((0:Nat):Int)=Bo lo hi 1:=by rw[dA];split <;> lia
  show Xx _ _ (lo+((0:Nat):Int) * 1) ((((hi - lo).toNat:Nat):Int) - ((0:Nat):Int)) 1;rw[O,P];exact Ah _ rfl
 ·have e:b=(s.heap.push { cls:=.type "range",data:=.fields #[.int lo t,.int hi u,.int 1 v] }).objs.size:=by simpa using hb
  subst e;exact C.fpOk (AM _) (C.hok.fresh (AM _))
noncomputable def wk(l:TA):TI:=λm H R=>l m H λo s=>∃j:Int,o=[.int j]/\-(2 ^ 62)<=j/\j < 2 ^ 62/\R (Itr 0 j.toNat) s
noncomputable def wj(l:TA):TI:=λm H R=>l m H λo s=>∃i j:Int,o=[.int i,.int j]/\(-(2 ^ 62)<=i/\i < 2 ^ 62/\-(2 ^ 62)<=j/\j < 2 ^ 62)/\R (Itr i (j - i).toNat) s
theorem eN{a}{m}{p pos}(o:Gl X "range") (A:X.mg "range" = none) (B:PA X [a] m) (C:Aa [a] X.env=[(false,CF a X.env)]:=by rfl):PI X tg (.Call (.Name "range" p) [a] [] pos) (wk m):=by
 intro E s G H R I h;refine uo (LL I o A TK (Bt (thn (B pos E s G H _ I h) λP Q ⟨S,T,J,L,l⟩=>?_) C rfl));obtain⟨j,e,l,N,q⟩:=l;subst e
 cases L with
 | cons r O=>
  cases O;obtain⟨t,rfl⟩:=r;exact gK (Yo J (by lia) (by lia) l N (by simpa using q))
theorem eM(A:Gl X "range") (B:X.mg "range" = none) (C:PA X [a,b] E) (G:Aa [a,b] X.env=[(false,CF a X.env),(false,CF b X.env)]:=by rfl) (o:Aa [b] X.env=[(false,CF b X.env)]:=by rfl) :
  PI X tg (.Call (.Name "range" p) [a,b] [] pos) (wj E):=by
 intro J s L H R I h;refine uo (LL I A B TK (Bt (thn (C pos J s L H _ I h) λU Y ⟨Z,H1,N,O,l⟩=>?_) (by rw[G,o]) (by rw[o];rfl)));obtain⟨i,j,e,⟨l,P,Q,S⟩,q⟩:=l;subst e
 cases O with
 | cons r m=>
  cases m with
  | cons T m=>
   cases m;obtain⟨t,rfl⟩:=r;obtain⟨t',rfl⟩:=T;exact call_range_2 (Yo N l P Q S q)
noncomputable def tFor(C:TI)(g:TG)(E:TS):TS:=λD l H=>C l H λJ G=>∃W:Nat->Nat->St->Hp->Prop,(∃m,W 0 m l G)/\∀i m l H,W i m l H ->
 (J.stop i H/\D.nx l H)∨(J.go i H/\∃N:St->Hp->Prop,(∀o s,N o s->∃B,B < m/\W (i+1) B o s)/\∀x s,J.yld i H x s->g x l s λA I=>E { D with nx:=N,ct:=N,bk:=D.nx } A I)
noncomputable def UO(fp:List Ab)(h:DO):List (Ab×Obj):=fp.filterMap λb=>(h.get? b).map λo=>(b,o)
theorem Ms(hb:b∈fp)(e:h.get? b=some o):(b,o)∈UO fp h:=QZ.mpr ⟨b,hb,by rw[e];rfl⟩
theorem eX(l:p∈UO fp h):p.1∈fp/\h.get? p.1=some p.2:=by
 obtain⟨b,hb,e⟩:=QZ.mp l
 cases q:h.get? b with
 | none=>rw[q]at e;cases e
 | some o=>
  rw[q]at e;have m:(b,o)=p:=Bq e;subst m;exact⟨hb,q⟩
theorem Inv.pinned(I:Inv X l A H s)(B:∀b∈fp,PQ X l H b)(ho:∀b∈fp,∃o,s.heap.get? b=some o/\∀v,o.data≠.cell v):Inv X (l++UO fp s.heap) A H s:=
 I.pins_of λp C=>(Ag.mp C).elim (λz=>I.pin p (BR _ z)) λz=>by
  obtain⟨hb,e⟩:=eX z;obtain⟨E,G,J,_⟩:=B p.1 hb;obtain⟨o,m,d⟩:=ho p.1 hb;rw[e]at m;cases m;exact⟨e,E,G,J,d⟩
theorem Inv.unpinned(I:Inv X (l++pl) m H s):Inv X l m H s:=I.pins_of λp o=>I.pin p (BR _ (BP _ o))
theorem rc(Q:Wo (Aw X.prog X.w) X.A X.env X.xe)(hc:X.calm=true)(hi:PI X tg iter wi)(hg:PG X tg g)(hb:PSs X body tb)
  (hs:∀x,Gi iter X.env x=pure x:=by intro _;rfl):PS X (.For tg iter body [] pos) (tFor wi g tb):=by
 intro O s σ H D I h;refine wpAny_For (thn (hi O s σ H _ I h) λv s1 h1=>thn h1 λitv s2 h2=>?_) hs;obtain⟨it,R,tn,J,H2,e,I2,T,yb,f2,W,⟨m0,w0⟩,S⟩:=h2;subst e
 have za:∀{H':Hp},(∀b∈R,H' b=none)->∀b∈R,PQ X O H' b:=λhn b hb=>⟨hn b hb,(f2 b hb).2⟩
 refine codeAny_forLoop_any (λn s'=>∃i B H',Inv X O B H' s'/\tn i s'.heap/\(∀b∈R,H' b=none)/\W i n B H') ?_ m0 ⟨0,σ,H2,I2,yb,λb hb=>(f2 b hb).1,w0⟩;rintro n s3 ⟨i,C,Z,I3,zb,U,w3⟩
 rcases S i n C Z w3 with⟨stop,qn⟩ | ⟨go,N,hN,step⟩
 ·refine GK Q (thn (T.done X rfl rfl rfl hc i O s3 C Z X.xe I3 (za U) zb stop) λr s4 ⟨hr,I4⟩=>?_)
  subst hr;exact PV ⟨C,Z,I4,qn⟩
 ·refine GK Q (thn (T.item X rfl rfl rfl hc i O s3 C Z X.xe I3 (za U) zb go) λr s4 ⟨u,hr,h4⟩=>?_)
  subst hr;refine GK Q (thn h4 λ_ s5 ⟨x,H5,I5,r5,y5,P,fr5⟩=>?_);have I5':=I5.pinned (za fr5) (T.obj _ _ P);refine GK Q (thn (hg _ s5 C H5 x u _ I5' r5 (step x H5 y5)) λ_ s6 ⟨σ6,H6,I6,q6⟩=>?_);refine GK Q (thn (hb _ s6 σ6 H6 _ I6 q6) λf s7 L=>?_)
  have ft:∀{l:St} {E:Hp},Inv X (O++UO R s5.heap) l E s7->N l E->∃m,m < n/\∃i B H',Inv X O B H' s7/\tn i s7.heap/\(∀b∈R,H' b=none)/\W i m B H':=λ{l E} G Y=>by
   obtain⟨m',hm,w7⟩:=hN l E Y;refine⟨m',hm,i+1,l,E,G.unpinned,T.keep _ _ _ P λb hb o e=>(G.pin (b,o) (BR _ (BR _ (Ms hb e)))).1,λb hb=>?_,w7⟩;obtain⟨o,e,d⟩:=T.obj _ _ P b hb;exact(G.pin (b,o) (BR _ (BR _ (Ms hb e)))).2.1
  cases f with
  | next=>obtain⟨l,E,G,Y⟩:=L;exact ft G Y
  | cont=>obtain⟨l,E,G,Y⟩:=L;exact ft G Y
  | brk=>obtain⟨l,E,G,L⟩:=L;exact⟨l,E,G.unpinned,L⟩
  | ret v=>obtain⟨x7,l,E,G,r7,L⟩:=L;exact⟨x7,l,E,G.unpinned,r7,L⟩
end
noncomputable abbrev R2:=V->V->Hp->VK->Prop
noncomputable def OpR(X:Cx)(f:AK->AK->Sem AK)(r:R2):Prop:=
 ∀(l:List (Ab×Obj)) (s:AS) (m:St) (H:Hp) (x y:V) (v u:AK) (Q:VK),Inv X l m H s->RelV x v->RelV y u->r x y H Q ->
  Am (Aw X.prog X.w) X.A (f v u) (EP X l m Q) X.xe s
noncomputable def UnR(X:Cx)(f:AK->Sem AK)(r:V->Hp->VK->Prop):Prop:=
 ∀(l:List (Ab×Obj)) (s:AS) (m:St) (H:Hp) (x:V) (v:AK) (Q:VK),Inv X l m H s->RelV x v->r x H Q ->
  Am (Aw X.prog X.w) X.A (f v) (EP X l m Q) X.xe s
noncomputable def NG(X:Cx)(f:AK)(r:List V->Hp->VK->Prop):Prop:=
 ∀(l:List (Ab×Obj)) (s:AS) (m:St) (H:Hp) (o:List V) (B:List AK) (Q:VK),Inv X l m H s->CG o B->r o H Q ->
  Am (Aw X.prog X.w) X.A (call f B) (EP X l m Q) X.xe s
noncomputable def TruR(X:Cx)(r:V->Hp->(Bool->Hp->Prop)->Prop):Prop:=
 ∀(l:List (Ab×Obj)) (s:AS) (m:St) (H:Hp) (x:V) (v:AK) (Q:Bool->Hp->Prop),Inv X l m H s->RelV x v->r x H Q ->
  Am (Aw X.prog X.w) X.A (truthy v) (TP X l m Q) X.xe s
noncomputable def tOp(r:R2)(m o:TE):TE:=λl H Q=>m l H λx s=>o l s λy A=>r x y A Q
noncomputable def tUn(r:V->Hp->VK->Prop)(l:TE):TE:=λm H Q=>l m H λx o=>r x o Q
noncomputable def rI(C:Int->Int->Prop)(g:Int->Int->V):R2:=λx y H Q=>∃i j,x=.int i/\y=.int j/\C i j/\Q (g i j) H
noncomputable def rI0(g:Int->Int->V):R2:=λx y H Q=>∃i j,x=.int i/\y=.int j/\Q (g i j) H
noncomputable def rU(g:Int->V):V->Hp->VK->Prop:=λx H Q=>∃i,x=.int i/\Q (g i) H
section
variable{X:Cx}{a b:Expr}{ta tb:TE}{pos:Pos}
theorem uM(J:PE X a ta)(hb:PE X b tb){C:List (Ab×Obj)}{s:AS}{l:St}{H:Hp}{R:V->V->Hp->Prop}(I:Inv X C l H s)
  (h:ta l H λx G=>tb l G λy m=>R x y m) {Q:AK->AS->Prop} {f:AK->AK->Sem AK}
  (L:∀v u E x y m,Inv X C l m E->RelV x v->RelV y u->R x y m->Am (Aw X.prog X.w) X.A (f v u) Q X.xe E) :
  Am (Aw X.prog X.w) X.A (CF a X.env) (λv o=>Am (Aw X.prog X.w) X.A (CF b X.env) (λu B=>Am (Aw X.prog X.w) X.A (f v u) Q X.xe B) X.xe o) X.xe s:=by
 refine thn (J C s l H _ I h) λv N ⟨x,G,O,P,S⟩=>?_
 refine thn (hb C N l G _ O S) λu E ⟨y,m,T,U,Y⟩=>?_
 exact L v u E x y m T P U Y
theorem vz{op:Operator}{r:R2}(ho:OpR X (Dc op) r)(l:PE X a ta)(hb:PE X b tb):PE X (.BinOp a op b pos) (tOp r ta tb):=by
 intro m s o H Q I h;exact wpAny_BinOp (uM l hb I h λv u A x y B C E G q=>ho m A o B x y v u Q C E G q)
theorem vy(ho:UnR X (unaryOp op) r)(o:PE X a ta):PE X (.UnaryOp op a pos) (tUn r ta):=by
 intro l s m H Q I h;exact UnaryOp_ (thn (o l s m H _ I h) λv A ⟨x,B,C,E,G⟩=>ho l A m B x v Q C E G)
theorem opI{f:AK->AK->Sem AK}{C:Int->Int->Prop}{g:Int->Int->Int}
  (rule:∀(i j:Int) (t u:Tok) (s:AS) (Q:AK->AS->Prop) (E:AK->AS->Prop),C i j->Q (.int (g i j) s.toks) { s with toks:=s.toks+1 }->Am (Aw X.prog X.w) X.A (f (.int i t) (.int j u)) Q E s) :
  OpR X f (rI C λi j=>.int (g i j)):=by
 intro G s J H x y v u Q I l m h;obtain⟨i,j,rfl,rfl,o,q⟩:=h;obtain⟨t,rfl⟩:=l;obtain⟨B,rfl⟩:=m;exact rule i j t B s _ _ o ⟨.int (g i j),H,I.tok _,⟨_,rfl⟩,q⟩
theorem sV{f:AK->AK->Sem AK}{g:Int->Int->Int}
  (rule:∀(i j:Int) (t u:Tok) (s:AS) (Q:AK->AS->Prop) (E:AK->AS->Prop),Q (.int (g i j) s.toks) { s with toks:=s.toks+1 }->Am (Aw X.prog X.w) X.A (f (.int i t) (.int j u)) Q E s) :
  OpR X f (rI0 λi j=>.int (g i j)):=by
 intro B s C H x y v u Q I l m h;obtain⟨i,j,rfl,rfl,q⟩:=h;obtain⟨t,rfl⟩:=l;obtain⟨o,rfl⟩:=m;exact rule i j t o s _ _ ⟨.int (g i j),H,I.tok _,⟨_,rfl⟩,q⟩
theorem nG{f:AK->AK->Sem AK}{g:Int->Int->Bool}
  (rule:∀(i j:Int) (t u:Tok) (s:AS) (Q:AK->AS->Prop) (E:AK->AS->Prop),Q (.bool (g i j)) s->Am (Aw X.prog X.w) X.A (f (.int i t) (.int j u)) Q E s) :
  OpR X f (rI0 λi j=>.bl (g i j)):=by
 intro B s C H x y v u Q I l m h;obtain⟨i,j,rfl,rfl,q⟩:=h;obtain⟨t,rfl⟩:=l;obtain⟨o,rfl⟩:=m;exact rule i j t o s _ _ ⟨.bl (g i j),H,I,rfl,q⟩
noncomputable def kb(i j:Int):Prop:=0 < j/\j < 1073741824
noncomputable def ka(i j:Int):Prop:=0<=j/\j<=1000000/\i.natAbs < 2 ^ 64
noncomputable def ZR(i j:Int):Prop:=(-(2 ^ 64) < i/\i < 2 ^ 64)∨(-(2 ^ 64) < j/\j < 2 ^ 64)
theorem ZR.ok(h:ZR i j):IntMulOk i j:=by
 rcases h with⟨l,m⟩ | ⟨l,m⟩
 ·exact .of_left (intBits_le_64 l m)
 ·exact .of_right (intBits_le_64 l m)
theorem Zw(k:Nat):(0:Int)<=2 ^ k:=by
 rw[two_pow_cast];exact K5 _
theorem sU:OpR X (Dc .Add) (rI0 λi j=>.int (i+j)):=sV λ_ _ _ _ _ _ _ q=>add_int q
theorem sK:OpR X (Dc .Sub) (rI0 λi j=>.int (i - j)):=sV λ_ _ _ _ _ _ _ q=>sub_int q
theorem sO:OpR X (Dc .Mult) (rI ZR λi j=>.int (i * j)):=opI λ_ _ _ _ _ _ _ l q=>mul_int q l.ok
theorem nC:OpR X (Dc .FloorDiv) (rI kb λi j=>.int (i / j)):=opI λi j _ _ _ _ _ l q=>by
 have m:(0:Int) < j:=l.1;have o:j < 1073741824:=l.2;exact floordiv_int (by lia) (by rw[Wr i (by lia)];exact q) (.inl (Wn (by omega)))
theorem sP:OpR X (Dc .Mod) (rI (λ_ j=>0 < j) λi j=>.int (i % j)):=opI λi j _ _ _ _ _ l q=>by
 have m:(0:Int) < j:=l;exact mod_int' (by lia) (by rw[Int.fmod_eq_emod_of_nonneg i (by lia)];exact q)
theorem sM:OpR X (Dc .LShift) (rI ka λi j=>.int (i * 2 ^ j.toNat)):=opI λ_ _ _ _ _ _ _ l q=>lshift_int_small l.1 l.2.1 l.2.2 q
theorem sL:OpR X (Dc .RShift) (rI (λ_ j=>0<=j) λi j=>.int (i / 2 ^ j.toNat)):=opI λi j _ _ _ _ _ l q=>
 rshift_int l (by rw[Wr i (Zw _)];exact q)
theorem sT:OpR X (Dc .BitAnd) (rI0 λi j=>.int (Bn i j)):=sV λ_ _ _ _ _ _ _ q=>and_int q
theorem unI{f:AK->Sem AK}{g:Int->Int}
  (rule:∀(i:Int) (t:Tok) (s:AS) (Q:AK->AS->Prop) (E:AK->AS->Prop),Q (.int (g i) s.toks) { s with toks:=s.toks+1 }->Am (Aw X.prog X.w) X.A (f (.int i t)) Q E s) :
  UnR X f (rU λi=>.int (g i)):=by
 intro m s o H x v Q I l h;obtain⟨i,rfl,q⟩:=h;obtain⟨t,rfl⟩:=l;exact rule i t s _ _ ⟨.int (g i),H,I.tok _,⟨_,rfl⟩,q⟩
theorem qr:UnR X (unaryOp .USub) (rU λi=>.int (-i)):=unI λ_ _ _ _ _ q=>neg_int q
end
section
variable{X:Cx}{a b c:Expr}{ta tb tc:TE}{pos:Pos}
theorem jw(I:Inv X l m H s)(q:Q (.bl k) H)(e:k=o):EP X l m Q (.bool o) s:=by
 subst e;exact⟨.bl k,H,I,rfl,q⟩
theorem wB:OpR X (B2 .Lt) (rI0 λi j=>.bl (decide (i < j))):=nG λ_ _ _ _ _ _ _ q=>lt_int q
theorem wC:OpR X (B2 .LtE) (rI0 λi j=>.bl (decide (i<=j))):=nG λ_ _ _ _ _ _ _ q=>le_int q
theorem wD:OpR X (B2 .Gt) (rI0 λi j=>.bl (decide (j < i))):=nG λ_ _ _ _ _ _ _ q=>gt_int q
theorem wE:OpR X (B2 .GtE) (rI0 λi j=>.bl (decide (j<=i))):=nG λ_ _ _ _ _ _ _ q=>ge_int q
theorem sQ:OpR X (B2 .Is) (λx y H Q=>y=.non/\Q (.bl (decide (x=.non))) H):=by
 intro o s A H x y v u Q I l m h;obtain⟨rfl,q⟩:=h;cases m;refine is_none_gen (jw I q ?_)
 cases x <;> first
  | (cases l;rfl)
  | (obtain⟨t,rfl⟩:=l;rfl)
theorem nB:OpR X (B2 .IsNot) (λx y H Q=>y=.non/\Q (.bl (!decide (x=.non))) H):=by
 intro o s A H x y v u Q I l m h;obtain⟨rfl,q⟩:=h;cases m;refine isnot_none_gen (jw I q ?_)
 cases x <;> first
  | (cases l;rfl)
  | (obtain⟨t,rfl⟩:=l;rfl)
theorem OpR.or(h:OpR X f r)(h':OpR X f r'):OpR X f (λx y H Q=>r x y H Q∨r' x y H Q):=by
 intro l s m H x y v u Q I o A q
 rcases q with q | q
 ·exact h l s m H x y v u Q I o A q
 ·exact h' l s m H x y v u Q I o A q
theorem Dy(b:Expr)(h:op≠.In:=by decide)(l:op≠.NotIn:=by decide):Cz op b=false:=by
 have m:(op==CmpOp.In)=false:=by cases op <;> first | rfl | exact zX rfl h
 have o:(op==CmpOp.NotIn)=false:=by cases op <;> first | rfl | exact zX rfl l
 cases b <;> simp[Cz,m,o]
theorem m6{op:CmpOp}{r:R2}(ho:OpR X (B2 op) r)(l:PE X a ta)(hb:PE X b tb)(m:Cz op b=false):PE X (.Compare a [op] [b] pos) (tOp r ta tb):=by
 intro o s A H Q I h;exact wpAny_Compare1 (uM l hb I h λv u B x y C E G J q=>ho o B A C x y v u Q E G J q) m
noncomputable def pU(t:TE):TT:=λl H Q=>t l H λx m=>∃k,x=.bl k/\Q k m
theorem mO(ho:OpR X (B2 op) r)(o:PE X a ta)(hb:PE X b tb)(A:Cz op b=false):PT X (.Compare a [op] [b] pos) (pU (tOp r ta tb)):=by
 intro l s m H Q I h
 refine ke (thn (o l s m H _ I h) λv B ⟨x,C,E,G,J⟩=>thn (hb l B m C _ E J) λu L ⟨y,N,O,P,R⟩=>
  thn (ho l L m N x y v u _ O G P R) λc Z ⟨z,S,T,U,k,e,Y⟩=>?_) A
 subst e;cases U;exact E8 ⟨S,T,Y⟩
noncomputable def iE(r r':R2)(ta tb tc:TE):TE:=λl H Q=>ta l H λx o=>tb l o λy s=>r x y s λz m=>∃k,z=.bl k /\
 (if k=true then tc l m λA B=>r' y A B Q else Q (.bl false) m)
theorem ii(ho:OpR X (B2 op) r)(G:OpR X (B2 l) r')(J:PE X a ta)(hb:PE X b tb)(L:PE X c tc)
  (N:lastMarks [op,l] [b,c]=false:=by with_unfolding_all rfl):PT X (.Compare a [op,l] [b,c] pos) (pU (iE r r' ta tb tc)):=by
 intro m s o H Q I h
 refine isTrue_chain (thn (J m s o H _ I h) λv O ⟨x,P,R,S,T⟩=>test_link (thn (hb m O o P _ R T) λu U ⟨y,Y,Z,A,q2⟩=>
  thn (ho m U o Y x y v u _ Z S A q2) λd s3 ⟨z,B,C,r3,k,e,E⟩=>?_)) N
 subst e;cases r3;refine E8 ?_
 cases k with
 | false=>
  obtain⟨k',e',q'⟩:=E;cases e';exact ite_ff ⟨B,C,q'⟩
 | true=>
  refine ite_tt (test_last (thn (L m s3 o B _ C E) λw' s4 ⟨z',H4,I4,r4,q4⟩=>thn (G m s4 o H4 y z' u w' _ I4 A r4 q4) λd' s5 ⟨z2,H5,I5,r5,k2,e2,q5⟩=>?_));subst e2;cases r5;exact E8 ⟨H5,I5,q5⟩
noncomputable def uQ(K:AI)(x:V)(H:Hp)(k:Bool):Prop:=
 match x with
 | .non=>k=false
 | .bl b=>k=b
 | .int i=>k=(i != 0)
 | .str y=>y.length<=sizeLine/\k=((y.length:Int) != 0)
 | .byt y=>y.size<=sizeLine/\k=((y.size:Int) != 0)
 | .ref p=>(∃l,SqL K H p l/\k = !l.isEmpty)∨(∃l,SqT K H p l/\k = !l.isEmpty)∨∃m,H p=some (.dK m)/\k = !m.isEmpty
 | _=>False
theorem ag{l:Type}{m:List (l×V)}{vs:List (l×AK)}(r:KV m vs):(!vs.isEmpty) = !m.isEmpty:=by
 cases r <;> rfl
theorem Uk(r:CG xs l):(!l.toArray.isEmpty) = !xs.isEmpty:=by
 cases r <;> simp
theorem RJ:(sizeLine:Nat) < 2 ^ 63:=by rw[kr];decide
theorem qt:TruR X (λx H Q=>∃k,uQ X.K x H k/\Q k H):=by
 intro R s S H x v Q I B h;obtain⟨k,e,q⟩:=h;have T:=RJ;have U:sizeLine=16777216:=kr
 cases x with
 | non=>
  cases B;have l:k=false:=e;subst l;exact truthy_none ⟨H,I,q⟩
 | bl b=>
  cases B;have l:k=b:=e;subst l;exact E8 ⟨H,I,q⟩
 | int i=>
  obtain⟨t,rfl⟩:=B;have l:k=(i != 0):=e;subst l;exact PySem.P.truthy_int ⟨H,I,q⟩
 | str y=>
  obtain⟨t,rfl⟩:=B;obtain⟨L,l⟩:y.length<=sizeLine/\k=((y.length:Int) != 0):=e;subst l;exact PySem.P.truthy_str (by lia) ⟨H,I.tok _,q⟩
 | byt y=>
  obtain⟨t,rfl⟩:=B;obtain⟨L,l⟩:y.size<=sizeLine/\k=((y.size:Int) != 0):=e;subst l;exact PySem.W.truthy_bytes (by lia) ⟨H,I.tok _,q⟩
 | ref p=>
  cases B
  have l:(∃A,SqL X.K H p A/\k = !A.isEmpty)∨(∃A,SqT X.K H p A/\k = !A.isEmpty)∨∃C,H p=some (.dK C)/\k = !C.isEmpty:=e
  rcases l with⟨A,E,l⟩ | ⟨A,E,l⟩ | ⟨C,E,l⟩
  ·subst l
   obtain⟨N,r,G,J⟩:=I.list E;have o:=r.length;exact wpAny_truthy_list G.isList (by simp only[Au];lia) ⟨H,I.tok _,by rw[Uk r];exact q⟩
  ·subst l
   obtain⟨N,r,G,J⟩:=I.tuple E;have o:=r.length;exact truthy_tuple G (by simp only[Au];lia) ⟨H,I.tok _,by rw[Uk r];exact q⟩
  ·subst l
   obtain⟨J,O,vs,r,m⟩:C.length<=sizeLine/\(p==Cm)=false/\∃vs,KV C vs/\s.heap.DictOf (Eu X.prog X.w) p vs:=I.hok p _ E
   have o:C.length=vs.length:=EG r;exact wpAny_truthy_dict O m (by lia) ⟨H,I.tok _,by rw[ag r];exact q⟩
 | _=>exact(show False from e).elim
theorem ie(B:PE X a ta)(C:∀l,qJ a X.env l=(do let v <-l;uW a.pos;RY [v] (truthy v))) :
  PT X a (λm H Q=>ta m H λx o=>∃k,uQ X.K x o k/\Q k o):=by
 intro A s m H Q I h;exact isTrue_plain (thn (B A s m H _ I h) λv E ⟨x,G,J,L,N⟩=>qt A E m G x v Q J L N) (C _)
theorem vals1(r:CG [x] us):∃u,us=[u]/\RelV x u:=by
 cases r with
 | cons l m=>cases m;exact⟨_,rfl,l⟩
theorem vals2(r:CG [x,y] us):∃u w',us=[u,w']/\RelV x u/\RelV y w':=by
 cases r with
 | cons l m=>
  cases m with
  | cons o s=>cases s;exact⟨_,_,rfl,l,o⟩
theorem fY(m:X.calm=true):NG X (.builtin "max") (λxs H Q=>∃i j,xs=[.int i,.int j]/\Q (.int (if j > i then j else i)) H):=by
 intro o s A H xs B Q I r h;obtain⟨i,j,rfl,q⟩:=h;obtain⟨u,C,rfl,⟨t,rfl⟩,⟨E,rfl⟩⟩:=vals2 r
 refine max_two_ints (I.ok.hd m) λG J k=>⟨_,H,I.kept k,?_,q⟩
 by_cases l:j > i
 ·rw[qX l,qX l];exact⟨_,rfl⟩
 ·rw[qY l,qY l];exact⟨_,rfl⟩
theorem fX(m:X.calm=true):NG X (.builtin "min") (λxs H Q=>∃i j,xs=[.int i,.int j]/\Q (.int (if j < i then j else i)) H):=by
 intro o s A H xs B Q I r h;obtain⟨i,j,rfl,q⟩:=h;obtain⟨u,C,rfl,⟨t,rfl⟩,⟨E,rfl⟩⟩:=vals2 r
 refine min_two_ints (I.ok.hd m) λG J k=>⟨_,H,I.kept k,?_,q⟩
 by_cases l:j < i
 ·rw[qX l,qX l];exact⟨_,rfl⟩
 ·rw[qY l,qY l];exact⟨_,rfl⟩
theorem fZ:NG X (.type "int") (λxs H Q=>(∃i,xs=[.int i]/\Q (.int i) H)∨∃k,xs=[.bl k]/\Q (.int (if k then 1 else 0)) H):=by
 intro m s o H xs A Q I r h
 rcases h with⟨i,rfl,q⟩ | ⟨k,rfl,q⟩
 ·obtain⟨u,rfl,t,rfl⟩:=vals1 r
  exact call_int_int ⟨.int i,H,I,⟨_,rfl⟩,q⟩
 ·obtain⟨u,rfl,l⟩:=vals1 r
  cases l;exact call_int_bool ⟨.int (if k then 1 else 0),H,I.tok _,⟨_,rfl⟩,q⟩
end
structure bK(h:DO)(x dx C:Ab)(mA:Str->Option AK):Prop where
 obj:h.get? x=some (Ei C dx)
 ns:h.Ns1 dx mA
 ne:dx≠x
theorem ei{h:DO}{m:Ab}{s:Str->Option AK}(n:h.Ns1 m s):∃A,h.get? m=some A/\∀name,NU name A=some (s name):=by
 obtain⟨o,B,J,C,hd,E,_,G⟩:=n;refine⟨o,C,λname=>?_⟩;have e:=G name;unfold nsFind findBy at e;rw[<-Array.find?_toList]at e;unfold NU;rw[hd];dsimp only;split
 ·rename_i y q
  rw[q]at e;exact congrArg some e
 ·rename_i q
  rw[q]at e
  have a:B.toList.any (·.refKey)=false:=by
   rw[gU];intro y H;obtain⟨z,t,l⟩:=E y (GM.mp H);simp[Rg.refKey,l]
  have I:¬B.toList.any (·.refKey)=true:=by rw[a];exact AN
  rw[qY I];exact congrArg some e
theorem bK.look{h}{x m C}{o}(I:bK h x m C o):∃l,PySem.W.InstAt h x (Ei C m) C (some l)/\∀name,NU name l=some (o name):=
 let ⟨l,s,A⟩:=ei I.ns
 ⟨l,⟨I.obj,rfl,rfl,s⟩,A⟩
section
variable{prog:Bw}{w:CV}{A:Cf}{E:AK->AS->Prop}{s:AS}{K:AI}{x dx C f:Ab}{mA:Str->Option AK}{name:Str}{v:AK}
theorem nz(X:K.In s.heap)(I:bK s.heap x dx C mA)(m:Lj K C name=true)(o:Pc K C=true)
  (B:EL K (.ref C) name=some none) (G:mA name=some v) (l:dF v=true) (h:Q v { s with toks:=s.toks+1 }) :
  Am (Aw prog w) A (getAttr (.ref x) name expr) Q E s:=by
 obtain⟨L,J,H⟩:=I.look;exact PySem.W.get_value X J (OO m).1 (PySem.W.findObj_own o B rfl (by rw[H,G])) l h
theorem jl(X:K.In s.heap)(I:bK s.heap x dx C mA)(l:Lj K C name=true)
  (m:EL K (.ref C) name=some (some (.ref f))) (o:Wj K (.ref f)=true) (B:mA name=none) (h:Q (.ref f,[.ref x]) s) :
  Am (Aw prog w) A (fm (.ref x) name pl) Q E s:=by
 obtain⟨G,J,H⟩:=I.look;exact PySem.W.method_fn X J (OO l).1 (OO l).2 m (beq_iff_eq.mp o) (by show(NU name G).map (·.isSome)=some false;rw[H,B];rfl) h
theorem mE(X:K.In s.heap)(I:bK s.heap x dx C mA)
  (H:EL K (.ref C) "__setattr__" = some (some (.builtin "object.__setattr__"))) (L:bN K C=true) (N:Ry K C name=some none) (O:Pc K C=true)
  (hw:X3 mA ns) (hsz:ns.length<=sizeLine)
  (h:∀h',bK h' x dx C (λy=>if y=name then some v else mA y)->FQ dx s.heap h'->Q () { s with heap:=h',toks:=s.toks+2 }) :
  Am (Aw prog w) A (setAttr (.ref x) name v) Q E s:=by
 obtain⟨Y,J,Z⟩:=I.look;refine PySem.W.set_plain X J H (PySem.W.osa_open (s:={ s with toks:=s.toks+1 }) (r:=none) X J L N λb=>?_);obtain⟨cd,P,R⟩:=PySem.W.any_some O;have S:s.heap.get? x=some ⟨.ref C,some dx,.plain,#[]⟩:=I.obj;refine AB (AL (AB (AB (wpAny_loadPart S (AB (uy (s:={ s with toks:=s.toks+1 }) (PySem.W.looks_clsIn X P) ?_))))));rw[R];refine AL (a:=some dx) (AB (AL (AB ?_)))
 refine wpAny_nsSet1 (s:={ s with toks:=s.toks+1 }) I.ns λh' B G=>?_
 obtain⟨oD,T,U,l,m,o⟩:=B.count (xZ name v hw);refine AB (wpAny_lookBehind l (by rw[m];exact pastItsLine_dict (Aj o (by rw[BC];lia))) ?_);exact AL (h _ ⟨(G.2 _ (Ck I.ne)).trans I.obj,B,I.ne⟩ G)
theorem jL(X:K.In s.heap)(m:fx K C=true)
  (hi:EL K (.ref C) "__init__" = some (some (.ref f))) (o:PySem.W.typeIn K (.ref f)=some (.type "function"))
  (h:Li (Aw prog w) (A.under (.builtin "type.__call__" ⟨.ref C :: vs,l⟩)) (.call (.ref f) ⟨.ref (s.heap.objs.size+1) :: vs,l⟩) (PySem.W.InitBack (s.heap.objs.size+1) R)
   { s with heap:=(s.heap.push DV).push (Ei C s.heap.objs.size) }) :
  Li (Aw prog w) A (.call (.ref C) ⟨vs,l⟩) R s:=by
 obtain⟨B,g,d,t,os⟩:=s;exact PySem.W.make_core (PySem.W.makes_of X m) (PySem.W.looks_findIn X hi) (λself=>PySem.W.bind_fn X self o) (.inl rfl) h
end
noncomputable def putF(f:Str)(v:V):List (Str×V)->List (Str×V)
 | []=>[(f,v)]
 | (g,x) :: r=>if g=f then(g,v) :: r else(g,x) :: putF f v r
theorem Rs(f g:Str)(v:V):∀fs:List (Str×V),(putF f v fs).lookup g=if g=f then some v else fs.lookup g
 | []=>by
  show JV g [(f,v)]=_
  by_cases h:g=f
  ·have hb:(g==f)=true:=beq_iff_eq.mpr h
   simp only[JV,hb,qX h]
  ·have hb:(g==f)=false:=beq_eq_false_iff_ne.mpr h
   simp only[JV,hb,qY h]
 | (k,x) :: r=>by
  have m:=Rs f g v r;rw[show putF f v ((k,x) :: r)=(if k=f then(k,v) :: r else(k,x) :: putF f v r)from rfl]
  by_cases l:k=f
  ·rw[qX l]
   by_cases h:g=k
   ·have hb:(g==k)=true:=beq_iff_eq.mpr h
    simp only[JV,hb,qX (h.trans l)]
   ·have hb:(g==k)=false:=beq_eq_false_iff_ne.mpr h
    simp only[JV,hb,qY (λe:g=f=>h (e.trans l.symm))]
  ·rw[qY l]
   by_cases h:g=k
   ·have hb:(g==k)=true:=beq_iff_eq.mpr h
    simp only[JV,hb,qY (λe:g=f=>l (h.symm.trans e))]
   ·have hb:(g==k)=false:=beq_eq_false_iff_ne.mpr h
    simp only[JV,hb];exact m
theorem RK(f:Str)(v:V):∀fs:List (Str×V),f∈(putF f v fs).map (·.1)/\∀g,g∈fs.map (·.1)->g∈(putF f v fs).map (·.1)
 | []=>⟨by simp[putF],λg h=>by simp at h⟩
 | (k,x) :: r=>by
  obtain⟨m,o⟩:=RK f v r;rw[show putF f v ((k,x) :: r)=(if k=f then(k,v) :: r else(k,x) :: putF f v r)from rfl]
  by_cases l:k=f
  ·rw[qX l]
   subst l;exact⟨by simp,λg h=>by simpa using h⟩
  ·rw[qY l]
   refine⟨?_,λg h=>?_⟩
   ·rw[Az]
    exact AV _ m
   ·rw[Az]at h ⊢
    rcases Af.mp h with e | e
    ·exact Af.mpr (.inl e)
    ·exact AV _ (o g e)
theorem Ru(f:Str)(v:V):∀fs:List (Str×V),(putF f v fs).length<=fs.length+1
 | []=>by simp[putF]
 | (k,x) :: r=>by
  have m:=Ru f v r;rw[show putF f v ((k,x) :: r)=(if k=f then(k,v) :: r else(k,x) :: putF f v r)from rfl]
  by_cases l:k=f
  ·rw[qX l,BC,BC];lia
  ·rw[qY l,BC,BC];lia
theorem OV.some_of(r:OV (some v) o):∃u,o=some u/\RelV v u:=by
 cases o with
 | none=>exact(show False from r).elim
 | some u=>exact⟨u,rfl,r⟩
theorem OV.none_of(r:OV none o):o=none:=by
 cases o with
 | none=>rfl
 | some u=>exact(show False from r).elim
theorem fD(r:RelV v u):dF u=true:=by
 cases v with
 | non=>cases(show u=EY from r);rfl
 | bl b=>cases(show u=dD b from r);rfl
 | int i=>obtain⟨t,e⟩:=(show ∃t,u=KY i t from r);cases e;rfl
 | str x=>obtain⟨t,e⟩:=(show ∃t,u=Xu x t from r);cases e;rfl
 | byt b=>obtain⟨t,e⟩:=(show ∃t,u=uf b t from r);cases e;rfl
 | flt b=>obtain⟨t,e⟩:=(show ∃t,u=ue b t from r);cases e;rfl
 | ref a=>cases(show u=BW a from r);rfl
 | ty n=>cases(show u=HC n from r);rfl
section
variable{P:Bw}{w:CV}{H:Hp}{h:DO}{a C dx:Ab}{fs:List (Str×V)}
theorem XV(m:HOk P w H h)(e:H a=some (.ins C dx fs)):∃l,bK h a dx C l/\(∀f,OV (fs.lookup f) (l f))/\X3 l (fs.map (·.1))/\fs.length<=1000/\H dx=some (.own a):=by
 obtain⟨d,z,o,s,l,n,r,q⟩:=(show D2 P w H h a (.ins C dx fs)from m a _ e);exact⟨l,⟨s,n,o⟩,r,q,z,d⟩
end
structure Cls(K:AI)(C:Ab):Prop where
 pg:Lj K C Str.empty=true
 hd:Pc K C=true
 po:bN K C=true
 sa:EL K (.ref C) "__setattr__" = some (some (.builtin "object.__setattr__"))
theorem Cls.get{K}{C}(c:Cls K C)(f:Str):Lj K C f=true:=c.pg
noncomputable def FX(K:AI)(C:Ab)(f:Str):Prop:=EL K (.ref C) f=some none
theorem FX.taker{K}{C}{f}(n:FX K C f):Ry K C f=some none:=by
 unfold Ry;rw[show EL K (.ref C) f=some none from n];rfl
structure Xr(K:AI)(C:Ab)(m:Str)(f:Ab):Prop where
 at_:EL K (.ref C) m=some (some (.ref f))
 fn:Wj K (.ref f)=true
 kp:Fs K (.ref f)=true
section
variable{X:Cx}{ζ:List (Ab×Obj)}{σ:St}{H:Hp}{s:AS}{a C dx:Ab}{fs:List (Str×V)}{f:Str}{v:V}{A:Cf}{E:AK->AS->Prop}
theorem am(I:Inv X ζ σ H s)(e:H a=some (.ins C dx fs))(c:Cls X.K C)(n:FX X.K C f)(l:fs.lookup f=some v)
  (h:∀u s',Inv X ζ σ H s'->RelV v u->Q u s'):Am (Aw X.prog X.w) A (getAttr (.ref a) f b) Q E s:=by
 obtain⟨B,O,r,_,_,_⟩:=XV I.hok e;obtain⟨u,G,m⟩:=OV.some_of (v:=v) (o:=B f) (by rw[<-l];exact r f);exact nz I.kIn O (c.get f) c.hd n G (fD m) (h u _ (I.tok _) m)
theorem ak(I:Inv X ζ σ H s)(e:H a=some (.ins C dx fs))(c:Cls X.K C)(k:Xr X.K C m g)(l:fs.lookup m=none)
  (h:Q (.ref g,[.ref a]) s):Am (Aw X.prog X.w) A (fm (.ref a) m pl) Q E s:=by
 obtain⟨o,O,r,_,_,_⟩:=XV I.hok e;have B:o m=none:=OV.none_of (by rw[<-l];exact r m);exact jl I.kIn O (c.get m) k.at_ k.fn B h
theorem Z9(I:Inv X ζ σ H s)(e:H a=some (.ins C dx fs))(c:Cls X.K C)(n:FX X.K C f)(T:fs.length < 1000)(J:RelV y u)
  (h:∀s',Inv X ζ σ (upd H a (.ins C dx (putF f y fs))) s'->Q () s'):Am (Aw X.prog X.w) A (setAttr (.ref a) f u) Q E s:=by
 obtain⟨m,O,r,B,_,G⟩:=XV I.hok e
 have L:(fs.map (·.1)).length<=sizeLine:=by rw[AC,kr];lia
 refine mE I.kIn O c.sa c.po n.taker c.hd B L λN l P=>h _ ?_
 have hd:∃o,N.get? dx=some o:=let ⟨o,_,_,R,_⟩:=l.ns;⟨o,R⟩
 refine I.write (x:=a) (e:=dx) (by rw[e];exact NS) (.inr G) (λb q hb z=>(P.2 b hb).trans z) hd ?_;refine⟨by rw[Bv O.ne];exact G,?_,O.ne,l.obj,_,l.ns,λg=>?_,λg S=>?_⟩
 ·have:=Ru f y fs;lia
 ·show OV ((putF f y fs).lookup g) (if g=f then some u else m g)
  rw[Rs]
  by_cases q:g=f
  ·rw[qX q,qX q];exact J
  ·rw[qY q,qY q];exact r g
 ·by_cases q:g=f
  ·rw[q];exact(RK f y fs).1
  ·refine(RK f y fs).2 g (B g λz=>S ?_)
   show(if g=f then some u else m g)=none;rw[qY q];exact z
theorem Inv.made(I:Inv X ζ σ H s):Inv X ζ σ (upd (upd H s.heap.objs.size (.own (s.heap.objs.size+1))) (s.heap.objs.size+1) (.ins C s.heap.objs.size []))
  { s with heap:=(s.heap.push DV).push (Ei C s.heap.objs.size) }:=by
 have l:(s.heap.push DV).get? s.heap.objs.size=some DV:=Ah s.heap rfl
 have B:((s.heap.push DV).push (Ei C s.heap.objs.size)).get? (s.heap.objs.size+1)=some (Ei C s.heap.objs.size):=by
  have:=Ah (s.heap.push DV) (o:=Ei C s.heap.objs.size) rfl;rwa [Eb]at this
 have G:(s.heap.push DV).Ns s.heap.objs.size (λ_=>none):=⟨DV,#[],_,l,rfl,(λe J=>zX J (by simp)),λ_=>rfl⟩;have L:=I.laid (a:=s.heap.objs.size) (o:=.own (s.heap.objs.size+1)) (h':=s.heap.push DV) (t':=s.toks) (λb u q=>AR _ q) (AM _) ⟨_,l⟩;refine L.laid (a:=s.heap.objs.size+1) (o:=.ins C s.heap.objs.size []) (t':=s.toks) (λb u q=>AR _ q) (u5 (Eb _ _)) ?_;have m:s.heap.objs.size≠s.heap.objs.size+1:=BK (Dw _);refine⟨by rw[Bv m,CB],Do _,m,B,λ_=>none,(DO.Ns1.of_empty G).at λo q=>AR _ q,λ_=>NS,λy N=>zX rfl N⟩
theorem om(hb:Gb e f env (CF e env)=CF e env)
  (h:Am (Aw prog w) A (CF e env) (λo l=>Am (Aw prog w) A (getAttr o f true) Q E l) E s):Am (Aw prog w) A (CF (.Attribute e f pos) env) Q E s:=
 Attribute_any_ h (by rw[arm_eval_Attribute,hb])
end
noncomputable def tFld(K:AI)(m:TE)(f:Str):TE:=λo H Q=>m o H λx l=>∃a C s fs v,x=.ref a/\l a=some (.ins C s fs)/\Cls K C/\FX K C f/\fs.lookup f=some v/\Q v l
noncomputable def sFld(K:AI)(s A:TE)(f:Str):TS:=λD l H=>A l H λy B=>s l B λx m=>∃a C o fs,x=.ref a/\m a=some (.ins C o fs)/\Cls K C/\FX K C f/\fs.length < 1000 /\
 D.nx l (upd m a (.ins C o (putF f y fs)))
section
variable{X:Cx}{o e value:Expr}{f:Str}{pos pos':Pos}{ta tv:TE}
theorem sD(m:PE X e ta)(hb:Gb e f X.env (CF e X.env)=CF e X.env):PE X (.Attribute e f pos) (tFld X.K ta f):=by
 intro A s B H Q I h;refine om hb (thn (m A s B H _ I h) λu P ⟨x,E,G,J,a,C,R,fs,v,ex,L,c,n,l,q⟩=>?_);subst ex;obtain rfl:u=BW a:=J
 exact am G L c n l λS T N O=>⟨v,E,N,O,q⟩
theorem re(B:PE X o ta)(E:PE X value tv)(G:HB value (some (.Attribute o f pos')) pos.line X.env=pure false):PS X (.Assign [.Attribute o f pos'] value pos) (sFld X.K ta tv f):=by
 intro A s m H D I h;refine plainObj_wpAny_Assign_Attribute (thn (E A s m H _ I h) λu J ⟨y,L,N,O,q⟩=>thn (B A J m L _ N q) λP Y ⟨x,Z,Q,R,a,C,dx,fs,ex,S,c,n,l,T⟩=>?_) G;subst ex;obtain rfl:P=BW a:=R
 exact Z9 Q S c n l O λs3 U=>⟨m,_,U,T⟩
end
structure IE(k:Nat)(A:Cf):Prop where
 hd:A.handled=none
 dp:A.depth+3 * k+5 < recursionLimit
 un:A.units+16 * k+200 < FK
theorem IE.mono(r:IE k A)(h:j<=k):IE j A:=⟨r.hd,by have:=r.dp;lia,by have:=r.un;lia⟩
theorem IE.deeper(r:IE (k+1) A)(env:Env):IE k (A.deeper env):=
 ⟨r.hd,by have:=r.dp;show A.depth+1+3 * k+5 < _;lia,by have:=r.un;show A.units+3+16 * k+200 < _;lia⟩
theorem aU{A:Cf}{C:Ab}{us:List AK}{l:List (Str×AK)}:(A.under (.builtin "type.__call__" ⟨.ref C :: us,l⟩)).depth=A.depth+1:=by
 first | rfl | simp[X0,Code.weight,Code.isCreation,Code.isGuard,Code.isCaller,u9,ZZ,guardIds]
theorem aT{A:Cf}{C:Ab}{us:List AK}{l:List (Str×AK)}:(A.under (.builtin "type.__call__" ⟨.ref C :: us,l⟩)).units=A.units+1:=by
 first | rfl | simp[X0,Code.cUnits,u9,ZZ]
theorem IE.make{k}{A}(r:IE (k+1) A)(C:Ab)(us:List AK)(l:List (Str×AK)):IE k (A.under (.builtin "type.__call__" ⟨.ref C :: us,l⟩)):=
 ⟨r.hd,by have:=r.dp;rw[aU];lia,by have:=r.un;rw[aT];lia⟩
theorem IE.depth(r:IE k A):A.depth < recursionLimit:=by have:=r.dp;lia
theorem IE.units(r:IE k A):A.units+64 < FK:=by have:=r.un;lia
noncomputable def tNil:TA:=λ_ H Q=>Q [] H
noncomputable def vV(m:TE)(o:TA):TA:=λl H Q=>m l H λx s=>o l s λA B=>Q (x :: A) B
section
variable{X:Cx}{e:Expr}{es:List Expr}{te:TE}{t:TA}{pos:Pos}
theorem LH:PA X [] tNil:=λ_ _ _ _ H Q I h=>Lc ⟨[],H,I,.nil,h⟩
theorem Hd(o:PE X e te)(A:PA X es t)(B:Aa (e :: es) X.env=(false,CF e X.env) :: Aa es X.env:=by rfl):PA X (e :: es) (vV te t):=by
 intro pos l s m H Q I h;rw[B];show Am _ _ (uX ((false,CF e X.env) :: Eo pos (Aa es X.env))) _ _ s;refine Pe (thn (o l s m H _ I h) λu C ⟨x,E,G,J,L⟩=>?_)
 exact thn (A pos l C m E _ G L) λT U ⟨N,O,P,R,S⟩=>⟨x :: N,O,P,.cons J R,S⟩
noncomputable def tTup(t:TA):TE:=λo H Q=>t o H λl m=>l.length<=sizeLine/\∀p,m p=none->Q (.ref p) (upd m p (.tup l))
noncomputable def tLst(t:TA):TE:=λo H Q=>t o H λl m=>l.length<=sizeLine/\∀p,m p=none->Q (.ref p) (upd m p (.lst l))
theorem rn{A}(h:PA X es t):PE X (.Tuple es A pos) (tTup t):=by
 intro B s C H Q I E;refine wpAny_Tuple_spliced (thn (h pos B s C H _ I E) λG l ⟨J,m,o,r,z,q⟩=>⟨by rw[<-r.length];exact z,?_⟩);have L:m l.heap.objs.size=none:=o.hok.fresh (AM _);refine⟨.ref l.heap.objs.size,upd m l.heap.objs.size (.tup J),o.laid (t':=l.toks) (λb u e=>AR _ e) (AM _) ?_,rfl,q _ L⟩;exact⟨⟨z,⟨_,Ah _ rfl,rfl⟩⟩,G,r,⟨_,Ah _ rfl,rfl,_,rfl⟩⟩
theorem sB(h:PA X es t):PE X (.List es pos) (tLst t):=by
 intro A s B H Q I C;refine wpAny_List_spliced (thn (h pos A s B H _ I C) λE l ⟨G,m,o,r,z,q⟩=>⟨by rw[<-r.length];exact z,?_⟩);have J:m l.heap.objs.size=none:=o.hok.fresh (AM _);refine⟨.ref l.heap.objs.size,upd m l.heap.objs.size (.lst G),o.laid (t':=l.toks) (λb u e=>AR _ e) (AM _) ?_,rfl,q _ J⟩;exact⟨z,E,0,r,Ah _ rfl⟩
end
noncomputable abbrev Sp:=List V->Hp->VK->XK->Prop
noncomputable abbrev CXT:=List Env->Hp->AS->XK->AK->AS->Prop
structure bL(P:Bw)(w:CV)(K:AI)(mg:Str->Option AK)(base:DO)(A:Cf)(outer:List Env)(s:AS)(H:Hp):Prop where
 frames:A.frames=some outer
 mod:Mod K mg base
 bs:∀b o,base.get? b=some o->s.heap.get? b=some o/\H b=none
 bsz:base.objs.size<=s.heap.objs.size
 funs:s.heap.FunFrames base outer
 frf:∀b∈frs outer,H b=none
 hok:HOk P w H s.heap
 bare:Lp s.gens
noncomputable def CE(l:List Env)(P:Bw)(w:CV)(H:Hp)(s:AS)(Q:VK)(u:AK)(s':AS):Prop:=
 ∃v m,s'.os=s.os/\Lp s'.gens/\Un (frs l) [] H m s.heap s'.heap/\HOk P w m s'.heap/\RelV v u/\Q v m
noncomputable def CR(CX:CXT)(l:List Env)(P:Bw)(w:CV)(H:Hp)(s:AS)(Q:VK)(E:XK)(r:Result)(s':AS):Prop:=
 match r with
 | .ok (.ret u)=>CE l P w H s Q u s'
 | .ok _=>False
 | .error e=>CX l H s E e s'
structure Cp(P:Bw)(w:CV)(K:AI)(mg:Str->Option AK)(base:DO)(CX:CXT)(k:Nat)(f:Ab)(fd:MN)(ps:List Str)(sp:Sp):Prop where
 len:∀vs H Q E,sp vs H Q E->vs.length=ps.length
 run:∀(A:Cf) (outer:List Env) (s:AS) (H:Hp) (args:Args) (us:List AK) (vs:List V) (Q:VK) (E:XK),IE k A->bL P w K mg base A outer s H->Za s fd args (ps.zip us)->CG vs us->sp vs H Q E ->
  Li (Aw P w) A (.call (.ref f) args) (CR CX outer P w H s Q E) s
theorem Cp.imp{P}{w}{K}{B}{l}{CX}{k}{f}{fd}{ps}{sp sp'}(F:Cp P w K B l CX k f fd ps sp)
  (h:∀vs H Q E,sp' vs H Q E->sp vs H Q E):Cp P w K B l CX k f fd ps sp':=
 ⟨λvs H Q E q=>F.len vs H Q E (h _ _ _ _ q),λA m s H o C vs Q E G I hb J L=>F.run A m s H o C vs Q E G I hb J (h _ _ _ _ L)⟩
theorem bL.make{P}{w}{K}{o}{m}{A}{l}{s}{H}(e:bL P w K o m A l s H)(C:Ab)(us:List AK)(B:List (Str×AK)) :
  bL P w K o m (A.under (.builtin "type.__call__" ⟨.ref C :: us,B⟩)) l s H:=⟨by first | exact e.frames | (simpa[X0,Code.envs,ZZ,pushEnvs]using e.frames),e.mod,e.bs,e.bsz,e.funs,e.frf,e.hok,e.bare⟩
section
variable{X:Cx}{ζ:List (Ab×Obj)}{σ:St}{H:Hp}{s s':AS}
theorem Inv.env0(I:Inv X ζ σ H s):bL X.prog X.w X.K X.mg X.base X.A X.stack s H:=
 ⟨I.ok.frames,I.ok.mod,I.bs,Aj I.ok.bsz I.sz,I.stack,I.stkFree,I.hok,I.bare⟩
theorem Inv.after(I:Inv X ζ σ H s)(h:CE X.stack X.prog X.w H s Q u s'):EP X ζ σ Q u s':=by
 obtain⟨v,A,os,l,un,m,r,q⟩:=h;obtain⟨B,g,d,t,o⟩:=s';obtain rfl:o=s.os:=os;exact⟨v,A,I.call (h':=B) (g':=g) (d':=d) (t':=t) (ch:=[]) un m l (λb z=>zX z (by simp)),r,q⟩
end
noncomputable def vW(sp:Sp)(m:List V)(E:St->XK)(t:TA):TE:=λl H Q=>t l H λo s=>sp (o++m) s Q (E l)
noncomputable def pV(C:Ab)(m:Str)(sp:Sp)(s:List V)(E:St->XK)(A:TE)(t:TA):TE:=λl H Q=>A l H λx o=>∃a B fs,x=.ref a/\o a=some (.ins C B fs)/\fs.lookup m=none /\
 t l o λG I=>sp (x :: (G++s)) I Q (E l)
noncomputable def vR(C:Ab)(sp:Sp)(s:List V)(E:St->XK)(t:TA):TE:=λo H Q=>t o H λA m=>∀x l,m x=none->m l=none->l≠x ->
 sp (.ref x :: (A++s)) (upd (upd m l (.own x)) x (.ins C l [])) (λv B=>v=.non/\Q (.ref x) B) (E o)
noncomputable def Binds(K:AI)(fd:MN)(ps:List Str)(ds:List AK):Prop:=
 ∀(s:AS) (l:List AK),K.In s.heap->(l++ds).length=ps.length->Za s fd ⟨l,[]⟩ (ps.zip (l++ds))
theorem Binds.all{K}{fd}{ps}(h:∀us:List AK,us.length=ps.length->kx fd ⟨us,[]⟩=pure (ps.zip us)):Binds K fd ps []:=λs us _ l=>by
 rw[By]at l ⊢;exact .of_eq (h us l)
noncomputable def M9(CX:CXT)(X:Cx)(E:St->XK):Prop:=∀(o:List (Ab×Obj)) (l:St) (H:Hp) (s:AS) (e:AK) (m:AS),Inv X o l H s->CX X.stack H s (E l) e m->X.xe e m
section
variable{X:Cx}{k:Nat}{f C:Ab}{fd:MN}{ps:List Str}{sp:Sp}{E:St->XK}{x m:Str}{p pos apos:Pos}{e o:Expr}{es:List Expr}{ta:TE}{t:TA}
theorem iR(F:Cp X.prog X.w X.K X.mg X.base CX k f fd ps sp)(N:IE k X.A)(hb:Binds X.K fd ps ds)(hd:CG G ds)(O:M9 CX X E)
  (I:Inv X J B H s) (r:CG vs us) (h:sp (vs++G) H Q (E B)):Am (Aw X.prog X.w) X.A (call (.ref f) us) (EP X J B Q) X.xe s:=by
 have L:CG (vs++G) (us++ds):=r.append hd
 have P:(us++ds).length=ps.length:=by rw[<-L.length];exact F.len _ _ _ _ h
 refine wpAny_call (VY (F.run X.A X.stack s H ⟨us,[]⟩ (us++ds) (vs++G) Q (E B) N I.env0 (hb s us I.kIn P) L h) λr R l=>?_)
 cases r with
 | error e=>exact O J B H s e R I l
 | ok S=>
  cases S with
  | ret u=>exact I.after l
  | next=>exact Et l
  | brk=>exact Et l
  | cont=>exact Et l
theorem m9(F:Cp X.prog X.w X.K X.mg X.base CX k f fd ps sp)(B:IE k X.A)(G:Gl X x)(J:X.mg x=some (.ref f))(L:Fs X.K (.ref f)=true)(hb:Binds X.K fd ps ds)(hd:CG N ds)(O:M9 CX X E)
  (P:PA X (e :: es) t) (R:(x==("__debug__" : Str))=false:=by decide) (S:Aa (e :: es) X.env=(false,CF e X.env) :: Aa es X.env:=by rfl) (T:(Eo pos (Aa es X.env)).any (·.1)=false:=by rfl) :
  PE X (.Call (.Name x p) (e :: es) [] pos) (vW sp N E t):=by
 intro U s Y H Q I h;refine Fm (XU I G J ?_ R);refine Os (h₀:=X.base) I.ok.mod.kin L (thn (P pos U s Y H _ I h) λZ s1 ⟨vs,H1,l,r,q⟩=>⟨l.kIn,?_⟩) S T;exact iR F B hb hd O l r q
theorem mm(P:PE X o ta)(c:Cls X.K C)(B:Xr X.K C m f)(F:Cp X.prog X.w X.K X.mg X.base CX k f fd ps sp)(R:IE k X.A)(hb:Binds X.K fd ps ds)(hd:CG S ds)(T:M9 CX X E)(U:PA X (e :: es) t)
  (Y:Aa (e :: es) X.env=(false,CF e X.env) :: Aa es X.env:=by rfl) (Z:(Eo pos (Aa es X.env)).any (·.1)=false:=by rfl)
  (ht:CF (.Call (.Attribute o m apos) (e :: es) [] pos) X.env=(do
   let G <-CF o X.env
   uW apos.atName
   let (f,fts) <-RY [G] (fm G m pl)
   callWith pos f fts (Eo pos (Aa (e :: es) X.env)) (Zf pos (Qi [] X.env))):=by rfl) :
  PE X (.Call (.Attribute o m apos) (e :: es) [] pos) (pV C m sp S E ta t):=by
 intro J s L H Q I h;refine PySem.W.methodCall_KW (pl:=pl) (thn (P J s L H _ I h) λu s1 ⟨x,H1,N,rx,a,dx,fs,ex,ea,l,q⟩=>?_) ht;subst ex;obtain rfl:u=BW a:=rx;refine ak N ea c B l ?_;refine Os (first:=[.ref a]) (h₀:=X.base) I.ok.mod.kin B.kp (thn (U pos J s1 L H1 _ N q) λus s2 ⟨vs,H2,O,r,q2⟩=>⟨O.kIn,?_⟩) Y Z;exact iR (us:=.ref a :: us) (vs:=.ref a :: vs) F R hb hd T O (.cons rfl r) q2
structure Mk(K:AI)(C f:Ab):Prop where
 makes:fx K C=true
 init:EL K (.ref C) "__init__" = some (some (.ref f))
 fn:Wj K (.ref f)=true
 kp:Fs K (.ref C)=true
theorem iQ(M:Mk X.K C f)(F:Cp X.prog X.w X.K X.mg X.base CX k f fd ps sp)(R:IE (k+1) X.A)(hb:Binds X.K fd ps ds)(hd:CG L ds)
  (S:M9 CX X E) (I:Inv X N B H s) (r:CG vs us)
  (h:∀x G,H x=none->H G=none->G≠x->sp (.ref x :: (vs++L)) (upd (upd H G (.own x)) x (.ins C G [])) (λv T=>v=.non/\Q (.ref x) T) (E B)) :
  Am (Aw X.prog X.w) X.A (call (.ref C) us) (EP X N B Q) X.xe s:=by
 have O:=h (s.heap.objs.size+1) s.heap.objs.size (I.hok.fresh (MB _)) (I.hok.fresh (AM _)) (BK (Dw _));have J:=Inv.made (C:=C) I;have P:CG (V.ref (s.heap.objs.size+1) :: (vs++L)) (BW (s.heap.objs.size+1) :: (us++ds)):=.cons rfl (r.append hd)
 have U:(BW (s.heap.objs.size+1) :: us++ds).length=ps.length:=by
  have e:=P.length;rw[F.len _ _ _ _ O]at e;exact e.symm
 refine wpAny_call (jL (f:=f) I.kIn M.makes M.init (beq_iff_eq.mp M.fn) (VY (F.run _ X.stack _ _ ⟨BW (s.heap.objs.size+1) :: us,[]⟩ (BW (s.heap.objs.size+1) :: (us++ds)) _ _ (E B) (R.make C us [])
  (J.env0.make C us []) (hb _ (BW (s.heap.objs.size+1) :: us) J.kIn U) P O) λr Y l=>?_))
 cases r with
 | error e=>exact S N B _ _ e Y J l
 | ok Z=>
  cases Z with
  | ret u=>
   obtain⟨v,H',I3,rv,ev,q3⟩:=J.after l;subst ev;exact⟨rv,⟨V.ref (s.heap.objs.size+1),H',I3,rfl,q3⟩⟩
  | next=>exact Et l
  | brk=>exact Et l
  | cont=>exact Et l
theorem mq(M:Mk X.K C f)(F:Cp X.prog X.w X.K X.mg X.base CX k f fd ps sp)(B:IE (k+1) X.A)(G:Gl X x)(J:X.mg x=some (.ref C))(hb:Binds X.K fd ps ds)(hd:CG L ds)(N:M9 CX X E)
  (O:PA X (e :: es) t) (P:(x==("__debug__" : Str))=false:=by decide) (R:Aa (e :: es) X.env=(false,CF e X.env) :: Aa es X.env:=by rfl) (S:(Eo pos (Aa es X.env)).any (·.1)=false:=by rfl) :
  PE X (.Call (.Name x p) (e :: es) [] pos) (vR C sp L E t):=by
 intro T s U H Q I h;refine Fm (XU I G J ?_ P);refine Os (h₀:=X.base) I.ok.mod.kin M.kp (thn (O pos T s U H _ I h) λY Z ⟨vs,H1,l,r,q⟩=>⟨l.kIn,?_⟩) R S;exact iQ M F B hb hd N l r q
end
structure BV(N P:List Str)(sc:Va):Prop where
 kind:sc.kind=.function
 co:sc.isCoroutine=false
 gen:sc.isGenerator=false
 nd:N.Nodup
 pre:N.take P.length=P
 par:∀x∈P,sc.names.lookup x=some .local∨sc.names.lookup x=some .cell
 nofree:∀y∈sc.names,y.2≠.free
theorem WY{kindOf}{x}:∀{binds:List (Str×AK)} {m:Str->Option AK},(∀v,(x,v)∉binds)->fo kindOf binds m x=m x
 | [],_,_=>rfl
 | (n,v) :: r,m,h=>by
  unfold fo;rw[WY λw hw=>h w (AV _ hw)];split
  ·have:x≠n:=by rintro rfl;exact h v AZ
   simp[this]
  ·rfl
theorem Wa{kindOf}{x}:∀{binds:List (Str×AK)} {m:Str->Option AK},(∀v,(x,v)∉binds)->fq kindOf binds m x=m x
 | [],_,_=>rfl
 | (n,v) :: r,m,h=>by
  unfold fq;rw[Wa λw hw=>h w (AV _ hw)];split
  ·rfl
  ·have:x≠n:=by rintro rfl;exact h v AZ
   simp[this]
theorem WZ{kindOf}{x}{v}:∀{P:List Str} {vs:List AK} {i:Nat} {m:Str->Option AK},P.Nodup->P[i]?=some x->vs[i]?=some v->kindOf x=some .local ->
  fo kindOf (P.zip vs) m x=some v
 | [],_,_,_,_,h,_,_=>by simp at h
 | _ :: _,[],_,_,_,_,h,_=>by simp at h
 | p :: P,w :: vs,0,m,s,l,o,A=>by
  simp at l o;subst l;subst o;show fo kindOf ((p,w) :: P.zip vs) m p=_;unfold fo;rw[WY λv B=>(Bu.mp s).1 (Jk B).1,qX A];simp
 | p :: P,w :: vs,i+1,m,s,l,o,A=>by
  show fo kindOf ((p,w) :: P.zip vs) m x=_;unfold fo;exact WZ (i:=i) (Bu.mp s).2 (by simpa using l) (by simpa using o) A
theorem Wb{kindOf}{x}{v}:∀{P:List Str} {vs:List AK} {i:Nat} {m:Str->Option AK},P.Nodup->P[i]?=some x->vs[i]?=some v->kindOf x≠some .local ->
  fq kindOf (P.zip vs) m x=some v
 | [],_,_,_,_,h,_,_=>by simp at h
 | _ :: _,[],_,_,_,_,h,_=>by simp at h
 | p :: P,w :: vs,0,m,s,l,o,A=>by
  simp at l o;subst l;subst o;show fq kindOf ((p,w) :: P.zip vs) m p=_;unfold fq;rw[Wa λv B=>(Bu.mp s).1 (Jk B).1,qY A];simp
 | p :: P,w :: vs,i+1,m,s,l,o,A=>by
  show fq kindOf ((p,w) :: P.zip vs) m x=_;unfold fq;exact Wb (i:=i) (Bu.mp s).2 (by simpa using l) (by simpa using o) A
noncomputable def start(N:List Str)(vs:List V):St:=vs.map some++B1 (N.length - vs.length) none
noncomputable def ay(CX:CXT)(P:Bw)(w:CV)(K:AI)(mg:Str->Option AK)(base:DO)(N:List Str)(l:Str)(scope:Va)(f:Ab)(o:AK)(A:Cf)(outer:List Env)(s:AS)(H:Hp)(E:XK):Cx where
 prog:=P
 w:=w
 K:=K
 mg:=mg
 base:=base
 A:=A.deeper (Oq l scope s.heap.objs.size f o)
 N:=N
 s₀:=s
 H₀:=H
 env:=Oq l scope s.heap.objs.size f o
 outer:=outer
 stack:=Oq l scope s.heap.objs.size f o :: outer
 ex:=[]
 calm:=true
 fn:=λ_=>true
 pn:=[]
 xe:=λe B=>Am (Aw P w) (A.deeper (Oq l scope s.heap.objs.size f o)) (leaving (Oq l scope s.heap.objs.size f o) e) (λ_ m=>CX outer H s E e m) (λC m=>CX outer H s E C m) B
theorem ZJ{l:Va}{n:Nat}{x:Str}(h:l.names.lookup x=some .cell):∃c,(Cd n l.names []).lookup x=some c:=by
 have q:=Wl l.names n [] (.inl h);exact Ce.mp q
theorem e8{CX:CXT}{P:Bw}{w:CV}{K:AI}{T:Str->Option AK}{B:DO}{N ps:List Str}{m:Str}{scope:Va}{f:Ab}{O:AK}{A:Cf}{l:List Env}{s s1:AS}{H:Hp}{E:XK}{us:List AK}{vs:List V}
  (S:BV N ps scope) (hd:A.handled=none) (C:bL P w K T B A l s H) (hl:vs.length=ps.length) (r:CG vs us)
  (x:InCallC s s.heap.objs.size (fo (Oq m scope s.heap.objs.size f O).kindOf (ps.zip us) λ_=>none) (Cd (s.heap.objs.size+1) scope.names []) (fq (Oq m scope s.heap.objs.size f O).kindOf (ps.zip us) λ_=>none) s1) :
  Inv (ay CX P w K T B N m scope f O A l s H E) [] (start N vs) H s1:=by
 have yt:ps.length<=N.length:=by have:=congrArg JW S.pre;rw[Dt]at this;lia
 obtain⟨Q,tk,rfl,U⟩:=x.done
 have G:∀b:Ab,b∉(ay CX P w K T B N m scope f O A l s H E).ex:=λb z=>zX (show b∈([]:List Ab)from z) (by simp)
 refine⟨⟨C.mod,S.kind,rfl,rfl,AM _,λy z c Q o=>?_,λy I=>?_,λy c _ h=>?_,λ_=>hd,Cf.frames_deeper C.frames,.inr ⟨rfl,rfl⟩,λb z=>zX z (G b),C.bs,C.bsz,λb _ _=>G b,λb z=>zX z (G b),C.funs,C.frf⟩,
  rfl,C.bare,Un.kept U,⟨_,x.toInCall.ns,λi y v Q o h3=>?_⟩,λy c h=>⟨_,x.cell y c h⟩,C.hok.fresh (AM _),λy c h=>?_,λp J=>zX (show p∈([]:List (Ab×Obj))from J) (by simp),C.hok.kept U,?_⟩
 ·exact name_of_addr x.apart (ED Q) (ED o)
 ·have I:scope.names.lookup y=some .cell∨scope.names.lookup y=some .free:=I
  rcases I with I | I
  ·exact ZJ I
  ·exact zX rfl (S.nofree _ (ED I))
 ·exact Kd (x.above y c (ED h))
 ·have R:i < vs.length:=by
   unfold start at o
   by_cases R:i < vs.length
   ·exact R
   ·rw[Bd (by simpa using R)]at o
    rw[D9]at o
    split at o <;> cases o
  have Y:vs[i]?=some v:=by
   unfold start at o;rw[Av (by simpa using R),Ad]at o
   cases e:vs[i]? with
   | none=>rw[e]at o;cases o
   | some a=>rw[e]at o;cases o;rfl
  obtain⟨u,X,Z⟩:=r.get Y
  have J:ps[i]?=some y:=by
   rw[<-S.pre,List.getElem?_take_of_lt (by lia)];exact Q
  have L:ps.Nodup:=by rw[<-S.pre];exact S.nd.sublist (gM _ _)
  refine⟨u,Z,?_⟩
  rcases S.par y (Al J)with k | k
  ·exact .inl ⟨k,WZ L J X k⟩
  ·obtain⟨c,e⟩:=ZJ (n:=s.heap.objs.size+1) k
   refine .inr ⟨.inl k,c,e,?_⟩;have q:=x.cell y c e;rw[Wb L J X (by show scope.names.lookup y≠_;rw[k];decide)]at q;exact q
 ·exact C.hok.fresh (Kd (x.above y c (ED h)))
 ·unfold start
  show _=N.length;rw[AQ,AC,N8]
  lia
theorem xE{CX}{P}{w}{K}{X}{B}{k}{f}{name m}{params}{body}{scope}{dV kV T pm L ct oc}{an od}
  {zB} {N ps} {sp} (lk:K.lookup f=some ⟨oc,od,.func (JZ name m params body scope dV kV T pm an L ct),zB⟩) (zp:TN K L m=true) (S:BV N ps scope)
  (len:∀vs H Q E,sp vs H Q E->vs.length=ps.length)
  (yV:∀(A:Cf) (l:List Env) (s:AS) (H:Hp) (vs:List V) (Q:VK) (E:XK),IE k (A.deeper (Oq m scope s.heap.objs.size f L))->sp vs H Q E ->
   ∃t,PSs (ay CX P w K X B N m scope f L A l s H E) body t/\t { nx:=λ_ G=>Q .non G,rt:=Q } (start N vs) H) :
  Cp P w K X B CX (k+1) f (JZ name m params body scope dV kV T pm an L ct) ps sp:=by
 refine⟨len,λA l s H args us vs Q E Y U hb r ϥ=>?_⟩;have hl:=len _ _ _ _ ϥ
 have KX:K.In s.heap:=U.mod.kin.keeps λb o e=>(U.bs b o e).1
 have Z:s.heap.NoLimit:=U.mod.nolimit.keeps λb o e=>(U.bs b o e).1
 have O:∀y∈ps.zip us,scope.names.lookup y.1=some .local∨(scope.names.lookup y.1=some .cell/\((Cd (s.heap.objs.size+1) scope.names []).lookup y.1).isSome=true):=by
  rintro ⟨n,v⟩ hy
  rcases S.par n (Jk hy).1 with q | q
  ·exact .inl q
  ·exact .inr ⟨q,Wl _ _ _ (.inl q)⟩
 refine codeAny_call_function Y.depth (KX _ _ lk) rfl S.co S.gen rfl (PySem.W.codeRec_of KX zp) (hb _ _ _ _ ?_)
 refine wpAny_newFunctionEnv_cells S.kind O λenv he s1 x=>?_
 subst he;refine⟨Z.keeps x.toInCall.keep,codeAny_func ?_⟩;obtain⟨t,ht,hq⟩:=yV A l s H vs Q E (Y.deeper _) ϥ;have I:Inv (ay CX P w K X B N m scope f L A l s H E) [] (start N vs) H s1:=e8 S Y.hd U hl r x
 refine IM (ht [] s1 (start N vs) H _ I hq) (λfl s' R=>?_) λe s' R=>R
 have fin:∀{C:St} {G:Hp} {v:V} {u:AK},Inv (ay CX P w K X B N m scope f L A l s H E) [] C G s'->RelV v u->Q v G->CE l P w H s Q u s':=
  λ{C G v u} J rv q=>⟨v,G,J.os,J.bare,J.base,J.hok,rv,q⟩
 cases fl with
 | ret u=>
  obtain⟨v,C,G,J,rv,q⟩:=R;exact fin J rv q
 | next=>
  obtain⟨C,G,J,q⟩:=R;exact fin (v:=V.non) (u:=EY) J rfl q
 | brk=>
  obtain⟨_,_,_,q⟩:=R;exact Et q
 | cont=>
  obtain⟨_,_,_,q⟩:=R;exact Et q
section
variable{X:Cx}{x:Str}{p pos:Pos}{e:Expr}{es:List Expr}{t:TA}{id T:String}{r:List V->Hp->VK->Prop}
noncomputable def tCB(r:List V->Hp->VK->Prop)(t:TA):TE:=λl H Q=>t l H λm o=>r m o Q
theorem Nh(o:NG X (.builtin id) r)(A:Gl X x)(B:X.mg x=none)(C:JM x=some (.builtin id))(E:PA X (e :: es) t)(G:x≠"__name__":=by decide) (J:(x==("__debug__" : Str))=false:=by decide)
  (L:Aa (e :: es) X.env=(false,CF e X.env) :: Aa es X.env:=by rfl) (N:(Eo pos (Aa es X.env)).any (·.1)=false:=by rfl):PE X (.Call (.Name x p) (e :: es) [] pos) (tCB r t):=by
 intro l s m H Q I h;refine Fm (LL I A B C ?_ G J);exact xc (thn (E pos l s m H _ I h) λO P ⟨R,S,U,Y,Z⟩=>o l P m S R O Q U Y Z) L N
theorem WD(o:NG X (.type T) r)(A:Gl X x)(B:X.mg x=none)(C:JM x=some (.type T))(E:PA X (e :: es) t)(G:x≠"__name__":=by decide) (J:(x==("__debug__" : Str))=false:=by decide)
  (L:Aa (e :: es) X.env=(false,CF e X.env) :: Aa es X.env:=by rfl) (N:(Eo pos (Aa es X.env)).any (·.1)=false:=by rfl):PE X (.Call (.Name x p) (e :: es) [] pos) (tCB r t):=by
 intro l s m H Q I h;refine Fm (LL I A B C ?_ G J);exact Bt (thn (E pos l s m H _ I h) λO P ⟨R,S,U,Y,Z⟩=>o l P m S R O Q U Y Z) L N
end
end L2
namespace HT
open PySem PyProof.Rows
section
variable{prog:Bw}{w:CV}{A:Cf}{E:AK->AS->Prop}{s:AS}
theorem oh(N:lD s.heap t vs.toArray)(hb:lD s.heap b l.toArray)(G:vs≠[])
  (O:l=[]->Q (.ref t) s) (P:l≠[]->Q (.ref s.heap.objs.size) { s with heap:=s.heap.push { cls:=.type "tuple",data:=.seq (vs++l).toArray } })
  (hsz:vs.length+l.length<=sizeLine):Am (Aw prog w) A (Dc .Add (.ref t) (.ref b)) Q E s:=by
 obtain⟨⟨cls,H,data,sl⟩,B,I,n,hd⟩:=id N;obtain⟨⟨J,m,data2,o⟩,C,hc2,L,hd2⟩:=id hb;simp only at I hd hc2 hd2;subst I hd hc2 hd2
 have e:vs.toArray++l.toArray=(vs++l).toArray:=by simp
 by_cases hw:l=[]
 ·exact gJ ⟨_,B,rfl⟩ ⟨_,C,rfl⟩ Wi c9 MK Ll (Kw _ _)
   (tuple_addW1 t b vs.toArray l.toArray n L H m sl o (by simpa using G) (by simp[hw])) ⟨B,C,O hw⟩
 ·refine gJ ⟨_,B,rfl⟩ ⟨_,C,rfl⟩ Wi c9 MK Ll (Kw _ _)
   (tuple_addW2 t b vs.toArray l.toArray n L H m sl o (by simpa using G) (by simpa using hw) (by rw[Au,Au];exact hsz)) ⟨B,C,?_⟩
  rw[e];exact P hw
noncomputable def sIx(n d:Nat):Option Int->Nat
 | none=>d
 | some v=>if v < 0 then(v+(n:Int)).toNat else min v.toNat n
theorem Yc(n d:Nat):sIx n d none=d:=rfl
theorem bz(n d k:Nat):sIx n d (some (k:Int))=min k n:=by
 show(if (k:Int) < 0 then((k:Int)+(n:Int)).toNat else min (k:Int).toNat n)=min k n;rw[qY (by lia),At]
theorem rS(n d:Nat)(hd:d<=n)(o:Option Int):sIx n d o<=n:=by
 cases o with
 | none=>exact hd
 | some v=>
  show(if v < 0 then(v+(n:Int)).toNat else min v.toNat n)<=n
  by_cases l:v < 0
  ·rw[qX l];lia
  ·rw[qY l];exact TQ _ _
theorem cv(v:Int)(n d:Nat):(if v < 0 then max (v+(n:Int)) 0 else min v (n:Int))=((sIx n d (some v):Nat):Int):=by
 show(if v < 0 then max (v+(n:Int)) 0 else min v (n:Int))=(((if v < 0 then(v+(n:Int)).toNat else min v.toNat n):Nat):Int)
 by_cases l:v < 0
 ·simp only[qX l];lia
 ·simp only[qY l];lia
theorem bH(lo hi:Option Int)(n:Nat):JO lo hi 1 (n:Int)=(((sIx n 0 lo:Nat):Int),((sIx n n hi:Nat):Int)):=by
 have l:¬((1:Int) < 0):=by lia
 unfold JO;simp only[l,if_false];refine pH ?_ ?_
 ·cases lo with
  | none=>rfl
  | some v=>exact cv v n 0
 ·cases hi with
  | none=>rfl
  | some v=>exact cv v n n
theorem aK(i j:Nat):FY (i:Int) (j:Int) 1=j - i:=by
 unfold FY
 have l:(1:Int) > 0:=by lia
 simp only[l,if_true,u8]
 split <;> lia
theorem UB(p:Qm v o)(h:Q o s):Am (Aw prog w) A (vB v) Q E s:=by
 cases p with
 | none=>exact slicePart_none h
 | int i t=>exact slicePart_int h
theorem Lw{sl:Ab}{l m:AK}{lo hi:Option Int}{n:Nat}{Q:Int×Int×Nat->AS->Prop}(C:s.heap.IsSliceOf sl l m .none)(pl:Qm l lo)(G:Qm m hi)
  (h:Q (((sIx n 0 lo:Nat):Int),1,sIx n n hi - sIx n 0 lo) s):Am (Aw prog w) A (Pi (.ref sl) (pure (n:Int))) Q E s:=by
 obtain⟨os,o,H,B⟩:=id C;unfold Pi vC;refine AB (AB (Io o B (x:=l) rfl (AB (Io o B (x:=m) rfl (AB (Io o B (x:=.none) rfl (AL ?_)))))));refine AB (slicePart_none ?_);show Am _ _ (if ((1:Int)==0)=true then _ else _) _ _ s;rw[qY (by decide)];refine AB (UB pl (AB (UB G (AB (AL ?_)))));show Am _ _ (match JO lo hi 1 (n:Int)with | (lo,hi)=>pure (lo,(1:Int),FY lo hi 1)) _ _ s;rw[bH lo hi n];show Am _ _ (pure (((sIx n 0 lo:Nat):Int),(1:Int),FY ((sIx n 0 lo:Nat):Int) ((sIx n n hi:Nat):Int) 1)) _ _ s;rw[aK];exact AL h
theorem ir(xs:Array AK)(i k:Nat):((BJ k).filterMap λ(m:Nat)=>xs[((i:Int)+(m:Int) * 1).toNat]?).toArray=((xs.toList.drop i).take k).toArray:=by
 have e:(λ(m:Nat)=>xs[((i:Int)+(m:Int) * 1).toNat]?)=λm=>xs[i+m]?:=by
  funext m
  have:((i:Int)+(m:Int) * 1).toNat=i+m:=by lia
  rw[this]
 rw[e];have:=pick_run xs i k;rw[List.filterMap_map]at this
 have l:((λx=>xs[x]?)∘λx=>i+x)=λm=>xs[i+m]?:=rfl
 rw[l]at this;rw[this]
theorem QN{t sl}{items}{vl vu}{lo hi}{Q}(ht:lD s.heap t items)(hs:s.heap.IsSliceOf sl vl vu .none)(pl:Qm vl lo)(pu:Qm vu hi)
  (hw:¬(sIx items.size 0 lo=0/\sIx items.size items.size hi=items.size))
  (h:Q (.ref s.heap.objs.size) { s with heap:=s.heap.push { cls:=.type "tuple",data:=.seq ((items.toList.drop (sIx items.size 0 lo)).take (sIx items.size items.size hi - sIx items.size 0 lo)).toArray } })
  (hsz:items.size<=sizeLine):Am (Aw prog w) A (Lh (.ref t) (.ref sl)) Q E s:=by
 have ze:sizeOk (.seq ((items.toList.drop (sIx items.size 0 lo)).take (sIx items.size items.size hi - sIx items.size 0 lo)).toArray):=by
  show((items.toList.drop (sIx items.size 0 lo)).take (sIx items.size items.size hi - sIx items.size 0 lo)).toArray.size<=sizeLine;rw[Au,Dt,FB,CN];omega
 have hj:sIx items.size items.size hi<=items.size:=rS _ _ (AM _) hi;obtain⟨os,Cs,hcs,ν⟩:=id hs;have hTs:s.TypeIs (.ref sl) "slice":=⟨os,Cs,hcs⟩;unfold Lh
 try with_reducible refine IC ?_
 first | refine AB (AL ?_) | skip
 refine AB (uT ht.typeIs (by decide) ?_)
 refine AB (Db (name:=IP "__getitem__") ht.typeIs Ci
  (Da Ci ht.typeIs pD ?_ (qM _ _)))
 show Am _ _ (Ph (.ref t) >>= _) _ _ s;refine AB (tupleItemsOf_ ht ?_);refine AB (Op hTs ?_);rw[qX (by decide)];refine AB (Lw hs pl pu ?_)
 have yB:¬((((sIx items.size 0 lo:Nat):Int)==0&&(1:Int)==1&&(sIx items.size items.size hi - sIx items.size 0 lo)==items.size)=true):=by
  intro q;rw[CS,CS]at q;have q1:((sIx items.size 0 lo:Nat):Int)=0:=eq_of_beq q.1.1;have q2:sIx items.size items.size hi - sIx items.size 0 lo=items.size:=eq_of_beq q.2;exact hw ⟨by lia,by omega⟩
 show Am _ _ (if (((sIx items.size 0 lo:Nat):Int)==0&&(1:Int)==1&&(sIx items.size items.size hi - sIx items.size 0 lo)==items.size)=true then _ else _) _ _ s;rw[qY yB,ir]
 first
  | exact AB (m:=Df _) (CY (AL ⟨_,rfl,AL h⟩) ze)
  | exact AB (m:=Df _) (CY (AB (AL (AL ⟨_,rfl,AL h⟩))) ze)
  | exact AB (AB (m:=Df _) (CY (AL (AL ⟨_,rfl,AL h⟩)) ze))
  | exact AB (AB (m:=Df _) (CY (AL ⟨_,rfl,AL h⟩) ze))
end
end HT
namespace L2
open PySem PySem.Spec PyProof.Rows
section
noncomputable abbrev TO:=St->Hp->(Option Int->Hp->Prop)->Prop
noncomputable def PO(X:Cx)(e:Option Expr)(t:TO):Prop:=
 ∀(m:List (Ab×Obj)) (s:AS) (l:St) (H:Hp) (Q:Option Int->Hp->Prop),Inv X m l H s->t l H Q ->
  Am (Aw X.prog X.w) X.A (evalPart e X.env) (λu C=>∃o B,Inv X m l B C/\Qm u o/\Q o B) X.xe s
noncomputable def lg:TO:=λ_ H Q=>Q none H
noncomputable def vP(t:TE):TO:=λl H Q=>t l H λx m=>∃i,x=.int i/\Q (some i) m
theorem intsAre_of:∀{us:List AK},CG (ns.map V.int) us->HE us ns:=by
 induction ns with
 | nil=>intro us r;rw[Ka]at r;cases r;exact .nil
 | cons n ns l=>
  intro us r;rw[Az]at r
  cases r with
  | cons m o=>
   obtain⟨t,e⟩:=m;subst e;exact .cons n t (l o)
section
variable{κ:Type}[DecidableEq κ]
noncomputable def MW(l:List (κ×V))(k:κ):Option V:=(l.find? λm=>decide (m.1=k)).map (·.2)
noncomputable def NK(m:List (κ×V))(k:κ)(v:V):List (κ×V):=
 if (m.any λl=>decide (l.1=k))=true then m.map (λl=>if l.1=k then(l.1,v)else l)else m++[(k,v)]
theorem Tq{p:κ×V}{r:List (κ×V)}{k:κ}(e:p.1=k):MW (p :: r) k=some p.2:=by simp[MW,CD,e]
theorem Tr{p:κ×V}{r:List (κ×V)}{k:κ}(e:¬p.1=k):MW (p :: r) k=MW r k:=by simp[MW,CD,e]
theorem YI(k:κ):∀l:List (κ×V),(l.any λm=>decide (m.1=k))=(MW l k).isSome
 | []=>rfl
 | p :: r=>by
  rw[JN]
  by_cases e:p.1=k
  ·simp only[Tq e,wX e,Bool.true_or,bO]
  ·rw[Tr e,wY e,qR];exact YI k r
theorem Rt(l:List (κ×V))(k:κ)(v:V):(NK l k v).length<=l.length+1:=by
 unfold NK;split
 ·rw[AC];lia
 ·rw[AQ,BC,EC];lia
theorem OV.isSome_eq(r:OV o u):o.isSome=u.isSome:=by
 cases o with
 | none=>cases u with
  | none=>rfl
  | some _=>exact(show False from r).elim
 | some _=>cases u with
  | none=>exact(show False from r).elim
  | some _=>rfl
theorem KV.val{o:List (κ×V)}{vs:List (κ×AK)}(r:KV o vs)(k:κ):OV (MW o k) (VW vs k):=by
 unfold KV at r
 induction r with
 | nil=>exact NS
 | @cons p q C l h t A=>
  obtain⟨s,B⟩:=h
  by_cases e:p.1=k
  ·have m:q.1=k:=s.symm.trans e
   have b:VW (q :: l) k=some q.2:=by simp[VW,CD,m]
   rw[Tq e,b];exact B
  ·have m:¬q.1=k:=λz=>e (s.trans z)
   have b:VW (q :: l) k=VW l k:=by simp[VW,CD,m]
   rw[Tr e,b];exact A
theorem KV.any(r:KV m vs)(k:κ):(m.any λl=>decide (l.1=k))=vs.any λl=>decide (l.1=k):=by
 unfold KV at r
 induction r with
 | nil=>rfl
 | cons h t o=>rw[JN,JN,o,h.1]
theorem KV.repl(r:KV o vs)(k:κ)(s:RelV y u) :
  KV (o.map λl=>if l.1=k then(l.1,y)else l) (vs.map λl=>if l.1=k then(l.1,u)else l):=by
 unfold KV at r ⊢
 induction r with
 | nil=>exact .nil
 | @cons p q C E h t A=>
  rw[Az,Az];refine .cons ?_ A;obtain⟨m,B⟩:=h
  by_cases e:p.1=k
  ·rw[qX e,qX (m.symm.trans e)];exact⟨m,s⟩
  ·rw[qY e,qY (λz=>e (m.trans z))];exact⟨m,B⟩
theorem KV.put(r:KV m vs)(k:κ)(l:RelV y u):KV (NK m k y) (stored vs k u):=by
 unfold NK stored;rw[r.any k]
 by_cases e:(vs.any λo=>decide (o.1=k))=true
 ·rw[qX e,qX e];exact r.repl k l
 ·rw[qY e,qY e];exact ZU r ⟨rfl,l⟩
theorem KV.length(r:KV l vs):l.length=vs.length:=EG r
end
theorem Y7(r:RelV (kV k) u):(Eu P w).is k u=true:=by
 cases k with
 | inl i=>obtain⟨t,e⟩:=(show ∃t,u=KY i t from r);subst e;exact Yx P w i t
 | inr x=>obtain⟨t,e⟩:=(show ∃t,u=Xu x t from r);subst e;exact Yw P w x t
theorem WP:∀{l:List Key} {us:List AK},CG (l.map kV) us->ItemsAre (Eu P w) l us
 | [],_,r=>by rw[Ka]at r;cases r;exact .nil
 | k :: l,_,r=>by
  rw[Az]at r
  cases r with
  | cons h t=>exact .cons (Y7 h) (WP t)
noncomputable abbrev KT(H:Hp):List (List Key×V)->List (List Key×Ab×AK)->Prop:=Gf λp q=>p.1=q.1/\H q.2.1=some (.tup (p.1.map kV))/\RelV p.2 q.2.2
theorem KT.val{H:Hp}{o:List (List Key×V)}{xs:List (List Key×Ab×AK)}(r:KT H o xs)(k:List Key):OV (MW o k) ((ON xs k).map (·.2)):=by
 induction r with
 | nil=>exact NS
 | @cons p q C l h t A=>
  obtain⟨s,_,B⟩:=h
  by_cases e:p.1=k
  ·have m:q.1=k:=s.symm.trans e
   have b:ON (q :: l) k=some q.2:=by simp[ON,CD,m]
   rw[Tq e,b];exact B
  ·have m:¬q.1=k:=λz=>e (s.trans z)
   have b:ON (q :: l) k=ON l k:=by simp[ON,CD,m]
   rw[Tr e,b];exact A
theorem KT.repl(r:KT H s xs)(k:List Key)(A:RelV y u) :
  KT H (s.map λm=>if m.1=k then(m.1,y)else m) (xs.map (putAt k u)):=by
 induction r with
 | nil=>exact .nil
 | @cons p q E G h t B=>
  rw[Az,Az];refine .cons ?_ B;obtain⟨l,o,C⟩:=h;unfold putAt
  by_cases e:p.1=k
  ·rw[qX e,qX (l.symm.trans e)];exact⟨l,o,A⟩
  ·rw[qY e,qY (λz=>e (l.trans z))];exact⟨l,o,C⟩
theorem KT.put(r:KT H l xs)(k:List Key)(hb:H b=some (.tup (k.map kV)))(m:RelV y u) :
  KT H (NK l k y) (storedH xs k b u):=by
 have e:(l.any λo=>decide (o.1=k))=(ON xs k).isSome:=by
  rw[YI,(r.val k).isSome_eq,IA]
 unfold NK storedH;rw[e]
 by_cases q:(ON xs k).isSome=true
 ·rw[qX q,qX q];exact r.repl k m
 ·rw[qY q,qY q];exact ZU r ⟨rfl,hb,m⟩
theorem KT.keeps(r:KT H l xs)(m:∀b ys,H b=some (.tup ys)->o b=some (.tup ys)):KT o l xs:=
 Gf.mapP r λ_ _ z=>⟨z.1,m _ _ z.2.1,z.2.2⟩
variable{X:Cx}{e:Expr}{lo hi:Option Expr}{pos p2:Pos}
theorem mY:PO X none lg:=by
 intro l s m H Q I h;rw[evalPart_none];exact AL ⟨none,H,I,.none,h⟩
theorem mX(h:PE X e te):PO X (some e) (vP te):=by
 intro l s m H Q I hw;rw[evalPart_some]
 refine thn (h l s m H _ I hw) λu E ⟨x,o,A,B,C⟩=>?_
 obtain⟨i,rfl,q⟩:=C;obtain⟨t,rfl⟩:=B;exact⟨some i,o,A,.int i t,q⟩
noncomputable def SlR(X:Cx)(r:V->Option Int->Option Int->Hp->VK->Prop):Prop:=
 ∀(l:List (Ab×Obj)) (s:AS) (m:St) (H:Hp) (x:V) (v o B:AK) (lo hi:Option Int) (sl:Ab) (Q:VK),Inv X l m H s->RelV x v->s.heap.IsSliceOf sl o B .none->Qm o lo->Qm B hi->r x lo hi H Q ->
  ∃T id,typeLookup (.type T) "__getitem__" = pure (some (.builtin id))/\s.TypeIs v T/\Am (Aw X.prog X.w) X.A (Lh v (.ref sl)) (EP X l m Q) X.xe s
theorem SlR.or(h:SlR X r)(h':SlR X r'):SlR X (λx lo hi H Q=>r x lo hi H Q∨r' x lo hi H Q):=by
 intro l s m H x v o A lo hi sl Q I B C E G q
 rcases q with q | q
 ·exact h l s m H x v o A lo hi sl Q I B C E G q
 ·exact h' l s m H x v o A lo hi sl Q I B C E G q
noncomputable def tSl(r:V->Option Int->Option Int->Hp->VK->Prop)(te:TE)(o s:TO):TE:=λm H Q=>te m H λx A=>o m A λl B=>s m B λu C=>r x l u C Q
theorem Yp(J:SlR X r)(L:PE X e te)(N:PO X lo O)(P:PO X hi R):PE X (.Subscript e (.Slice lo hi none p2) pos) (tSl r te O R):=by
 intro o s B H Q I h;refine qN (thn (L o s B H _ I h) λv S ⟨x,U,Y,Z,q1⟩=>?_);refine wpAny_Slice (thn (N o S B U _ Y q1) λC s2 ⟨l,H2,I2,pl,q2⟩=>thn (P o s2 B H2 _ I2 q2) λE m ⟨u,G,I3,pu,q3⟩=>?_);rw[evalPart_none];refine AL ?_
 have I4:Inv X o B G { m with heap:=m.heap.push { cls:=.type "slice",data:=.fields #[C,E,.none] } }:=I3.kept (t':=m.toks) λb ob q=>AR _ q
 obtain⟨T,id,hT,ht,hg⟩:=J o { m with heap:=m.heap.push { cls:=.type "slice",data:=.fields #[C,E,.none] } } B G x v C E l u m.heap.objs.size Q I4 Z (um ..) pl pu q3;show Am (Aw X.prog X.w) X.A (c8 e (.Slice lo hi none p2) v (.ref m.heap.objs.size)) (EP X o B Q) X.xe { m with heap:=m.heap.push { cls:=.type "slice",data:=.fields #[C,E,.none] } };exact tail_any (ops:=[.ref m.heap.objs.size,v]) ht hT hg (by with_unfolding_all rfl)
noncomputable def SX(xs:List V)(lo hi:Option Int):List V:=(xs.drop (HT.sIx xs.length 0 lo)).take (HT.sIx xs.length xs.length hi - HT.sIx xs.length 0 lo)
theorem Rv(xs:List V)(lo hi:Option Int):(SX xs lo hi).length<=xs.length:=by
 unfold SX;rw[Dt,FB]
 lia
noncomputable def rSlT(K:AI):V->Option Int->Option Int->Hp->VK->Prop:=λx lo hi H Q=>∃a l,x=.ref a/\SqT K H a l /\
 ¬(HT.sIx l.length 0 lo=0/\HT.sIx l.length l.length hi=l.length)/\∀p,H p=none->Q (.ref p) (upd H p (.tup (SX l lo hi)))
theorem iM:SlR X (rSlT X.K):=by
 intro O s P H x v R S lo hi sl Q I C E G J h;obtain⟨a,m,rfl,L,hw,q⟩:=h;cases C;obtain⟨N,r,A,B⟩:=I.tuple L
 have l:N.toArray.size=m.length:=by rw[Au];exact r.length.symm
 refine⟨"tuple",_,Ci.lookup,A.typeIs,?_⟩;refine HT.QN A E G J (by rw[l];exact hw) ?_ (by rw[l];exact B);rw[l];refine⟨.ref s.heap.objs.size,_,I.laid (t':=s.toks) (o:=.tup (SX m lo hi)) (λb T q=>AR _ q) (AM _) ?_,rfl,q _ (I.hok.fresh (AM _))⟩;exact⟨⟨Aj (Rv m lo hi) B,⟨_,Ah _ rfl,rfl⟩⟩,_,(r.drop (HT.sIx m.length 0 lo)).take (HT.sIx m.length m.length hi - HT.sIx m.length 0 lo),gV _ _⟩
noncomputable def vk(K:AI):R2:=λx y H Q=>∃a b m l,x=.ref a/\y=.ref b/\SqT K H a m/\SqT K H b l/\m≠[]/\m.length+l.length<=sizeLine /\
 (l=[]->Q (.ref a) H)/\(l≠[]->∀p,H p=none->Q (.ref p) (upd H p (.tup (m++l))))
theorem CG.nil_iff(r:CG xs us):us=[]↔xs=[]:=by
 cases r with
 | nil=>simp
 | cons _ _=>simp
theorem nE:OpR X (Dc .Add) (vk X.K):=by
 intro R s S H x y v u Q I B C h;obtain⟨a,b,E,G,rfl,rfl,J,hb,L,A,N,O⟩:=h;cases B;cases C;obtain⟨T,m,P,_⟩:=I.tuple J;obtain⟨U,l,p2,_⟩:=I.tuple hb;refine HT.oh P p2 (λz=>L (m.nil_iff.mp z)) (λz=>⟨.ref a,H,I,rfl,N (l.nil_iff.mp z)⟩) (λz=>?_) (by rw[<-m.length,<-l.length];exact A);refine⟨.ref s.heap.objs.size,_,I.laid (t':=s.toks) (o:=.tup (E++G)) (λb Y q=>AR _ q) (AM _) ?_,rfl,O (λw=>z (l.nil_iff.mpr w)) _ (I.hok.fresh (AM _))⟩;exact⟨⟨by rw[AQ];exact A,⟨_,Ah _ rfl,rfl⟩⟩,_,m.append l,gV _ _⟩
end
section
noncomputable def ixN(n:Nat)(i:Int):Option Nat:=if 0<=i then(if i < n then some i.toNat else none)else if -(n:Int)<=i then some (i+n).toNat else none
noncomputable def atI{α:Type}(xs:List α)(i:Int):Option α:=(ixN xs.length i).bind λj=>xs[j]?
theorem cV(h:ixN n i=some j):seqIndex? i n=some j/\j < n/\-(n:Int)<=i/\i < n:=by
 unfold ixN at h
 by_cases m:0<=i
 ·rw[qX m]at h
  by_cases l:i < n
  ·rw[qX l]at h
   have e:i.toNat=j:=Bq h;exact⟨by rw[kt m l,e],by lia,by lia,l⟩
  ·rw[qY l]at h;cases h
 ·rw[qY m]at h
  by_cases l:-(n:Int)<=i
  ·rw[qX l]at h
   have e:(i+n).toNat=j:=Bq h;exact⟨by rw[seqIndex_neg (by lia) l,e],by lia,l,by lia⟩
  ·rw[qY l]at h;cases h
theorem cy{l:Type}{xs:List l}{i:Int}{v:l}(h:atI xs i=some v):∃j,seqIndex? i xs.length=some j/\xs[j]?=some v/\j < xs.length/\-(xs.length:Int)<=i/\i < xs.length:=by
 unfold atI at h
 cases e:ixN xs.length i with
 | none=>rw[e]at h;cases h
 | some j=>
  rw[e]at h;obtain⟨m,o,s,A⟩:=cV e;exact⟨j,m,h,o,s,A⟩
noncomputable def Xq(b:Expr):Prop:=∀o i,Xs b false o i=operate [o,i] (Lh o i)
noncomputable def IxR(X:Cx)(r:R2):Prop:=
 ∀(value l:Expr) (m:List (Ab×Obj)) (s:AS) (o:St) (H:Hp) (x y:V) (v u:AK) (Q:VK),Inv X m o H s->RelV x v->RelV y u->r x y H Q ->
  Xs l false v u=operate [v,u] (Lh v u)->Am (Aw X.prog X.w) X.A (c8 value l v u) (EP X m o Q) X.xe s
noncomputable def MtR(X:Cx)(id:String)(r:V->List V->Hp->VK->Prop):Prop:=
 ∀(l:List (Ab×Obj)) (s:AS) (m:St) (H:Hp) (x:V) (o:List V) (v:AK) (B:List AK) (Q:VK),Inv X l m H s->RelV x v->CG o B->r x o H Q ->
  Am (Aw X.prog X.w) X.A (call (.builtin id) (v :: B)) (EP X l m Q) X.xe s
section
variable{P:Bw}{w:CV}{H:Hp}{h:DO}{a:Ab}
theorem pX(ok:HOk P w H h)(e:Rd H a u):D2 P w H h a u:=e.ok ok
theorem ZC(ok:HOk P w H h)(e:Rd H a (.dK l)):l.length<=sizeLine/\(a==Cm)=false/\∃vs,KV l vs/\h.DictOf (Eu P w) a vs:=
 show D2 P w H h a (.dK l)from pX ok e
theorem xJ(ok:HOk P w H h)(e:H a=some (.dK l)):l.length<=sizeLine/\(a==Cm)=false/\∃vs,KV l vs/\h.DictOf (Eu P w) a vs:=ZC ok (.inl e)
theorem Ui(ok:HOk P w H h)(e:H a=some (.tup (l.map kV))):(Wg (Eu P w)).is h l a:=by
 obtain⟨_,m,r,o,s,A,n,B⟩:=(show D2 P w H h a (.tup (l.map kV))from ok a _ e);exact⟨o,m.toArray,n,s,A,B,by simpa using WP r⟩
theorem ZB(ok:HOk P w H h)(e:Rd H a (.dT A)):A.length<=sizeLine/\(a==Cm)=false /\
  ∃xs,KT H A xs/\h.DictOfH (Wg (Eu P w)) a xs:=by
 obtain⟨z,y,xs,r,o,C,E,G,I,J,L,N⟩:=(show D2 P w H h a (.dT A)from pX ok e);refine⟨z,y,xs,r,o,C,E,G,I,J,L,λx s=>?_,N⟩
 have all:∀{l:List (List Key×V)} {m:List (List Key×Ab×AK)},KT H l m->∀x∈m,(Wg (Eu P w)).is h x.1 x.2.1:=by
  intro l m q
  induction q with
  | nil=>intro x s;exact nomatch s
  | @cons p q Q R B t O=>
   intro x s
   rcases Af.mp s with e | s
   ·subst e
    exact Ui ok (by rw[<-B.1];exact B.2.1)
   ·exact O x s
 exact all r x s
theorem kA(ok:HOk P w H h)(e:H a=some (.dT l)):l.length<=sizeLine/\(a==Cm)=false /\
  ∃xs,KT H l xs/\h.DictOfH (Wg (Eu P w)) a xs:=ZB ok (.inl e)
end
noncomputable def QX(H:Hp)(a:Ab)(y:V)(r:Option V):Prop:=
 (∃l k,Rd H a (.dK l)/\y=kV k/\r=MW l k)∨∃l k b,Rd H a (.dT l)/\y=.ref b/\H b=some (.tup (k.map kV))/\r=MW l k
noncomputable def ZQ(H:Hp)(a:Ab)(y v:V)(m:Hp):Prop:=
 (∃l k,H a=some (.dK l)/\y=kV k/\l.length < sizeLine/\m=upd H a (.dK (NK l k v))) ∨
 ∃l k b,H a=some (.dT l)/\y=.ref b/\H b=some (.tup (k.map kV))/\l.length < sizeLine/\m=upd H a (.dT (NK l k v))
theorem QX.k{H}{a}{l}{k}(e:H a=some (.dK l)):QX H a (kV k) (MW l k):=.inl ⟨l,k,.inl e,rfl,rfl⟩
theorem QX.t{H}{a b}{l}{k}(e:H a=some (.dT l))(eb:H b=some (.tup (k.map kV))):QX H a (.ref b) (MW l k):=.inr ⟨l,k,b,.inl e,rfl,eb,rfl⟩
theorem ZQ.k{H}{a}{l}{k}{v}(e:H a=some (.dK l))(m:l.length < sizeLine):ZQ H a (kV k) v (upd H a (.dK (NK l k v))):=.inl ⟨l,k,e,rfl,m,rfl⟩
theorem ZQ.t{H}{a b}{l}{k}{v}(e:H a=some (.dT l))(eb:H b=some (.tup (k.map kV)))(m:l.length < sizeLine) :
  ZQ H a (.ref b) v (upd H a (.dT (NK l k v))):=.inr ⟨l,k,b,e,rfl,eb,m,rfl⟩
variable{X:Cx}{a b:Expr}{ta tb:TE}{pos:Pos}
theorem IxR.or(h:IxR X r)(h':IxR X r'):IxR X (λx y H Q=>r x y H Q∨r' x y H Q):=by
 intro value l m s o H x y v u Q I A B q C
 rcases q with q | q
 ·exact h value l m s o H x y v u Q I A B q C
 ·exact h' value l m s o H x y v u Q I A B q C
theorem v6(l:IxR X r)(m:PE X a ta)(hb:PE X b tb)(o:Xq b):PE X (.Subscript a b pos) (tOp r ta tb):=by
 intro A s B H Q I h;exact qN (uM m hb I h λv u C x y E G J L q=>l a b A C B E x y v u Q G J L q (o _ _))
noncomputable def rIxL(K:AI):R2:=λx y H Q=>∃p l i v,x=.ref p/\y=.int i/\SqL K H p l/\atI l i=some v/\Q v H
noncomputable def rIxT(K:AI):R2:=λx y H Q=>∃p l i v,x=.ref p/\y=.int i/\SqT K H p l/\atI l i=some v/\Q v H
theorem nh:IxR X (rIxL X.K):=by
 intro value m B s C H x y v u Q I L N h E;obtain⟨p,xs,i,z,rfl,rfl,O,P,q⟩:=h;cases L;obtain⟨t,rfl⟩:=N;obtain⟨R,r,o,hz⟩:=I.list O;obtain⟨j,l,S,h3,T,U⟩:=cy P;obtain⟨w,G,Y⟩:=r.get S;have Z:=r.length;have hn:=RJ;have fin:EP X B C Q w s:=⟨z,H,I,Y,q⟩
 by_cases J:0<=i
 ·have A:i.toNat=j:=by
   rw[kt J U]at l;exact Bq l
  exact item_listR o.isList J (by lia) (by rw[A];simpa using G) fin E
 ·have A:(i+(R.toArray.size:Int)).toNat=j:=by
   rw[seqIndex_neg (by lia) T]at l;rw[Au,<-Z];exact Bq l
  exact gH (x:=w) o.isList.typeIs uY.lookup
   (wpAny_getItem_list_neg (Q:=λr s'=>r=w/\EP X B C Q r s') o.isList (by lia) (by rw[Au] <;> lia) (by lia) (by rw[A];simpa using G) ⟨rfl,fin⟩) E
theorem tH:IxR X (rIxT X.K):=by
 intro value l m s o H x y v u Q I B C h E;obtain⟨p,T,i,z,rfl,rfl,G,J,q⟩:=h;cases B;obtain⟨t,rfl⟩:=C;obtain⟨U,r,A,Y⟩:=I.tuple G;obtain⟨j,L,N,Z,h4,h5⟩:=cy J;obtain⟨w,O,P⟩:=r.get N;have R:=r.length;have hn:=RJ;have fin:EP X m o Q w s:=⟨z,H,I,P,q⟩
 exact gH (x:=w) A.typeIs slot_tuple_getitem.lookup
  (getItem_tuple (j:=j) (Q:=λr S=>r=w/\EP X m o Q r S) A (by lia) (by lia) (by rw[Au,<-R];exact L) (by simpa using O) ⟨rfl,fin⟩) E
theorem aS(l:List AK)(n j:Nat)(u:AK):Gg (·.setIfInBounds j u) { cls:=.type "list",data:=.seq l.toArray n }={ cls:=.type "list",data:=.seq (l.set j u).toArray n }:=by
 simp[Gg]
theorem Inv.lst(I:Inv X m o H s)(h:H p=some (.lst xs)) :
  ∃(l:List AK) (n:Nat),CG xs l/\s.heap.get? p=some { cls:=.type "list",data:=.seq l.toArray n }/\xs.length<=sizeLine:=by
 obtain⟨z,l,n,r,e⟩:=I.hok p _ h;exact⟨l,n,r,e,z⟩
theorem Inv.lstUpd{m:List (Ab×Obj)}{o:St}{H:Hp}{s:AS}{p:Ab}{xs ys:List V}{A its':List AK}{n l:Nat}{f:Obj->Obj}(I:Inv X m o H s)(h:H p=some (.lst xs))
  (ho:s.heap.get? p=some { cls:=.type "list",data:=.seq A.toArray n }) (B:f { cls:=.type "list",data:=.seq A.toArray n }={ cls:=.type "list",data:=.seq its'.toArray l }) (r:CG ys its') (C:ys.length<=sizeLine) (t:Nat) :
  Inv X m o (upd H p (.lst ys)) { s with heap:=s.heap.update p f,toks:=t }:=by
 have e:(s.heap.update p f).get? p=some { cls:=.type "list",data:=.seq its'.toArray l }:=by
  rw[N9 f ho (by rw[B] <;> rfl),B]
 refine I.write (x:=p) (e:=p) (by rw[h];trivial) (.inl rfl) (λb u hb q=>(ZY _ _ (Ck hb)).trans q) ⟨_,e⟩ ?_;exact⟨C,its',l,r,e⟩
noncomputable def vg:V->V->V->Hp->(Hp->Prop)->Prop:=λo i v H Q=>∃p l k j,o=.ref p/\i=.int k/\H p=some (.lst l)/\ixN l.length k=some j/\Q (upd H p (.lst (l.set j v)))
theorem iN:xV X vg:=by
 intro O s P H o i v ov iv u Q I R S T h;obtain⟨p,U,k,j,rfl,rfl,C,Y,q⟩:=h;cases R;obtain⟨t,rfl⟩:=S;obtain⟨E,n,r,m,Z⟩:=I.lst C;obtain⟨l,h2,G,J⟩:=cV Y;have A:=r.length;have hn:=RJ
 have L:Inv X O P (upd H p (.lst (U.set j v))) { s with heap:=s.heap.update p (Gg (·.setIfInBounds j u)) }:=
  I.lstUpd C m (aS E n j u) (r.set T j) (by rw[EB];exact Z) s.toks
 by_cases N:0<=k
 ·have B:k.toNat=j:=by
   rw[kt N J]at l;exact Bq l
  exact PySem.W.ki_setAt m N (by lia) (by rw[Au,<-A];exact J) (by rw[B];exact⟨_,L,q⟩)
 ·have B:(k+(E.toArray.size:Int)).toNat=j:=by
   rw[seqIndex_neg (by lia) G]at l;rw[Au,<-A];exact Bq l
  exact PySem.W.ki_setBack m (by lia) (by rw[Au,<-A];exact G) (by lia) (by rw[B];exact⟨_,L,q⟩)
theorem W4(lo hi:Option Int)(n:Nat):(Kb lo hi none n).1=((HT.sIx n 0 lo:Nat):Int)/\(Kb lo hi none n).2.1=((HT.sIx n n hi:Nat):Int)/\(Kb lo hi none n).2.2=1:=by
 refine⟨?_,?_,rfl⟩
 ·cases lo with
  | none=>simp[Kb,HT.sIx]
  | some i=>
   simp only[Kb,HT.sIx,fy,show(1:Int) > 0 by decide,if_true]
   by_cases h:i < 0
   ·simp only[h,if_true] <;> lia
   ·simp only[h,if_false] <;> lia
 ·cases hi with
  | none=>simp[Kb,HT.sIx]
  | some i=>
   simp only[Kb,HT.sIx,fy,show(1:Int) > 0 by decide,if_true]
   by_cases h:i < 0
   ·simp only[h,if_true] <;> lia
   ·simp only[h,if_false] <;> lia
theorem Vj(l:List AK)(lo hi:Option Int):slicePick l.toArray lo hi none=((l.drop (HT.sIx l.length 0 lo)).take (HT.sIx l.length l.length hi - HT.sIx l.length 0 lo)).toArray:=by
 obtain⟨m,o,s⟩:=W4 lo hi l.toArray.size;unfold slicePick;rw[m,o,s]
 simp only[sliceRange_one,pick_run,Au] <;> rfl
noncomputable def vf(K:AI):V->Option Int->Option Int->Hp->VK->Prop:=λx lo m H Q=>∃a l,x=.ref a/\SqL K H a l/\∀p,H p=none->Q (.ref p) (upd H p (.lst (SX l lo m)))
theorem lw:SlR X (vf X.K):=by
 intro O s P H x v R S lo A sl Q I C E G J h;obtain⟨a,l,rfl,L,q⟩:=h;cases C;obtain⟨T,r,B,N⟩:=I.list L;have m:=r.length;refine⟨"list",_,uY.lookup,B.isList.typeIs,?_⟩;refine wpAny_getItem_list_slice B.isList E G J .none (by simp) ?_ (by rw[Au] <;> lia);rw[Vj,<-m];refine⟨.ref s.heap.objs.size,_,I.laid (t':=s.toks) (o:=.lst (SX l lo A)) (λb U q=>AR _ q) (AM _) ?_,rfl,q _ (I.hok.fresh (AM _))⟩;exact⟨Aj (Rv l lo A) N,_,0,(r.drop (HT.sIx l.length 0 lo)).take (HT.sIx l.length l.length A - HT.sIx l.length 0 lo),Ah _ rfl⟩
theorem Xl:NG X (.builtin "len") (λxs H Q=>∃p ys,xs=[.ref p]/\(SqL X.K H p ys∨SqT X.K H p ys)/\Q (.int ys.length) H):=by
 intro G s J H xs L Q I r h;obtain⟨p,ys,rfl,m,q⟩:=h;obtain⟨u,rfl,B⟩:=vals1 r;cases B;have N:=RJ
 rcases m with m | m
 ·obtain⟨C,o,A,E⟩:=I.list m
  have l:=o.length;exact Calls.call_len_list A.isList (by simp only[Au] <;> lia) ⟨.int ys.length,H,I.tok _,⟨s.toks+1,by rw[Au,l]⟩,q⟩
 ·obtain⟨C,o,A,E⟩:=I.tuple m
  have l:=o.length;exact len_tuple A (by simp only[Au] <;> lia) ⟨.int ys.length,H,I.tok _,⟨s.toks+1,by rw[Au,l]⟩,q⟩
theorem Vw:NG X (.type "tuple") (λxs H Q=>∃p ys,xs=[.ref p]/\((SqL X.K H p ys/\∀l,H l=none->Q (.ref l) (upd H l (.tup ys)))∨(SqT X.K H p ys/\Q (.ref p) H))):=by
 intro G s J H xs S Q I r h;obtain⟨p,ys,rfl,h⟩:=h;obtain⟨u,rfl,P⟩:=vals1 r;cases P
 rcases h with⟨A,q⟩ | ⟨A,q⟩
 ·obtain⟨B,C,E,L⟩:=I.list A
  have N:=C.length;refine call_tuple_list E.isList (λm kp=>?_) (by simp only[Au] <;> lia);have O:Inv X G J H { s with heap:=m }:=I.kept (t':=s.toks) kp
  have R:Inv X G J (upd H m.objs.size (.tup ys)) { s with heap:=m.push { cls:=.type "tuple",data:=.seq B.toArray } }:=
   O.laid (t':=s.toks) (λb o e=>AR _ e) (AM _) (show D2 X.prog X.w _ _ _ (.tup ys)from⟨⟨L,⟨_,Ah _ rfl,rfl⟩⟩,B,C,gV _ _⟩)
  exact⟨.ref m.objs.size,_,R,rfl,q _ (O.hok.fresh (AM _))⟩
 ·obtain⟨B,C,E,L⟩:=I.tuple A
  exact call_tuple_same E ⟨.ref p,H,I,rfl,q⟩
noncomputable def tyV(K:AI)(T:String)(x:V)(H:Hp):Prop:=match x with
 | .str _=>T = "str"
 | .int _=>T = "int"
 | .ref p=>(T = "list"/\∃m,SqL K H p m)∨(T = "tuple"/\∃o,K.lookup p=some o/\o.cls=.type "tuple"/\o.dict=none) ∨
   (T = "dict"/\((∃l,H p=some (.dK l))∨∃l,H p=some (.dT l)))∨(T = "set"/\∃S n,H p=some (.set S n))
 | _=>False
theorem hV(I:Inv X J L H s)(r:RelV x v)(ty:tyV X.K T x H) :
  s.TypeIs v T/\∀a,v=.ref a->∃A,s.heap.get? a=some A/\A.dict=none:=by
 cases x with
 | str z=>
  obtain⟨t,rfl⟩:=r;cases(show T = "str" from ty);exact⟨typeIs_str s z t,λ_ e=>nomatch e⟩
 | int i=>
  obtain⟨t,rfl⟩:=r;cases(show T = "int" from ty);exact⟨typeIs_int s i t,λ_ e=>nomatch e⟩
 | ref p=>
  cases r
  rcases ty with⟨rfl,N,C⟩ | ⟨rfl,o,l,E,hd⟩ | ⟨rfl,l⟩ | ⟨rfl,S,n,l⟩
  ·obtain⟨O,_,B,_⟩:=I.list C
   refine⟨B.isList.typeIs,λa e=>?_⟩;cases e;obtain⟨o,n,e,c,hd,_⟩:=B;exact⟨o,e,hd⟩
  ·refine⟨⟨o,I.kIn p o l,E⟩,λa e=>?_⟩
   cases e;exact⟨o,I.kIn _ o l,hd⟩
  ·have z:∃o,s.heap.get? p=some o/\o.ExactDict:=by
    rcases l with⟨G,l⟩ | ⟨G,l⟩
    ·obtain⟨_,_,_,_,o,_,_,e,ex,_⟩:=I.hok p _ l
     exact⟨o,e,ex⟩
    ·obtain⟨_,_,_,_,o,_,_,e,ex,_⟩:=I.hok p _ l
     exact⟨o,e,ex⟩
   obtain⟨o,e,ex⟩:=z;refine⟨⟨o,e,ex.1⟩,λa m=>?_⟩;cases m;exact⟨o,e,ex.2.1⟩
  ·obtain⟨o,_,_,_,e,ex,_⟩:=I.hok p _ l
   refine⟨⟨o,e,ex.1⟩,λa m=>?_⟩;cases m;exact⟨o,e,ex.2.1⟩
 | _=>exact Et ty
noncomputable def tBM0(K:AI)(T:String)(r:V->List V->Hp->VK->Prop)(to:TE):TE:=λm H Q=>to m H λx l=>tyV K T x l/\r x [] l Q
noncomputable def tBM(K:AI)(T:String)(r:V->List V->Hp->VK->Prop)(to:TE)(t:TA):TE:=λl H Q=>to l H λx m=>tyV K T x m/\t l m λo s=>r x o s Q
variable{o e:Expr}{es:List Expr}{to:TE}{t:TA}{name:Str}{apos yh:Pos}{T id:String}{r:V->List V->Hp->VK->Prop}
theorem sG(G:PlainAttrs T)(l:Slot T name id)(m:typeOf (.builtin id)=pure (.type "method_descriptor")) (J:MtR X id r) (ho:PE X o to)
  (L:Gb o name X.env (CF o X.env)=CF o X.env:=by rfl) (N:(apos.endLine==yh.line)=true:=by rfl):PE X (.Call (.Attribute o name apos) [] [] yh) (tBM0 X.K T r to):=by
 intro A s B H Q I h;refine wpAny_Call_method0_late L N (thn (ho A s B H _ I h) λv O ⟨x,P,C,E,ty,R⟩=>?_);obtain⟨S,U⟩:=hV C E ty;exact⟨T,id,G,l,m,S,U,YC rfl (PySem.evalArgs_none (J A O B P x [] v [] Q C E .nil R))⟩
theorem pY(J:PlainAttrs T)(l:Slot T name id)(m:typeOf (.builtin id)=pure (.type "method_descriptor")) (L:MtR X id r) (ho:PE X o to) (N:PA X (e :: es) t)
  (O:Gb o name X.env (CF o X.env)=CF o X.env:=by rfl)
  (P:((Eo yh (Aa (e :: es) X.env)).all (λx=>!x.1)&&(Zf yh (Qi [] X.env)).all (λx=>x.1.isSome)
    &&decide ((e :: es).length+([]:List ZX).length+(if ([]:List ZX).isEmpty then 0 else 1) < 30))=true:=by rfl)
  (R:(apos.endLine==yh.line)=true:=by rfl) (S:Aa (e :: es) X.env=(false,CF e X.env) :: Aa es X.env:=by rfl) (U:(Eo yh (Aa es X.env)).any (·.1)=false:=by rfl) :
  PE X (.Call (.Attribute o name apos) (e :: es) [] yh) (tBM X.K T r to t):=by
 intro A s B H Q I h;refine wpAny_Call_method_late O P R rfl (thn (ho A s B H _ I h) λv Y ⟨x,Z,C,E,ty,q1⟩=>?_);obtain⟨h1,h2⟩:=hV C E ty;refine⟨T,id,J,l,m,h1,h2,?_⟩;have G:=N yh A Y B Z _ C q1;rw[S]at G ⊢;refine YC (by show(false||(Eo yh (Aa es X.env)).any (·.1))=false;rw[U] <;> rfl) (Calls.evalArgs_plain ?_)
 exact thn G λus s2 ⟨vs,H2,I2,r2,q2⟩=>L A s2 B H2 x vs v us Q I2 E r2 q2
end
section
noncomputable def MtM(X:Cx)(id:String)(r:V->List V->Hp->VK->Prop):Prop:=
 ∀(l:List (Ab×Obj)) (s:AS) (m:St) (H:Hp) (x:V) (o:List V) (v:AK) (B:List AK) (Q:VK),Inv X l m H s->RelV x v->CG o B->r x o H Q ->
  Am (Aw X.prog X.w) X.A (call (.builtin id) (v :: B)) (EP X l m Q) X.xe s
theorem CG.one:∀{x:V} {us:List AK},CG [x] us->∃u,us=[u]/\RelV x u
 | _,_,.cons r .nil=>⟨_,rfl,r⟩
section
variable{X:Cx}{ζ:List (Ab×Obj)}{σ:St}{H:Hp}{s:AS}{a:Ab}{y v:V}{u r:AK}{o:Option V}{A:Cf}{E:AK->AS->Prop}
theorem Inv.big(I:Inv X ζ σ H s):Cm < s.heap.objs.size:=by
 have h:BZ < s.heap.objs.size:=(I.mod.glob.keeps I.bk).lt;exact u0 (by decide) h
theorem fR(L:A.units+1 < FK)(I:Inv X ζ σ H s)(g:QX H a y (some v))(J:RelV y u)(h:∀m s',Inv X ζ σ H s'->RelV v m->Q m s') :
  Am (Aw X.prog X.w) A (Lh (.ref a) u) Q E s:=by
 rcases g with⟨N,k,e,B,l⟩ | ⟨N,k,b,e,B,O,l⟩
 ·subst B
  obtain⟨z,hd,P,rel,C⟩:=ZC I.hok e;obtain⟨m,hw,G⟩:=OV.some_of (v:=v) (o:=VW P k) (by rw[l];exact rel.val k);exact wpAny_getItem_of (Y7 J) C.mapOf hw (h m _ (I.tok _) G)
 ·subst B
  cases(show u=BW b from J);obtain⟨z,hd,R,rel,C⟩:=ZB I.hok e;obtain⟨m,hw,G⟩:=OV.some_of (v:=v) (o:=(ON R k).map (·.2)) (by rw[l];exact rel.val k);obtain⟨p,S,T⟩:=Hz.mp hw;refine wpAny_getItem_heap (IN L) (Ui I.hok O) C S ?_;rw[T];exact h m _ (I.tok _) G
theorem d_in(G:A.units+1 < FK)(I:Inv X ζ σ H s)(g:QX H a y o)(C:RelV y u)(h:∀s',Inv X ζ σ H s'->Q (.bool o.isSome) s') :
  Am (Aw X.prog X.w) A (B2 .In u (.ref a)) Q E s:=by
 rcases g with⟨J,k,e,m,l⟩ | ⟨J,k,b,e,m,L,l⟩
 ·subst m
  obtain⟨z,hd,N,rel,B⟩:=ZC I.hok e;refine wpAny_in_of (Y7 C) hd B.mapOf ?_;rw[<-(rel.val k).isSome_eq,<-l];exact h _ (I.tok _)
 ·subst m
  cases(show u=BW b from C);obtain⟨z,hd,O,rel,B⟩:=ZB I.hok e;refine wpAny_in_heap (IN G) (Ui I.hok L) hd B ?_;have q:=(rel.val k).isSome_eq;rw[IA]at q;rw[<-q,<-l];exact h _ (I.tok _)
theorem oW(G:A.units+1 < FK)(I:Inv X ζ σ H s)(g:QX H a y o)(C:RelV y u)(h:∀s',Inv X ζ σ H s'->Q (.bool (!o.isSome)) s') :
  Am (Aw X.prog X.w) A (B2 .NotIn u (.ref a)) Q E s:=by
 rcases g with⟨J,k,e,m,l⟩ | ⟨J,k,b,e,m,L,l⟩
 ·subst m
  obtain⟨z,hd,N,rel,B⟩:=ZC I.hok e;refine wpAny_notIn_of (Y7 C) hd B.mapOf ?_;rw[<-(rel.val k).isSome_eq,<-l];exact h _ (I.tok _)
 ·subst m
  cases(show u=BW b from C);obtain⟨z,hd,O,rel,B⟩:=ZB I.hok e;refine wpAny_notIn_heap (IN G) (Ui I.hok L) hd B ?_;have q:=(rel.val k).isSome_eq;rw[IA]at q;rw[<-q,<-l];exact h _ (I.tok _)
theorem cp(I:Inv X ζ σ H s)(m:Mut (H a))(B:FQ a s.heap h')(C:∃q,h'.get? a=some q)(new:D2 X.prog X.w (upd H a l) h' a l) :
  Inv X ζ σ (upd H a l) { s with heap:=h',toks:=t' }:=
 I.write (x:=a) (e:=a) m (.inl rfl) (λb q hb z=>(B.2 b hb).trans z) C new
theorem uF(z:l.length<=sizeLine)(hd:(a==Cm)=false)(rel:KV l vs)(m:h'.DictOf (Eu P w) a vs) :
  D2 P w B h' a (.dK l):=⟨z,hd,vs,rel,m⟩
theorem fQ(Z:A.units+1 < FK)(I:Inv X ζ σ H s)(g:ZQ H a y v H')(R:RelV y u)(S:RelV v r)(h:∀s',Inv X ζ σ H' s'->Q () s') :
  Am (Aw X.prog X.w) A (uZ (.ref a) u r) Q E s:=by
 rcases g with⟨B,k,e,G,l,J⟩ | ⟨B,k,b,e,G,T,l,J⟩
 ·subst G J
  obtain⟨z,hd,vs,rel,L⟩:=xJ I.hok e
  have N:vs.length<=sizeLine:=by rw[<-rel.length];exact z
  have O:(NK B k v).length<=sizeLine:=by have:=Rt B k v;lia
  refine wpAny_setItem_pairs (hsz:=N) (Y7 R) L λU m P=>h _ ?_
  have he:∃q,U.get? a=some q:=let ⟨q,_,_,C,_⟩:=m;⟨q,C⟩
  exact cp I (by rw[e];exact NS) P he (uF O hd (rel.put k S) m)
 ·subst G J
  cases(show u=BW b from R);obtain⟨z,hd,xs,rel,L⟩:=kA I.hok e
  have N:xs.length<=sizeLine:=by rw[<-EG rel];exact z
  have O:(NK B k v).length<=sizeLine:=by have:=Rt B k v;lia
  refine wpAny_setItem_heap (hsz:=N) (IN Z) (Ui I.hok T) L λU m P=>h _ ?_
  obtain⟨q,es,ep,C,h2,h3,h4,_,h5⟩:=m;refine cp I (by rw[e];exact NS) P ⟨q,C⟩ ⟨O,hd,_,(rel.put k T S).keeps λc ys Y=>?_,q,es,ep,C,h2,h3,h4,h5⟩;rw[Bv (wP Y e (λz=>nomatch z))];exact Y
variable{X:Cx}{ζ:List (Ab×Obj)}{σ:St}{H:Hp}{s:AS}{l:Ab}{xs ys:List V}
theorem Inv.lset{m its':List AK}{n:Nat}{f:Array AK->Array AK}{t':Nat}(I:Inv X ζ σ H s)(B:H l=some (.lst xs))
  (e:s.heap.get? l=some { cls:=.type "list",data:=.seq m.toArray n }) (C:f m.toArray=its'.toArray) (G:CG ys its') (J:ys.length<=sizeLine) :
  Inv X ζ σ (upd H l (.lst ys)) { s with heap:=s.heap.update l (Gg f),toks:=t' }:=by
 have q:=PySem.IsL.update e f;rw[C]at q;refine I.write (x:=l) (e:=l) (by rw[B];exact trivial) (.inl rfl) (λN u hb L=>(ZY s.heap (Gg f) (Ck hb)).trans L) ⟨_,q⟩ ?_;exact⟨J,its',_,G,q⟩
theorem Inv.lnew(I:Inv X ζ σ H s)(B:CG ys m)(C:ys.length<=sizeLine) :
  Inv X ζ σ (upd H s.heap.objs.size (.lst ys)) { s with heap:=s.heap.push { cls:=.type "list",data:=.seq m.toArray },toks:=t' }:=
 I.laid (λ_ _ q=>AR _ q) (AM _) ⟨C,m,0,B,Ah _ rfl⟩
theorem Inv.fresh(I:Inv X ζ σ H s):H s.heap.objs.size=none:=I.hok.fresh (AM _)
theorem Inv.lstM(I:Inv X ζ σ H s)(B:H l=some (.lst xs)):xs.length<=sizeLine/\∃(m:List AK) (n:Nat),CG xs m/\xs.length=m.length/\s.heap.get? l=some { cls:=.type "list",data:=.seq m.toArray n }:=by
 obtain⟨z,m,n,r,e⟩:=I.hok l _ B;exact⟨z,m,n,r,r.length,e⟩
end
noncomputable def uR(i:Expr):Prop:=∀l m,Xs i false l m=operate [l,m] (Lh l m)
theorem lq{prog}{w}{A}{E}{s}{env}{value l}{pos}{T id}{Q}
  (J:typeLookup (.type T) "__getitem__" = pure (some (.builtin id))) (L:uR l)
  (h:Am (Aw prog w) A (CF value env) (λo B=>Am (Aw prog w) A (CF l env) (λi s₂=>s₂.TypeIs o T/\Am (Aw prog w) A (Lh o i) Q E s₂) E B) E s) :
  Am (Aw prog w) A (CF (.Subscript value l pos) env) Q E s:=by
 refine qN (IM h (λo B G=>IM G (λi s₂ m=>?_) λ_ _ x=>x) λ_ _ x=>x);obtain⟨I,m⟩:=m;unfold c8;refine AB ?_;rw[getitemInPython_of_ne I.not_modules];refine AB (wpAny_specialOf I J ?_)
 have fin:Am (Aw prog w) A (Xs l false o i) (λr C=>Am (Aw prog w) A (letTemporaryGo value o r >>= λ_=>pure r) Q E C) E s₂:=by
  rw[L o i];exact wpAny_operating (IM m (λr C H=>AB (wpAny_letTemporaryGo (AL H))) λ_ _ x=>x)
 first
  | exact AL (AB fin)
  | exact AB (AL (AB fin))
  | exact AB fin
theorem ZD(I:Inv X A B H s)(g:QX H a y o):s.TypeIs (.ref a) "dict":=by
 rcases g with⟨m,k,e,_,_⟩ | ⟨m,k,b,e,_,_,_⟩
 ·obtain⟨_,_,C,_,l⟩:=ZC I.hok e
  exact l.typeIs
 ·obtain⟨_,_,E,_,l⟩:=ZB I.hok e
  exact l.typeIs
noncomputable def vU(o ty:TE):TE:=λl H Q=>o l H λx s=>ty l s λy m=>∃a v,x=.ref a/\QX m a y (some v)/\Q v m
noncomputable def vT(ty s:TE):TE:=λl H Q=>ty l H λy A=>s l A λx m=>∃a o,x=.ref a/\QX m a y o/\Q (.bl o.isSome) m
noncomputable def bq(ty s:TE):TE:=λl H Q=>ty l H λy A=>s l A λx m=>∃a o,x=.ref a/\QX m a y o/\Q (.bl (!o.isSome)) m
noncomputable def vd(o ty s:TE):TS:=λD l H=>s l H λv A=>o l A λx B=>ty l B λy C=>∃a m,x=.ref a/\ZQ C a y v m/\D.nx l m
variable{X:Cx}
noncomputable def mM:V->List V->Hp->VK->Prop:=λx o H Q=>∃l m y,x=.ref l/\o=[y]/\H l=some (.lst m)/\m.length < sizeLine/\Q .non (upd H l (.lst (m++[y])))
theorem WI:MtM X "list.append" mM:=by
 intro E s G H x J v L Q I A B h;obtain⟨l,N,y,rfl,rfl,m,O,q⟩:=h;cases A;obtain⟨u,rfl,C⟩:=B.one;obtain⟨z,o,n,r,P,e⟩:=I.lstM m;refine call_meets F.slot_list_append ⟨_,e,rfl⟩ F.entry_list_append (F.args_list_append_2 _ _) (PySem.list_append l o.toArray n u (by rw[Au];lia)) ⟨e,?_⟩;refine⟨.non,_,I.lset (its':=o++[u]) m e (by simp) (r.append (.cons C .nil)) ?_,rfl,q⟩;rw[AQ,Ac]
 lia
noncomputable def rCat:R2:=λx y H Q=>∃l b m o,x=.ref l/\y=.ref b/\H l=some (.lst m)/\H b=some (.lst o)/\m.length+o.length<=sizeLine/\∀p,H p=none->Q (.ref p) (upd H p (.lst (m++o)))
theorem sS:OpR X (Dc .Add) rCat:=by
 intro N s O H x y v u Q I A B h;obtain⟨l,b,R,S,rfl,rfl,C,E,T,q⟩:=h;cases A;cases B;obtain⟨z,m,n,r,U,e⟩:=I.lstM C;obtain⟨Y,o,Z,G,zt,J⟩:=I.lstM E;refine PySem.P.add_list e J ?_ (by rw[Au,Au];lia)
 have L:m.toArray++o.toArray=(m++o).toArray:=by simp
 rw[L];exact⟨.ref _,_,I.lnew (t':=s.toks) (r.append G) (by rw[AQ];omega),rfl,q _ I.fresh⟩
section
variable{X:Cx}{o i value:Expr}{pos pos':Pos}{td ty tv:TE}
theorem mw(C:X.A.units+1 < FK)(ho:PE X o td)(hi:PE X i ty)(E:uR i):PE X (.Subscript o i pos) (vU td ty):=by
 intro l s m H Q I h;refine lq PySem.F.slot_dict_getitem.lookup E (thn (ho l s m H _ I h) λu G ⟨x,J,L,N,O⟩=>thn (hi l G m J _ L O) λY Z ⟨y,P,B,R,a,v,ex,g,S⟩=>?_);subst ex;obtain rfl:u=BW a:=N;exact⟨ZD B g,fR C B g R λw' s3 T U=>⟨v,P,T,U,S⟩⟩
theorem i4(B:X.A.units+1 < FK)(hi:PE X i ty)(ho:PE X o td):PC X .In i o (vT ty td):=by
 intro l s m H Q I h
 refine thn (hi l s m H _ I h) λU C ⟨y,E,G,J,L⟩=>thn (ho l C m E _ G L) λu Y ⟨x,N,O,P,a,R,ex,g,S⟩=>?_
 subst ex;obtain rfl:u=BW a:=P
 exact d_in B O g J λZ T=>⟨.bl R.isSome,N,T,rfl,S⟩
theorem eR(B:X.A.units+1 < FK)(hi:PE X i ty)(ho:PE X o td):PC X .NotIn i o (bq ty td):=by
 intro l s m H Q I h
 refine thn (hi l s m H _ I h) λU C ⟨y,E,G,J,L⟩=>thn (ho l C m E _ G L) λu Y ⟨x,N,O,P,a,R,ex,g,S⟩=>?_
 subst ex;obtain rfl:u=BW a:=P
 exact oW B O g J λZ T=>⟨.bl (!R.isSome),N,T,rfl,S⟩
theorem mT(B:X.A.units+1 < FK)(ho:PE X o td)(hi:PE X i ty)(C:PE X value tv)(E:HB value (some (.Subscript o i pos')) pos.line X.env=pure false) :
  PS X (.Assign [.Subscript o i pos'] value pos) (vd td ty tv):=by
 intro m s l H D I h;refine wpAny_Assign_Subscript (thn (C m s l H _ I h) λr G ⟨v,J,L,N,O⟩=>thn (ho m G l J _ L O) λu P ⟨x,Q,R,S,T⟩=>thn (hi m P l Q _ R T) λiv s3 ⟨y,H3,U,Y,a,Z,ex,g,q3⟩=>?_) E;subst ex;obtain rfl:u=BW a:=S
 exact fQ B U g Y N λs4 I4=>⟨l,Z,I4,q3⟩
end
theorem kE(h:DO)(hb:Cm < h.objs.size):D2 P w H (h.push { cls:=.type "dict",data:=.dict #[] }) h.objs.size (.dK []):=
 ⟨Do _,beq_eq_false_iff_ne.mpr (Ck (BK hb)),[],.nil,DO.DictOf.new h⟩
theorem kB(h:DO)(hb:Cm < h.objs.size):D2 P w H (h.push { cls:=.type "dict",data:=.dict #[] }) h.objs.size (.dT []):=
 ⟨Do _,beq_eq_false_iff_ne.mpr (Ck (BK hb)),[],.nil,_,#[],0,Ah _ rfl,⟨rfl,rfl,rfl⟩,rfl,rfl,EZ⟩
noncomputable def rA:TE:=λ_ H Q=>∀p,H p=none->Q (.ref p) (upd H p (.dK []))
noncomputable def q9:TE:=λ_ H Q=>∀p,H p=none->Q (.ref p) (upd H p (.dT []))
variable{s:AS}
section
variable{X:Cx}{pos:Pos}
theorem i3:PE X (.Dict [] [] pos) rA:=λl s m H Q I h=>
 uu ⟨.ref s.heap.objs.size,_,I.laid (a:=s.heap.objs.size) (o:=.dK []) (t':=s.toks) (λ_ _ q=>AR _ q) (AM _) (kE s.heap I.big),rfl,h _ (I.hok.fresh (AM _))⟩
theorem iz:PE X (.Dict [] [] pos) q9:=λl s m H Q I h=>
 uu ⟨.ref s.heap.objs.size,_,I.laid (a:=s.heap.objs.size) (o:=.dT []) (t':=s.toks) (λ_ _ q=>AR _ q) (AM _) (kB s.heap I.big),rfl,h _ (I.hok.fresh (AM _))⟩
end
end
end L2
namespace Att
open PySem PySem.W PySem.Calls PyProof.Rows
theorem SU:∀(ns:ZLi) (vs:List AK),WellAll P h vs (ns.map xY)->HE vs ns:=by
 intro ns
 induction ns with
 | nil=>
  intro vs w;rw[Ka]at w;cases w;exact .nil
 | cons n ns l=>
  intro vs w;rw[Az]at w
  cases w with
  | cons a b=>
   cases a;exact .cons _ _ (l _ b)
theorem dr{l:OpenLaw}{n:Nat}(H:l.most=some n){P:Params}{h:DO}{args:List WData}{m:List AK}
  (E:l.row.toRowW.claim.pre args=true) (B:WellAll P h m args) :
  ∃a vs ns,m=[BW a]/\args=[WData.list (ns.map xY)]/\h.get? a=some { cls:=.type "list",data:=.seq vs.toArray }/\HE vs ns/\ns.length<=n:=by
 have C:WShape.hasAll [] args [.list .int]=true:=(pre_splitW E).1;have G:l.pre.holds [] { args:=args }=true:=(pre_splitW E).2;obtain⟨d,r,rfl,I,J⟩:=hasAllW_cons C;obtain rfl:=hasAllW_nil J;obtain⟨T,rfl,L⟩:=hasW_list I;obtain⟨ns,rfl⟩:=items_int L
 have o:ns.length<=n:=by
  unfold OpenLaw.pre at G
  have s:(WTm.not (.lt (.lit (.int (n:Int))) (.len (.arg 0)))).holds [] { args:=[.list (ns.map .int)] }=true:=by
   have s:=(holds_andW G).1;rw[H]at s;exact s
  have A:=condW_of s (w_not (w_lt w_lit (w_len_list (w_arg rfl))));rw[AC]at A
  refine TR λq=>?_
  have N:(n:Int) < ((ns.length:Nat):Int):=by omega
  first
   | (rw[wX N]at A;exact zX A (by decide))
   | (simp at A;omega)
 cases B with
 | cons O Q=>
  cases Q
  cases O with
  | list R S=>exact⟨_,_,ns,rfl,rfl,R,SU ns _ S,o⟩
theorem eJ(l:OpenLaw)(args:List WData):l.row.toRowW.claim.post args (.bool true) args=true:=
 postW_of (r:=l.row.toRowW) (X:=(true==true))
  (show uc [] (.bool true) .bool=true by first | rfl | decide | simp[uc,WShape.arms,WShape.armsAll])
  (show(WTm.eq .res (.lit (.bool true))).value [] { args:=args,res:=some (.bool true),after:=args }=some (.bool (true==true))from w_eq_bool (w_res rfl) w_lit) rfl
theorem ZM{l:OpenLaw}{n:Nat}{q:Bw}{s:List Str}{P:(Str->Option AK)->DO->Prop}{Q:CV->DO->Prop}{d:DefRec}
  (X:l.most=some n) (L:d.params.defaults=[])
  (call:∀(w:CV) (A m:AS) (I mb:Str->Option AK) (E:Ab) (o:Obj) (N J B:AK) (a:Ab) (vs:List AK) (ns:ZLi),
   Ground q s [] P w A I mb m.heap->Q w m.heap ->
   m.heap.get? E=some o->o.data=.func (docDef d.name d.params d.body d.scope N J B)->m.heap.CodeRec J d.name->I d.name=some (.ref E) ->
   m.heap.get? a=some { cls:=.type "list",data:=.seq vs.toArray }->HE vs ns->ns.length<=n->m.gens = #[] ->
   Li (Aw l.prog w) VZ (.call (.ref E) ⟨[.ref a],[]⟩) (λr s'=>r=.ok (.ret (.bool true))/\OldK m.heap s'.heap/\s'.os=m.os/\Lp s'.gens) m) :
  WalkO q s P Q l.row.toRowW d [] (λf vs=>dE f vs):=by
 intro w A m I mb G Y E o N J B Z kV ho hd zp R ς hg S T as yq U hrd O υ;obtain rfl:Z=.none:=Dflts.none R L;obtain rfl:kV=.none:=Dflts.noKw R;obtain⟨a,vs,ns,rfl,rfl,χ,C,H⟩:=dr X yq O;refine enter_call (VY (call w A m I mb E o N J B a vs ns G Y ho (fd_plain hd) zp ς χ C H hg) λr s' hq=>?_);obtain⟨rfl,h2,h3,h4⟩:=hq;exact⟨.inl ⟨.bool true,.bool true,[],rfl,λ_=>rfl,.bool true,eJ l _,λ_=>⟨u6,λ_ hm=>(nomatch hm)⟩⟩,h2,h3,h4⟩
end Att
namespace L2
open PySem PySem.Spec PyProof.Rows
theorem V7:∀{vs:List AK} {ns:ZLi},HE vs ns->CG (ns.map V.int) vs
 | _,_,.nil=>.nil
 | _,_,.cons n t h=>.cons ⟨t,rfl⟩ (V7 h)
noncomputable def oz(H:Hp):Prop:=∀b,H b=none∨∃o l,H b=some (.frz o (.lst l))
theorem jV{P}{w}{K}{E mb}{CX}{k}{T a}{fd}{x}{sp}{s₁}{vs}{ns}
  (KX:K.In s₁.heap) (Λ:s₁.heap.Ns BZ E) (hb:s₁.heap.Ns Ze mb) (U:∀x:Str,x≠"__name__"->mb x=JM x) (G:s₁.heap.NoLimit) (hg:s₁.gens = #[])
  (S:s₁.heap.get? a=some { cls:=.type "list",data:=.seq vs.toArray }) (hi:HE vs ns) (hl:ns.length<=sizeLine) (hr:IE k VZ)
  (F:∀l:DO,K.In l->l.Ns BZ E->Cp P w K E l CX k T fd [x] sp) (C:∀(s:AS) (u:AK),Za s fd ⟨[u],[]⟩ [(x,u)])
  (ϥ:∀H:Hp,oz H->SqL K H a (ns.map V.int)->sp [.ref a] H (λv _=>v=.bl true) λ_ _ _=>False)
  (X:∀H e s',CX [] H s₁ (λ_ _ _=>False) e s'->False) :
  Li (Aw P w) VZ (.call (.ref T) ⟨[.ref a],[]⟩) (λr s'=>r=.ok (.ret (.bool true))/\OldK s₁.heap s'.heap/\s'.os=s₁.os/\Lp s'.gens) s₁:=by
 have rv:=V7 hi;have I:=hi.length
 have B:∀H:Hp,oz H->SqL K H a (ns.map V.int)->HOk P w H s₁.heap->(∀b,H b≠none->b=a)->(H a≠none->K.lookup a=none) ->
   Li (Aw P w) VZ (.call (.ref T) ⟨[.ref a],[]⟩) (λr s'=>r=.ok (.ret (.bool true))/\OldK s₁.heap s'.heap/\s'.os=s₁.os/\Lp s'.gens) s₁:=by
  intro H hO hS J hA hK
  have zf:∀{b:Ab} {o:Obj},s₁.heap.get? b=some o->H b=none->(XX s₁.heap H).get? b=some o:=λe n=>ji e n
  have Y:∀{b:Ab} {o:Obj} {L:Array Rg} {ep:Nat},s₁.heap.get? b=some o->o.data=.dict L ep->H b=none:=λ{b o L ep} e d=>by
   cases q:H b with
   | none=>rfl
   | some u=>
    have Z:b=a:=hA b (by rw[q];simp);subst Z;rw[S]at e;cases e;have d':Data.seq vs.toArray _=Data.dict L ep:=d;cases d'
  have A:∀{b:Ab} {m:Str->Option AK},s₁.heap.Ns b m->(XX s₁.heap H).Ns b m:=λ{b m} ⟨o,L,ep,e,d,r⟩=>⟨o,L,ep,zf e (Y e d),d,r⟩
  have N:K.In (XX s₁.heap H):=λb o e=>zf (KX b o e) (by
   cases q:H b with
   | none=>rfl
   | some u=>
    have Z:b=a:=hA b (by rw[q];simp);subst Z
    rw[hK (by rw[q];simp)]at e;cases e)
  have hM:Mod K E (XX s₁.heap H):=⟨N,A Λ,⟨mb,A hb,U⟩,let ⟨mc,h1,h2⟩:=G;⟨mc,A h1,h2⟩⟩;have e0:bL P w K E (XX s₁.heap H) VZ [] s₁ H:=⟨rfl,hM,λb o e=>nI e,u5 (fB _ _),trivial,λb hb=>zX (show b∈([]:List Ab)from hb) (by simp),J,.of_eq hg⟩
  refine VY ((F _ N (A Λ)).run VZ [] s₁ H ⟨[.ref a],[]⟩ [.ref a] [.ref a] _ _ hr e0 (C s₁ (.ref a)) (.cons rfl .nil) (ϥ H hO hS)) λr s' h=>?_
  cases r with
  | error e=>exact(X H e s' h).elim
  | ok fl=>
   cases fl with
   | next=>exact Et h
   | brk=>exact Et h
   | cont=>exact Et h
   | ret u=>
    obtain⟨v,H',os,O,un,Q,r',q⟩:=h;have q':v=.bl true:=q;subst q';obtain rfl:u=dD true:=r';refine⟨rfl,OldK.of_keep λb o e=>?_,os,O⟩
    cases q:H b with
    | none=>exact un.keep b o e q (by intro z;exact zX (show b∈([]:List Ab)from z) (by simp)) (by simp)
    | some u=>
     rcases hO b with z | ⟨ob,xs,z⟩
     ·rw[q]at z;cases z
     ·have z2:=un.frzs b ob _ z
      obtain⟨e1,_⟩:=J b _ z;obtain⟨e2,_⟩:=Q b _ z2;rw[e]at e1;cases e1;exact e2
 cases hk:K.lookup a with
 | some o=>
  have e:=KX a o hk;rw[S]at e;cases e
  refine B (λ_=>none) (λ_=>.inl rfl) (.inr ⟨_,vs.toArray,_,hk,rfl,rfl,rfl,by rw[Au,I];exact hl,by simpa using rv⟩) (λb u z=>by have R:(none:Option HO)=some u:=z;cases R) (λb z=>zX rfl z) λz=>zX rfl z
 | none=>
  refine B (λb=>if b=a then some (.frz { cls:=.type "list",data:=.seq vs.toArray } (.lst (ns.map V.int)))else none) (λb=>?_) (.inl (.inr ⟨{ cls:=.type "list",data:=.seq vs.toArray },qX rfl⟩)) (λb u z=>?_) (λb z=>?_) λ_=>hk
  ·by_cases hb:b=a
   ·exact .inr ⟨_,_,qX hb⟩
   ·exact .inl (qY hb)
  ·by_cases hb:b=a
   ·have R:=(qX hb).symm.trans z
    cases R;subst hb;exact⟨S,by rw[AC];exact hl,vs,_,rv,S⟩
   ·have R:=(qY hb).symm.trans z
    cases R
  ·by_cases hb:b=a
   ·exact hb
   ·exact zX (qY hb) z
theorem lI{l:PySem.W.OpenLaw}{n k:Nat}{q:Bw}{B:List Str}{R:(Str->Option AK)->DO->Prop}{O:CV->DO->Prop}{d:DefRec}{K:Params->AI}{CX:CV->CXT}{sp:CV->Sp}{x:Str}
  (S:l.most=some n) (U:n<=sizeLine) (L:d.params.defaults=[]) (X:IE k VZ)
  (Z:∀(w:CV) (h:DO),O w h->(K w.params).In h)
  (F:∀(w:CV) (E:Str->Option AK) (J:Ab) (h:DO),(K w.params).In h->h.Ns BZ E->E d.name=some (.ref J) ->
   ∃fd:MN,(∀(s:AS) (u:AK),Za s fd ⟨[u],[]⟩ [(x,u)]) /\
    ∀m:DO,(K w.params).In m->m.Ns BZ E->Cp l.prog w (K w.params) E m (CX w) k J fd [x] (sp w))
  (ϥ:∀(w:CV) (H:Hp) (a:Ab) (ns:ZLi),ns.length<=n->oz H->SqL (K w.params) H a (ns.map V.int)->sp w [.ref a] H (λv _=>v=.bl true) λ_ _ _=>False)
  (N:∀(w:CV) (H:Hp) (s:AS) (e:AK) (s':AS),CX w [] H s (λ_ _ _=>False) e s'->False) :
  PySem.W.WalkO q B R O l.row.toRowW d [] (λf vs=>dE f vs):=by
 refine Att.ZM S L λw P I E mb J o pm cd doc a vs ns G Y ho hd zp ς χ C A hg=>?_
 have Q:=Z w _ Y;obtain⟨fd,hb,hF⟩:=F w E J _ Q G.T.g ς
 exact jV Q G.T.g G.T.b G.T.builtins G.T.nolimit hg χ C (Aj A U) X hF hb (λH hO hS=>ϥ w H a ns A hO hS) λH e s'=>N w H I e s'
noncomputable def Mt(s:DB)(j:Nat):DB:=match s with
 | .ClassDef _ _ _ body _ _ _ _ _ _ _=>body.getD j (.Pass ⟨0,0,0,0⟩)
 | _=>.Pass ⟨0,0,0,0⟩
noncomputable def M1(s:DB):Arguments:=match s with
 | .FunctionDef _ a _ _ _ _ _ _ _ _=>a
 | _=>{ posonlyargs:=[],args:=[],vararg:=none,kwonlyargs:=[],kw_defaults:=[],kwarg:=none,defaults:=[] }
noncomputable def Jj(s:DB):List DB:=match s with
 | .FunctionDef _ _ b _ _ _ _ _ _ _=>b
 | _=>[]
noncomputable def A0(s:DB):Va:=match s with
 | .FunctionDef _ _ _ _ _ _ l _ _ _=>l
 | _=>{ kind:=.function,names:=[],isGenerator:=false,isCoroutine:=false }
structure Fun(K:AI)(x qual:Str)(st:DB)(f:Ab)(fd:MN):Prop where
 ex:∃(oc:AK) (od:Option Ab) (kV doc pm:AK) (an:Option Ab) (yi ct:AK) (zB:Array (Option AK)),
  fd=JZ x qual (M1 st) (Jj st) (A0 st) .none kV doc pm an yi ct/\K.lookup f=some ⟨oc,od,.func fd,zB⟩/\TN K yi qual=true
 kp:Fs K (.ref f)=true
section
variable{K:AI}
theorem Fun.binds{x l}{st}{f}{fd}{ps}(F:Fun K x l st f fd)
  (h:∀(kV m o:AK) (s:Option Ab) (A ct:AK) (us:List AK),us.length=ps.length->kx (JZ x l (M1 st) (Jj st) (A0 st) .none kV m o s A ct) ⟨us,[]⟩=pure (ps.zip us)):Binds K fd ps []:=by
 obtain⟨B,C,kV,m,o,s,A,ct,E,rfl,G,H⟩:=F.ex;exact .all (h kV m o s A ct)
theorem jq{x m}{st}{f}{C}{E A}{G}{kV o B s ct}(l:K.lookup f=some ⟨C,E,.func (JZ x m (M1 st) (Jj st) (A0 st) .none kV o B A s ct),G⟩)
  (c:TN K s m=true) (k:Fs K (.ref f)=true):Fun K x m st f (JZ x m (M1 st) (Jj st) (A0 st) .none kV o B A s ct):=⟨⟨C,E,kV,o,B,A,s,ct,G,rfl,l,c⟩,k⟩
end
section
variable{X:Cx}
theorem pv(i:Nat)(hN:X.N[i]?=some x:=by rfl)(l:Vis X.env.scope x:=by first | exact Ra rfl | exact RZ (Ra rfl) | exact RZ (RZ rfl))(hd:(x==("__debug__" : Str))=false:=by decide)
  (m:(x==("__classdict__" : Str))=false:=by decide):PE X (.Name x pos) (qw i):=rm hN l hd m
end
inductive D where
 | non | bl (b:Bool) | int (i:Int) | str (x:Str) | tup (ds:List D) | fro (ds:List D) | ref (n:Nat) | exc (C:Ab)
noncomputable def Vz(K:AI)(H:Hp)(a:Ab)(vs:List V):Prop:=
 (∃o,H a=some (.frz o (.lst vs))) ∨
  ∃(o:Obj) (l:Array AK) (n:Nat),K.lookup a=some o/\o.cls=.type "list"/\o.dict=none/\o.data=.seq l n/\l.size<=sizeLine/\CG vs l.toList
theorem Vz.sq{K}{H}{a}{vs}(h:Vz K H a vs):SqL K H a vs:=by
 rcases h with h | h
 ·exact .inl (.inr h)
 ·exact .inr h
noncomputable def ExcO(o:Obj)(C:Ab):Prop:=o.cls=.ref C/\o.dict=none/\∃l,o.data=.fields l
mutual
inductive CM(K:AI)(ρ:List Ab)(H:Hp):D->V->Prop where
 | non:CM K ρ H .non .non
 | bl (b:Bool):CM K ρ H (.bl b) (.bl b)
 | int (i:Int):CM K ρ H (.int i) (.int i)
 | str (x:Str):CM K ρ H (.str x) (.str x)
 | tup {ds:List D} {a:Ab} {vs:List V}:H a=some (.tup vs)->A9 K ρ H ds vs->CM K ρ H (.tup ds) (.ref a)
 | fro {ds:List D} {a:Ab} {vs:List V}:Vz K H a vs->A9 K ρ H ds vs->CM K ρ H (.fro ds) (.ref a)
 | ref {n:Nat} {a:Ab}:ρ[n]?=some a->CM K ρ H (.ref n) (.ref a)
 | exc {C a:Ab} {o:Obj} {u:HO}:H a=some (.frz o u)->ExcO o C->CM K ρ H (.exc C) (.ref a)
inductive A9(K:AI)(ρ:List Ab)(H:Hp):List D->List V->Prop where
 | nil:A9 K ρ H [] []
 | cons {d:D} {v:V} {ds:List D} {vs:List V}:CM K ρ H d v->A9 K ρ H ds vs->A9 K ρ H (d :: ds) (v :: vs)
end
structure Le(K:AI)(ρ:List Ab)(H:Hp)(ρ':List Ab)(H':Hp):Prop where
 pre:∀(n:Nat) a,ρ[n]?=some a->ρ'[n]?=some a
 tup:∀a xs,H a=some (.tup xs)->H' a=some (.tup xs)
 frz:∀a o u,H a=some (.frz o u)->H' a=some (.frz o u)
 oth:∀a o,H a=some o->(∀n:Nat,ρ[n]?≠some a)->H' a=some o/\∀n:Nat,ρ'[n]?≠some a
theorem Vz.mono{K}{H m}{a}{xs}(l:∀a o u,H a=some (.frz o u)->m a=some (.frz o u))(h:Vz K H a xs):Vz K m a xs:=by
 rcases h with⟨o,h⟩ | h
 ·exact .inl ⟨o,l _ _ _ h⟩
 ·exact .inr h
section
variable{K:AI}{ρ ρ' ρ'':List Ab}{H H' zH:Hp}
theorem Le.fro(l:Le K ρ H ρ' H'):∀a xs,Vz K H a xs->Vz K H' a xs:=λ_ _ h=>h.mono l.frz
theorem Le.refl:Le K ρ H ρ H:=⟨λ_ _ h=>h,λ_ _ h=>h,λ_ _ _ h=>h,λ_ _ h n=>⟨h,n⟩⟩
theorem Le.trans(a:Le K ρ H ρ' H')(b:Le K ρ' H' ρ'' zH):Le K ρ H ρ'' zH:=
 ⟨λn x h=>b.pre n x (a.pre n x h),λx l h=>b.tup x l (a.tup x l h),λx o u h=>b.frz x o u (a.frz x o u h),λx o h n=>b.oth x o (a.oth x o h n).1 (a.oth x o h n).2⟩
mutual
theorem CM.mono(l:Le K ρ H ρ' H'):∀{d:D} {v:V},CM K ρ H d v->CM K ρ' H' d v
 | _,_,.non=>.non
 | _,_,.bl b=>.bl b
 | _,_,.int i=>.int i
 | _,_,.str x=>.str x
 | _,_,.tup h r=>.tup (l.tup _ _ h) (A9.mono l r)
 | _,_,.fro h r=>.fro (l.fro _ _ h) (A9.mono l r)
 | _,_,.ref h=>.ref (l.pre _ _ h)
 | _,_,.exc h e=>.exc (l.frz _ _ _ h) e
theorem A9.mono(l:Le K ρ H ρ' H'):∀{ds:List D} {vs:List V},A9 K ρ H ds vs->A9 K ρ' H' ds vs
 | _,_,.nil=>.nil
 | _,_,.cons r t=>.cons (CM.mono l r) (A9.mono l t)
end
mutual
theorem CM.more(l:∀(n:Nat) a,ρ[n]?=some a->ρ'[n]?=some a):∀{d:D} {v:V},CM K ρ H d v->CM K ρ' H d v
 | _,_,.non=>.non
 | _,_,.bl b=>.bl b
 | _,_,.int i=>.int i
 | _,_,.str x=>.str x
 | _,_,.tup h r=>.tup h (A9.more l r)
 | _,_,.fro h r=>.fro h (A9.more l r)
 | _,_,.ref h=>.ref (l _ _ h)
 | _,_,.exc h e=>.exc h e
theorem A9.more(l:∀(n:Nat) a,ρ[n]?=some a->ρ'[n]?=some a):∀{ds:List D} {vs:List V},A9 K ρ H ds vs->A9 K ρ' H ds vs
 | _,_,.nil=>.nil
 | _,_,.cons r t=>.cons (CM.more l r) (A9.more l t)
end
mutual
theorem CM.keep(m:∀a xs,H a=some (.tup xs)->H' a=some (.tup xs))(l:∀a o u,H a=some (.frz o u)->H' a=some (.frz o u)):∀{d:D} {v:V},CM K ρ H d v->CM K ρ H' d v
 | _,_,.non=>.non
 | _,_,.bl b=>.bl b
 | _,_,.int i=>.int i
 | _,_,.str x=>.str x
 | _,_,.tup h r=>.tup (m _ _ h) (A9.keep m l r)
 | _,_,.fro h r=>.fro (h.mono l) (A9.keep m l r)
 | _,_,.ref h=>.ref h
 | _,_,.exc h e=>.exc (l _ _ _ h) e
theorem A9.keep(l:∀a xs,H a=some (.tup xs)->H' a=some (.tup xs))(m:∀a o u,H a=some (.frz o u)->H' a=some (.frz o u)):∀{ds:List D} {vs:List V},A9 K ρ H ds vs->A9 K ρ H' ds vs
 | _,_,.nil=>.nil
 | _,_,.cons r t=>.cons (CM.keep l m r) (A9.keep l m t)
end
theorem A9.length:∀{ds:List D} {vs:List V},A9 K ρ H ds vs->ds.length=vs.length
 | _,_,.nil=>rfl
 | _,_,.cons _ t=>by rw[BC,BC,A9.length t]
theorem A9.get:∀{ds:List D} {vs:List V} {i:Nat} {d:D},A9 K ρ H ds vs->ds[i]?=some d->∃v,vs[i]?=some v/\CM K ρ H d v
 | _,_,_,_,.nil,e=>by simp at e
 | _,_,0,_,.cons r _,e=>by simp at e;subst e;exact⟨_,rfl,r⟩
 | _,_,i+1,d,.cons _ t,e=>by
  obtain⟨v,l,m⟩:=A9.get (i:=i) (d:=d) t (by simpa using e);exact⟨v,by simpa using l,m⟩
theorem A9.get':∀{ds:List D} {vs:List V} {i:Nat} {v:V},A9 K ρ H ds vs->vs[i]?=some v->∃d,ds[i]?=some d/\CM K ρ H d v
 | _,_,_,_,.nil,e=>by simp at e
 | _,_,0,_,.cons r _,e=>by simp at e;subst e;exact⟨_,rfl,r⟩
 | _,_,i+1,d,.cons _ t,e=>by
  obtain⟨v,l,m⟩:=A9.get' (i:=i) (v:=d) t (by simpa using e);exact⟨v,by simpa using l,m⟩
theorem A9.append:∀{ds es:List D} {vs us:List V},A9 K ρ H ds vs->A9 K ρ H es us->A9 K ρ H (ds++es) (vs++us)
 | _,_,_,_,.nil,s=>s
 | _,_,_,_,.cons r t,s=>.cons r (A9.append t s)
theorem A9.take:∀{ds:List D} {vs:List V} (n:Nat),A9 K ρ H ds vs->A9 K ρ H (ds.take n) (vs.take n)
 | _,_,0,_=>.nil
 | _,_,_+1,.nil=>.nil
 | _,_,n+1,.cons r t=>.cons r (A9.take n t)
theorem A9.drop:∀{ds:List D} {vs:List V} (n:Nat),A9 K ρ H ds vs->A9 K ρ H (ds.drop n) (vs.drop n)
 | _,_,0,r=>r
 | _,_,_+1,.nil=>.nil
 | _,_,n+1,.cons _ t=>A9.drop n t
theorem A9.set(r:CM K ρ H d v):∀{ds:List D} {vs:List V} (i:Nat),A9 K ρ H ds vs->A9 K ρ H (ds.set i d) (vs.set i v)
 | _,_,_,.nil=>.nil
 | _,_,0,.cons _ t=>.cons r t
 | _,_,i+1,.cons q t=>.cons q (A9.set r i t)
theorem A9.of_ints:∀(ns:ZLi),A9 K ρ H (ns.map D.int) (ns.map V.int)
 | []=>.nil
 | n :: ns=>.cons (.int n) (A9.of_ints ns)
theorem A9.ints:∀{ns:ZLi} {vs:List V},A9 K ρ H (ns.map D.int) vs->vs=ns.map V.int
 | [],_,.nil=>rfl
 | n :: ns,_,.cons r t=>by
  cases r;rw[A9.ints (ns:=ns) t];rfl
end
inductive Ob where
 | lst (ds:List D)
 | dK (f':List (Key×D))
 | dT (f':List (List Key×D))
 | ins (C:Ab) (fs:List (Str×D))
 | fK (f':List (Key×D))
 | fT (f':List (List Key×D))
 | mem (L:Key->Int)
noncomputable abbrev Sto:=List Ob
noncomputable def XR:List Key:=(BJ 1000).map λ(i:Nat)=>EA (i:Int)
noncomputable abbrev KVR{l:Type}(K:AI)(ρ:List Ab)(H:Hp):List (l×D)->List (l×V)->Prop:=Gf λ(p:l×D) (q:l×V)=>p.1=q.1/\CM K ρ H p.2 q.2
noncomputable def Ed(K:AI)(ρ:List Ab)(H:Hp)(a:Ab):Ob->Prop
 | .lst B=>∃s,H a=some (.lst s)/\A9 K ρ H B s
 | .dK m=>∃l,H a=some (.dK l)/\KVR K ρ H m l
 | .dT m=>∃l,H a=some (.dT l)/\KVR K ρ H m l
 | .ins C fs=>∃E A,H a=some (.ins C E A)/\KVR K ρ H fs A
 | .fK m=>∃o l,H a=some (.frz o (.dK l))/\KVR K ρ H m l
 | .fT m=>∃o l,H a=some (.frz o (.dT l))/\KVR K ρ H m l
 | .mem L=>∃l,H a=some (.dK l)/\(l.map (·.1)).Nodup/\∀x∈l,x.1∈XR/\x.2=V.int (L x.1)
structure Ch(K:AI)(ρ:List Ab)(S:Sto)(H:Hp):Prop where
 len:ρ.length=S.length
 nd:∀(i j:Nat) a,ρ[i]?=some a->ρ[j]?=some a->i=j
 ob:∀(n:Nat) o a,S[n]?=some o->ρ[n]?=some a->Ed K ρ H a o
section
variable{K:AI}{ρ ρ':List Ab}{H H':Hp}{S:Sto}{a p:Ab}{o:Ob}{n:Nat}{ho:HO}
theorem KVR.mono{m:Type}(l:Le K ρ H ρ' H'){x:List (m×D)}{y:List (m×V)}(h:KVR K ρ H x y):KVR K ρ' H' x y:=Gf.mapP h λ_ _ z=>⟨z.1,z.2.mono l⟩
theorem KVR.keys{l:Type}:∀{x:List (l×D)} {y:List (l×V)},KVR K ρ H x y->x.map (·.1)=y.map (·.1)
 | _,_,.nil=>rfl
 | _,_,.cons r t=>by rw[Az,Az,r.1,KVR.keys t]
theorem Ed.has(h:Ed K ρ H a o):H a≠none:=by
 cases o with
 | lst l=>obtain⟨_,e,_⟩:=h;rw[e];exact λz=>nomatch z
 | dK l=>obtain⟨_,e,_⟩:=h;rw[e];exact λz=>nomatch z
 | dT l=>obtain⟨_,e,_⟩:=h;rw[e];exact λz=>nomatch z
 | ins C fs=>obtain⟨_,_,e,_⟩:=h;rw[e];exact λz=>nomatch z
 | fK l=>obtain⟨_,_,e,_⟩:=h;rw[e];exact λz=>nomatch z
 | fT l=>obtain⟨_,_,e,_⟩:=h;rw[e];exact λz=>nomatch z
 | mem L=>obtain⟨_,e,_⟩:=h;rw[e];exact λz=>nomatch z
theorem Ed.mono(l:Le K ρ H ρ' H')(e:H' a=H a)(h:Ed K ρ H a o):Ed K ρ' H' a o:=by
 cases o with
 | lst E=>obtain⟨m,s,A⟩:=h;exact⟨m,e.trans s,A.mono l⟩
 | dK E=>obtain⟨m,s,A⟩:=h;exact⟨m,e.trans s,A.mono l⟩
 | dT E=>obtain⟨m,s,A⟩:=h;exact⟨m,e.trans s,A.mono l⟩
 | ins C fs=>obtain⟨B,m,s,A⟩:=h;exact⟨B,m,e.trans s,A.mono l⟩
 | fK E=>obtain⟨B,m,s,A⟩:=h;exact⟨B,m,e.trans s,A.mono l⟩
 | fT E=>obtain⟨B,m,s,A⟩:=h;exact⟨B,m,e.trans s,A.mono l⟩
 | mem L=>obtain⟨m,s,A⟩:=h;exact⟨m,e.trans s,A⟩
theorem Ed.keep(A:∀a xs,H a=some (.tup xs)->H' a=some (.tup xs))(B:∀a o u,H a=some (.frz o u)->H' a=some (.frz o u))(e:H' a=H a)(h:Ed K ρ H a o):Ed K ρ H' a o:=by
 cases o with
 | lst G=>obtain⟨l,m,s⟩:=h;exact⟨l,e.trans m,s.keep A B⟩
 | dK G=>obtain⟨l,m,s⟩:=h;exact⟨l,e.trans m,Gf.mapP s λ_ _ z=>⟨z.1,z.2.keep A B⟩⟩
 | dT G=>obtain⟨l,m,s⟩:=h;exact⟨l,e.trans m,Gf.mapP s λ_ _ z=>⟨z.1,z.2.keep A B⟩⟩
 | ins C fs=>obtain⟨E,l,m,s⟩:=h;exact⟨E,l,e.trans m,Gf.mapP s λ_ _ z=>⟨z.1,z.2.keep A B⟩⟩
 | fK G=>obtain⟨E,l,m,s⟩:=h;exact⟨E,l,e.trans m,Gf.mapP s λ_ _ z=>⟨z.1,z.2.keep A B⟩⟩
 | fT G=>obtain⟨E,l,m,s⟩:=h;exact⟨E,l,e.trans m,Gf.mapP s λ_ _ z=>⟨z.1,z.2.keep A B⟩⟩
 | mem L=>obtain⟨l,m,s⟩:=h;exact⟨l,e.trans m,s⟩
theorem Ed.mono'(l:∀(n:Nat) a,ρ[n]?=some a->ρ'[n]?=some a)(h:Ed K ρ H a o):Ed K ρ' H a o:=by
 cases o with
 | lst E=>obtain⟨m,s,A⟩:=h;exact⟨m,s,A.more l⟩
 | dK E=>obtain⟨m,s,A⟩:=h;exact⟨m,s,Gf.mapP A λ_ _ z=>⟨z.1,z.2.more l⟩⟩
 | dT E=>obtain⟨m,s,A⟩:=h;exact⟨m,s,Gf.mapP A λ_ _ z=>⟨z.1,z.2.more l⟩⟩
 | ins C fs=>obtain⟨B,m,s,A⟩:=h;exact⟨B,m,s,Gf.mapP A λ_ _ z=>⟨z.1,z.2.more l⟩⟩
 | fK E=>obtain⟨B,m,s,A⟩:=h;exact⟨B,m,s,Gf.mapP A λ_ _ z=>⟨z.1,z.2.more l⟩⟩
 | fT E=>obtain⟨B,m,s,A⟩:=h;exact⟨B,m,s,Gf.mapP A λ_ _ z=>⟨z.1,z.2.more l⟩⟩
 | mem L=>exact h
theorem Hl(m:H p=none∨Mut (H p)):(∀a xs,H a=some (.tup xs)->upd H p ho a=some (.tup xs))/\∀a o u,H a=some (.frz o u)->upd H p ho a=some (.frz o u):=by
 have l:∀a u,H a=some u->¬Mut (some u)->a≠p:=λa u e s z=>by
  subst z
  rcases m with h | h
  ·rw[e]at h;cases h
  ·rw[e]at h;exact s h
 refine⟨λa xs e=>?_,λa o u e=>?_⟩
 ·rw[Bv (l a _ e λz=>z)];exact e
 ·rw[Bv (l a _ e λz=>z)];exact e
theorem Le.fresh(l:H p=none):Le K ρ H ρ (upd H p ho):=
 ⟨λ_ _ h=>h,(Hl (.inl l)).1,(Hl (.inl l)).2,λa o e n=>⟨by rw[Bv (Cy e l)];exact e,n⟩⟩
theorem Le.write(m:ρ[n]?=some p)(l:Mut (H p)):Le K ρ H ρ (upd H p ho):=
 ⟨λ_ _ h=>h,(Hl (.inr l)).1,(Hl (.inr l)).2,λa o e h=>⟨by rw[Bv λz=>h n (by rw[z];exact m)];exact e,h⟩⟩
theorem KB{s:Type}{l:List s}{x:s}{m:Nat}{a:s}(e:(l++[x])[m]?=some a):(l[m]?=some a/\m < l.length)∨(m=l.length/\a=x):=by
 by_cases A:m < l.length
 ·rw[Av A]at e;exact .inl ⟨e,A⟩
 ·rw[Bd (by lia)]at e
  have:m - l.length=0:=by
   have:=(AE.mp e).1;simp at this;omega
  rw[this]at e;exact .inr ⟨by lia,by simpa using e.symm⟩
theorem Le.alloc(l:H p=none):Le K ρ H (ρ++[p]) (upd H p ho):=by
 refine⟨λn a h=>by rw[Av (AE.mp h).1];exact h,(Hl (.inl l)).1,(Hl (.inl l)).2,λa o e h=>⟨by rw[Bv (Cy e l)];exact e,λn q=>?_⟩⟩
 rcases KB q with⟨q,_⟩ | ⟨_,q⟩
 ·exact h n q
 ·exact Cy e l q
theorem Ch.at(h:Ch K ρ S H)(e:S[n]?=some o):∃a,ρ[n]?=some a/\Ed K ρ H a o:=by
 have l:n < ρ.length:=by rw[h.len];exact(AE.mp e).1
 exact⟨ρ[n],by simp[l],h.ob n o _ e (by simp[l])⟩
theorem Ch.there(h:Ch K ρ S H){m:Nat}(e:ρ[m]?=some a):∃o,S[m]?=some o/\Ed K ρ H a o:=by
 have l:m < S.length:=by rw[<-h.len];exact(AE.mp e).1
 exact⟨S[m],by simp[l],h.ob m _ a (by simp[l]) e⟩
theorem Ch.notIn(h:Ch K ρ S H)(l:H p=none){m:Nat}(e:ρ[m]?=some p):False:=by
 obtain⟨o,_,r⟩:=h.there e;exact r.has l
theorem Ch.alloc(h:Ch K ρ S H)(B:H p=none)(G:Ed K (ρ++[p]) (upd H p ho) p o):Ch K (ρ++[p]) (S++[o]) (upd H p ho)/\Le K ρ H (ρ++[p]) (upd H p ho)/\(ρ++[p])[S.length]?=some p:=by
 have le:Le K ρ H (ρ++[p]) (upd H p ho):=Le.alloc B
 have at':∀(m:Nat) a,(ρ++[p])[m]?=some a->(ρ[m]?=some a/\m < ρ.length)∨(m=ρ.length/\a=p):=λm a e=>KB e
 refine⟨⟨by simp[h.len],λi j a I J=>?_,λm L a A N=>?_⟩,le,by rw[<-h.len];simp⟩
 ·rcases at' i a I with⟨C,_⟩ | ⟨C,O⟩ <;> rcases at' j a J with⟨l,_⟩ | ⟨l,E⟩
  ·exact h.nd i j a C l
  ·rw[E]at C;exact(h.notIn B C).elim
  ·rw[O]at l;exact(h.notIn B l).elim
  ·lia
 ·rcases at' m a N with⟨s,P⟩ | ⟨rfl,rfl⟩
  ·rw[Av (by rw[<-h.len];exact P)]at A
   refine(h.ob m L a A s).mono le (Bv λz=>?_);rw[z]at s;exact h.notIn B s
  ·rw[h.len]at A
   simp at A;subst A;exact G
theorem Ch.write(h:Ch K ρ S H)(s:ρ[n]?=some a)(A:Ed K ρ (upd H a ho) a o)(le:Le K ρ H ρ (upd H a ho)):Ch K ρ (S.set n o) (upd H a ho)/\Le K ρ H ρ (upd H a ho):=by
 refine⟨⟨by simp[h.len],h.nd,λm B b l hb=>?_⟩,le⟩
 by_cases e:m=n
 ·subst e
  rw[s]at hb;cases hb;rw[As (by rw[<-h.len];exact(AE.mp s).1)]at l;cases l;exact A
 ·rw[Ae (Ck e)]at l
  refine(h.ob m B b l hb).mono le (Bv λz=>?_);subst z;exact e (h.nd m n b hb s)
theorem Le.back{B:Sto}(l:Le K ρ H ρ' H')(s:Ch K ρ S H)(s':Ch K ρ' B H')(A:H' p=none):H p=none:=by
 cases q:H p with
 | none=>rfl
 | some o=>
  by_cases m:∃n:Nat,ρ[n]?=some p
  ·obtain⟨n,m⟩:=m
   exact(s'.notIn A (l.pre n p m)).elim
  ·have:=(l.oth p o q λn h=>m ⟨n,h⟩).1
   rw[A]at this;cases this
theorem Ch.adopt(h:Ch K ρ S H)(E:∀m:Nat,ρ[m]?≠some p)(G:Ed K (ρ++[p]) H p o):Ch K (ρ++[p]) (S++[o]) H/\(ρ++[p])[S.length]?=some p:=by
 have le:∀a ob,Ed K ρ H a ob->Ed K (ρ++[p]) H a ob:=λa ob r=>by
  have I:∀(n:Nat) a,ρ[n]?=some a->(ρ++[p])[n]?=some a:=λn a h=>by rw[Av (AE.mp h).1];exact h
  exact r.mono' I
 refine⟨⟨by simp[h.len],λi j a J L=>?_,λm ob a s B=>?_⟩,by rw[<-h.len];simp⟩
 ·rcases KB J with⟨A,_⟩ | ⟨A,N⟩ <;> rcases KB L with⟨l,_⟩ | ⟨l,C⟩
  ·exact h.nd i j a A l
  ·rw[C]at A;exact(E i A).elim
  ·rw[N]at l;exact(E j l).elim
  ·lia
 ·rcases KB B with⟨B,O⟩ | ⟨rfl,rfl⟩
  ·rw[Av (by rw[<-h.len];exact O)]at s
   exact le a ob (h.ob m ob a s B)
  ·rw[h.len]at s
   simp at s;subst s;exact G
end
inductive Res(α:Type) where
 | ok (a:α) (S:Sto) | err (c:Ab) (S:Sto) | bad
noncomputable def Res.bind{l β:Type}(r:Res l)(f:l->Sto->Res β):Res β:=match r with
 | .ok a S=>f a S
 | .err c S=>.err c S
 | .bad=>.bad
noncomputable abbrev Lo:=List (Option D)
noncomputable abbrev ME:=Lo->Sto->Res D
noncomputable abbrev MT:=Lo->Sto->Res Bool
noncomputable abbrev ML:=Lo->Sto->Res (List D)
inductive Fl where
 | nx (e:Lo) | rt (d:D) | bk (e:Lo) | ct (e:Lo) | ex (c:Ab) (e:Lo)
noncomputable abbrev MS:=Lo->Sto->Res Fl
noncomputable abbrev MG:=D->Lo->Sto->Res Lo
noncomputable abbrev RX:=Sto->Option (List D)
noncomputable abbrev MI:=Lo->Sto->Res RX
structure Gz(K:AI)(ρ:List Ab)(H:Hp)(e:Lo)(σ:St):Prop where
 len:e.length=σ.length
 at':∀(i:Nat) d,e[i]?=some (some d)->∃v,σ[i]?=some (some v)/\CM K ρ H d v
section
variable{K:AI}{ρ ρ':List Ab}{H H':Hp}{e:Lo}{σ:St}
theorem Gz.mono(l:Le K ρ H ρ' H')(h:Gz K ρ H e σ):Gz K ρ' H' e σ:=⟨h.len,λi d q=>by
 obtain⟨v,m,o⟩:=h.at' i d q
 exact⟨v,m,o.mono l⟩⟩
theorem Gz.set(h:Gz K ρ H e σ)(r:CM K ρ H d v)(i:Nat):Gz K ρ H (e.set i (some d)) (σ.set i (some v)):=by
 refine⟨by simp[h.len],λj o q=>?_⟩
 by_cases l:i=j
 ·subst l
  have m:i < e.length:=by
   have:=(AE.mp q).1;simpa using this
  rw[As m]at q;cases q;exact⟨v,by rw[As (by rw[<-h.len];exact m)],r⟩
 ·rw[Ae l]at q ⊢
  exact h.at' j o q
end
noncomputable abbrev EW:=Ab->St->Hp->Prop
noncomputable abbrev EH:=Ab->Hp->Prop
noncomputable abbrev noE:EW:=λ_ _ _=>False
noncomputable abbrev noH:EH:=λ_ _=>False
noncomputable def Cj{o:Type}(K:AI)(E:EH)(ρ:List Ab)(H:Hp)(r:Res o)(k:o->Sto->Prop):Prop:=match r with
 | .ok a S=>k a S
 | .err c S=>∀l m,Le K ρ H l m->Ch K l S m->E c m
 | .bad=>False
section
variable{K:AI}{E:EH}{ρ ρ1:List Ab}{H H1:Hp}
theorem Cj.seq(h:Cj K E ρ H (r.bind F) k)(f:∀a S,Cj K E ρ H (F a S) k->k' a S):Cj K E ρ H r k':=by
 cases r with
 | ok a S=>exact f a S h
 | err c S=>exact h
 | bad=>exact h
theorem Cj.later(h:Cj K E ρ H r k)(l:Le K ρ H ρ1 H1):Cj K E ρ1 H1 r k:=by
 cases r with
 | ok a S=>exact h
 | err c S=>exact λm o s=>h m o (l.trans s)
 | bad=>exact h
theorem Cj.imp(h:Cj K E ρ H r k)(f:∀a S,k a S->k' a S):Cj K E ρ H r k':=by
 cases r with
 | ok a S=>exact f a S h
 | err c S=>exact h
 | bad=>exact h
theorem Cj.go(h:Cj K E ρ H r k)(l:Le K ρ H ρ1 H1)(f:∀a S,k a S->k' a S):Cj K E ρ1 H1 r k':=(h.later l).imp f
end
noncomputable def okR{l:Type}:Res l->Res l
 | .ok a S=>.ok a S
 | _=>.bad
theorem Cj.okR{l:Type}{K:AI}{E:EH}{ρ:List Ab}{H:Hp}{r:Res l}{k:l->Sto->Prop}(h:Cj K E ρ H (L2.okR r) k):∃a S,r=.ok a S/\k a S:=by
 cases r with
 | ok a S=>exact⟨a,S,rfl,h⟩
 | err c S=>exact h.elim
 | bad=>exact h.elim
section
variable(K:AI)(E:EW)
noncomputable def gE(m:ME):TE:=λA H Q=>∃o e S,Gz K o H e A/\Ch K o S H/\Cj K (λc=>E c A) o H (m e S) λd B=>∀l s x,Le K o H l s->Ch K l B s->CM K l s d x->Q x s
noncomputable def gT(m:MT):TT:=λA H Q=>∃o e S,Gz K o H e A/\Ch K o S H/\Cj K (λc=>E c A) o H (m e S) λb B=>∀l s,Le K o H l s->Ch K l B s->Q b s
noncomputable def gA(m:ML):TA:=λA H Q=>∃o e S,Gz K o H e A/\Ch K o S H/\Cj K (λc=>E c A) o H (m e S) λC G=>∀l s B,Le K o H l s->Ch K l G s->A9 K l s C B->Q B s
noncomputable def gL(m:ML):TE:=λA H Q=>∃s e S,Gz K s H e A/\Ch K s S H/\Cj K (λc=>E c A) s H (m e S) λC G=>∀l o p B,Le K s H l o->Ch K l G o->A9 K l o C B->o p=some (.lst B)->(∀n:Nat,l[n]?≠some p)->H p=none->Q (.ref p) o
noncomputable def gQ(m:ML):TE:=λB H Q=>∃s e S,Gz K s H e B/\Ch K s S H/\Cj K (λc=>E c B) s H (m e S) λC G=>∀l o p A,Le K s H l o->Ch K l G o->A9 K l o C A->(SqL K o p A∨SqT K o p A)->Q (.ref p) o
noncomputable def SV(K:AI)(E:EW)(ρ:List Ab)(H:Hp)(A:Sto)(D:fg):Fl->Prop
 | .ex c s=>∀l m o,Le K ρ H l m->Ch K l A m->Gz K l m s o->E c o m
 | .nx s=>∀l m o,Le K ρ H l m->Ch K l A m->Gz K l m s o->D.nx o m
 | .bk s=>∀l m o,Le K ρ H l m->Ch K l A m->Gz K l m s o->D.bk o m
 | .ct s=>∀l m o,Le K ρ H l m->Ch K l A m->Gz K l m s o->D.ct o m
 | .rt d=>∀l m x,Le K ρ H l m->Ch K l A m->CM K l m d x->D.rt x m
noncomputable def gS(m:MS):TS:=λD o H=>∃l e S,Gz K l H e o/\Ch K l S H/\Cj K noH l H (m e S) λs A=>SV K E l H A D s
noncomputable def gG(m:MG):TG:=λv B H Q=>∃o e S d,CM K o H d v/\Gz K o H e B/\Ch K o S H/\Cj K noH o H (m d e S) λC G=>∀l A s,Le K o H l A->Ch K l G A->Gz K l A C s->Q s A
noncomputable def PP(o:List Ab)(B:Hp)(J:It)(v:RX):Prop:=∀s H S A (i:Nat),Le K o B s H->Ch K s S H->v S=some A ->
 (A[i]?=none->J.stop i H)/\∀d,A[i]?=some d->J.go i H/\∀x m,J.yld i H x m->∃l,Le K s H l m/\Ch K l S m/\CM K l m d x
noncomputable def gI(m:MI):TI:=λA H R=>∃o e S,Gz K o H e A/\Ch K o S H/\Cj K (λc=>E c A) o H (m e S) λv B=>∀l s J,Le K o H l s->Ch K l B s->PP K l s J v->R J s
end
noncomputable abbrev GE(X:Cx)(E:EW)(e:Expr)(m:ME):Prop:=PE X e (gE X.K E m)
noncomputable abbrev GT(X:Cx)(E:EW)(e:Expr)(m:MT):Prop:=PT X e (gT X.K E m)
noncomputable abbrev GA(X:Cx)(E:EW)(es:List Expr)(m:ML):Prop:=PA X es (gA X.K E m)
noncomputable abbrev GL(X:Cx)(E:EW)(e:Expr)(m:ML):Prop:=PE X e (gL X.K E m)
noncomputable abbrev GQ(X:Cx)(E:EW)(e:Expr)(m:ML):Prop:=PE X e (gQ X.K E m)
noncomputable abbrev GS(X:Cx)(E:EW)(s:DB)(m:MS):Prop:=PS X s (gS X.K E m)
noncomputable abbrev GSs(X:Cx)(E:EW)(s:List DB)(m:MS):Prop:=PSs X s (gS X.K E m)
noncomputable abbrev GG(X:Cx)(t:Expr)(m:MG):Prop:=PG X t (gG X.K m)
noncomputable abbrev GI(X:Cx)(E:EW)(tg t:Expr)(m:MI):Prop:=PI X tg t (gI X.K E m)
theorem PE.imp(h:PE X e t)(i:∀l H Q,t' l H Q->t l H Q):PE X e t':=λm s l H Q I q=>h m s l H Q I (i l H Q q)
theorem PT.imp(h:PT X e t)(i:∀l H Q,t' l H Q->t l H Q):PT X e t':=λm s l H Q I q=>h m s l H Q I (i l H Q q)
theorem PW.imp(h:PW X e t)(i:∀l H Q,t' l H Q->t l H Q):PW X e t':=λm o s l H Q I q=>h m o s l H Q I (i l H Q q)
theorem PA.imp(h:PA X e t)(i:∀l H Q,t' l H Q->t l H Q):PA X e t':=λpos m s l H Q I q=>h pos m s l H Q I (i l H Q q)
theorem PS.imp(h:PS X e t)(i:∀D l H,t' D l H->t D l H):PS X e t':=λm s l H D I q=>h m s l H D I (i D l H q)
theorem PSs.imp(h:PSs X e t)(i:∀D l H,t' D l H->t D l H):PSs X e t':=λm s l H D I q=>h m s l H D I (i D l H q)
theorem PG.imp(h:PG X e t)(i:∀v l H Q,t' v l H Q->t v l H Q):PG X e t':=λm s l H v u Q I r q=>h m s l H v u Q I r (i v l H Q q)
theorem PI.imp(h:PI X tg e t)(i:∀l H R,t' l H R->t l H R):PI X tg e t':=λm s l H R I q=>h m s l H R I (i l H R q)
theorem OpR.imp(h:OpR X f r)(i:∀x y H Q,r' x y H Q->r x y H Q):OpR X f r':=λl s m H x y v u Q I o A q=>h l s m H x y v u Q I o A (i x y H Q q)
theorem IxR.imp(h:IxR X r)(i:∀x y H Q,r' x y H Q->r x y H Q):IxR X r':=λl sl m s o H x y v u Q I A B q=>h l sl m s o H x y v u Q I A B (i x y H Q q)
noncomputable def AD(i:Nat):ME:=λe S=>match e[i]? with
 | some (some d)=>.ok d S
 | _=>.bad
noncomputable def mC(d:D):ME:=λ_ S=>.ok d S
section
variable{X:Cx}{E:EW}{e a b:Expr}{pos:Pos}{ma mb:ME}
theorem AA(h:PE X e (qw i)):GE X E e (AD i):=h.imp<|by
 rintro G H Q ⟨o,l,S,s,A,m⟩
 unfold AD at m;split at m
 ·rename_i I hd
  obtain⟨v,B,C⟩:=s.at' i _ hd;exact⟨v,B,m o H v .refl A C⟩
 ·exact m.elim
theorem jo(h:PE X e (tC v))(hd:∀ρ H,CM X.K ρ H d v):GE X E e (mC d):=h.imp<|by
 rintro s H Q ⟨ρ,l,S,A,m,o⟩
 exact o ρ H v .refl m (hd _ _)
theorem ge_int{i j pos}:GE X E (.Constant (.int i) j pos) (mC (.int i)):=jo sC λ_ _=>.int i
theorem KD{b j pos}:GE X E (.Constant (.bool b) j pos) (mC (.bl b)):=jo wA λ_ _=>.bl b
theorem Nr{j pos}:GE X E (.Constant .none j pos) (mC .non):=jo sA λ_ _=>.non
theorem Uq{x j pos}:GE X E (.Constant (.str x) j pos) (mC (.str x)):=jo rp λ_ _=>.str x
theorem QQ(l:Gl X x)(m:X.mg x=some (.int i o))(hd:(x==("__debug__" : Str))=false:=by decide):GE X E (.Name x pos) (mC (.int i)):=
 jo (mr (v:=.int i) l m ⟨o,rfl⟩ hd) λ_ _=>.int i
noncomputable def m2(f:D->D->Sto->Res D)(ma mb:ME):ME:=λe S=>(ma e S).bind λx l=>(mb e l).bind λy m=>okR (f x y m)
noncomputable def rD(K:AI)(f:D->D->Sto->Res D):R2:=λu v H Q=>∃m S x y d s,Ch K m S H/\CM K m H x u/\CM K m H y v/\f x y S=.ok d s /\
 ∀l o z,Le K m H l o->Ch K l s o->CM K l o d z->Q z o
theorem Ou{K:AI}{f:D->D->Sto->Res D}{C:St}{H:Hp}{Q:VK}(h:gE K E (m2 f ma mb) C H Q):tOp (rD K f) (gE K E ma) (gE K E mb) C H Q:=by
 obtain⟨J,l,S,G,L,m⟩:=h;refine⟨J,l,S,G,L,m.seq λx N m o H1 u s O P=>⟨o,l,N,G.mono s,O,(m.later s).seq λy R m A H2 v I T U=>?_⟩⟩;obtain⟨d,Y,e,k⟩:=m.okR;exact⟨A,R,x,y,d,Y,T,P.mono I,U,e,λB Z z l' s' r'=>k B Z z (s.trans (I.trans l')) s' r'⟩
theorem BO(ho:OpR X (Dc op) (rD X.K f))(l:GE X E a ma)(hb:GE X E b mb):GE X E (.BinOp a op b pos) (m2 f ma mb):=(vz ho l hb).imp λ_ _ _ h=>Ou h
theorem RL(ho:OpR X (B2 op) (rD X.K f))(l:GE X E a ma)(hb:GE X E b mb)(m:Cz op b=false):GE X E (.Compare a [op] [b] pos) (m2 f ma mb):=(m6 ho l hb m).imp λ_ _ _ h=>Ou h
theorem w9(ho:IxR X (rD X.K f))(l:GE X E a ma)(hb:GE X E b mb)(m:Xq b:=by intro _ _;rfl):GE X E (.Subscript a b pos) (m2 f ma mb):=(v6 ho l hb m).imp λ_ _ _ h=>Ou h
noncomputable def mB(m:ME):MT:=λe S=>(m e S).bind λd l=>match d with
 | .bl b=>.ok b l
 | _=>.bad
noncomputable def Rq(d:D)(S:Sto):Option Bool:=match d with
 | .non=>some false
 | .bl b=>some b
 | .int i=>some (i != 0)
 | .tup l=>some (!l.isEmpty)
 | .fro l=>some (!l.isEmpty)
 | .ref n=>match S[n]? with
  | some (.lst l)=>some (!l.isEmpty)
  | some (.dK m)=>some (!m.isEmpty)
  | _=>none
 | _=>none
noncomputable def FM(m:ME):MT:=λe S=>(m e S).bind λd l=>match Rq d l with
 | some b=>.ok b l
 | none=>.bad
theorem A9.empty{K}{ρ}{H}{ds}{vs}(h:A9 K ρ H ds vs):ds.isEmpty=vs.isEmpty:=by cases h <;> rfl
theorem KVR.empty{l:Type}{K:AI}{ρ:List Ab}{H:Hp}{x:List (l×D)}{y:List (l×V)}(h:KVR K ρ H x y):x.isEmpty=y.isEmpty:=by cases h <;> rfl
theorem lZ{K:AI}{ρ:List Ab}{H:Hp}{S:Sto}{d:D}{x:V}{b:Bool}(B:Ch K ρ S H)(r:CM K ρ H d x)(h:Rq d S=some b):uQ K x H b:=by
 cases r with
 | non=>cases h;rfl
 | bl c=>cases h;rfl
 | int i=>cases h;rfl
 | str x=>cases h
 | tup l m=>cases h;rw[m.empty];exact .inr (.inl ⟨_,.inl (.inl l),rfl⟩)
 | fro l m=>cases h;rw[m.empty];exact .inl ⟨_,l.sq,rfl⟩
 | exc _ _=>cases h
 | @ref n a G=>
  obtain⟨o,I,A⟩:=B.there G;unfold Rq at h;simp only[I]at h
  cases o with
  | lst N=>cases h;obtain⟨J,e,s⟩:=A;rw[s.empty];exact .inl ⟨_,.inl (.inl e),rfl⟩
  | dK L=>cases h;obtain⟨J,e,s⟩:=A;rw[KVR.empty s];exact .inr (.inr ⟨_,e,rfl⟩)
  | dT L=>cases h
  | ins C fs=>cases h
  | fK _=>cases h
  | fT _=>cases h
  | mem _=>cases h
theorem E4(h:GE X E e ma)(B:∀m,qJ e X.env m=(do let v <-m;uW e.pos;RY [v] (truthy v)):=by intro _;rfl):GT X E e (FM ma):=(ie h B).imp<|by
 rintro P H Q ⟨C,l,S,G,I,o⟩
 refine⟨C,l,S,G,I,o.seq λd J o s L x N A O=>?_⟩
 cases hb:Rq d J with
 | none=>rw[hb]at o;exact o.elim
 | some c=>
  rw[hb]at o;exact⟨c,lZ A O hb,o s L N A⟩
theorem EO{op}{f}(ho:OpR X (B2 op) (rD X.K f))(s:GE X E a ma)(hb:GE X E b mb)(m:Cz op b=false):GT X E (.Compare a [op] [b] pos) (mB (m2 f ma mb)):=(mO ho s hb m).imp<|by
 rintro O H Q ⟨A,l,S,B,C,m⟩
 refine Ou (Q:=λx G=>∃k,x=.bl k/\Q k G) ⟨A,l,S,B,C,m.seq λd P m o I x J L N=>?_⟩
 cases d <;> first | exact m.elim | skip
 cases N;exact⟨_,rfl,m o I J L⟩
noncomputable def SR(m:MT):MT:=λe S=>(m e S).bind λb l=>.ok (!b) l
noncomputable def Ud(ma mb:MT):MT:=λe S=>(ma e S).bind λb l=>if b=true then mb e l else .ok false l
noncomputable def mOr(ma mb:MT):MT:=λe S=>(ma e S).bind λb l=>if b=true then .ok true l else mb e l
variable{ta tb:MT}{rest:List Expr}
theorem Um(h:GT X E a ta):GT X E (.UnaryOp .Not a pos) (SR ta):=(rX h).imp<|by
 rintro J H Q ⟨s,l,S,A,B,m⟩
 exact⟨s,l,S,A,B,m.seq λd L m o C G I=>m o C G I⟩
theorem lj{K}{B}{H}{Q}(h:gT K E (Ud ta tb) B H Q):vZ (gT K E ta) (gT K E tb) B H Q:=by
 obtain⟨I,l,S,C,J,m⟩:=h;refine⟨I,l,S,C,J,m.seq λc L m o N s G=>?_⟩
 cases c with
 | true=>rw[qX rfl]at m ⊢;exact⟨o,l,L,C.mono s,G,m.go s λ_ _ k A O P R=>k A O (s.trans P) R⟩
 | false=>rw[qY AN]at m ⊢;exact m o N s G
theorem qy{K}{B}{H}{Q}(h:gT K E (mOr ta tb) B H Q):tOr (gT K E ta) (gT K E tb) B H Q:=by
 obtain⟨I,l,S,C,J,m⟩:=h;refine⟨I,l,S,C,J,m.seq λc L m o N s G=>?_⟩
 cases c with
 | false=>rw[qY AN]at m ⊢;exact⟨o,l,L,C.mono s,G,m.go s λ_ _ k A O P R=>k A O (s.trans P) R⟩
 | true=>rw[qX rfl]at m ⊢;exact m o N s G
noncomputable abbrev GW(X:Cx)(E:EW)(e:Expr)(m:MT):Prop:=PW X e (gT X.K E m)
theorem cY(l:GT X E a ta):GW X E (.BoolOp .And [a] pos) ta:=mN l
theorem tP(l:GT X E a ta):GW X E (.BoolOp .Or [a] pos) ta:=rT l
theorem jj(l:GT X E a ta)(hb:GW X E (.BoolOp .And (b :: rest) pos) tb):GW X E (.BoolOp .And (a :: b :: rest) pos) (Ud ta tb):=(rW l hb).imp λ_ _ _ h=>lj h
theorem ww(l:GT X E a ta)(hb:GW X E (.BoolOp .Or (b :: rest) pos) tb):GW X E (.BoolOp .Or (a :: b :: rest) pos) (mOr ta tb):=(vt l hb).imp λ_ _ _ h=>qy h
theorem tQ(h:GW X E e t):GT X E e t:=PW.pt h
noncomputable def Y0(ma mb:ME):ME:=λe S=>(ma e S).bind λd l=>match d with
 | .bl true=>mb e l
 | .bl false=>.ok (.bl false) l
 | _=>.bad
theorem tj{op}(h:GE X E a ma):GE X E (.BoolOp op [a] pos) ma:=rq h
theorem tt(G:GE X E a ma)(hb:GE X E (.BoolOp .And (b :: rest) pos) mb):GE X E (.BoolOp .And (a :: b :: rest) pos) (Y0 ma mb):=(sH G hb).imp<|by
 rintro Y H Q ⟨I,l,S,B,J,m⟩
 refine⟨I,l,S,B,J,m.seq λc L m o N x s C O=>?_⟩
 cases c with
 | bl c=>
  cases O;refine⟨c,rfl,?_⟩
  cases c with
  | true=>rw[qX rfl];exact⟨o,l,L,B.mono s,C,m.go s λ_ _ k A P z R T U=>k A P z (s.trans R) T U⟩
  | false=>rw[qY AN];exact m o N _ s C (.bl false)
 | _=>exact m.elim
noncomputable def Yz(t:MT)(ma mb:ME):ME:=λe S=>(t e S).bind λb l=>if b=true then ma e l else mb e l
theorem Us(O:GT X E c ta)(P:GE X E a ma)(hb:GE X E b mb):GE X E (.IfExp c a b pos) (Yz ta ma mb):=(iy O P hb).imp<|by
 rintro U H Q ⟨R,l,S,B,T,o⟩
 refine⟨R,l,S,B,T,o.seq λc L o A Y s N=>?_⟩
 cases c with
 | true=>rw[qX rfl]at o ⊢;exact⟨A,l,L,B.mono s,N,o.go s λ_ _ k m C z G I J=>k m C z (s.trans G) I J⟩
 | false=>rw[qY AN]at o ⊢;exact⟨A,l,L,B.mono s,N,o.go s λ_ _ k m C z G I J=>k m C z (s.trans G) I J⟩
noncomputable def m3(f g:D->D->Sto->Res D)(ma mb m:ME):ME:=λe S=>(ma e S).bind λx o=>(mb e o).bind λy s=>(okR (f x y s)).bind λz l=>match z with
 | .bl true=>(m e l).bind λw A=>okR (g y w A)
 | .bl false=>.ok (.bl false) l
 | _=>.bad
noncomputable def Ay:ML:=λ_ S=>.ok [] S
noncomputable def AH(m:ME)(r:ML):ML:=λe S=>(m e S).bind λd l=>(r e l).bind λo s=>.ok (d :: o) s
variable{es:List Expr}{ml:ML}
theorem Ak:GA X E [] Ay:=LH.imp<|by
 rintro A H Q ⟨m,l,S,B,o,s⟩
 exact s m H [] .refl o .nil
theorem AF(I:GE X E e ma)(J:GA X E es ml)(o:Aa (e :: es) X.env=(false,CF e X.env) :: Aa es X.env:=by rfl):GA X E (e :: es) (AH ma ml):=(Hd I J o).imp<|by
 rintro Z H Q ⟨L,l,S,C,o,m⟩
 exact⟨L,l,S,C,o,m.seq λd N m s H1 x A O P=>⟨s,l,N,C.mono A,O,(m.later A).seq λyQ S2 m B R T G U Y=>m B R (x :: T) (A.trans G) U (.cons (P.mono G) Y)⟩⟩
noncomputable def Gu(m:ML):ME:=λe S=>(m e S).bind λl o=>if l.length<=sizeLine then .ok (.tup l) o else .bad
theorem HN{K}{ρ}{H}{S}{p}{ho}(l:Ch K ρ S H)(m:H p=none):Ch K ρ S (upd H p ho)/\Le K ρ H ρ (upd H p ho):=by
 have le:Le K ρ H ρ (upd H p ho):=Le.fresh m;refine⟨⟨l.len,l.nd,λn o a A s=>(l.ob n o a A s).mono le (Bv λz=>?_)⟩,le⟩;subst z;exact l.notIn m s
theorem G3{B}(h:GA X E es ml):GE X E (.Tuple es B pos) (Gu ml):=(rn h).imp<|by
 rintro T H Q ⟨C,l,S,G,I,m⟩
 refine⟨C,l,S,G,I,m.seq λU Y m o Z J L N s=>?_⟩;split at m
 ·rename_i O
  refine⟨by rw[<-s.length];exact O,λp P=>?_⟩;obtain⟨R,A⟩:=HN (ho:=.tup J) N P;exact m o _ _ (L.trans A) R (.tup CB (s.mono A))
 ·exact m.elim
noncomputable def D5(m:ML):ML:=λe S=>(m e S).bind λl o=>if l.length<=sizeLine then .ok l o else .bad
theorem KA(h:GA X E es ml):GL X E (.List es pos) (D5 ml):=(sB h).imp<|by
 rintro R H Q ⟨L,l,S,N,B,m⟩
 refine⟨L,l,S,N,B,m.seq λT U m o Y C G s I=>?_⟩;split at m
 ·rename_i O
  refine⟨by rw[<-I.length];exact O,λp A=>?_⟩;obtain⟨P,J⟩:=HN (ho:=.lst C) s A;exact m o _ p C (G.trans J) P (I.mono J) CB (λn q=>s.notIn A q) (G.back B s A)
 ·exact m.elim
noncomputable def Er(m:ML):ME:=λe S=>(m e S).bind λo l=>.ok (.ref l.length) (l++[.lst o])
theorem D6(h:GL X E e ml):GE X E e (Er ml):=PE.imp h<|by
 rintro Z H Q ⟨I,l,S,J,L,A⟩
 refine⟨I,l,S,J,L,A.seq λN S1 A m H1 p O s P R T U B=>?_⟩
 have G:∀(n:Nat) a,m[n]?=some a->(m++[p])[n]?=some a:=λn a h=>by rw[Av (AE.mp h).1];exact h
 obtain⟨Y,C⟩:=P.adopt (o:=.lst N) U ⟨O,T,R.more G⟩;refine A _ _ _ ⟨λn a h=>G n a (s.pre n a h),s.tup,s.frz,λa o e h=>⟨(s.oth a o e h).1,λn q=>?_⟩⟩ Y (.ref C)
 rcases KB q with⟨q,_⟩ | ⟨_,q⟩
 ·exact(s.oth a o e h).2 n q
 ·exact Cy e B q
noncomputable def HQ(d:D)(S:Sto):Option (List D):=match d with
 | .tup l=>some l
 | .fro l=>some l
 | .ref n=>match S[n]? with
  | some (.lst l)=>some l
  | _=>none
 | _=>none
noncomputable def si(m:ME):ML:=λe S=>(m e S).bind λd l=>match HQ d l with
 | some o=>.ok o l
 | none=>.bad
theorem Sq{K}{ρ}{H}{S}{d}{x}{ds}(s:Ch K ρ S H)(r:CM K ρ H d x)(h:HQ d S=some ds):∃p xs,x=.ref p/\A9 K ρ H ds xs/\(SqL K H p xs∨SqT K H p xs):=by
 cases r with
 | tup l m=>cases h;exact⟨_,_,rfl,m,.inr (.inl (.inl l))⟩
 | fro l m=>cases h;exact⟨_,_,rfl,m,.inl l.sq⟩
 | @ref n a A=>
  obtain⟨o,B,C⟩:=s.there A;unfold HQ at h;simp only[B]at h
  cases o with
  | lst es=>cases h;obtain⟨I,e,G⟩:=C;exact⟨_,_,rfl,G,.inl (.inl (.inl e))⟩
  | _=>cases h
 | _=>cases h
theorem w8(h:GE X E e ma):GQ X E e (si ma):=PE.imp h<|by
 rintro R H Q ⟨B,l,S,C,G,m⟩
 refine⟨B,l,S,C,G,m.seq λx I m o J v L A N=>?_⟩
 cases s:HQ x I with
 | none=>rw[s]at m;exact m.elim
 | some T=>
  rw[s]at m;obtain⟨p,O,rfl,P,sq⟩:=Sq A N s;exact m o J p O L A P sq
end
noncomputable def Res.lift{l:Type}(r:Res l)(e:Lo)(f:l->Sto->Res Fl):Res Fl:=match r with
 | .ok a S=>f a S
 | .err c S=>.ok (.ex c e) S
 | .bad=>.bad
theorem Cj.lift{s:Type}{K:AI}{E:EW}{ρ m:List Ab}{H o:Hp}{A:St}{e:Lo}{D:fg}{r:Res s}{F:s->Sto->Res Fl}{k':s->Sto->Prop}(h:Cj K noH m o (r.lift e F) λB C=>SV K E ρ H C D B)(J:Gz K m o e A)(l:Le K ρ H m o)
  (f:∀a S,(Cj K noH m o (F a S) λB C=>SV K E ρ H C D B)->k' a S):Cj K (λc=>E c A) m o r k':=by
 cases r with
 | ok a S=>exact f a S h
 | err c S=>exact λG L I N=>h G L A (l.trans I) N (J.mono I)
 | bad=>exact h
noncomputable def sNx:MS:=λe S=>.ok (.nx e) S
noncomputable def Q6:MS:=λ_ _=>.bad
noncomputable def BH(a b:MS):MS:=λe S=>(a e S).bind λf l=>match f with
 | .nx m=>b m l
 | f=>.ok f l
noncomputable def FD(m:ME):MS:=λe S=>(m e S).lift e λ_ l=>.ok (.nx e) l
noncomputable def Cu(m:ME):MS:=λe S=>(m e S).lift e λd l=>.ok (.rt d) l
noncomputable def sIf(t:MT)(a b:MS):MS:=λe S=>(t e S).lift e λc l=>if c=true then a e l else b e l
noncomputable def dz(m:ME)(g:MG):MS:=λe S=>(m e S).lift e λd l=>(g d e l).bind λo s=>.ok (.nx o) s
noncomputable def tgN(i:Nat):MG:=λd e S=>.ok (e.set i (some d)) S
noncomputable def Cg(i:Nat)(m:ME):MS:=dz m (tgN i)
section
variable{X:Cx}{E:EW}{st:DB}{rest:List DB}{e:Expr}{pos:Pos}{a b:MS}{t:MT}
theorem SV.later{K}{ρ B}{H C}{S}{D}{f}(l:Le K ρ H B C)(h:SV K E ρ H S D f):SV K E B C S D f:=by
 cases f with
 | nx e=>exact λm s o A=>h m s o (l.trans A)
 | bk e=>exact λm s o A=>h m s o (l.trans A)
 | ct e=>exact λm s o A=>h m s o (l.trans A)
 | ex c e=>exact λm s o A=>h m s o (l.trans A)
 | rt d=>exact λm s x A=>h m s x (l.trans A)
theorem CH:GSs X E [] sNx:=mR.imp<|by
 rintro D m H ⟨o,l,S,s,A,B⟩
 exact B o H m .refl A s
theorem AU(A:GS X E st a)(B:GSs X E rest b):GSs X E (st :: rest) (BH a b):=(ij A B).imp<|by
 rintro D Q H ⟨C,l,S,G,I,m⟩
 refine⟨C,l,S,G,I,m.seq λg J m=>?_⟩
 cases g with
 | nx L=>exact λo R N s O P=>⟨o,L,J,P,O,m.go s λ_ _ k=>k.later s⟩
 | rt d=>exact m
 | bk d=>exact m
 | ct d=>exact m
 | ex c d=>exact m
theorem AY(l:GS X E st a):GSs X E [st] a:=mP l
theorem Hn:GS X E st Q6:=(im (X:=X) (st:=st)).imp λD o H ⟨s,l,S,A,B,m⟩=>m.elim
theorem GV(G:GE X E e m)(o:HB e none pos.line X.env=pure false:=by rfl):GS X E (.Expr e pos) (FD m):=(mS G o).imp<|by
 rintro D I H ⟨J,l,S,s,o,A⟩
 exact⟨J,l,S,s,o,A.lift s .refl λd O A B L x C N P=>A B L I C N (s.mono C)⟩
theorem Bg(B:GE X E e m):GS X E (.Return (some e) pos) (Cu m):=(rZ B).imp<|by
 rintro D O H ⟨C,l,S,A,G,o⟩
 exact⟨C,l,S,A,G,o.lift A .refl λd P o s I x J L N=>o s I x J L N⟩
theorem D4{c}{sa B}(I:GT X E c t)(J:GSs X E sa a)(hb:GSs X E B b):GS X E (.If c sa B pos) (sIf t a b):=(vw I J hb).imp<|by
 rintro D O H ⟨L,l,S,A,N,m⟩
 refine⟨L,l,S,A,N,m.lift A .refl λc C m s P o G=>?_⟩
 cases c with
 | true=>rw[qX rfl]at m ⊢;exact⟨s,l,C,A.mono o,G,m.go o λ_ _ k=>k.later o⟩
 | false=>rw[qY AN]at m ⊢;exact⟨s,l,C,A.mono o,G,m.go o λ_ _ k=>k.later o⟩
theorem ny(h:PG X tg (ca i)):GG X tg (tgN i):=h.imp<|by
 rintro v B H Q ⟨m,l,S,d,hd,o,s,A⟩
 exact A m H _ .refl s (o.set hd i)
theorem tV{tg:Expr}{g:MG}(J:GE X E e m)(L:GG X tg g)(s:swapsWithSole [tg] e pos.line X.env=pure false:=by rfl)(hw:swappedStores [tg] e X.env=pure none:=by rfl)
  (N:(Fo [tg] X.env).map (·.2)=[TM tg X.env]:=by rfl):GS X E (.Assign [tg] e pos) (dz m g):=(rh J L s hw N).imp<|by
 rintro D σ H ⟨O,l,S,A,s,o⟩
 exact⟨O,l,S,A,s,o.lift A .refl λd P o B H1 x C Q R=>⟨B,l,P,d,R,A.mono C,Q,(o.later C).seq λe1 S2 o G T I U Y Z=>o G T I (C.trans U) Y Z⟩⟩
theorem tT{i}{x}{o}(hN:X.N.Nodup)(hi:X.N[i]?=some x)(I:Loc X.env.scope x)(J:GE X E e m)(s:HB e (some (.Name x o)) pos.line X.env=pure false:=by rfl)
  (L:X.fn x=true∨X.env.scope.names.lookup x=some .local:=by first | exact .inl rfl | exact .inr rfl | assumption):GS X E (.Assign [.Name x o] e pos) (Cg i m):=(rY hN hi I J s L).imp<|by
 rintro D T H ⟨O,l,S,A,s,B⟩
 exact⟨O,l,S,A,s,B.lift A .refl λd U B C P x G Q R=>B C P _ G Q ((A.mono G).set R i)⟩
noncomputable def NO(v:RX)(g:MG)(b:MS):Nat->Nat->Lo->Sto->Res Fl
 | k,i,e,S=>match v S with
  | none=>.bad
  | some o=>match o[i]? with
   | none=>.ok (.nx e) S
   | some d=>match k with
    | 0=>.bad
    | k+1=>(g d e S).bind λs A=>(b s A).bind λf m=>match f with
     | .nx l=>NO v g b k (i+1) l m
     | .ct l=>NO v g b k (i+1) l m
     | .bk l=>.ok (.nx l) m
     | .rt d=>.ok (.rt d) m
     | .ex c l=>.ok (.ex c l) m
noncomputable def EE(v:RX)(S:Sto):Nat:=match v S with
 | none=>0
 | some l=>l.length
noncomputable def Ee(m:MI)(g:MG)(b:MS):MS:=λe S=>(m e S).lift e λv l=>NO v g b (EE v l) 0 e l
theorem Ca{tg iter}{body}{mi}{g}(hp:Wo (Aw X.prog X.w) X.A X.env X.xe)(hc:X.calm=true)(hi:GI X E tg iter mi)(hg:GG X tg g)(hb:GSs X E body b)
  (hs:∀x,Gi iter X.env x=pure x:=by intro _;rfl):GS X E (.For tg iter body [] pos) (Ee mi g b):=(rc hp hc hi hg hb hs).imp<|by
 rintro D σ H ⟨ρ,l,S,hl,hs,hm⟩
 refine⟨ρ,l,S,hl,hs,hm.lift hl .refl λv S1 hm N H1 J Z s1 vo=>?_⟩;refine⟨λi n O P=>∃m Q G,Le X.K N H1 m P/\Gz X.K m P Q O/\Ch X.K m G P/\Cj X.K noH m P (NO v g b n i Q G) λfl S'=>SV X.K E ρ H S' D fl,⟨EE v S1,N,l,S1,.refl,hl.mono Z,s1,hm.later Z⟩,?_⟩;rintro i n O P ⟨m,Q,G,R,r2,s2,o⟩;unfold NO at o
 cases hv:v G with
 | none=>rw[hv]at o;exact o.elim
 | some ds=>
  rw[hv]at o;dsimp only at o;obtain⟨v1,v2⟩:=vo m P G ds i R s2 hv
  cases hd:ds[i]? with
  | none=>
   rw[hd]at o;exact .inl ⟨v1 hd,o m P O (Z.trans R) s2 r2⟩
  | some d=>
   rw[hd]at o;dsimp only at o;obtain⟨go,yl⟩:=v2 d hd
   cases n with
   | zero=>exact o.elim
   | succ n=>
    dsimp only at o;refine .inr ⟨go,λσ' T=>∃m Q G,Le X.K N H1 m T/\Gz X.K m T Q σ'/\Ch X.K m G T/\Cj X.K noH m T (NO v g b n (i+1) Q G) λfl S'=>SV X.K E ρ H S' D fl,λσ' T q=>⟨n,Dw n,q⟩,λx T y=>?_⟩;obtain⟨ρ3,U,s3,rd⟩:=yl x T y;refine⟨ρ3,Q,G,d,rd,r2.mono U,s3,(o.later U).seq λe3 S3 o ρ4 H4 σ4 l4 s4 r4=>?_⟩;refine⟨ρ4,e3,S3,r4,s4,(o.later l4).seq λf4 S4 o=>?_⟩
    cases f4 with
    | nx e5=>exact λs Y B C I L=>⟨s,e5,S4,R.trans (U.trans (l4.trans C)),L,I,o.later C⟩
    | ct e5=>exact λs Y B C I L=>⟨s,e5,S4,R.trans (U.trans (l4.trans C)),L,I,o.later C⟩
    | bk e5=>exact λs Y B C I L=>o s Y B (Z.trans (R.trans (U.trans (l4.trans C)))) I L
    | ex c e5=>exact λs Y B C I L=>o s Y B (Z.trans (R.trans (U.trans (l4.trans C)))) I L
    | rt d5=>exact λs Y x5 C I L=>o s Y x5 (Z.trans (R.trans (U.trans (l4.trans C)))) I L
noncomputable def JQ(c:MT)(b:MS):Nat->MS
 | 0=>λ_ _=>.bad
 | n+1=>λe S=>(c e S).lift e λt o=>if t=true then(b e o).bind λf m=>match f with
   | .nx l=>JQ c b n l m
   | .ct l=>JQ c b n l m
   | .bk l=>.ok (.nx l) m
   | .rt d=>.ok (.rt d) m
   | .ex c l=>.ok (.ex c l) m
  else .ok (.nx e) o
theorem Y8{c}{body}(N:Nat)(hp:Wo (Aw X.prog X.w) X.A X.env X.xe)(hc:GT X E c t)(hb:GSs X E body b):GS X E (.While c body [] pos) (JQ t b N):=(ik hp hc hb).imp<|by
 rintro D σ H ⟨T,l,S,hl,hs,hm⟩
 refine⟨λn O U=>∃m L P,Le X.K T H m U/\Gz X.K m U L O/\Ch X.K m P U/\Cj X.K noH m U (JQ t b n L P) λfl S'=>SV X.K E T H S' D fl,⟨N,T,l,S,.refl,hl,hs,hm⟩,?_⟩;rintro n O U ⟨m,L,P,Q,r2,s2,s⟩
 cases n with
 | zero=>exact s.elim
 | succ n=>
  refine⟨m,L,P,r2,s2,s.lift r2 Q λtc S3 s Y H3 G s3=>?_⟩
  cases tc with
  | false=>rw[qY AN]at s ⊢;exact s Y H3 O (Q.trans G) s3 (r2.mono G)
  | true=>
   rw[qX rfl]at s ⊢;refine⟨λZ H'=>∃m L P,Le X.K T H m H'/\Gz X.K m H' L Z/\Ch X.K m P H'/\Cj X.K noH m H' (JQ t b n L P) λfl S'=>SV X.K E T H S' D fl,λZ H' q=>⟨n,Dw n,q⟩,?_⟩;refine⟨Y,L,S3,r2.mono G,s3,(s.later G).seq λf4 S4 s=>?_⟩
   cases f4 with
   | nx e5=>exact λo R B C I J=>⟨o,e5,S4,Q.trans (G.trans C),J,I,s.later C⟩
   | ct e5=>exact λo R B C I J=>⟨o,e5,S4,Q.trans (G.trans C),J,I,s.later C⟩
   | bk e5=>exact λo R B C I J=>s o R B (Q.trans (G.trans C)) I J
   | ex c e5=>exact λo R B C I J=>s o R B (Q.trans (G.trans C)) I J
   | rt d5=>exact λo R x5 C I J=>s o R x5 (Q.trans (G.trans C)) I J
end
section
variable{X:Cx}{E:EW}{tg e:Expr}{m:ME}{K:AI}
noncomputable def Ri(d:D):RX:=λS=>match d with
 | .ref n=>match S[n]? with
  | some (.lst l)=>some l
  | _=>none
 | .fro l=>some l
 | _=>none
noncomputable def FZ(ds:List D):RX:=λ_=>some ds
noncomputable def wl(m:ME):MI:=λe S=>(m e S).bind λd l=>match Ri d l with
 | some _=>.ok (Ri d) l
 | none=>.bad
noncomputable def p9(m:ME):MI:=λe S=>(m e S).bind λd l=>match d with
 | .tup o=>.ok (FZ o) l
 | _=>.bad
theorem Ti(s:Ch K ρ S H)(r:CM K ρ H d (.ref a))(l:Ri d S=some ds):∃xs,SqL K H a xs/\A9 K ρ H ds xs:=by
 cases r with
 | tup A B=>cases l
 | exc _ _=>cases l
 | fro A B=>cases l;exact⟨_,A.sq,B⟩
 | @ref n _ C=>
  obtain⟨o,G,I⟩:=s.there C;unfold Ri at l;simp only[G]at l
  cases o with
  | lst N=>
   cases l;obtain⟨J,e,L⟩:=I;exact⟨J,.inl (.inl e),L⟩
  | _=>cases l
theorem Td(r:CM K ρ H d (.ref a)):PP K ρ H (Itl K a) (Ri d):=by
 intro o N S O i l s G;obtain⟨A,sq,B⟩:=Ti s (r.mono l) G;refine⟨λI=>⟨A,sq,by rw[<-B.length];exact Go.mp I⟩,λd hd=>?_⟩;obtain⟨x,C,J⟩:=B.get hd;refine⟨⟨A,x,sq,C⟩,λy P ⟨e,L⟩=>?_⟩;subst e;have:=L A sq;rw[C]at this;cases this;exact⟨o,.refl,s,J⟩
theorem tY(h:GE X E e m):GI X E tg e (wl m):=(mZ h).imp<|by
 rintro Q H R ⟨G,l,S,I,J,o⟩
 refine⟨G,l,S,I,J,o.seq λd L o A N x O C B=>?_⟩
 cases s:Ri d L with
 | none=>rw[s]at o;exact o.elim
 | some T=>
  rw[s]at o
  have:∃a,x=.ref a:=by
   cases B <;> first | exact⟨_,rfl⟩ | (cases s;done)
  obtain⟨a,rfl⟩:=this;obtain⟨P,sq,_⟩:=Ti C B s;exact⟨a,rfl,⟨P,sq⟩,o A N _ O C (Td B)⟩
theorem TZ(C:H a=some (.tup xs))(G:A9 K ρ H ds xs):PP K ρ H (Itt K a) (FZ ds):=by
 intro o I S P i l s J;cases J;have A:=G.mono l;have sq:SqT K I a xs:=.inl (.inl (l.tup _ _ C));refine⟨λL=>⟨xs,sq,by rw[<-A.length];exact Go.mp L⟩,λd hd=>?_⟩;obtain⟨x,B,N⟩:=A.get hd;refine⟨⟨xs,x,sq,B⟩,λy Q ⟨e,O⟩=>?_⟩;subst e;have:=O xs sq;rw[B]at this;cases this;exact⟨o,.refl,s,N⟩
theorem tX(h:GE X E e m):GI X E tg e (p9 m):=(rk h).imp<|by
 rintro P H R ⟨B,l,S,C,G,o⟩
 refine⟨B,l,S,C,G,o.seq λd Q o s I x J L N=>?_⟩
 cases d <;> first | exact o.elim | skip
 cases N with
 | tup A O=>exact⟨_,rfl,⟨_,.inl (.inl A)⟩,o s I _ J L (TZ A O)⟩
noncomputable def Ez(lo:Int)(n:Nat):List D:=(BJ n).map λi:Nat=>D.int (lo+i)
theorem Q7(lo:Int)(n i:Nat):(Ez lo n)[i]?=if i < n then some (.int (lo+i))else none:=by
 unfold Ez;rw[Ad]
 by_cases h:i < n
 ·rw[CP h,qX h];rfl
 ·rw[qY h,Go.mpr (by simpa using h)];rfl
theorem Tb(lo:Int)(n:Nat):PP K ρ H (Itr lo n) (FZ (Ez lo n)):=by
 intro o G S I i l s B;cases B;rw[Q7];refine⟨λA=>?_,λd hd=>?_⟩
 ·split at A
  ·cases A
  ·rename_i h;exact TR h
 ·split at hd
  ·rename_i h
   cases hd;refine⟨h,λy J ⟨e,C⟩=>?_⟩;subst e;subst C;exact⟨o,.refl,s,.int _⟩
  ·cases hd
noncomputable def iR1(ml:ML):MI:=λe S=>(ml e S).bind λl o=>match l with
 | [.int j]=>if -(2 ^ 62)<=j/\j < 2 ^ 62 then .ok (FZ (Ez 0 j.toNat)) o else .bad
 | _=>.bad
noncomputable def iR2(ml:ML):MI:=λe S=>(ml e S).bind λl o=>match l with
 | [.int i,.int j]=>if -(2 ^ 62)<=i/\i < 2 ^ 62/\-(2 ^ 62)<=j/\j < 2 ^ 62 then .ok (FZ (Ez i (j - i).toNat)) o else .bad
 | _=>.bad
theorem E5(C:Gl X "range") (o:X.mg "range" = none) (G:GA X E [a] ml) (s:Aa [a] X.env=[(false,CF a X.env)]:=by rfl):GI X E tg (.Call (.Name "range" p) [a] [] pos) (iR1 ml):=(eN C o G s).imp<|by
 rintro Q H R ⟨I,l,S,J,s,o⟩
 refine⟨I,l,S,J,s,o.seq λT U o A L Y N O P=>?_⟩;split at o
 ·rename_i j
  split at o
  ·rename_i B
   cases P with
   | cons r t=>
    cases t;cases r;exact⟨j,rfl,B.1,B.2,o A L _ N O (Tb 0 j.toNat)⟩
  ·exact o.elim
 ·exact o.elim
theorem Jn(B:Gl X "range") (o:X.mg "range" = none) (C:GA X E [a,b] ml) (s:Aa [a,b] X.env=[(false,CF a X.env),(false,CF b X.env)]:=by rfl) (G:Aa [b] X.env=[(false,CF b X.env)]:=by rfl) :
  GI X E tg (.Call (.Name "range" p) [a,b] [] pos) (iR2 ml):=(eM B o C s G).imp<|by
 rintro U H R ⟨I,l,S,J,s,o⟩
 refine⟨I,l,S,J,s,o.seq λY Z o A L xs N O P=>?_⟩;split at o
 ·rename_i i j
  split at o
  ·rename_i Q
   cases P with
   | cons r t=>
    cases t with
    | cons T t=>
     cases t;cases r;cases T;exact⟨i,j,rfl,Q,o A L _ N O (Tb i _)⟩
  ·exact o.elim
 ·exact o.elim
end
noncomputable def G7:List D->Lo->Sto->Res Lo
 | [],e,S=>.ok e S
 | _,_,_=>.bad
noncomputable def CO(g:MG)(r:List D->Lo->Sto->Res Lo):List D->Lo->Sto->Res Lo
 | d :: l,e,S=>(g d e S).bind λm o=>r l m o
 | [],_,_=>.bad
noncomputable def Gq(n:Nat)(r:List D->Lo->Sto->Res Lo):MG:=λd e S=>match d with
 | .tup l=>if l.length=n then r l e S else .bad
 | _=>.bad
section
variable{X:Cx}
noncomputable def gGs(K:AI)(r:List D->Lo->Sto->Res Lo):TGs:=λB C H Q=>∃m e S A,A9 K m H A B/\Gz K m H e C/\Ch K m S H/\Cj K noH m H (r A e S) λE G=>∀l s o,Le K m H l s->Ch K l G s->Gz K l s E o->Q o s
noncomputable abbrev GGs(X:Cx)(ts:List Expr)(r:List D->Lo->Sto->Res Lo):Prop:=PGs X ts (gGs X.K r)
theorem PGs.imp(h:PGs X ts t)(i:∀vs l H Q,t' vs l H Q->t vs l H Q):PGs X ts t':=λm s l H vs o Q I r q=>h m s l H vs o Q I r (i vs l H Q q)
theorem Jh:GGs X [] G7:=mf.imp<|by
 rintro E s H Q ⟨A,l,S,m,hd,B,C,o⟩
 cases m with
 | nil=>cases hd;exact⟨rfl,o A H s .refl C B⟩
 | cons d m=>exact o.elim
theorem DX(G:GG X e g)(I:GGs X es r)
  (o:(Fo (e :: es) X.env).map (·.2)=TM e X.env :: (Fo es X.env).map (·.2):=by rfl):GGs X (e :: es) (CO g r):=(iu G I o).imp<|by
 rintro vs σ H Q ⟨J,l,S,s,hd,L,o,m⟩
 cases s with
 | nil=>exact m.elim
 | cons d s=>
  cases hd with
  | cons N O=>
   exact⟨_,_,rfl,J,l,S,d,N,L,o,m.seq λP R m A H1 T B U Y=>⟨A,P,R,s,O.mono B,Y,U,m.go B λ_ _ k C Z E l2 s2 r2=>k C Z E (B.trans l2) s2 r2⟩⟩
theorem Mv(A:X.calm=true)(h:GGs X es r)
  (B:(Fo es X.env).length=n:=by rfl) (C:(Fo es X.env).findIdx? (·.1)=none:=by rfl):GG X (.Tuple es k pos) (Gq n r):=(rl A h B C).imp<|by
 rintro v N H Q ⟨E,l,S,d,hd,G,I,m⟩
 cases d <;> first | exact m.elim | skip
 rename_i J
 cases hd with
 | tup L s=>
  unfold Gq at m;dsimp only at m;split at m
  ·rename_i o
   exact⟨_,_,rfl,.inl (.inl L),by rw[<-s.length];exact o,E,l,S,J,s,G,I,m⟩
  ·exact m.elim
end
noncomputable def spM(K:AI)(n:Nat)(f:List D->Sto->Res D):Sp:=λA H Q E=>∃o s S,s.length=n/\A9 K o H s A/\Ch K o S H/\Cj K (λc m=>E (.ref c) none m) o H (f s S) λd B=>
 ∀l m x,Le K o H l m->Ch K l B m->CM K l m d x->Q x m
theorem spM.len{K}{n}{f}{vs}{H}{Q}{E}(h:spM K n f vs H Q E):vs.length=n:=by
 obtain⟨o,s,S,l,m,_⟩:=h;rw[<-m.length];exact l
noncomputable def BX(n:Nat)(f:List D->Sto->Res D)(m:ML):ME:=λe S=>(m e S).bind λl o=>if l.length=n then f l o else .bad
noncomputable def Oi(C:Ab)(n:Nat)(f:List D->Sto->Res D)(m:ML):ME:=λe S=>(m e S).bind λo l=>if o.length+1=n then(f (.ref l.length :: o) (l++[.ins C []])).bind (λd s=>match d with
  | .non=>.ok (.ref l.length) s
  | _=>.bad)else .bad
noncomputable def Wt(E:EW)(l:St):XK:=λv o H=>o=none/\∃c,v=.ref c/\E c l H
section
variable{X:Cx}{E:EW}{k n:Nat}{x:Str}{e:Expr}{es:List Expr}
theorem Cj.xk{B:Type}{K:AI}{C:St}{ρ m:List Ab}{H G:Hp}{r:Res B}{k k':B->Sto->Prop}(h:Cj K (λc=>E c C) ρ H r k)(l:Le K ρ H m G)(f:∀a S,k a S->k' a S):Cj K (λc o=>Wt E C (.ref c) none o) m G r k':=by
 cases r with
 | ok a S=>exact f a S h
 | err c S=>exact λA o I s=>⟨rfl,c,rfl,h A o (l.trans I) s⟩
 | bad=>exact h
theorem OI(F:Cp X.prog X.w X.K X.mg X.base CX k f fd ps (spM X.K n g))(G:M9 CX X (Wt E))(I:IE k X.A)(J:Gl X x)(m:X.mg x=some (.ref f))(L:Fs X.K (.ref f)=true)(hb:Binds X.K fd ps [])
  (N:GA X E (e :: es) ml) (O:(x==("__debug__" : Str))=false:=by decide) (P:Aa (e :: es) X.env=(false,CF e X.env) :: Aa es X.env:=by rfl) (R:(Eo pos (Aa es X.env)).any (·.1)=false:=by rfl) :
  GE X E (.Call (.Name x p) (e :: es) [] pos) (BX n g ml):=(m9 (E:=Wt E) F I J m L hb .nil G N O P R).imp<|by
 rintro σ H Q ⟨T,l,S,U,Y,m⟩
 refine⟨T,l,S,U,Y,m.seq λZ S1 m s H1 xs C s1 r1=>?_⟩;split at m
 ·rename_i o
  rw[By];exact⟨s,Z,S1,o,r1,s1,m.xk C λ_ _ k B H' z l' s' r'=>k B H' z (C.trans l') s' r'⟩
 ·exact m.elim
theorem TB(M:Mk X.K C f)(F:Cp X.prog X.w X.K X.mg X.base CX k f fd ps (spM X.K n g))(Z:M9 CX X (Wt E))(hr:IE (k+1) X.A)(hg:Gl X x)(m:X.mg x=some (.ref C))(hb:Binds X.K fd ps [])
  (G:GA X E (e :: es) ml) (yI:(x==("__debug__" : Str))=false:=by decide) (he:Aa (e :: es) X.env=(false,CF e X.env) :: Aa es X.env:=by rfl) (yt:(Eo pos (Aa es X.env)).any (·.1)=false:=by rfl) :
  GE X E (.Call (.Name x p) (e :: es) [] pos) (Oi C n g ml):=(mq (E:=Wt E) M F hr hg m hb .nil Z G yI he yt).imp<|by
 rintro σ H Q ⟨ρ,l,S,hl,hs,m⟩
 refine⟨ρ,l,S,hl,hs,m.seq λds T m I H1 xs U s1 r1 a J G L yn=>?_⟩;split at m
 ·rename_i s
  rw[By];obtain⟨s2,N⟩:=HN (ho:=.own a) s1 L
  have O:upd H1 J (.own a) a=none:=by rw[Bv (Ck yn)];exact G
  obtain⟨s3,P,B⟩:=s2.alloc (p:=a) (ho:=.ins C J []) (o:=.ins C []) O ⟨J,[],CB,.nil⟩;refine⟨I++[a],.ref T.length :: ds,T++[.ins C []],by simpa using s,.cons (.ref B) (r1.mono (N.trans P)),s3,Cj.xk (m.seq λz S2 m=>m) (U.trans (N.trans P)) λz S2 m R H' y Y s' r'=>?_⟩
  cases z <;> first | exact m.elim | skip
  cases r';exact⟨rfl,m R H' _ (U.trans (N.trans (P.trans Y))) s' (.ref (Y.pre _ _ B))⟩
 ·exact m.elim
end
theorem KVR.lookup{K}{ρ}{H}(f:Str):∀{x:List (Str×D)} {y:List (Str×V)} {d:D},KVR K ρ H x y->x.lookup f=some d->∃v,y.lookup f=some v/\CM K ρ H d v
 | _,_,_,.nil,h=>by simp at h
 | (g,a) :: x,(s,b) :: y,d,.cons r t,h=>by
  obtain⟨l,m⟩:=r;dsimp only at l m;subst l;rw[Bi]at h ⊢
  cases o:(f==g)with
  | true=>rw[o]at h;cases h;exact⟨b,rfl,m⟩
  | false=>rw[o]at h;exact KVR.lookup f t h
noncomputable def Kf(f:Str)(v:D):List (Str×D)->List (Str×D)
 | []=>[(f,v)]
 | (g,x) :: r=>if g=f then(g,v) :: r else(g,x) :: Kf f v r
theorem KVR.putF{K}{ρ}{H}(f:Str){d}{v}(m:CM K ρ H d v):∀{x:List (Str×D)} {y:List (Str×V)},KVR K ρ H x y->KVR K ρ H (Kf f d x) (putF f v y)
 | _,_,.nil=>.cons ⟨rfl,m⟩ .nil
 | (g,a) :: x,(A,b) :: y,.cons r t=>by
  obtain⟨o,s⟩:=r;dsimp only at o s;subst o;unfold Kf L2.putF
  by_cases l:g=f
  ·rw[qX l,qX l];exact .cons ⟨rfl,m⟩ t
  ·rw[qY l,qY l];exact .cons ⟨rfl,s⟩ (KVR.putF f m t)
theorem KVR.length{l:Type}{K:AI}{ρ:List Ab}{H:Hp}{x:List (l×D)}{y:List (l×V)}(h:KVR K ρ H x y):x.length=y.length:=EG h
noncomputable def Cr(C:Ab)(f:Str)(m:ME):ME:=λe S=>(m e S).bind λd l=>match d with
 | .ref n=>match l[n]? with
  | some (.ins o fs)=>if o=C then(match fs.lookup f with | some v=>.ok v l | none=>.bad)else .bad
  | _=>.bad
 | _=>.bad
noncomputable def Kk(C:Ab)(f:Str)(mo mv:ME):MS:=λe S=>(mv e S).lift e λv m=>(mo e m).lift e λd l=>match d with
 | .ref n=>match l[n]? with
  | some (.ins o fs)=>if o=C/\fs.length < 1000 then .ok (.nx e) (l.set n (.ins C (Kf f v fs)))else .bad
  | _=>.bad
 | _=>.bad
section
variable{X:Cx}{E:EW}{o e value:Expr}{m mv:ME}
theorem CK(J:Cls X.K C)(L:FX X.K C f)(N:GE X E e m)(hb:Gb e f X.env (CF e X.env)=CF e X.env:=by rfl):GE X E (.Attribute e f pos) (Cr C f m):=(sD N hb).imp<|by
 rintro σ H Q ⟨O,l,S,P,R,s⟩
 refine⟨O,l,S,P,R,s.seq λx T s B U v Y I Z=>?_⟩
 cases x <;> first | exact s.elim | skip
 rename_i n;dsimp only at s
 cases A:T[n]? with
 | none=>rw[A]at s;exact s.elim
 | some ob=>
  rw[A]at s
  cases ob <;> first | exact s.elim | skip
  rename_i C' fs;dsimp only at s;split at s
  ·rename_i hC
   rw[hC]at A
   cases Z with
   | ref yO=>
    obtain⟨dx,zQ,e1,e2⟩:=I.ob n _ _ A yO
    cases G:fs.lookup f with
    | none=>rw[G]at s;exact s.elim
    | some w=>
     rw[G]at s;obtain⟨v,h3,h4⟩:=KVR.lookup f e2 G;exact⟨_,_,dx,zQ,v,rfl,e1,J,L,h3,s B U v Y I h4⟩
  ·exact s.elim
theorem LO(hc:Cls X.K C)(hn:FX X.K C f)(ha:GE X E o m)(hv:GE X E value mv)(N:HB value (some (.Attribute o f G)) pos.line X.env=pure false:=by rfl):GS X E (.Assign [.Attribute o f G] value pos) (Kk C f m mv):=(re ha hv N).imp<|by
 rintro D σ H ⟨ρ,l,S,I,N,s⟩
 refine⟨ρ,l,S,I,N,s.lift I .refl λv S1 s O H1 y B s1 r1=>⟨O,l,S1,I.mono B,s1,(s.later B).lift (I.mono B) B λx S2 s A U u P Y r2=>?_⟩⟩
 cases x <;> first | exact s.elim | skip
 rename_i n;dsimp only at s
 cases ho:S2[n]? with
 | none=>rw[ho]at s;exact s.elim
 | some ob=>
  rw[ho]at s
  cases ob <;> first | exact s.elim | skip
  rename_i C' fs;dsimp only at s;split at s
  ·rename_i Q
   obtain⟨Q,J⟩:=Q;rw[Q]at ho
   cases r2 with
   | ref R=>
    obtain⟨L,T,Z,e2⟩:=Y.ob n _ _ ho R;have le:Le X.K A U A (upd U _ (.ins C L (putF f y T))):=Le.write R (by rw[Z];trivial);obtain⟨s3,l3⟩:=Y.write (ho:=.ins C L (putF f y T)) (o:=.ins C (Kf f v fs)) R ⟨L,_,CB,(KVR.putF f (r1.mono P) e2).mono le⟩ le;refine⟨_,C,L,T,rfl,Z,hc,hn,by rw[<-KVR.length e2];exact J,?_⟩;exact s A _ σ (B.trans (P.trans l3)) s3 (I.mono (B.trans (P.trans l3)))
  ·exact s.elim
end
noncomputable def ExAt(s:Ab->Prop)(F:Option AK->Prop)(l C:Ab)(H:Hp)(h:DO):Prop:=
 H l=none/\s l/\∃(m:Obj) (o:Array AK) (G:AK),h.get? l=some m/\m.cls=.ref C/\(m.dict=none/\m.data=.fields o)/\o[0]?=some G /\
  ((F none/\o[1]?=some .none)∨∃(T:Ab) (A:Obj) (B:Array AK) (E:AK),F (some E)/\o[1]?=some (.ref T)/\T≠l/\H T=none/\s T/\h.get? T=some A/\A.data=.fields B/\B[3]?=some E)
noncomputable def CXG(P:Bw)(w:CV):CXT:=λl H s E e m=>∃A C o,e=.ref A/\m.os=s.os/\Lp m.gens/\Un (frs l) [] H o s.heap m.heap/\HOk P w o m.heap/\ExAt (λb=>s.heap.get? b=none) (· = some .none) A C o m.heap/\E (.ref C) none o
theorem Inv.with(I:Inv X N O H s)(z:AK->AS->Prop):Inv { X with xe:=z } N O H s:=by
 obtain⟨ok,a,b,c,d,e,f,g,i,j,l⟩:=I;obtain⟨P,Q,R,S,T,U,Y,Z,o9,m,o,A,B,C,E,G,J,L⟩:=ok;exact⟨⟨P,Q,R,S,T,U,Y,Z,o9,m,o,A,B,C,E,G,J,L⟩,a,b,c,d,e,f,g,i,j,l⟩
theorem Inv.without(I:Inv { X with xe:=z } l m H s):Inv X l m H s:=by
 have:=I.with X.xe
 exact this
structure Good(X:Cx)(E:EW):Prop where
 pass:M9 (CXG X.prog X.w) X (Wt E)
 own:Wo (Aw X.prog X.w) X.A X.env X.xe
 made:∀(ζ:List (Ab×Obj)) (σ:St) (H:Hp) (s:AS) (h':DO) (ea C:Ab) (args:List AK),Inv X ζ σ H s->E C σ H->DO.MadeExcOf s.heap h' ea (.ref C) args->X.xe (.ref ea) { s with heap:=h' }
theorem good_none(m:X.xe=λ_ _=>False):Good X noE:=by
 refine⟨λA B H s e E I h=>?_,by rw[m];exact Wo.never,λ_ _ _ _ _ _ _ _ _ w _=>w.elim⟩;obtain⟨G,C,J,rfl,os,l,un,o,x,_,c,L,w⟩:=h;exact w.elim
noncomputable def IS(n:Nat)(ds:List D):Lo:=ds.map some++B1 (n - ds.length) none
theorem Z6{K}{ρ}{H}{N}{ds}{vs}(r:A9 K ρ H ds vs):Gz K ρ H (IS N.length ds) (start N vs):=by
 refine⟨by simp[IS,start,r.length],λi d q=>?_⟩;unfold IS at q;unfold start
 by_cases l:i < ds.length
 ·rw[Av (by simpa using l),Ad]at q
  rw[Av (by rw[AC,<-r.length];exact l),Ad]
  cases e:ds[i]? with
  | none=>rw[e]at q;cases q
  | some s=>
   rw[e]at q;cases q;obtain⟨v,m,o⟩:=r.get e;exact⟨v,by rw[m];rfl,o⟩
 ·rw[Bd (by simpa using l),D9]at q
  split at q <;> cases q
section
variable{X:Cx}
noncomputable def intOp(C:Int->Int->Prop)[∀i j,Decidable (C i j)](g:Int->Int->D):D->D->Sto->Res D
 | .int i,.int j,S=>if C i j then .ok (g i j) S else .bad
 | _,_,_=>.bad
theorem jc[∀i j,Decidable (C i j)](h:intOp C g a b S=.ok d l):∃i j,a=.int i/\b=.int j/\C i j/\d=g i j/\l=S:=by
 unfold intOp at h;split at h
 ·split at h
  ·rename_i i j _ m
   cases h;exact⟨_,_,rfl,rfl,m,rfl,rfl⟩
  ·cases h
 ·cases h
theorem RD[∀i j,Decidable (C i j)](l:∀ρ H i j,CM X.K ρ H (g i j) (v i j))(h:OpR X f (rI C v)):OpR X f (rD X.K (intOp C g)):=h.imp<|by
 rintro x y H Q ⟨ρ,S,a,b,d,E,m,o,s,A,k⟩
 obtain⟨i,j,rfl,rfl,B,rfl,rfl⟩:=jc A;cases o;cases s;exact⟨i,j,rfl,rfl,B,k ρ H _ .refl m (l _ _ _ _)⟩
theorem OG(l:∀ρ H i j,CM X.K ρ H (g i j) (v i j))(h:OpR X f (rI0 v)):OpR X f (rD X.K (intOp (λ_ _=>True) g)):=
 RD (C:=λ_ _=>True) l (h.imp λx y H Q ⟨i,j,m,o,_,q⟩=>⟨i,j,m,o,q⟩)
noncomputable instance(i j:Int):Decidable (kb i j):=inferInstanceAs (Decidable (_/\_))
noncomputable instance(i j:Int):Decidable (ka i j):=inferInstanceAs (Decidable (_/\_/\_))
noncomputable instance(i j:Int):Decidable (ZR i j):=inferInstanceAs (Decidable (_∨_))
noncomputable abbrev Z4:=intOp (λ_ _=>True) λi j=>.int (i - j)
noncomputable abbrev XQ:=intOp ZR λi j=>.int (i * j)
noncomputable abbrev Nu:=intOp kb λi j=>.int (i / j)
noncomputable abbrev QA:=intOp (λ_ j=>0 < j) λi j=>.int (i % j)
noncomputable abbrev ltD:=intOp (λ_ _=>True) λi j=>.bl (decide (i < j))
noncomputable abbrev leD:=intOp (λ_ _=>True) λi j=>.bl (decide (i<=j))
noncomputable abbrev gtD:=intOp (λ_ _=>True) λi j=>.bl (decide (j < i))
noncomputable abbrev geD:=intOp (λ_ _=>True) λi j=>.bl (decide (j<=i))
theorem UW:OpR X (Dc .Sub) (rD X.K Z4):=OG (λ_ _ _ _=>.int _) sK
theorem UX:OpR X (Dc .Mult) (rD X.K XQ):=RD (λ_ _ _ _=>.int _) sO
theorem Mr:OpR X (Dc .FloorDiv) (rD X.K Nu):=RD (λ_ _ _ _=>.int _) nC
theorem LJ:OpR X (Dc .Mod) (rD X.K QA):=RD (λ_ _ _ _=>.int _) sP
theorem cH:OpR X (B2 .Lt) (rD X.K ltD):=OG (λ_ _ _ _=>.bl _) wB
theorem WG:OpR X (B2 .LtE) (rD X.K leD):=OG (λ_ _ _ _=>.bl _) wC
theorem cI:OpR X (B2 .Gt) (rD X.K gtD):=OG (λ_ _ _ _=>.bl _) wD
theorem wH:OpR X (B2 .GtE) (rD X.K geD):=OG (λ_ _ _ _=>.bl _) wE
noncomputable def Em:D->D->Sto->Res D
 | .int i,.int j,S=>.ok (.int (i+j)) S
 | .tup m,.tup o,S=>if m.length+o.length<=sizeLine then .ok (.tup (m++o)) S else .bad
 | .ref l,.ref b,S=>match S[l]?,S[b]? with
  | some (.lst m),some (.lst o)=>if m.length+o.length<=sizeLine then .ok (.ref S.length) (S++[.lst (m++o)])else .bad
  | _,_=>.bad
 | _,_,_=>.bad
noncomputable def vm(K:AI):R2:=λx y H Q=>∃a b l m,x=.ref a/\y=.ref b/\H a=some (.tup l)/\H b=some (.tup m)/\l.length+m.length<=sizeLine /\
 (l=[]->Q (.ref b) H)/\(m=[]->Q (.ref a) H)/\(∀p,H p=none->Q (.ref p) (upd H p (.tup (l++m))))
theorem nF:OpR X (Dc .Add) (vm X.K):=by
 intro N s O H x y v u Q I P R h;obtain⟨a,b,xs,A,rfl,rfl,B,hb,S,T,U,Y⟩:=h;cases P;cases R;obtain⟨C,Z,p1,_⟩:=I.tuple (a:=a) (xs:=xs) (.inl (.inl B));obtain⟨yx,r2,p2,_⟩:=I.tuple (a:=b) (xs:=A) (.inl (.inl hb))
 by_cases l:xs=[]
 ·obtain⟨⟨cls,dd,data,sl⟩,E,G,n,hd⟩:=id p1
  obtain⟨⟨J,m,data2,o⟩,L,hc2,n2,hd2⟩:=id p2;simp only at G hd hc2 hd2;subst G hd hc2 hd2;have hi:C=[]:=Z.nil_iff.mpr l
  exact gJ ⟨_,E,rfl⟩ ⟨_,L,rfl⟩ Wi c9 MK Ll (Kw _ _)
   (tuple_addW0 a b C.toArray yx.toArray n n2 dd m sl o (by simp[hi])) ⟨E,L,⟨.ref b,H,I,rfl,T l⟩⟩
 ·exact nE N s O H (.ref a) (.ref b) _ _ Q I rfl rfl ⟨a,b,xs,A,rfl,rfl,.inl (.inl B),.inl (.inl hb),l,S,U,λ_ p hp=>Y p hp⟩
theorem A9.nil_of{K}{ρ}{H}{xs}{vs}(r:A9 K ρ H xs vs)(e:vs=[]):xs=[]:=by
 subst e;cases r;rfl
theorem EN:OpR X (Dc .Add) (rD X.K Em):=(sU.or (nF.or sS)).imp<|by
 rintro x y H Q ⟨A,S,a,b,d,S',s,ra,L,l,k⟩
 cases ra with
 | int i=>
  cases L <;> first | (cases l;done) | skip
  cases l;exact .inl ⟨_,_,rfl,rfl,k A H _ .refl s (.int _)⟩
 | @tup R a1 C E B=>
  cases L with
  | @tup T b1 ws U G=>
   unfold Em at l;dsimp only at l;split at l
   ·rename_i N
    cases l;refine .inr (.inl ⟨_,_,_,_,rfl,rfl,E,U,by rw[<-B.length,<-G.length];exact N,λe=>?_,λe=>?_,λp I=>?_⟩)
    ·rw[B.nil_of e,VU]at k
     exact k A H _ .refl s (.tup U G)
    ·rw[G.nil_of e,By]at k
     exact k A H _ .refl s (.tup E B)
    ·obtain⟨O,J⟩:=HN (ho:=.tup (C++ws)) s I
     exact k A _ _ J O (.tup CB ((B.append G).mono J))
   ·cases l
  | _=>cases l
 | @ref n a1 hn=>
  cases L with
  | @ref m b1 yO=>
   unfold Em at l;dsimp only at l;split at l
   ·rename_i R T E B
    split at l
    ·rename_i N
     cases l;obtain⟨C,e1,Y⟩:=s.ob _ _ _ E hn;obtain⟨Z,e2,r2⟩:=s.ob _ _ _ B yO;refine .inr (.inr ⟨_,_,_,_,rfl,rfl,e1,e2,by rw[<-Y.length,<-r2.length];exact N,λp I=>?_⟩);have le:Le X.K A H (A++[p]) (upd H p (.lst (C++Z))):=Le.alloc I;obtain⟨O,J,P⟩:=s.alloc (ho:=.lst (C++Z)) (o:=.lst (R++T)) I ⟨_,CB,(Y.append r2).mono le⟩;exact k _ _ _ J O (.ref P)
    ·cases l
   ·cases l
  | _=>cases l
 | _=>cases l
noncomputable def ixD:D->D->Sto->Res D:=λa b S=>match HQ a S,b with
 | some l,.int i=>match atI l i with
  | some d=>.ok d S
  | none=>.bad
 | _,_=>.bad
theorem oo{K}{ρ}{H}{ds}{vs}{i}{d}(r:A9 K ρ H ds vs)(h:atI ds i=some d):∃v,atI vs i=some v/\CM K ρ H d v:=by
 unfold atI at h ⊢;rw[<-r.length]
 cases l:ixN ds.length i with
 | none=>rw[l]at h;cases h
 | some j=>
  rw[l]at h;exact r.get h
theorem wG:IxR X (rD X.K ixD):=(nh.or tH).imp<|by
 rintro x y H Q ⟨o,S,a,b,d,J,m,C,E,l,k⟩
 unfold ixD at l;split at l
 ·rename_i L i G
  split at l
  ·rename_i N hd
   cases l;cases E;obtain⟨p,s,rfl,I,sq⟩:=Sq m C G;obtain⟨v,A,B⟩:=oo I hd
   rcases sq with sq | sq
   ·exact .inl ⟨p,s,_,v,rfl,rfl,sq,A,k o H v .refl m B⟩
   ·exact .inr ⟨p,s,_,v,rfl,rfl,sq,A,k o H v .refl m B⟩
  ·cases l
 ·cases l
noncomputable def Uj(neg:Bool)(x y:D)(S:Sto):Res D:=match y with
 | .non=>match x with
  | .non=>.ok (.bl (!neg)) S
  | _=>.ok (.bl neg) S
 | _=>.bad
theorem aP:OpR X (B2 .Is) (rD X.K (Uj false)):=sQ.imp<|by
 rintro x y H Q ⟨m,S,a,b,d,B,o,s,A,l,k⟩
 cases A <;> first | (cases l;done) | skip
 refine⟨rfl,?_⟩
 cases s <;> (cases l;exact k m H _ .refl o (.bl _))
theorem cG:OpR X (B2 .IsNot) (rD X.K (Uj true)):=nB.imp<|by
 rintro x y H Q ⟨m,S,a,b,d,B,o,s,A,l,k⟩
 cases A <;> first | (cases l;done) | skip
 refine⟨rfl,?_⟩
 cases s <;> (cases l;exact k m H _ .refl o (.bl _))
end
noncomputable def mQ(f:List D->Sto->Res D)(m:ML):ME:=λe S=>(m e S).bind λl o=>okR (f l o)
section
variable{X:Cx}{E:EW}{e:Expr}{es:List Expr}{x:Str}{p pos:Pos}{ml:ML}{id:String}{r:List V->Hp->VK->Prop}{f:List D->Sto->Res D}
noncomputable def xT(K:AI)(r:List V->Hp->VK->Prop)(f:List D->Sto->Res D):Prop:=∀o H S A q s d B (Q:VK),Ch K o S H->A9 K o H A s->(SqL K H q s∨SqT K H q s)->f A S=.ok d B ->
 (∀l m z,Le K o H l m->Ch K l B m->CM K l m d z->Q z m)->r [.ref q] H Q
noncomputable def uS(K:AI)(r:List V->Hp->VK->Prop)(f:List D->Sto->Res D):Prop:=∀o H S s A d B (Q:VK),Ch K o S H->A9 K o H s A->f s S=.ok d B ->
 (∀l m z,Le K o H l m->Ch K l B m->CM K l m d z->Q z m)->r A H Q
theorem n8(B:NG X (.builtin id) r)(C:xT X.K r f)(G:Gl X x)(m:X.mg x=none)(I:JM x=some (.builtin id))(h:GQ X E e ml)(J:x≠"__name__":=by decide) (L:(x==("__debug__" : Str))=false:=by decide)
  (A:Aa [e] X.env=(false,CF e X.env) :: Aa [] X.env:=by rfl):GE X E (.Call (.Name x p) [e] [] pos) (mQ f ml):=(Nh B G m I (Hd h LH A) J L A rfl).imp<|by
 rintro σ H Q ⟨N,l,S,O,P,m⟩
 refine⟨N,l,S,O,P,m.seq λR T m o U q Y Z s1 r1 sq=>?_⟩;obtain⟨d,S',e,k⟩:=m.okR
 exact C o U T R q Y d S' Q s1 r1 sq e λs H' z l' s' r'=>k s H' z (Z.trans l') s' r'
theorem cZ(A:NG X (.builtin id) r)(B:uS X.K r f)(C:Gl X x)(m:X.mg x=none)(G:JM x=some (.builtin id))(h:GA X E (e :: es) ml)(I:x≠"__name__":=by decide) (J:(x==("__debug__" : Str))=false:=by decide)
  (L:Aa (e :: es) X.env=(false,CF e X.env) :: Aa es X.env:=by rfl) (N:(Eo pos (Aa es X.env)).any (·.1)=false:=by rfl):GE X E (.Call (.Name x p) (e :: es) [] pos) (mQ f ml):=(Nh A C m G h I J L N).imp<|by
 rintro σ H Q ⟨O,l,S,P,R,m⟩
 refine⟨O,l,S,P,R,m.seq λT U m o Y Z l1 s1 r1=>?_⟩;obtain⟨d,S',e,k⟩:=m.okR
 exact B o Y U T Z d S' Q s1 r1 e λs H' z l' s' r'=>k s H' z (l1.trans l') s' r'
noncomputable def wZ(ds:List D)(S:Sto):Res D:=.ok (.int ds.length) S
theorem rJ:xT X.K (λxs H Q=>∃p ys,xs=[.ref p]/\(SqL X.K H p ys∨SqT X.K H p ys)/\Q (.int ys.length) H) wZ:=λl H S A q xs d B Q m o sq s k=>by
 cases s;exact⟨q,xs,rfl,sq,k l H _ .refl m (by rw[o.length];exact .int _)⟩
noncomputable def WJ:List D->Sto->Res D
 | [.int i,.int j],S=>.ok (.int (if j < i then j else i)) S
 | _,_=>.bad
noncomputable def WM:List D->Sto->Res D
 | [.int i,.int j],S=>.ok (.int (if j > i then j else i)) S
 | _,_=>.bad
theorem ou:uS X.K (λxs H Q=>∃i j,xs=[.int i,.int j]/\Q (.int (if j < i then j else i)) H) WJ:=λm H S A xs d B Q o s l k=>by
 unfold WJ at l;split at l
 ·cases l
  cases s with
  | cons a t=>
   cases t with
   | cons b t=>
    cases t;cases a;cases b;exact⟨_,_,rfl,k m H _ .refl o (.int _)⟩
 ·cases l
theorem ox:uS X.K (λxs H Q=>∃i j,xs=[.int i,.int j]/\Q (.int (if j > i then j else i)) H) WM:=λm H S A xs d B Q o s l k=>by
 unfold WM at l;split at l
 ·cases l
  cases s with
  | cons a t=>
   cases t with
   | cons b t=>
    cases t;cases a;cases b;exact⟨_,_,rfl,k m H _ .refl o (.int _)⟩
 ·cases l
end
noncomputable def Es(X:Cx)(scope:Va)(N':List Str)(o:List (Str×Ab))(C:Ab)(l:AS)(m:Hp)(ex:List Ab)(pn:List (Ab×Obj)):Cx where
 prog:=X.prog
 w:=X.w
 K:=X.K
 mg:=X.mg
 base:=X.base
 A:=X.A
 N:=N'
 s₀:=l
 H₀:=m
 env:=compEnvC scope o C X.env
 outer:=X.stack
 stack:=X.stack
 ex:=ex
 fn:=λx=>scope.names.lookup x==some .cell
 calm:=X.calm
 pn:=pn
 xe:=λ_ _=>False
theorem Xg:∀(names:List (Str×Ql)) (acc:List (Str×Ab)),(∀y∈names,y.2=.free->∃c,env.cells.lookup y.1=some c)->(∀n c,acc.lookup n=some c->env.cells.lookup n=some c) ->
  ∃cl,(forIn names acc (λ(x:Str×Ql) (cs:List (Str×Ab))=>match x with | (name,kind)=>if (kind==Gj)=true then do let a <-cellOf env name;pure (JE ((name,a) :: cs))else pure (JE cs)):Sem (List (Str×Ab)))=pure cl /\
   (∀n c,cl.lookup n=some c->env.cells.lookup n=some c)/\(∀n c,acc.lookup n=some c->∃c',cl.lookup n=some c')/\∀y∈names,y.2=.free->∃c,cl.lookup y.1=some c
 | [],acc,_,ha=>⟨acc,rfl,ha,λn c h=>⟨c,h⟩,λ_ h=>nomatch h⟩
 | (n,k) :: r,acc,h,ha=>by
  rw[lC]
  by_cases hk:k=.free
  ·subst hk
   obtain⟨c,hc⟩:=h (n,.free) AZ rfl
   obtain⟨cl,e,h1,h2,h3⟩:=Xg r ((n,c) :: acc) (λy hy=>h y (AV _ hy)) (λm d hm=>by
    rw[Bi]at hm
    cases hq:(m==n)with
    | true=>rw[hq]at hm;cases hm;rw[eq_of_beq hq];exact hc
    | false=>rw[hq]at hm;exact ha m d hm)
   have e0:cellOf env n=pure c:=by unfold cellOf;rw[hc]
   refine⟨cl,?_,h1,λm d hm=>h2 m (if m==n then c else d) ?_,λy hy hf=>?_⟩
   ·simp only[beq_self_eq_true,if_true,e0,pure_bind]
    exact e
   ·rw[Bi]
    cases hq:(m==n)with
    | true=>rfl
    | false=>exact hm
   ·rcases Af.mp hy with rfl | hy
    ·exact h2 n c (by rw[Bi,beq_self_eq_true])
    ·exact h3 y hy hf
  ·have hb:(k==Gj)=false:=by simpa using hk
   obtain⟨cl,e,h1,h2,h3⟩:=Xg r acc (λy hy=>h y (AV _ hy)) ha;refine⟨cl,?_,h1,h2,λy hy hf=>?_⟩
   ·simp only[hb,DM,if_false,pure_bind]
    exact e
   ·rcases Af.mp hy with rfl | hy
    ·exact(hk hf).elim
    ·exact h3 y hy hf
theorem cu(h:∀y∈scope.names,y.2=.free->∃c,env.cells.lookup y.1=some c):∃l,closureFor scope env=pure l /\
  (∀n c,l.lookup n=some c->env.cells.lookup n=some c)/\∀y∈scope.names,y.2=.free->∃c,l.lookup y.1=some c:=by
 obtain⟨l,e,m,_,o⟩:=Xg scope.names [] h (λn c z=>by simp at z);refine⟨l,?_,m,o⟩;unfold closureFor;exact(congrArg (λz=>z >>= λs=>pure s) e).trans (by rw[pure_bind])
noncomputable def bJ(X:Cx)(l:List Expr)(t:TT):Prop:=
 ∀(o:List (Ab×Obj)) (s:AS) (m:St) (H:Hp) (Q:Bool->Hp->Prop),Inv X o m H s->t m H Q ->
  Am (Aw X.prog X.w) X.A (forIn l true λc r=>if r=true then do let ok <-qJ c X.env (CF c X.env);pure (JE ok)else pure (JE r)) (TP X o m Q) X.xe s
theorem iq:bJ X [] (λ_ H Q=>Q true H):=λl s m H Q I h=>wpAny_tests_nil ⟨H,I,h⟩
theorem ip(h:PT X c t):bJ X [c] t:=λl s m H Q I q=>wpAny_tests_one (h l s m H Q I q)
structure PR(X:Cx)(scope:Va)(own N':List Str):Prop where
 kind:scope.kind=.function
 names:∀y∈scope.names,y.2=.local->scope.names.lookup y.1=some .local
 free:∀y∈scope.names,y.2=.free->X.env.kindOf y.1=some .cell∨X.env.kindOf y.1=some .free
 len:N'.length=own.length+X.N.length
 up:∀i x,N'[own.length+i]?=some x->Vis (Lg scope X.env) x->(X.N[i]?=some x/\Vis X.env.scope x/\((Lg scope X.env).names.lookup x=some .cell∨(Lg scope X.env).names.lookup x=some .free)/\X.env.kindOf x≠some .local)/\(x,DU)∉scope.names/\(x,Gj)∈scope.names
 vis:∀x,((Lg scope X.env).names.lookup x=some .cell∨(Lg scope X.env).names.lookup x=some .free)->(x,Gj)∈scope.names∨(x,DU)∈scope.names
theorem GU:∀(names:List (Str×Ql)) (n:Nat) (m:List (Str×Ab)) (x:Str) (c:Ab),(Cd n names m).lookup x=some c ->
  ((x,DU)∈names/\n<=c)∨m.lookup x=some c
 | [],_,_,_,_,h=>.inr h
 | (y,k) :: r,n,m,x,c,h=>by
  unfold Cd at h;split at h
  ·rename_i o
   have o:k=.cell:=by simpa using o
   subst o
   rcases GU r (n+1) _ x c h with⟨l,s⟩ | l
   ·exact .inl ⟨AV _ l,R4 s⟩
   ·rw[Bi]at l
    cases hb:x==y with
    | true=>rw[hb]at l;cases l;rw[beq_iff_eq.mp hb];exact .inl ⟨AZ,AM _⟩
    | false=>rw[hb]at l;exact .inr l
  ·rcases GU r n m x c h with⟨l,s⟩ | l
   ·exact .inl ⟨AV _ l,s⟩
   ·exact .inr l
theorem D0:∀(names:List (Str×Ql)) (n:Nat) (l:List (Str×Ab)) (x:Str),(∃c,l.lookup x=some c)->∃c,(Cd n names l).lookup x=some c
 | [],_,_,_,h=>h
 | (y,k) :: r,n,l,x,h=>by
  unfold Cd;split
  ·refine D0 r (n+1) _ x ?_
   rw[Bi]
   cases hb:x==y with
   | true=>exact⟨_,rfl⟩
   | false=>exact h
  ·exact D0 r n l x h
theorem El:∀(names:List (Str×Ql)) (n:Nat) (l:List (Str×Ab)) (x:Str),(x,DU)∈names->∃c,(Cd n names l).lookup x=some c/\n<=c
 | (y,k) :: r,n,l,x,h=>by
  unfold Cd
  by_cases o:(x,DU)∈r
  ·split
   ·obtain⟨c,m,A⟩:=El r (n+1) ((y,n) :: l) x o
    exact⟨c,m,R4 A⟩
   ·exact El r n l x o
  ·rcases Af.mp h with e | e
   ·cases e
    rw[qX (show(DU==DU)=true from rfl)];obtain⟨c,s⟩:=D0 r (n+1) ((y,n) :: l) y ⟨n,by rw[Bi,beq_self_eq_true]⟩
    rcases GU r (n+1) _ y c s with⟨m,_⟩ | m
    ·exact(o m).elim
    ·rw[Bi,beq_self_eq_true]at m
     cases m;exact⟨n,s,AM _⟩
   ·exact(o e).elim
theorem OS(s:(x,DU)∉names)(h:l.lookup x=some c):(Cd n names l).lookup x=some c:=by
 obtain⟨A,o⟩:=D0 names n l x ⟨c,h⟩
 rcases GU names n l x A o with⟨m,_⟩ | m
 ·exact(s m).elim
 ·rw[h]at m;cases m;exact o
theorem LV:∀(names:List (Str×Ql)) (n:Nat) (l:List (Str×Ab)),(∀x c,l.lookup x=some c->c < n)->(∀x y c,l.lookup x=some c->l.lookup y=some c->x=y) ->
  ∀x y c,(Cd n names l).lookup x=some c->(Cd n names l).lookup y=some c->x=y
 | [],_,_,_,h=>h
 | (z,k) :: r,n,l,o,h=>by
  unfold Cd;split
  ·have m:∀x c,((z,n) :: l).lookup x=some c->(x=z/\c=n)∨l.lookup x=some c:=λx c q=>by
    rw[Bi]at q
    cases hb:x==z with
    | true=>rw[hb]at q;cases q;exact .inl ⟨beq_iff_eq.mp hb,rfl⟩
    | false=>rw[hb]at q;exact .inr q
   refine LV r (n+1) _ (λx c q=>?_) λx y c B C=>?_
   ·rcases m x c q with⟨_,rfl⟩ | e
    ·exact Dw _
    ·exact R3 (o x c e)
   ·rcases m x c B with⟨e,E⟩ | e <;> rcases m y c C with⟨s,A⟩ | s
    ·rw[e,s]
    ·subst E;exact zX (o _ _ s) (ER _)
    ·subst A;exact zX (o _ _ e) (ER _)
    ·exact h x y c e s
  ·exact LV r n l o h
theorem LU:∀(names:List (Str×Ql)) (h:DO) (m:List (Str×Ab)) (x:Str) (c:Ab),(Cd h.objs.size names m).lookup x=some c->m.lookup x=some c∨((FR h names).IsCell c none/\h.objs.size<=c)
 | [],_,_,_,_,q=>.inl q
 | (y,k) :: r,h,m,x,c,q=>by
  unfold Cd at q;unfold FR;split at q
  ·rename_i o
   rw[qX o];have:=LU r (h.push { cls:=.type "cell",data:=.cell none }) ((y,h.objs.size) :: m) x c (by rw[Eb];exact q)
   rcases this with e | ⟨e,l⟩
   ·rw[Bi]at e
    cases hb:x==y with
    | true=>
     rw[hb]at e;cases e;exact .inr ⟨⟨_,X1 _ _ _ _ (Ah _ rfl),rfl⟩,AM _⟩
    | false=>rw[hb]at e;exact .inl e
   ·exact .inr ⟨e,by rw[Eb]at l;exact R4 l⟩
  ·rename_i o
   rw[qY o];exact LU r h m x c q
theorem Zk
  (h:Q (newEnv scope s.heap.objs.size globals (Cd (s.heap.push { cls:=.type "dict",data:=.dict #[] }).objs.size scope.names H) m none .none (some l) Ze) { s with heap:=FR (s.heap.push { cls:=.type "dict",data:=.dict #[] }) scope.names }) :
  Am M A (Zc scope globals H [] m none .none (some l)) Q E s:=by
 simp only[Zc,bO,if_true];refine AB (wpAny_alloc ?_);refine AB (wpAny_layCells _ (λG o B=>by cases C:o==DU <;> simp[C]) _ _ _ _ ?_);rw[V2];exact AB (AL (AL h))
section
theorem az(Q:PR X scope own N')(I:Inv X ζ T R E)(J:∀b∈fp,PQ X ζ R b)(G':∀b∈fp,b < E.heap.objs.size)
  (l:∀n c,B.lookup n=some c->X.env.cells.lookup n=some c) (c2:∀y∈scope.names,y.2=.free->∃c,B.lookup y.1=some c)
  (U:E.heap.objs.size<=n) (G:∀x c,(Cd n scope.names B).lookup x=some c->B.lookup x=some c∨(s.heap.IsCell c none/\n<=c)) (Y:∀c,n<=c->H c=none)
  (Z:E.heap.objs.size<=C) (hn:s.heap.Ns C m) (Cs:s.os=E.os) (hg:Lp s.gens)
  (u:Un (frs X.stack) fp R H E.heap s.heap) (hok:HOk X.prog X.w H s.heap) (Μ:H C=none) :
  Inv (Es X scope N' (Cd n scope.names B) C E R fp (X.pn++ζ)) [] (B1 own.length none++T) H s:=by
 have A:∀x c v,B.lookup x=some c->E.heap.IsCell c v->s.heap.IsCell c v:=by
  rintro x c v e ⟨o,ho,hd⟩
  obtain⟨sl,q⟩:=u.any ho (I.freeC x c (l x c e)) λz=>(J c z).2.2.2.2.1 x c (l x c e) rfl
  exact⟨_,q,hd⟩
 have clt:∀x c,B.lookup x=some c->c < n:=λx c e=>by
  obtain⟨v,z⟩:=I.cell x c (l x c e);exact AX z.lt U
 have ok':(Es X scope N' (Cd n scope.names B) C E R fp (X.pn++ζ)).Ok:=by
  refine⟨I.ok.mod,Q.kind,I.ok.glob,I.ok.blt,Z,LV _ _ _ clt λx y c h1 h2=>I.ok.inj x y c (l x c h1) (l y c h2),λx hx=>?_,λx c z q=>?_,I.ok.hd,I.ok.frames,.inl rfl,λb hb=>?_,I.bs,Aj I.ok.bsz I.sz,λb o e hb=>?_,λb hb yc=>?_,I.stack,I.stkFree⟩
  ·rcases Q.vis x hx with h | h
   ·exact D0 _ _ _ _ (c2 _ h rfl)
   ·obtain⟨c,hc,_⟩:=El scope.names n B x h
    exact⟨c,hc⟩
  ·have z:(scope.names.lookup x==some .cell)=true:=z
   obtain⟨c',L,hl⟩:=El scope.names n B x (ED (beq_iff_eq.mp z));have q:(Cd n scope.names B).lookup x=some c:=q;rw[L]at q;cases q;exact Aj U hl
  ·refine⟨BK (AX (G' b hb) Z),λx c e=>?_⟩
   rcases G x c e with e | ⟨_,e⟩
   ·exact(J b hb).2.2.2.2.1 x c (l x c e)
   ·exact FS (AX (G' b hb) (Aj U e))
  ·obtain⟨_,_,_,z,_⟩:=J b hb
   rcases z with z | z
   ·exact I.ok.noex b o e z
   ·exact zX (AX (Ao (I.ok.bs b o e).1) z) (ER _)
  ·obtain⟨_,z1,z2,_⟩:=J b hb
   rcases Af.mp (I.stkSub b yc)with e | e
   ·exact z1 e
   ·exact z2 e
 refine⟨ok',Cs,hg,u,⟨m,hn,λi x v e1 S e3=>?_⟩,λx c e=>?_,Μ,λx c e=>?_,λp hp=>?_,hok,?_⟩
 ·have hi:own.length<=i:=by
   apply TR
   intro ye;rw[Av (by simpa using ye),D9,qX ye]at S;cases S
  obtain⟨j,rfl⟩:∃j,i=own.length+j:=⟨i - own.length,by lia⟩
  rw[Bd (by simp)]at S
  have e2':T[j]?=some (some v):=by simpa using S
  obtain⟨⟨n1,n2,n3,n4⟩,n5,n6⟩:=Q.up j x e1 e3;obtain⟨m0,hn0,hl⟩:=I.loc;obtain⟨w',r,lk⟩:=hl j x v n1 e2' n2;refine⟨w',r,.inr ⟨n3,?_⟩⟩
  rcases lk with⟨k,_⟩ | ⟨_,c,hc,yu⟩
  ·exact(n4 k).elim
  ·obtain⟨c',L⟩:=c2 _ n6 rfl
   have e:=l x c' L;rw[hc]at e;cases e;exact⟨c,OS n5 L,A x c _ L yu⟩
 ·rcases G x c e with e | ⟨e,_⟩
  ·obtain⟨v,z⟩:=I.cell x c (l x c e)
   exact⟨v,A x c v e z⟩
  ·exact⟨none,e⟩
 ·rcases G x c e with e | ⟨_,e⟩
  ·obtain⟨v,o,ho,hd⟩:=I.cell x c (l x c e)
   exact u.free c o ho (I.freeC x c (l x c e)) λz=>(J c z).2.2.2.2.1 x c (l x c e) rfl
  ·exact Y c e
 ·have N:p∈X.pn++ζ:=by
   have hp:p∈(X.pn++ζ)++[]:=hp;rwa [By]at hp
  obtain⟨e,n,ne,nf,d⟩:=I.pin p N
  have O:p.1∉frs X.stack:=λz=>(Af.mp (I.stkSub _ z)).elim ne nf
  have P:p.1∉fp:=λz=>(J _ z).2.2.2.2.2 p N rfl
  exact⟨u.keep p.1 p.2 e n O P,u.free p.1 p.2 e n P,BK (AX (Ao e) Z),O,d⟩
 ·show(B1 own.length none++T).length=N'.length
  rw[AQ,N8,I.len,Q.len]
noncomputable def iD(k:Nat)(N:TI)(g:TG)(tc:TT)(te:TE):TE:=λC H Q=>N C H λJ E=>∀p,E p=none->∃W:Nat->Nat->St->Hp->List V->Prop,(∃m,W 0 m (B1 k none++C) (upd E p (.lst [])) []) /\
 ∀i m A s o,W i m A s o->s p=some (.lst o)/\((J.stop i s/\Q (.ref p) s)∨(J.go i s/\o.length < sizeLine/\∀x G,J.yld i s x G->g x A G λl O=>tc l O λb I=>
  if b=true then te l I λy L=>L p=some (.lst o)/\∃B,B < m/\W (i+1) B l (upd L p (.lst (o++[y]))) (o++[y])else ∃B,B < m/\W (i+1) B l I o))
theorem fS{X':Cx}{L ϖ iter:Expr}{N:List Expr}{pos:Pos}{J:It}{it p:Ab}{tn:Nat->DO->Prop}{g:TG}{tc:TT}{te:TE}{R:Result->AS->Prop}{Q:Hp->Prop}
  (hc:X'.calm=true) (hx:X'.xe=λ_ _=>False) (T:Vx X'.prog X'.w X'.K ϖ J fp it tn) (hg:PG X' ϖ g) (zI:bJ X' N tc) (he:PE X' L te)
  (W:Nat->Nat->St->Hp->List V->Prop) (turn:∀i m l B xs,W i m l B xs->B p=some (.lst xs)/\((J.stop i B/\Q B)∨(J.go i B/\xs.length < sizeLine/\∀x zH,J.yld i B x zH->g x l zH λH H2=>tc H H2 λb H3=>
   if b=true then te H H3 λy H4=>H4 p=some (.lst xs)/\∃G,G < m/\W (i+1) G H (upd H4 p (.lst (xs++[y]))) (xs++[y])else ∃G,G < m/\W (i+1) G H H3 xs)))
  (fin:∀l B s',Inv X' [] l B s'->Q B->R (.ok .next) s')
  {m0:Nat} {O:St} {H0:Hp} {s0:AS} (I0:Inv X' [] O H0 s0) (st0:tn 0 s0.heap) (f0:∀b∈fp,PQ X' [] H0 b) (w0:W 0 m0 O H0 []) :
  Li (Aw X'.prog X'.w) X'.A (.compLoop (.ListComp L [⟨ϖ,iter,N,0⟩] scope pos) 0 (.ref it) (.ref p) X'.env) R s0:=by
 have za:∀{B:Hp},(∀b∈fp,B b=none)->∀b∈fp,PQ X' [] B b:=λhn b hb=>⟨hn b hb,(f0 b hb).2⟩
 refine codeAny_loop rfl (λn s'=>∃i l B xs,Inv X' [] l B s'/\tn i s'.heap/\(∀b∈fp,B b=none)/\W i n l B xs) (λn s1 hI=>?_) m0 ⟨0,O,H0,[],I0,st0,λb hb=>(f0 b hb).1,w0⟩;obtain⟨i,C,H1,xs,I1,yG,fr1,w1⟩:=hI;show Am _ X'.A ((compTurn (.ListComp L [⟨ϖ,iter,N,0⟩] scope pos) 0 (.ref it) (.ref p) X'.env).onRaise (λx=>do noteFrame x X'.env;theTreesLotGoes x)) _ _ s1;refine wpAny_noted ?_;rw[compTurn_list]
 have up:∀{α:Type} {t:Sem α} {P:α->AS->Prop} {E:AK->AS->Prop} {s:AS},Am (Aw X'.prog X'.w) X'.A t P X'.xe s->Am (Aw X'.prog X'.w) X'.A t P E s:=λh=>IM h (λ_ _ z=>z) λ_ _ z=>by rw[hx]at z;exact z.elim
 obtain⟨hp,S⟩:=turn i n C H1 xs w1;refine AB (wpAny_standAt (AB ?_))
 rcases S with⟨stop,q⟩ | ⟨go,hz,step⟩
 ·refine up (thn (T.done X' rfl rfl rfl hc i [] s1 C H1 X'.xe I1 (za fr1) yG stop) λr s4 ⟨hr,I4⟩=>?_)
  subst hr;exact AL (fin C H1 s4 I4 q)
 ·refine up (thn (T.item X' rfl rfl rfl hc i [] s1 C H1 X'.xe I1 (za fr1) yG go) λr s4 ⟨u,hr,h4⟩=>?_)
  subst hr;refine AB (up (thn h4 λ_ s5 ⟨x,H5,I5,r5,y5,U,fr5⟩=>?_));have I5':=I5.pinned (za fr5) (T.obj _ _ U);refine AB (up (thn (hg _ s5 C H5 x u _ I5' r5 (step x H5 y5)) λ_ s6 ⟨Y,H6,I6,q6⟩=>?_))
  have ft:∀{Z:AS} {I:St} {H7:Hp} {ys:List V},Inv X' ([]++UO fp s5.heap) I H7 Z->(∃G,G < n/\W (i+1) G I H7 ys)->∃m,m < n/\∃i l B xs,Inv X' [] l B Z/\tn i Z.heap/\(∀b∈fp,B b=none)/\W i m l B xs:=λ{Z I H7 ys} I7 ⟨G,hm,w7⟩=>by
   refine⟨G,hm,i+1,I,H7,ys,I7.unpinned,T.keep _ _ _ U λb hb o e=>(I7.pin (b,o) (BR _ (BR _ (Ms hb e)))).1,λb hb=>?_,w7⟩;obtain⟨o,e,d⟩:=T.obj _ _ U b hb;exact(I7.pin (b,o) (BR _ (BR _ (Ms hb e)))).2.1
  refine AB (up (thn (zI _ s6 Y H6 _ I6 q6) λok Z ⟨H7,I7,q7⟩=>?_))
  cases ok with
  | false=>
   rw[qY AN]at q7;exact AL ⟨rfl,ft I7 q7⟩
  | true=>
   rw[qX rfl]at q7;refine AB (AB (up (thn (he _ Z Y H7 _ I7 q7) λyv s8 ⟨y,H8,I8,r8,hp8,q8⟩=>?_)));refine AB (up (thn (WI (X:=X') _ s8 Y H8 (.ref p) [y] (.ref p) [yv] (λv H9=>v=.non/\H9=upd H8 p (.lst (xs++[y]))) I8 rfl (.cons r8 .nil) ⟨p,xs,y,rfl,rfl,hp8,hz,rfl,rfl⟩) λv9 s9 ⟨v,H9,I9,r9,e9,e10⟩=>?_));subst e10;exact AL (AL ⟨rfl,ft I9 q8⟩)
end
section
theorem WX(N:Inv X G O B m)(J:Inv (Es X scope N' cl C m B fp (X.pn++G)) [] P s s')(Q:m.heap.objs.size<=C)(R:∀b∈fp,PQ X G B b)
  (E:FQ C s'.heap h'):Inv X G O s { s' with heap:=h' }:=by
 have H:∀b o,m.heap.get? b=some o->b≠C:=λb o e=>BK (AX (Ao e) Q)
 have l:Un (frs X.stack) fp B s m.heap s'.heap:=J.base
 have u:Un (frs X.stack) fp B s m.heap h':=by
  refine⟨λb o e n hb A=>(E.2 b (H b o e)).trans (l.keep b o e n hb A),λb o e n hb A=>?_,l.free,λb o e A=>?_,l.tups,l.frzs,l.tbls⟩
  ·obtain⟨sl,q⟩:=l.slot b o e n hb A
   exact⟨sl,(E.2 b (H b o e)).trans q⟩
  ·obtain⟨S,q⟩:=l.there b o e A
   exact⟨S,(E.2 b (H b o e)).trans q⟩
 have L:s C=none:=J.free
 have I:HOk X.prog X.w s h':=λa o e=>(J.hok a o e).stay (λb u hb q=>(E.2 b λz=>by
  subst z
  rcases hb with z | z
  ·subst z;rw[L]at e;cases e
  ·rw[L]at z;cases z).trans q) (λ_ q=>q) λ_ _ q=>q
 exact N.call' (s':={ s' with heap:=h' }) (ch:=fp) J.os u I J.bare λb hb=>by
  obtain⟨_,T,z2,U,Y,Z⟩:=R b hb;exact⟨U,T,Y,Z⟩
theorem U0{σ:St}{E:AK->AS->Prop}{Qf:Ab->Hp->Prop}{RR:AK->Ab->Result->AS->Prop}{it:Ab}{J:It}{tn:Nat->DO->Prop}(hc:X.calm=true)(Sc:PR X scope own N')
  (hg:∀I C B G ex pn,PG (Es X scope N' I C B G ex pn) ϖ g) (zI:∀I C B G ex pn,bJ (Es X scope N' I C B G ex pn) ifs tc) (he:∀I C B G ex pn,PE (Es X scope N' I C B G ex pn) elt te)
  (c1:∀n c,I.lookup n=some c->X.env.cells.lookup n=some c) (c2:∀y∈scope.names,y.2=.free->∃c,I.lookup y.1=some c)
  (I2:Inv X ζ σ L s2) (T:Vx X.prog X.w X.K ϖ J fp it tn) (yb:tn 0 s2.heap) (f2:∀b∈fp,PQ X ζ L b)
  (q2:∀p,L p=none->∃W:Nat->Nat->St->Hp->List V->Prop,(∃m,W 0 m (B1 own.length none++σ) (upd L p (.lst [])) []) /\
   ∀i m N O xs,W i m N O xs->O p=some (.lst xs)/\((J.stop i O/\Qf p O)∨(J.go i O/\xs.length < sizeLine/\∀x zH,J.yld i O x zH->g x N zH λP L=>tc P L λb H=>
    if b=true then te P H λy l=>l p=some (.lst xs)/\∃m',m' < m/\W (i+1) m' P (upd l p (.lst (xs++[y]))) (xs++[y])else ∃m',m' < m/\W (i+1) m' P H xs)))
  (hRR:∀D C I N O s',s2.heap.objs.size<=C->Inv (Es X scope N' I C s2 L fp (X.pn++ζ)) [] N O s'->Qf D O->RR (.ref D) C (.ok .next) s') :
  Am (Aw X.prog X.w) X.A (newList []) (λacc s₃=>Am (Aw X.prog X.w) X.A (Zc scope X.env.globals I [] X.env.qual none .none (some X.env)) (λU s₄=>
   Li (Aw X.prog X.w) X.A (.compStart (.ListComp elt [⟨ϖ,iter,ifs,0⟩] scope pos) 0 (.ref it) acc { U with scope:=Lg scope X.env }) (RR acc U.locals) s₄) E s₃) E s2:=by
 have G':∀b∈fp,b < s2.heap.objs.size:=λb hb=>by
  obtain⟨o,e,_⟩:=T.obj _ _ yb b hb;exact Ao e
 refine CY (Zk ?_);dsimp only;generalize hH3:s2.heap.push { cls:=.type "list",dict:=none,data:=.seq ([]:List AK).toArray }=H;generalize hH4:H.push { cls:=.type "dict",data:=.dict #[] }=l
 have hC:H.objs.size=s2.heap.objs.size+1:=by rw[<-hH3,Eb]
 have hC4:l.objs.size=H.objs.size+1:=by rw[<-hH4,Eb]
 have hDC:s2.heap.objs.size≠H.objs.size:=by rw[hC];exact BK (Dw _)
 have J':s2.heap.objs.size<=H.objs.size:=by rw[hC];exact MB _
 have Y:s2.heap.objs.size<=l.objs.size:=by rw[hC4];exact Nat.le_succ_of_le J'
 have Z:∀b o,H.get? b=some o->(FR l scope.names).get? b=some o:=λb o e=>X1 _ _ _ _ (hH4▸AR _ e)
 have R:∀b o,s2.heap.get? b=some o->(FR l scope.names).get? b=some o:=λb o e=>Z b o (hH3▸AR _ e)
 have ym:(FR l scope.names).get? s2.heap.objs.size=some { cls:=.type "list",dict:=none,data:=.seq ([]:List AK).toArray }:=Z _ _ (hH3▸Ah _ rfl)
 have S:(FR l scope.names).Ns H.objs.size λ_=>none:=by
  have:=(DO.Ns.new H (.type "dict")).keeps (X1 scope.names (H.push { cls:=.type "dict",data:=.dict #[] }));rw[hH4]at this;exact this
 have hD:L s2.heap.objs.size=none:=I2.hok.fresh (AM _);have u:Un (frs X.stack) fp L (upd L s2.heap.objs.size (.lst [])) s2.heap (FR l scope.names):=Un.laid R (AM _) hD;have hok:HOk X.prog X.w (upd L s2.heap.objs.size (.lst [])) (FR l scope.names):=I2.hok.laid R (AM _) ⟨Do _,[],0,.nil,ym⟩
 have hHn:∀c,s2.heap.objs.size < c->upd L s2.heap.objs.size (.lst []) c=none:=λc h=>by rw[Bv (FS h)];exact I2.hok.fresh (Kd h)
 have Μ:upd L s2.heap.objs.size (.lst []) H.objs.size=none:=hHn _ (by rw[hC];exact Dw _)
 have zu:∀x c,(Cd l.objs.size scope.names I).lookup x=some c->I.lookup x=some c∨((FR l scope.names).IsCell c none/\l.objs.size<=c):=λx c e=>LU scope.names l I x c e
 obtain⟨W,⟨m0,w0⟩,turn⟩:=q2 s2.heap.objs.size hD
 have loop:∀s₃:AS,s₃={ s2 with heap:=FR l scope.names } ->
   Li (Aw X.prog X.w) X.A (.compLoop (.ListComp elt [⟨ϖ,iter,ifs,0⟩] scope pos) 0 (.ref it) (.ref s2.heap.objs.size) (compEnvC scope (Cd l.objs.size scope.names I) H.objs.size X.env))
    (RR (.ref s2.heap.objs.size) H.objs.size) s₃:=by
  rintro s₃ rfl
  have J0:Inv (Es X scope N' (Cd l.objs.size scope.names I) H.objs.size s2 L fp (X.pn++ζ)) [] (B1 own.length none++σ) (upd L s2.heap.objs.size (.lst [])) { s2 with heap:=FR l scope.names }:=
   az (s:={ s2 with heap:=FR l scope.names }) Sc I2 f2 G' c1 c2 Y zu (λc h=>hHn c (by lia)) J' S rfl I2.bare u hok Μ
  refine fS (X':=Es X scope N' (Cd l.objs.size scope.names I) H.objs.size s2 L fp (X.pn++ζ)) (fp:=fp) (Q:=Qf s2.heap.objs.size) hc rfl T (hg _ _ _ _ _ _) (zI _ _ _ _ _ _) (he _ _ _ _ _ _) W turn (λN O s' J q=>hRR _ _ _ N O s' J' J q) J0 (T.keep _ _ _ yb λb _ o e=>R b o e) (λb hb=>?_) w0;obtain⟨z0,z1,z2,z3,z4,z5⟩:=f2 b hb;refine⟨by rw[Bv (BK (G' b hb))];exact z0,BK (AX (G' b hb) J'),λz=>?_,.inl hb,λx c e=>?_,λp hp=>?_⟩
  ·exact(Af.mp (I2.stkSub _ z)).elim z1 z2
  ·rcases zu x c e with e | ⟨_,e⟩
   ·exact z4 x c (c1 x c e)
   ·exact FS (AX (G' b hb) (Aj Y e))
  ·have hp:p∈(X.pn++ζ)++[]:=hp
   rw[By]at hp;exact z5 p hp
 exact codeAny_compStart_list (loop _ rfl) (T.self X.A 0 _ _ _ (T.keep _ _ _ yb λb _ o e=>R b o e) (loop _ rfl))
theorem mz(hc:X.calm=true)(G:PR X scope own N')(hi:PI X R iter wi)
  (hg:∀B C l o ex E,PG (Es X scope N' B C l o ex E) R g) (zI:∀B C l o ex E,bJ (Es X scope N' B C l o ex E) L tc) (he:∀B C l o ex E,PE (Es X scope N' B C l o ex E) N te)
  (hs:∀x,Gi iter X.env x=pure x:=by intro _;rfl):PE X (.ListComp N [⟨R,iter,L,0⟩] scope pos) (iD own.length wi g tc te):=by
 intro S s U H Q I h;rw[eval_ListComp];obtain⟨B,zJ,c1,c2⟩:=cu (scope:=scope) (env:=X.env) (λy hy hf=>I.ok.has y.1 (G.free y hy hf));refine c7 (use:=none) rfl hs zJ G.kind G.names (thn (hi S s U H _ I h) λv s1 h1=>thn h1 λitv s2 h2=>?_);obtain⟨it,fp,tn,J,H2,rfl,Y,T,yb,Z,q2⟩:=h2
 refine U0 (Qf:=λp O=>Q (.ref p) O) (RR:=λP C=>compPost (Aw X.prog X.w) X.A X.xe none (EP X S U Q) P C) hc G hg zI he c1 c2 Y T yb Z q2 λD C cl' σ' O s' hC J q=>?_
 obtain⟨m,hn,_⟩:=J.loc;exact⟨m,hn,λh' sb=>⟨.ref D,O,WX Y J hC Z sb,rfl,q⟩⟩
theorem mU{i:Nat}{y:Str}{L My:Pos}(hc:X.calm=true)(hsw:HB (.ListComp E [⟨Y,iter,G,0⟩] scope pos) (some (.Name y L)) My.line X.env=pure true)
  (hN:X.N.Nodup) (hy:X.N[i]?=some y) (ψ:Loc X.env.scope y) (Z:PR X scope own N') (hi:PI X Y iter wi)
  (hg:∀O C l B ex R,PG (Es X scope N' O C l B ex R) Y g) (zI:∀O C l B ex R,bJ (Es X scope N' O C l B ex R) G tc) (he:∀O C l B ex R,PE (Es X scope N' O C l B ex R) E te)
  (hs:∀x,Gi iter X.env x=pure x:=by intro _;rfl) (hf:X.fn y=true∨X.env.scope.names.lookup y=some .local:=by first | exact .inl rfl | exact .inr rfl | assumption) :
  PS X (.Assign [.Name y L] (.ListComp E [⟨Y,iter,G,0⟩] scope pos) My) (rB (iD own.length wi g tc te) (ca i)):=by
 intro ζ s σ H D I h;rw[exec_Assign_Name_used _ _ _ _ hsw];refine AB (wpAny_standAt (AB ?_));show Am _ X.A (do let _ <-comprehension (.ListComp E [⟨Y,iter,G,0⟩] scope pos) scope X.env _ (newList []) false (CF iter X.env) (some (TM (.Name y L) X.env))) _ _ s;obtain⟨O,zJ,c1,c2⟩:=cu (scope:=scope) (env:=X.env) (λy hy hf=>I.ok.has y.1 (Z.free y hy hf))
 refine AB (IM (c7 (use:=some (TM (.Name y L) X.env)) (Q:=λ_ s'=>SP X ζ D .next s') rfl hs zJ Z.kind Z.names
  (thn (hi ζ s σ H _ I h) λv s1 h1=>thn h1 λitv s2 h2=>?_)) (λ_ s' hq=>AL (AL hq)) λ_ _ e=>e)
 obtain⟨it,fp,tn,J,H2,rfl,P,T,yb,f2,q2⟩:=h2
 refine U0 (Qf:=λp S=>D.nx (σ.set i (some (.ref p))) S) (RR:=λacc C=>compPost (Aw X.prog X.w) X.A X.xe (some (TM (.Name y L) X.env)) (λ_ s'=>SP X ζ D .next s') acc C) hc Z hg zI he c1 c2 P T yb f2 q2 λA C cl' σ' S s' U J q=>?_
 obtain⟨m,hn,_⟩:=J.loc;have I3:Inv X ζ σ S s':=WX P J U f2 (xu ..);have Μ:S C=none:=J.free
 have yu:∀x c,X.env.cells.lookup x=some c->c≠C:=λx c e z=>by
  obtain⟨v,q⟩:=P.cell x c e;exact zX (AX q.lt (by rw[z];exact U)) (ER _)
 have Ν:C≠X.env.locals:=FS (AX P.lt U);show Am _ X.A (TM (.Name y L) X.env (.ref A)) _ _ s';refine uU (V9 (v:=.ref A) I3 hN hy ψ rfl (λs4 I4 ⟨a,sb,ha⟩=>?_) hf)
 have haC:C≠a:=by
  rcases ha with e | e
  ·rw[e];exact Ν
  ·exact Ck (yu _ _ e)
 refine⟨m,hn.sameBut sb haC,λh' sb'=>⟨_,S,?_,q⟩⟩
 refine I4.turned (t':=s4.toks) (it:=C) (λb o hb e=>(sb'.2 b hb).trans e) Μ Ν (.inr (Aj P.sz U)) yu λp hp z=>?_
 exact zX (AX (Ao (P.pin p hp).1) (by rw[z];exact U)) (ER _)
end
noncomputable def Gx(v:RX)(g:MG)(c:MT)(m:ME):Nat->Nat->Lo->Sto->List D->Res (List D)
 | k,i,e,S,l=>match v S with
  | none=>.bad
  | some A=>match A[i]? with
   | none=>.ok l S
   | some d=>match k with
    | 0=>.bad
    | k+1=>if l.length < sizeLine then(okR (g d e S)).bind λo B=>(okR (c o B)).bind λb s=>if b=true then(okR (m o s)).bind λy C=>Gx v g c m k (i+1) o C (l++[y])else Gx v g c m k (i+1) o s l else .bad
noncomputable def FE(n:Nat)(mi:MI)(g:MG)(c:MT)(m:ME):ML:=λe S=>(mi e S).bind λv l=>Gx v g c m (EE v l) 0 (B1 n none++e) l []
noncomputable def Gy:MT:=λ_ S=>.ok true S
section
noncomputable abbrev pA(X:Cx)(E:EW)(l:List Expr)(c:MT):Prop:=bJ X l (gT X.K E c)
theorem FO:pA X E [] Gy:=by
 rintro m s o H Q I ⟨A,l,S,G,B,C⟩
 exact iq m s o H Q I (C A H .refl B)
theorem QM(h:GT X E e c):pA X E [e] c:=ip h
theorem Gz.grow{K}{ρ}{H}{e}{m}(n:Nat)(h:Gz K ρ H e m):Gz K ρ H (B1 n none++e) (B1 n none++m):=by
 refine⟨by simp[h.len],λi d q=>?_⟩
 by_cases l:i < n
 ·rw[Av (by simpa using l),D9,qX l]at q
  cases q
 ·rw[Bd (by simpa using l)]at q ⊢
  simp only[N8]at q ⊢;exact h.at' _ d q
theorem Cj.ok_of{l:Type}{K:AI}{E:EH}{ρ:List Ab}{H:Hp}{r:Res l}{k:l->Sto->Prop}{a:l}{S:Sto}(e:r=.ok a S)(h:k a S):Cj K E ρ H r k:=by
 subst e;exact h
theorem UU{l m:Type}{r:Res l}{F:l->Sto->Res m}{b:m}{S:Sto}(h:(okR r).bind F=.ok b S):∃a S1,r=.ok a S1/\F a S1=.ok b S:=by
 cases r with
 | ok a S1=>exact⟨a,S1,rfl,h⟩
 | err c S1=>cases h
 | bad=>cases h
theorem ZH:∀(k i:Nat) (e:Lo) (S:Sto) (l:List D),Gx v g c m k i e S l≠.err H S':=by
 intro k
 induction k with
 | zero=>
  intro i e S l h;unfold Gx at h;split at h
  ·cases h
  ·split at h <;> cases h
 | succ k B=>
  intro i e S l h;unfold Gx at h;split at h
  ·cases h
  ·split at h
   ·cases h
   ·dsimp only at h
    split at h
    ·cases o:g _ e S with
     | ok C E=>
      rw[o]at h;dsimp only[okR,Res.bind]at h
      cases s:c C E with
      | ok b G=>
       rw[s]at h;dsimp only[okR,Res.bind]at h
       cases b with
       | true=>
        rw[qX rfl]at h
        cases A:m C G with
        | ok y I=>rw[A]at h;exact B _ _ _ _ h
        | err _ _=>rw[A]at h;cases h
        | bad=>rw[A]at h;cases h
       | false=>
        rw[qY AN]at h;exact B _ _ _ _ h
      | err _ _=>rw[s]at h;cases h
      | bad=>rw[s]at h;cases h
     | err _ _=>rw[o]at h;cases h
     | bad=>rw[o]at h;cases h
    ·cases h
theorem YQ{K:AI}{n:Nat}{σ:St}{H:Hp}{Q:VK}(h:gL K E (FE n mi g c m) σ H Q):iD n (gI K E mi) (gG K g) (gT K noE c) (gE K noE m) σ H Q:=by
 obtain⟨ρ,l,S,hl,hs,R⟩:=h;refine⟨ρ,l,S,hl,hs,R.seq λv Y R ρ1 H1 J l1 s1 vo p hp=>?_⟩
 obtain⟨Z,X,R,k⟩:∃Z X,Gx v g c m (EE v Y) 0 (B1 n none++l) Y []=.ok Z X/\∀N H' p I,Le K ρ H N H'->Ch K N X H'->A9 K N H' Z I->H' p=some (.lst I)->(∀n:Nat,N[n]?≠some p)->H p=none->Q (.ref p) H':=by
  cases hc:Gx v g c m (EE v Y) 0 (B1 n none++l) Y []with
  | ok Z X=>rw[hc]at R;exact⟨Z,X,rfl,R⟩
  | err c X=>exact(ZH _ _ _ _ _ hc).elim
  | bad=>rw[hc]at R;exact R.elim
 obtain⟨s1',l1'⟩:=HN (ho:=.lst []) s1 hp;have hp0:H p=none:=l1.back hs s1 hp
 refine⟨λi j σ2 T I=>∃B e2 S2 G,Le K ρ1 H1 B T/\Gz K B T e2 σ2/\Ch K B S2 T/\A9 K B T G I/\T p=some (.lst I)/\(∀q:Nat,B[q]?≠some p)/\Gx v g c m j i e2 S2 G=.ok Z X,
  ⟨EE v Y,ρ1,_,Y,[],l1',(hl.mono (l1.trans l1')).grow n,s1',.nil,CB,λq e=>s1.notIn hp e,R⟩,?_⟩
 rintro i j σ2 T I ⟨B,e2,S2,G,l2,r2,s2,ra,zq,yH,A⟩;refine⟨zq,?_⟩;unfold Gx at A
 cases hv:v S2 with
 | none=>rw[hv]at A;cases A
 | some vs=>
  rw[hv]at A;dsimp only at A;obtain⟨v1,v2⟩:=vo B T S2 vs i l2 s2 hv
  cases hd:vs[i]? with
  | none=>
   rw[hd]at A;cases A;exact .inl ⟨v1 hd,k B T p I (l1.trans l2) s2 ra zq yH hp0⟩
  | some d=>
   rw[hd]at A;dsimp only at A;obtain⟨go,yl⟩:=v2 d hd
   cases j with
   | zero=>cases A
   | succ j=>
    dsimp only at A;split at A
    ·rename_i hz
     obtain⟨e3,S3,h3,A⟩:=UU A;obtain⟨b,S4,h4,A⟩:=UU A;refine .inr ⟨go,by rw[<-ra.length];exact hz,λx H' y=>?_⟩;obtain⟨ρ3,l3,s3,rd⟩:=yl x H' y;obtain⟨hp3,hn3⟩:=l3.oth p _ zq yH;refine⟨ρ3,e2,S2,d,rd,r2.mono l3,s3,Cj.ok_of h3 λρ4 H4 σ4 l4 s4 r4=>?_⟩;obtain⟨hp4,hn4⟩:=l4.oth p _ hp3 hn3;refine⟨ρ4,e3,S3,r4,s4,Cj.ok_of h4 λρ5 H5 U s5=>?_⟩;obtain⟨hp5,hn5⟩:=U.oth p _ hp4 hn4
     cases b with
     | false=>
      rw[qY AN]at A ⊢;exact⟨j,Dw j,ρ5,e3,S4,G,l2.trans (l3.trans (l4.trans U)),r4.mono U,s5,ra.mono (l3.trans (l4.trans U)),hp5,hn5,A⟩
     | true=>
      rw[qX rfl]at A ⊢;obtain⟨yv,S5,h5,A⟩:=UU A;refine⟨ρ5,e3,S4,r4.mono U,s5,Cj.ok_of h5 λs C y6 l6 s6 r6=>?_⟩;obtain⟨O,hn6⟩:=l6.oth p _ hp5 hn5
      have l7:∀P,Le K s C s (upd C p (.lst P))->True:=λ_ _=>trivial
      have up7:∀P:List V,Ch K s S5 (upd C p (.lst P))/\(∀a o,Ed K s C a o->a≠p->Ed K s (upd C p (.lst P)) a o)/\∀e' w',CM K s C e' w'->CM K s (upd C p (.lst P)) e' w':=λP=>by
       have L:=Hl (H:=C) (p:=p) (ho:=.lst P) (.inr (by rw[O];trivial))
       have mono:∀e' w',CM K s C e' w'->CM K s (upd C p (.lst P)) e' w':=λe' w' r=>r.keep L.1 L.2
       have mob:∀a o,Ed K s C a o->a≠p->Ed K s (upd C p (.lst P)) a o:=λa o r ne=>r.keep L.1 L.2 (Bv ne)
       exact⟨⟨s6.len,s6.nd,λn o a q1 q2=>mob a o (s6.ob n o a q1 q2) λz=>hn6 n (by rw[<-z];exact q2)⟩,mob,mono⟩
      obtain⟨u1,u2,u3⟩:=up7 (I++[y6]);refine⟨O,j,Dw j,s,e3,S5,G++[yv],?_,?_,u1,?_,CB,hn6,A⟩
      ·have lx:=l2.trans (l3.trans (l4.trans (U.trans l6)))
       have L:=Hl (H:=C) (p:=p) (ho:=.lst (I++[y6])) (.inr (by rw[O];trivial))
       exact⟨lx.pre,λa zs q=>L.1 a zs (lx.tup a zs q),λa o u q=>L.2 a o u (lx.frz a o u q),λa o q z=>by
        have nap:a≠p:=Cy q hp;obtain⟨z1,z2⟩:=lx.oth a o q z
        exact⟨by rw[Bv nap];exact z1,z2⟩⟩
      ·have rr:=r4.mono (U.trans l6)
       exact⟨rr.len,λq d' hq=>by
        obtain⟨w',z1,z2⟩:=rr.at' q d' hq
        exact⟨w',z1,u3 _ _ z2⟩⟩
      ·have ra6:=ra.mono (l3.trans (l4.trans (U.trans l6)))
       have L:=Hl (H:=C) (p:=p) (ho:=.lst (I++[y6])) (.inr (by rw[O];trivial));exact(ra6.keep L.1 L.2).append (.cons (u3 _ _ r6) .nil)
    ·cases A
theorem GX(I:X.calm=true)(J:PR X scope own N')(hi:GI X E H iter mi)
  (L:∀s C l o ex A,GG (Es X scope N' s C l o ex A) H g) (N:∀s C l o ex A,pA (Es X scope N' s C l o ex A) noE B c) (O:∀s C l o ex A,GE (Es X scope N' s C l o ex A) noE G m)
  (P:∀x,Gi iter X.env x=pure x:=by intro _;rfl):GL X E (.ListComp G [⟨H,iter,B,0⟩] scope pos) (FE own.length mi g c m):=
 (mz (g:=gG X.K g) (tc:=gT X.K noE c) (te:=gE X.K noE m) I J hi L N O P).imp λ_ _ _ h=>YQ h
theorem XY(hc:X.calm=true)(T:HB (.ListComp G [⟨U,iter,I,0⟩] scope pos) (some (.Name y py)) My.line X.env=pure true)
  (hN:X.N.Nodup) (hy:X.N[i]?=some y) (ψ:Loc X.env.scope y) (Sc:PR X scope own N') (hi:GI X E U iter mi)
  (hg:∀J C s A ex L,GG (Es X scope N' J C s A ex L) U g) (zI:∀J C s A ex L,pA (Es X scope N' J C s A ex L) noE I c) (he:∀J C s A ex L,GE (Es X scope N' J C s A ex L) noE G m)
  (Y:∀x,Gi iter X.env x=pure x:=by intro _;rfl) (hf:X.fn y=true∨X.env.scope.names.lookup y=some .local:=by first | exact .inl rfl | exact .inr rfl | assumption) :
  GS X E (.Assign [.Name y py] (.ListComp G [⟨U,iter,I,0⟩] scope pos) My) (Cg i (Er (FE own.length mi g c m))):=by
 refine(mU (g:=gG X.K g) (tc:=gT X.K noE c) (te:=gE X.K noE m) hc T hN hy ψ Sc hi hg zI he Y hf).imp λD σ H ⟨P,l,S,Z,Y,hm⟩=>?_
 refine YQ (E:=E) (Q:=λx H'=>D.nx (σ.set i (some x)) H') ⟨P,l,S,Z,Y,Cj.seq (F:=λds S1=>Res.ok (L2.D.ref S1.length) (S1++[Ob.lst ds])) (k:=λd R=>Cj X.K noH P H ((tgN i d l R).bind λe1 R=>.ok (.nx e1) R) λfl S'=>SV X.K E P H S' D fl) (Cj.lift hm Z .refl λd R h=>h) λds S1 hm B H1 p xs O s1 r1 hp hn hp0=>?_⟩
 have l0:∀(n:Nat) a,B[n]?=some a->(B++[p])[n]?=some a:=λn a h=>by rw[Av (AE.mp h).1];exact h
 obtain⟨s2,at2⟩:=s1.adopt (o:=.lst ds) hn ⟨xs,hp,r1.more l0⟩
 have l2:Le X.K P H (B++[p]) H1:=⟨λn a h=>l0 n a (O.pre n a h),O.tup,O.frz,λa o e h=>⟨(O.oth a o e h).1,λn q=>by
  rcases KB q with⟨q,_⟩ | ⟨_,q⟩
  ·exact(O.oth a o e h).2 n q
  ·exact Cy e hp0 q⟩⟩
 exact hm _ _ _ l2 s2 ((Z.mono l2).set (.ref at2) i)
end
end L2
namespace L2
open PySem PySem.Spec PyProof.Rows PySem.SeqAt
noncomputable def M0:D->D->Option Bool
 | .non,.non=>some true
 | .bl a,.bl b=>some (a==b)
 | .int a,.int b=>some (a==b)
 | .str a,.str b=>some (a==b)
 | .non,.int _=>some false
 | .non,.str _=>some false
 | .non,.bl _=>some false
 | .non,.tup _=>some false
 | .int _,.non=>some false
 | .str _,.non=>some false
 | .bl _,.non=>some false
 | .tup _,.non=>some false
 | .int _,.tup _=>some false
 | .tup _,.int _=>some false
 | _,_=>none
noncomputable def eqL(f:D->D->Option Bool):List D->List D->Option Bool
 | [],[]=>some true
 | [],_ :: _=>some false
 | _ :: _,[]=>some false
 | x :: l,y :: m=>match f x y,eqL f l m with
  | some a,some b=>some (a&&b)
  | _,_=>none
noncomputable def eqP:Nat->D->D->Option Bool
 | 0,x,y=>M0 x y
 | n+1,x,y=>match x,y with
  | .tup l,.tup m=>eqL (eqP n) l m
  | x,y=>M0 x y
theorem Ny(h:eqL f (x :: xs) (y :: ys)=some b):∃a c,f x y=some a/\eqL f xs ys=some c/\b=(a&&c):=by
 unfold eqL at h;split at h
 ·rename_i a c l m
  cases h;exact⟨a,c,l,m,rfl⟩
 ·cases h
theorem cn:∀{xs ys:List D} {b:Bool},eqL f xs ys=some b->(∀(j:Nat) x y,xs[j]?=some x->ys[j]?=some y->∃c,f x y=some c) /\
  b=((BJ (min xs.length ys.length)).all (λj=>match xs[j]?,ys[j]? with | some x,some y=>(f x y).getD false | _,_=>false)&&xs.length==ys.length)
 | [],[],b,h=>by cases h;exact⟨λj x y h=>by simp at h,by simp⟩
 | [],y :: ys,b,h=>by cases h;exact⟨λj x y h=>by simp at h,by simp⟩
 | x :: xs,[],b,h=>by cases h;exact⟨λj x y _ h=>by simp at h,by simp⟩
 | x :: xs,y :: ys,b,h=>by
  obtain⟨a,c,o,s,rfl⟩:=Ny h;obtain⟨A,B⟩:=cn s;refine⟨λj C E l m=>?_,?_⟩
  ·cases j with
   | zero=>simp at l m;subst l;subst m;exact⟨a,o⟩
   | succ j=>exact A j C E (by simpa using l) (by simpa using m)
  ·rw[B,BC,BC,show min (xs.length+1) (ys.length+1)=min xs.length ys.length+1 by lia,ZV,MD,ZW]
   simp only[List.getElem?_cons_zero,o,Rb,Function.comp_def,List.getElem?_cons_succ];rw[Bool.and_assoc]
   congr 1
   congr 1
   rw[NV];simp
section
variable{K:AI}{ρ:List Ab}{H:Hp}
theorem cf(n k:Nat)(y:D):eqP n (.ref k) y=none:=by cases n <;> cases y <;> rfl
theorem cg(n:Nat)(ds:List D)(y:D):eqP n (.fro ds) y=none:=by cases n <;> cases y <;> rfl
theorem ci(n:Nat)(c:Ab)(y:D):eqP n (.exc c) y=none:=by cases n <;> cases y <;> rfl
theorem P0(A:CM K ρ H x v)(l:CM K ρ H m v):x=m∨(∃ds o vs,x=.tup ds/\m=.tup o/\A9 K ρ H ds vs/\A9 K ρ H o vs)∨(∀n y,eqP n x y=none)∨∀n y,eqP n m y=none:=by
 cases A with
 | non=>cases l;exact .inl rfl
 | bl b=>cases l;exact .inl rfl
 | int b=>cases l;exact .inl rfl
 | str b=>cases l;exact .inl rfl
 | fro _ _=>exact .inr (.inr (.inl λn y=>cg n _ y))
 | ref _=>exact .inr (.inr (.inl λn y=>cf n _ y))
 | exc _ _=>exact .inr (.inr (.inl λn y=>ci n _ y))
 | tup B C=>
  cases l with
  | fro _ _=>exact .inr (.inr (.inr λn y=>cg n _ y))
  | ref _=>exact .inr (.inr (.inr λn y=>cf n _ y))
  | exc _ _=>exact .inr (.inr (.inr λn y=>ci n _ y))
  | tup s E=>
   rw[B]at s;cases s;exact .inr (.inl ⟨_,_,_,rfl,rfl,C,E⟩)
theorem oR:∀(n:Nat) {x C y:D} {v:V} {b b':Bool},CM K ρ H x v->CM K ρ H C v->eqP n x y=some b->eqP n C y=some b'->b=b':=by
 intro n
 induction n with
 | zero=>
  intro x C y v b b' J L h l
  rcases P0 J L with rfl | ⟨E,N,o,rfl,rfl,_,_⟩ | q | q
  ·rw[h]at l;cases l;rfl
  ·have:eqP 0 (.tup E) y=eqP 0 (.tup N) y:=by cases y <;> rfl
   rw[<-this,h]at l;cases l;rfl
  ·rw[q]at h;cases h
  ·rw[q]at l;cases l
 | succ n R=>
  intro x C y v b b' J L h l
  have lists:∀{G:List D} {o:List V} {I m:List D} {b b':Bool},A9 K ρ H G o->A9 K ρ H I o->eqL (eqP n) G m=some b->eqL (eqP n) I m=some b'->b=b':=by
   intro G
   induction G with
   | nil=>
    intro o I m b b' s A g B;cases s;cases A;rw[g]at B;cases B;rfl
   | cons d E O=>
    intro o I m b b' s A g B
    cases s with
    | cons S T=>
     cases A with
     | cons U X=>
      cases m with
      | nil=>cases g;cases B;rfl
      | cons y m=>
       obtain⟨p,q,Y,Z,rfl⟩:=Ny g;obtain⟨p',q',P,Q,rfl⟩:=Ny B;rw[R S U Y P,O T X Z Q]
  rcases P0 J L with rfl | ⟨E,N,o,rfl,rfl,s,A⟩ | q | q
  ·rw[h]at l;cases l;rfl
  ·by_cases c:∃m,y=.tup m
   ·obtain⟨m,rfl⟩:=c
    exact lists s A h l
   ·have:eqP (n+1) (.tup E) y=eqP (n+1) (.tup N) y:=by
     cases y <;> first | rfl | exact(c ⟨_,rfl⟩).elim
    rw[<-this,h]at l;cases l;rfl
  ·rw[q]at h;cases h
  ·rw[q]at l;cases l
theorem FG(h:M0 x x=some b):b=true:=by
 cases x <;> first | (cases h;done) | (cases h;simp)
theorem Ux:∀(n:Nat) {x:D} {b:Bool},eqP n x x=some b->b=true
 | 0,_,_,h=>FG h
 | n+1,x,b,h=>by
  have lists:∀{l:List D} {b:Bool},eqL (eqP n) l l=some b->b=true:=by
   intro l
   induction l with
   | nil=>intro b g;cases g;rfl
   | cons d A m=>
    intro b g;obtain⟨p,q,o,s,rfl⟩:=Ny g;rw[Ux n o,m s];rfl
  cases x with
  | tup l=>exact lists h
  | non=>exact FG (x:=.non) h
  | bl c=>exact FG (x:=.bl c) h
  | int c=>exact FG (x:=.int c) h
  | str c=>exact FG (x:=.str c) h
  | ref c=>exact FG (x:=.ref c) h
  | fro c=>exact FG (x:=.fro c) h
  | exc c=>exact FG (x:=.exc c) h
theorem OK(l:(∃f,y=.fro f)∨(∃r,y=.ref r)∨∃c,y=.exc c)(n:Nat):eqP n x y=none:=by
 rcases l with⟨f,rfl⟩ | ⟨r,rfl⟩ | ⟨c,rfl⟩ <;> (cases n <;> cases x <;> rfl)
theorem j5(n:Nat)(E:CM K ρ H x v)(s:CM K ρ H y v)(h:eqP n x y=some b):b=true:=by
 induction n generalizing x y v b with
 | zero=>
  rcases P0 E s with rfl | ⟨G,I,l,rfl,rfl,_,_⟩ | q | q
  ·exact Ux 0 h
  ·cases h
  ·rw[q]at h;cases h
  ·cases s with
   | fro _ _=>rw[OK (.inl ⟨_,rfl⟩)]at h;cases h
   | ref _=>rw[OK (.inr (.inl ⟨_,rfl⟩))]at h;cases h
   | exc _ _=>rw[OK (.inr (.inr ⟨_,rfl⟩))]at h;cases h
   | non=>cases(q 0 .non)
   | bl b=>cases(q 0 (.bl b))
   | int b=>cases(q 0 (.int b))
   | str b=>cases(q 0 (.str b))
   | tup _ _=>cases(q 0 .non)
 | succ n J=>
  have lists:∀{A B:List D} {l:List V} {b:Bool},A9 K ρ H A l->A9 K ρ H B l->eqL (eqP n) A B=some b->b=true:=by
   intro A
   induction A with
   | nil=>intro B l b m o g;cases m;cases o;cases g;rfl
   | cons d G C=>
    intro B l b m o g
    cases m with
    | cons L N=>
     cases o with
     | cons O P=>
      obtain⟨p,q,Q,R,rfl⟩:=Ny g;rw[J L O Q,C N P R];rfl
  rcases P0 E s with rfl | ⟨G,I,l,rfl,rfl,m,o⟩ | q | q
  ·exact Ux (n+1) h
  ·exact lists m o h
  ·rw[q]at h;cases h
  ·cases s with
   | fro _ _=>rw[OK (.inl ⟨_,rfl⟩)]at h;cases h
   | ref _=>rw[OK (.inr (.inl ⟨_,rfl⟩))]at h;cases h
   | exc _ _=>rw[OK (.inr (.inr ⟨_,rfl⟩))]at h;cases h
   | non=>cases(q 0 .non)
   | bl b=>cases(q 0 (.bl b))
   | int b=>cases(q 0 (.int b))
   | str b=>cases(q 0 (.str b))
   | tup _ _=>cases(q 0 .non)
end
section
variable{X:Cx}{ζ:List (Ab×Obj)}{σ:St}{H:Hp}{s:AS}{ρ:List Ab}
theorem Ic(A:Cf):A.in1.units=A.units+1:=rfl
theorem CG.at_(r:CG vs l)(h:j < l.toArray.size):∃v,vs[j]?=some v/\RelV v l.toArray[j]:=by
 have o:j < l.length:=by simpa using h
 have m:j < vs.length:=by rw[r.length];exact o
 obtain⟨u,A,B⟩:=r.get (i:=j) (x:=vs[j]) (by simp[m]);refine⟨vs[j],by simp[m],?_⟩
 have:l.toArray[j]=u:=by
  have:=AE.mp A;obtain⟨_,e⟩:=this;simpa using e
 rw[this];exact B
theorem W5(P:∀(x y:D) (b:Bool) (m o:V) (u v:AK),eqP n x y=some b->CM X.K ρ H x m->CM X.K ρ H y o->RelV m u->RelV o v->EqAt A s u v b)
  (h:eqL (eqP n) xs ys=some b) (B:A9 X.K ρ H xs vs) (C:A9 X.K ρ H ys Q) (E:CG vs us) (G:CG Q l) :
  ∃e:Nat->Bool,(∀j (I:j < us.toArray.size) (J:j < l.toArray.size),EqAt A s us.toArray[j] l.toArray[j] (e j))/\b=((BJ (min us.toArray.size l.toArray.size)).all e&&us.toArray.size==l.toArray.size):=by
 obtain⟨R,S⟩:=cn h;refine⟨λj=>match xs[j]?,ys[j]? with | some x,some y=>(eqP n x y).getD false | _,_=>false,λj I J=>?_,?_⟩
 ·obtain⟨v,T,U⟩:=CG.at_ E I
  obtain⟨w,Y,Z⟩:=CG.at_ G J;obtain⟨x,L,rx⟩:=B.get' T;obtain⟨y,N,ry⟩:=C.get' Y;obtain⟨c,O⟩:=R j x y L N;have:=P x y c v w _ _ O rx ry U Z;simp only[L,N,O,Rb];exact this
 ·rw[S,B.length,C.length,E.length,G.length]
  simp
theorem RM(I:Inv X ζ σ H s)(m:A.units < FK)(h:M0 x y=some b)(L:CM X.K ρ H x N)(o:CM X.K ρ H y O)(B:RelV N u)(l:RelV O v) :
  EqAt A s u v b/\RcAt A s u v b/\RcNeAt A s u v (!b):=by
 cases L with
 | non=>
  cases B
  cases o with
  | non=>cases l;cases h;exact⟨EqAt.same _,RcAt.none_none,RcNeAt.none_none⟩
  | bl c=>cases l;cases h;exact⟨EqAt.none_bool _,RcAt.none_bool _,RcNeAt.none_bool _⟩
  | int i=>obtain⟨t,rfl⟩:=l;cases h;exact⟨EqAt.none_int _ _,RcAt.none_int _ _,RcNeAt.none_int _ _⟩
  | str z=>obtain⟨t,rfl⟩:=l;cases h;exact⟨EqAt.none_str _ _,RcAt.none_str _ _,RcNeAt.none_str _ _⟩
  | tup C E=>
   cases l;cases h;obtain⟨G,_,p,_⟩:=I.tuple (.inl (.inl C));exact⟨EqAt.none_tuple p m,RcAt.none_tuple p m,RcNeAt.none_tuple p m⟩
  | _=>cases h
 | bl a=>
  cases B
  cases o with
  | non=>cases l;cases h;exact⟨EqAt.bool_none _,RcAt.bool_none _,RcNeAt.bool_none _⟩
  | bl c=>cases l;cases h;exact⟨EqAt.bool_bool _ _,RcAt.bool_bool _ _,RcNeAt.bool_bool _ _⟩
  | _=>cases h
 | int a=>
  obtain⟨t,rfl⟩:=B
  cases o with
  | non=>cases l;cases h;exact⟨EqAt.int_none _ _,RcAt.int_none _ _,RcNeAt.int_none _ _⟩
  | int i=>obtain⟨J,rfl⟩:=l;cases h;exact⟨EqAt.int_int _ _ _ _,RcAt.int_int _ _ _ _,RcNeAt.int_int _ _ _ _⟩
  | tup C E=>
   cases l;cases h;obtain⟨G,_,p,_⟩:=I.tuple (.inl (.inl C));exact⟨EqAt.int_tuple _ _ p m,RcAt.int_tuple _ _ p m,RcNeAt.int_tuple _ _ p m⟩
  | _=>cases h
 | str a=>
  obtain⟨t,rfl⟩:=B
  cases o with
  | non=>cases l;cases h;exact⟨EqAt.str_none _ _,RcAt.str_none _ _,RcNeAt.str_none _ _⟩
  | str i=>obtain⟨J,rfl⟩:=l;cases h;exact⟨EqAt.str_str _ _ _ _,RcAt.str_str _ _ _ _,RcNeAt.str_str _ _ _ _⟩
  | _=>cases h
 | tup C E=>
  cases B;obtain⟨G,_,p,_⟩:=I.tuple (.inl (.inl C))
  cases o with
  | non=>cases l;cases h;exact⟨EqAt.tuple_none p m,RcAt.tuple_none p m,RcNeAt.tuple_none p m⟩
  | int i=>obtain⟨J,rfl⟩:=l;cases h;exact⟨EqAt.tuple_int _ _ p m,RcAt.tuple_int _ _ p m,RcNeAt.tuple_int _ _ p m⟩
  | _=>cases h
 | _=>cases h
theorem av(I:Inv X ζ σ H s):∀(n:Nat) (A:Cf) (x y:D) (b:Bool) (l m:V) (u v:AK),A.units+n < FK->eqP n x y=some b->CM X.K ρ H x l->CM X.K ρ H y m->RelV l u->RelV m v->EqAt A s u v b:=by
 intro n
 induction n with
 | zero=>exact λA x y b l m u v S h B C E G=>(RM I (by omega) h B C E G).1
 | succ n T=>
  intro A x y b l m u v S h B C E G
  by_cases J:∃L N,x=.tup L/\y=.tup N
  ·obtain⟨L,N,rfl,rfl⟩:=J
   cases B with
   | @tup _ a vs O P=>
    cases C with
    | @tup _ c ws Q R=>
     cases E;cases G
     by_cases o:a=c
     ·subst o
      rw[j5 (n+1) (.tup O P) (.tup Q R) h];exact EqAt.same _
     ·obtain⟨i',U,p,_⟩:=I.tuple (.inl (.inl O))
      obtain⟨yx,Y,Z,_⟩:=I.tuple (.inl (.inl Q));obtain⟨e,he,rfl⟩:=W5 (A:=A.in1) (λx y b l m u v g1 g2 g3 g4 g5=>T A.in1 x y b l m u v (by rw[Ic];lia) g1 g2 g3 g4 g5) h P R U Y;exact EqAt.of_refs o (ux p Z (by lia) he)
  ·have hf:M0 x y=some b:=by
    cases x <;> cases y <;> first | exact h | exact(J ⟨_,_,rfl,rfl⟩).elim
   exact(RM I (by lia) hf B C E G).1
noncomputable def Ue(d:D)(S:Sto):Option (List D):=match d with
 | .fro l=>some l
 | .ref n=>match S[n]? with
  | some (.lst l)=>some l
  | _=>none
 | _=>none
noncomputable def eqB(x y:D)(S:Sto):Option Bool:=match Ue x S,Ue y S with
 | some l,some m=>if l.length=m.length then eqL (eqP 8) l m else some false
 | none,none=>eqP 8 x y
 | some _,none=>match y with
  | .tup _=>some false
  | .non=>some false
  | _=>none
 | none,some _=>match x with
  | .tup _=>some false
  | .non=>some false
  | _=>none
noncomputable def eqD(neg:Bool)(x y:D)(S:Sto):Res D:=match eqB x y S with
 | some b=>.ok (.bl (if neg then !b else b)) S
 | none=>.bad
theorem OH{K}{S}{d}{x}{ds}(l:Ch K ρ S H)(r:CM K ρ H d x)(h:Ue d S=some ds):∃p xs,x=.ref p/\A9 K ρ H ds xs/\SqL K H p xs:=by
 cases r with
 | fro m A=>cases h;exact⟨_,_,rfl,A,m.sq⟩
 | @ref n a B=>
  obtain⟨o,C,E⟩:=l.there B;unfold Ue at h;simp only[C]at h
  cases o with
  | lst I=>cases h;obtain⟨J,e,G⟩:=E;exact⟨_,_,rfl,G,.inl (.inl e)⟩
  | _=>cases h
 | _=>cases h
theorem j7{S}{x y}{b}{O P}{u v}(I:Inv X ζ σ H s)(hu:X.A.units+64 < FK)(hs:Ch X.K ρ S H)(Q:CM X.K ρ H x O)(R:CM X.K ρ H y P)(T:RelV O u)(U:RelV P v)(h:eqB x y S=some b) :
  RcAt X.A s u v b/\RcNeAt X.A s u v (!b):=by
 unfold eqB at h;split at h
 ·rename_i Y ys h1 h2
  obtain⟨p,vs,rfl,Z,sq⟩:=OH hs Q h1;obtain⟨p',vs',rfl,G,sq'⟩:=OH hs R h2;cases T;cases U;obtain⟨C,J,l,_⟩:=I.list sq;obtain⟨L,N,B,_⟩:=I.list sq';split at h
  ·rename_i o
   obtain⟨e,he,rfl⟩:=W5 (A:=X.A.in1) (λx y b O P u v g1 g2 g3 g4 g5=>av I 8 X.A.in1 x y b O P u v (by rw[Ic];lia) g1 g2 g3 g4 g5) h Z G J N
   have m:C.toArray.size=L.toArray.size:=by
    simp only[Au];rw[<-J.length,<-N.length,<-Z.length,<-G.length];exact o
   have e1:((BJ (min C.toArray.size L.toArray.size)).all e&&C.toArray.size==L.toArray.size)=(BJ C.toArray.size).all e:=by
    rw[<-m,Nat.min_self,beq_self_eq_true,Bool.and_true]
   rw[e1];exact⟨RcAt.lists l.isList B.isList m (by lia) he,RcNeAt.lists l.isList B.isList m (by lia) he⟩
  ·rename_i o
   cases h
   have m:(C.toArray.size != L.toArray.size)=true:=by
    simp only[Au];rw[<-J.length,<-N.length,<-Z.length,<-G.length];simpa using o
   exact⟨RcAt.lists_lengths l.isList B.isList m (by lia),RcNeAt.lists_lengths l.isList B.isList m (by lia)⟩
 ·by_cases ht:∃Y ys,x=.tup Y/\y=.tup ys
  ·obtain⟨Y,ys,rfl,rfl⟩:=ht
   cases Q with
   | tup a1 a2=>
    cases R with
    | tup b1 b2=>
     cases T;cases U;obtain⟨C,J,p,_⟩:=I.tuple (.inl (.inl a1));obtain⟨L,yP,E,_⟩:=I.tuple (.inl (.inl b1));obtain⟨e,he,rfl⟩:=W5 (n:=7) (A:=X.A.in1) (λx y b O P u v g1 g2 g3 g4 g5=>av I 7 X.A.in1 x y b O P u v (by rw[Ic];lia) g1 g2 g3 g4 g5) h a2 b2 J yP;exact⟨ux p E (by lia) he,RcNeAt.tuples p E (by lia) he⟩
  ·have hf:M0 x y=some b:=by
    cases x <;> cases y <;> first | exact h | exact(ht ⟨_,_,rfl,rfl⟩).elim
   exact(RM I (by lia) hf Q R T U).2
 ·rename_i Y h1 h2
  obtain⟨p,vs,rfl,Z,sq⟩:=OH hs Q h1;cases T;obtain⟨C,J,l,_⟩:=I.list sq;split at h
  ·cases h
   cases R with
   | tup b1 b2=>
    cases U;obtain⟨L,yP,E,_⟩:=I.tuple (.inl (.inl b1));exact⟨RcAt.list_tuple l.isList E (by lia),RcNeAt.list_tuple l.isList E (by lia)⟩
  ·cases h
   cases R;cases U;exact⟨RcAt.list_none l.isList (by lia),RcNeAt.list_none l.isList (by lia)⟩
  ·cases h
 ·rename_i Y h1 h2
  obtain⟨p,vs,rfl,Z,sq⟩:=OH hs R h2;cases U;obtain⟨C,J,l,_⟩:=I.list sq;split at h
  ·cases h
   cases Q with
   | tup b1 b2=>
    cases T;obtain⟨L,yP,E,_⟩:=I.tuple (.inl (.inl b1));exact⟨RcAt.tuple_list E l.isList (by lia),RcNeAt.tuple_list E l.isList (by lia)⟩
  ·cases h
   cases Q;cases T;exact⟨RcAt.none_list l.isList (by lia),RcNeAt.none_list l.isList (by lia)⟩
  ·cases h
theorem P7(o:X.A.units+64 < FK):OpR X (B2 .Eq) (rD X.K (eqD false)):=by
 intro ζ s σ H x y v u Q I B C h;obtain⟨ρ,S,a,b,d,L,m,E,G,l,k⟩:=h;unfold eqD at l;split at l
 ·rename_i c J
  cases l;exact(j7 I o m E G B C J).1 _ _ _ _ ⟨.bl c,H,I,rfl,k ρ H _ .refl m (.bl _)⟩
 ·cases l
theorem pd(o:X.A.units+64 < FK):OpR X (B2 .NotEq) (rD X.K (eqD true)):=by
 intro ζ s σ H x y v u Q I B C h;obtain⟨ρ,S,a,b,d,L,m,E,G,l,k⟩:=h;unfold eqD at l;split at l
 ·rename_i c J
  cases l;exact(j7 I o m E G B C J).2 _ _ _ _ ⟨.bl (!c),H,I,rfl,k ρ H _ .refl m (.bl _)⟩
 ·cases l
noncomputable def On(x:D):List D->Option Bool
 | []=>some false
 | d :: l=>match eqP 8 d x,On x l with
  | some a,some b=>some (a||b)
  | _,_=>none
noncomputable def inD(neg:Bool)(x y:D)(S:Sto):Res D:=match HQ y S with
 | some l=>match On x l with
  | some b=>.ok (.bl (if neg then !b else b)) S
  | none=>.bad
 | none=>.bad
theorem bF(h:On x (d :: ds)=some b):∃a c,eqP 8 d x=some a/\On x ds=some c/\b=(a||c):=by
 unfold On at h;split at h
 ·rename_i a c l m
  cases h;exact⟨a,c,l,m,rfl⟩
 ·cases h
open Classical in
theorem QV(I:Inv X ζ σ H s)(Q:A.units+8 < FK)(R:CM X.K ρ H x S)(T:RelV S v):∀{ds:List D} {vs:List V} {us:List AK} {b:Bool},A9 X.K ρ H ds vs->CG vs us->On x ds=some b ->
  ∃e:AK->Bool,(∀y∈us,EqAt A s y v (e y))/\b=us.any e:=by
 intro ds vs us b r q h
 let e:AK->Bool:=λy=>decide (∃d w,d∈ds/\CM X.K ρ H d w/\RelV w y/\eqP 8 d x=some true)
 have all:∀{m:List D} {l:List V} {o:List AK} {C:Bool},(∀d∈m,d∈ds)->A9 X.K ρ H m l->CG l o->On x m=some C->(∀y∈o,EqAt A s y v (e y))/\C=o.any e:=by
  intro m
  induction m with
  | nil=>intro l o C _ r q h;cases r;cases q;cases h;exact⟨(λ_ z=>nomatch z),rfl⟩
  | cons d m U=>
   intro l o C N r q h
   cases r with
   | cons G Y=>
    cases q with
    | @cons w y _ _ J Z=>
     obtain⟨a,c,L,h2,rfl⟩:=bF h;obtain⟨i1,i2⟩:=U (λz B=>N z (AV _ B)) Y Z h2
     have O:e y=a:=by
      by_cases E:∃d w,d∈ds/\CM X.K ρ H d w/\RelV w y/\eqP 8 d x=some true
      ·obtain⟨d',w',_,P,g2,g3⟩:=id E
       rw[RelV.inj g2 J]at P;have:=oR 8 P G g3 L;rw[<-this];exact wX E
      ·have:a=false:=by
        cases a with
        | false=>rfl
        | true=>exact(E ⟨d,_,N d AZ,G,J,L⟩).elim
       rw[this];exact wY E
     refine⟨λz B=>?_,by rw[JN,O,<-i2]⟩
     rcases Af.mp B with rfl | B
     ·rw[O]
      exact av I 8 A d x a _ _ _ _ Q L G R J T
     ·exact i1 z B
 obtain⟨e1,e2⟩:=all (λ_ h=>h) r q h;exact⟨e,e1,e2⟩
theorem pp(U:X.A.units+64 < FK):OpR X (B2 .In) (rD X.K (inD false)):=by
 intro ζ s σ H x y v u Q I J P h;obtain⟨ρ,S,a,b,d,Y,m,L,R,l,k⟩:=h;unfold inD at l;split at l
 ·rename_i Z T
  split at l
  ·rename_i c N
   cases l;obtain⟨p,xs,rfl,O,sq⟩:=Sq m R T;cases P
   rcases sq with sq | sq
   ·obtain⟨o,B,C,_⟩:=I.list sq
    obtain⟨e,E,rfl⟩:=QV I (A:=X.A.in1) (by rw[Ic];lia) L J O B N;exact in_listAt e C.isList (λz G=>E z (by simpa using G)) ⟨.bl (o.toArray.any e),H,I,rfl,by rw[NB];exact k ρ H _ .refl m (.bl _)⟩
   ·obtain⟨o,B,C,_⟩:=I.tuple sq
    obtain⟨e,E,rfl⟩:=QV I (A:=X.A.in1) (by rw[Ic];lia) L J O B N;exact in_tupleAt e C (λz G=>E z (by simpa using G)) ⟨.bl (o.toArray.any e),H,I,rfl,by rw[NB];exact k ρ H _ .refl m (.bl _)⟩
  ·cases l
 ·cases l
theorem jA(U:X.A.units+64 < FK):OpR X (B2 .NotIn) (rD X.K (inD true)):=by
 intro ζ s σ H x y v u Q I J P h;obtain⟨ρ,S,a,b,d,Y,m,L,R,l,k⟩:=h;unfold inD at l;split at l
 ·rename_i Z T
  split at l
  ·rename_i c N
   cases l;obtain⟨p,xs,rfl,O,sq⟩:=Sq m R T;cases P
   rcases sq with sq | sq
   ·obtain⟨o,B,C,_⟩:=I.list sq
    obtain⟨e,E,rfl⟩:=QV I (A:=X.A.in1) (by rw[Ic];lia) L J O B N;exact notIn_listAt e C.isList (λz G=>E z (by simpa using G)) ⟨.bl (!o.toArray.any e),H,I,rfl,by rw[NB];exact k ρ H _ .refl m (.bl _)⟩
   ·obtain⟨o,B,C,_⟩:=I.tuple sq
    obtain⟨e,E,rfl⟩:=QV I (A:=X.A.in1) (by rw[Ic];lia) L J O B N;exact notIn_tupleAt e C (λz G=>E z (by simpa using G)) ⟨.bl (!o.toArray.any e),H,I,rfl,by rw[NB];exact k ρ H _ .refl m (.bl _)⟩
  ·cases l
 ·cases l
end
open PySem PySem.Spec PyProof.Rows
noncomputable def Np(mo ma:ME):ME:=λe S=>(mo e S).bind λd l=>match d with
 | .ref n=>match l[n]? with
  | some (.lst _)=>(ma e l).bind λy m=>match m[n]? with
   | some (.lst o)=>if o.length < sizeLine then .ok .non (m.set n (.lst (o++[y])))else .bad
   | _=>.bad
  | _=>.bad
 | _=>.bad
section
variable{X:Cx}{E:EW}{o e:Expr}{mo ma:ME}
theorem b9{K}{ρ}{S}{H}{n}{x}{xs}(s:Ch K ρ S H)(r:CM K ρ H (.ref n) x)(h:S[n]?=some (.lst xs)):∃a vs,x=.ref a/\ρ[n]?=some a/\H a=some (.lst vs)/\A9 K ρ H xs vs:=by
 cases r with
 | ref l=>
  obtain⟨vs,e,m⟩:=s.ob n _ _ h l;exact⟨_,vs,rfl,l,e,m⟩
theorem Ig(ho:GE X E o mo)(Z:GE X E e ma)(yy:Gb o "append" X.env (CF o X.env)=CF o X.env:=by rfl)
  (zG:((Eo B (Aa [e] X.env)).all (λx=>!x.1)&&(Zf B (Qi [] X.env)).all (λx=>x.1.isSome)
    &&decide ([e].length+([]:List ZX).length+(if ([]:List ZX).isEmpty then 0 else 1) < 30))=true:=by rfl)
  (yz:(A.endLine==B.line)=true:=by rfl) (C:Aa [e] X.env=(false,CF e X.env) :: Aa [] X.env:=by rfl) (yD:(Eo B (Aa [] X.env)).any (·.1)=false:=by rfl) :
  GE X E (.Call (.Attribute o "append" A) [e] [] B) (Np mo ma):=(pY V0 PySem.F.slot_list_append PySem.F.type_list_append WI ho (Hd Z LH C) yy zG yz C yD).imp<|by
 rintro σ H Q ⟨ρ,l,S,N,C,m⟩
 refine⟨ρ,l,S,N,C,m.seq λx S1 m G H1 v I O r1=>?_⟩
 cases x <;> first | exact m.elim | skip
 rename_i n;dsimp only at m;split at m
 ·rename_i xs0 h0
  obtain⟨a,vs,rfl,hn,e0,_⟩:=b9 O r1 h0;refine⟨.inl ⟨rfl,vs,.inl (.inl e0)⟩,G,l,S1,N.mono I,O,(m.later I).seq λy S2 m s P u R T r2=>?_⟩;split at m
  ·rename_i xs h3
   split at m
   ·rename_i hz
    have J:=R.pre n a hn;obtain⟨L,U,Y⟩:=T.ob n _ _ h3 J;have le:Le X.K s P s (upd P a (.lst (L++[u]))):=Le.write J (by rw[U];trivial);obtain⟨s3,l3⟩:=T.write (ho:=.lst (L++[u])) (o:=.lst (xs++[y])) J ⟨_,CB,(Y.append (.cons r2 .nil)).mono le⟩ le;exact⟨a,L,u,rfl,rfl,U,by rw[<-Y.length];exact hz,m s _ _ (I.trans (R.trans l3)) s3 .non⟩
   ·exact m.elim
  ·exact m.elim
 ·exact m.elim
end
noncomputable def An{l β:Type}[DecidableEq l](m:List (l×β))(k:l):Option β:=(m.find? λo=>decide (o.1=k)).map (·.2)
noncomputable def CJ{m o:Type}[DecidableEq m](s:List (m×o))(k:m)(v:o):List (m×o):=
 if (s.any λl=>decide (l.1=k))=true then s.map (λl=>if l.1=k then(l.1,v)else l)else s++[(k,v)]
section
variable{κ:Type}[DecidableEq κ]{K:AI}{ρ:List Ab}{H:Hp}
theorem KVR.val(k:κ):∀{x:List (κ×D)} {y:List (κ×V)},KVR K ρ H x y->(An x k=none->MW y k=none)/\∀d,An x k=some d->∃v,MW y k=some v/\CM K ρ H d v
 | _,_,.nil=>⟨λ_=>rfl,λd h=>by cases h⟩
 | (g,a) :: x,(o,b) :: y,.cons r t=>by
  obtain⟨l,m⟩:=r;dsimp only at l m;subst l;unfold An MW;rw[CD,CD]
  by_cases e:g=k
  ·simp only[e,decide_true]
   exact⟨(λh=>nomatch h),(λd h=>by cases h;exact⟨b,rfl,m⟩)⟩
  ·simp only[e,decide_false]
   exact KVR.val k t
theorem KVR.any(k:κ):∀{x:List (κ×D)} {y:List (κ×V)},KVR K ρ H x y->(x.any λl=>decide (l.1=k))=y.any λl=>decide (l.1=k)
 | _,_,.nil=>rfl
 | (g,a) :: x,(m,b) :: y,.cons r t=>by
  rw[JN,JN,KVR.any k t,show g=m from r.1]
theorem KVR.repl(k:κ)(m:CM K ρ H d v):∀{x:List (κ×D)} {y:List (κ×V)},KVR K ρ H x y->KVR K ρ H (x.map λl=>if l.1=k then(l.1,d)else l) (y.map λl=>if l.1=k then(l.1,v)else l)
 | _,_,.nil=>.nil
 | (g,a) :: x,(A,b) :: y,.cons r t=>by
  obtain⟨o,s⟩:=r;dsimp only at o s;subst o;rw[Az,Az];refine .cons ?_ (KVR.repl k m t)
  by_cases e:g=k
  ·rw[qX e,qX e];exact⟨rfl,m⟩
  ·rw[qY e,qY e];exact⟨rfl,s⟩
theorem KVR.put(k:κ)(l:CM K ρ H d v)(h:KVR K ρ H x y):KVR K ρ H (CJ x k d) (NK y k v):=by
 unfold CJ NK;rw[KVR.any k h];split
 ·exact KVR.repl k l h
 ·exact ZU h ⟨rfl,l⟩
end
noncomputable def jZ:D->Option Key
 | .int i=>some (.inl i)
 | .str x=>some (.inr x)
 | _=>none
noncomputable def Ol:List D->Option (List Key)
 | []=>some []
 | d :: l=>match jZ d,Ol l with
  | some k,some m=>some (k :: m)
  | _,_=>none
theorem S6{K}{ρ}{H}{d}{v}{k}(r:CM K ρ H d v)(h:jZ d=some k):v=kV k:=by
 cases r <;> first | (cases h;done) | (cases h;rfl)
theorem QG{K}{ρ}{H}:∀{ds:List D} {vs:List V} {l:List Key},A9 K ρ H ds vs->Ol ds=some l->vs=l.map kV
 | _,_,_,.nil,h=>by cases h;rfl
 | _,_,_,.cons r t,h=>by
  unfold Ol at h;split at h
  ·rename_i k l m o
   cases h;rw[S6 r m,QG t o];rfl
  ·cases h
noncomputable def OU(x y:D)(S:Sto):Option (Option D):=match x with
 | .ref n=>match S[n]? with
  | some (.dK l)=>match jZ y with
   | some k=>some (An l k)
   | none=>none
  | some (.dT l)=>match y with
   | .tup m=>match Ol m with
    | some o=>some (An l o)
    | none=>none
   | _=>none
  | some (.fK l)=>match jZ y with
   | some k=>some (An l k)
   | none=>none
  | some (.fT l)=>match y with
   | .tup m=>match Ol m with
    | some o=>some (An l o)
    | none=>none
   | _=>none
  | _=>none
 | _=>none
theorem Xd{K}{ρ}{S}{H}{x y}{P Q}{o}(s:Ch K ρ S H)(R:CM K ρ H x P)(I:CM K ρ H y Q)(h:OU x y S=some o) :
  ∃a o',P=.ref a/\QX H a Q o'/\(o=none->o'=none)/\∀d,o=some d->∃v,o'=some v/\CM K ρ H d v:=by
 unfold OU at h;split at h
 ·rename_i n
  cases R with
  | @ref _ a J=>
   split at h
   ·rename_i L l
    split at h
    ·rename_i k m
     cases h;obtain⟨A,e,r⟩:=s.ob n _ _ l J;rw[S6 I m];obtain⟨B,C⟩:=KVR.val k r;exact⟨a,MW A k,rfl,QX.k e,B,C⟩
    ·cases h
   ·rename_i L l
    split at h
    ·rename_i T
     split at h
     ·rename_i E m
      cases h;obtain⟨A,e,r⟩:=s.ob n _ _ l J
      cases I with
      | tup G N=>
       obtain⟨B,C⟩:=KVR.val E r;rw[QG N m]at G;exact⟨a,MW A E,rfl,QX.t e G,B,C⟩
     ·cases h
    ·cases h
   ·rename_i L l
    split at h
    ·rename_i k m
     cases h;obtain⟨O,A,e,r⟩:=s.ob n _ _ l J;rw[S6 I m];obtain⟨B,C⟩:=KVR.val k r;exact⟨a,MW A k,rfl,(.inl ⟨_,_,.inr ⟨O,e⟩,rfl,rfl⟩),B,C⟩
    ·cases h
   ·rename_i L l
    split at h
    ·rename_i T
     split at h
     ·rename_i E m
      cases h;obtain⟨O,A,e,r⟩:=s.ob n _ _ l J
      cases I with
      | tup G N=>
       obtain⟨B,C⟩:=KVR.val E r;rw[QG N m]at G;exact⟨a,MW A E,rfl,(.inr ⟨_,_,_,.inr ⟨O,e⟩,rfl,G,rfl⟩),B,C⟩
     ·cases h
    ·cases h
   ·cases h
 ·cases h
noncomputable def Uy(x y:D)(S:Sto):Res D:=match OU x y S with
 | some (some d)=>.ok d S
 | _=>.bad
noncomputable def OT(neg:Bool)(y x:D)(S:Sto):Res D:=match OU x y S with
 | some o=>.ok (.bl (if neg then !o.isSome else o.isSome)) S
 | none=>.bad
section
variable{X:Cx}{E:EW}{mo mi mv:ME}
theorem oC(P:X.A.units+1 < FK)(ho:GE X E o mo)(hi:GE X E i mi)(s:uR i:=by intro _ _;rfl):GE X E (.Subscript o i pos) (m2 Uy mo mi):=(mw P ho hi s).imp λR H Q h=>by
 refine(Ou h:tOp (rD X.K Uy) (gE X.K E mo) (gE X.K E mi) R H Q) |> λt=>?_
 obtain⟨T,l,S,U,s,k⟩:=t;refine⟨T,l,S,U,s,k.imp λx S1 k B Y u Z s1 r1=>?_⟩;obtain⟨C,l2,S2,zt,yw,G⟩:=k B Y u Z s1 r1;refine⟨C,l2,S2,zt,yw,G.imp λy S3 G I L v l3 s3 r3=>?_⟩;obtain⟨J,S4,x4,y4,d,S5,N,r4,r5,m,k4⟩:=G I L v l3 s3 r3;unfold Uy at m;split at m
 ·rename_i d' hd
  cases m;obtain⟨a,o',rfl,g,_,g2⟩:=Xd N r4 r5 hd;obtain⟨O,rfl,yP⟩:=g2 _ rfl;exact⟨a,O,rfl,g,k4 J L O .refl N yP⟩
 ·cases m
theorem br{o}{H}{Q}(h:gE X.K E (m2 (OT false) mi mo) o H Q):vT (gE X.K E mi) (gE X.K E mo) o H Q:=by
 obtain⟨O,l,S,P,R,k⟩:=(Ou h:tOp (rD X.K (OT false)) (gE X.K E mi) (gE X.K E mo) o H Q);refine⟨O,l,S,P,R,k.imp λx S1 k s T u U Y Z=>?_⟩;obtain⟨A,l2,S2,zt,yw,B⟩:=k s T u U Y Z;refine⟨A,l2,S2,zt,yw,B.imp λy S3 B C I v l3 s3 r3=>?_⟩;obtain⟨G,S4,x4,y4,d,S5,J,r4,r5,m,k4⟩:=B C I v l3 s3 r3;unfold OT at m;split at m
 ·rename_i L hd
  cases m;obtain⟨a,N,rfl,g,g1,g2⟩:=Xd J r5 r4 hd;refine⟨a,N,rfl,g,?_⟩
  have:N.isSome=L.isSome:=by
   cases L with
   | none=>rw[g1 rfl];rfl
   | some d=>obtain⟨w',rfl,_⟩:=g2 d rfl;rfl
  rw[this];exact k4 G I _ .refl J (.bl _)
 ·cases m
theorem Z2{o}{H}{Q}(h:gE X.K E (m2 (OT true) mi mo) o H Q):bq (gE X.K E mi) (gE X.K E mo) o H Q:=by
 obtain⟨O,l,S,P,R,k⟩:=(Ou h:tOp (rD X.K (OT true)) (gE X.K E mi) (gE X.K E mo) o H Q);refine⟨O,l,S,P,R,k.imp λx S1 k s T u U Y Z=>?_⟩;obtain⟨A,l2,S2,zt,yw,B⟩:=k s T u U Y Z;refine⟨A,l2,S2,zt,yw,B.imp λy S3 B C I v l3 s3 r3=>?_⟩;obtain⟨G,S4,x4,y4,d,S5,J,r4,r5,m,k4⟩:=B C I v l3 s3 r3;unfold OT at m;split at m
 ·rename_i L hd
  cases m;obtain⟨a,N,rfl,g,g1,g2⟩:=Xd J r5 r4 hd;refine⟨a,N,rfl,g,?_⟩
  have:N.isSome=L.isSome:=by
   cases L with
   | none=>rw[g1 rfl];rfl
   | some d=>obtain⟨w',rfl,_⟩:=g2 d rfl;rfl
  rw[this];exact k4 G I _ .refl J (.bl _)
 ·cases m
theorem tq(l:X.A.units+1 < FK)(hi:GE X E i mi)(ho:GE X E o mo)(m:Cz .In o=false:=by rfl):GE X E (.Compare i [.In] [o] pos) (m2 (OT false) mi mo):=(sE (i4 l hi ho) m).imp λ_ _ _ h=>br h
theorem jN{K}{m}{A}{H}{Q}(h:gT K E (mB m) A H Q):gE K E m A H λx H1=>∃c,x=.bl c/\Q c H1:=by
 obtain⟨B,l,S,C,G,o⟩:=h;refine⟨B,l,S,C,G,o.seq λd N o s H1 x I J L=>?_⟩
 cases d <;> first | exact o.elim | skip
 cases L;exact⟨_,rfl,o s H1 I J⟩
theorem tR(l:X.A.units+1 < FK)(hi:GE X E i mi)(ho:GE X E o mo)(m:Cz .In o=false:=by rfl):GT X E (.Compare i [.In] [o] pos) (mB (m2 (OT false) mi mo)):=(ig (i4 l hi ho) m).imp λ_ _ _ h=>br (jN h)
theorem fE(l:X.A.units+1 < FK)(hi:GE X E i mi)(ho:GE X E o mo)(m:Cz .NotIn o=false:=by rfl):GT X E (.Compare i [.NotIn] [o] pos) (mB (m2 (OT true) mi mo)):=(ig (eR l hi ho) m).imp λ_ _ _ h=>Z2 (jN h)
noncomputable def JS:ME:=λ_ S=>.ok (.ref S.length) (S++[.dK []])
noncomputable def RI:ME:=λ_ S=>.ok (.ref S.length) (S++[.dT []])
theorem L5:GE X E (.Dict [] [] pos) JS:=(i3 (X:=X) (pos:=pos)).imp<|by
 rintro G H Q ⟨I,l,S,J,s,k⟩ p A
 obtain⟨B,C,m⟩:=s.alloc (ho:=.dK []) (o:=.dK []) A ⟨[],CB,.nil⟩;exact k _ _ _ C B (.ref m)
theorem Ut:GE X E (.Dict [] [] pos) RI:=(iz (X:=X) (pos:=pos)).imp<|by
 rintro G H Q ⟨I,l,S,J,s,k⟩ p A
 obtain⟨B,C,m⟩:=s.alloc (ho:=.dT []) (o:=.dT []) A ⟨[],CB,.nil⟩;exact k _ _ _ C B (.ref m)
noncomputable def SW(x y v:D)(S:Sto):Option Sto:=match x with
 | .ref n=>match S[n]? with
  | some (.dK l)=>match jZ y with
   | some k=>if l.length < sizeLine then some (S.set n (.dK (CJ l k v)))else none
   | none=>none
  | some (.dT l)=>match y with
   | .tup m=>match Ol m with
    | some o=>if l.length < sizeLine then some (S.set n (.dT (CJ l o v)))else none
    | none=>none
   | _=>none
  | _=>none
 | _=>none
noncomputable def DE(mo mi mv:ME):MS:=λe S=>(mv e S).lift e λv l=>(mo e l).lift e λx m=>(mi e m).lift e λy o=>match SW x y v o with
 | some s=>.ok (.nx e) s
 | none=>.bad
theorem G2(hu:X.A.units+1 < FK)(ho:GE X E o mo)(hi:GE X E i mi)(hv:GE X E value mv)(hs:HB value (some (.Subscript o i L)) pos.line X.env=pure false:=by rfl):GS X E (.Assign [.Subscript o i L] value pos) (DE mo mi mv):=(mT hu ho hi hv hs).imp<|by
 rintro D σ H ⟨ρ,l,S,I,hs,B⟩
 refine⟨ρ,l,S,I,hs,B.lift I .refl λv S1 B ρ1 H1 T C s1 r1=>⟨ρ1,l,S1,I.mono C,s1,(B.later C).lift (I.mono C) C λx S2 B ρ2 H2 xv G s2 r2=>⟨ρ2,l,S2,I.mono (C.trans G),s2,(B.later G).lift (I.mono (C.trans G)) (C.trans G) λy S3 B s U yv N Y r3=>?_⟩⟩⟩;have O:=r1.mono (G.trans N);have r2':=r2.mono N;have P:=I.mono (C.trans (G.trans N));split at B
 ·rename_i S4 m
  unfold SW at m;split at m
  ·rename_i n
   cases r2' with
   | @ref _ a J=>
    split at m
    ·rename_i f' h4
     split at m
     ·rename_i Z hk
      split at m
      ·rename_i hz
       cases m;obtain⟨Q,e,r⟩:=Y.ob n _ _ h4 J;rw[S6 r3 hk];have le:Le X.K s U s (upd U a (.dK (NK Q Z T))):=Le.write J (by rw[e];trivial);obtain⟨s5,R⟩:=Y.write (ho:=.dK (NK Q Z T)) (o:=.dK (CJ f' Z v)) J ⟨_,CB,(KVR.put Z O r).mono le⟩ le;exact⟨a,_,rfl,ZQ.k e (by rw[<-KVR.length r];exact hz),B s _ σ (C.trans (G.trans (N.trans R))) s5 (P.mono R)⟩
      ·cases m
     ·cases m
    ·rename_i f' h4
     split at m
     ·rename_i ds
      split at m
      ·rename_i ks hk
       split at m
       ·rename_i hz
        cases m;obtain⟨Q,e,r⟩:=Y.ob n _ _ h4 J
        cases r3 with
        | tup b1 b2=>
         rw[QG b2 hk]at b1;have le:Le X.K s U s (upd U a (.dT (NK Q ks T))):=Le.write J (by rw[e];trivial);obtain⟨s5,R⟩:=Y.write (ho:=.dT (NK Q ks T)) (o:=.dT (CJ f' ks v)) J ⟨_,CB,(KVR.put ks O r).mono le⟩ le;exact⟨a,_,rfl,ZQ.t e b1 (by rw[<-KVR.length r];exact hz),B s _ σ (C.trans (G.trans (N.trans R))) s5 (P.mono R)⟩
       ·cases m
      ·cases m
     ·cases m
    ·cases m
  ·cases m
 ·exact B.elim
end
section
variable{X:Cx}{E:EW}{a b c:Expr}{pos:Pos}
theorem dc{K}{f g}{O}{H}{Q}(h:gE K E (m3 f g ma mb Z) O H Q):iE (rD K f) (rD K g) (gE K E ma) (gE K E mb) (gE K E Z) O H Q:=by
 obtain⟨ρ,l,S,G,hs,m⟩:=h;refine⟨ρ,l,S,G,hs,m.seq λx S1 m I H1 u o s1 r1=>⟨I,l,S1,G.mono o,s1,(m.later o).seq λy P m J H2 v s s2 R=>?_⟩⟩
 cases C:f x y P with
 | bad=>rw[C]at m;exact m.elim
 | err _ _=>rw[C]at m;exact m.elim
 | ok z T=>
  rw[C]at m;dsimp only[okR,Res.bind]at m;refine⟨J,P,x,y,z,T,s2,r1.mono s,R,C,λA H3 w B U r3=>?_⟩
  cases z with
  | bl k=>
   cases r3;refine⟨k,rfl,?_⟩
   cases k with
   | true=>
    rw[qX rfl];refine⟨A,l,T,G.mono (o.trans (s.trans B)),U,Cj.seq (m.later (s.trans B)) λw S4 m L H4 wv Y s4 r4=>?_⟩;obtain⟨d,S',e,k⟩:=m.okR;exact⟨L,S4,y,w,d,S',s4,R.mono (B.trans Y),r4,e,λN H' z l' s' r'=>k N H' z (o.trans (s.trans (B.trans (Y.trans l')))) s' r'⟩
   | false=>rw[qY AN];exact m A H3 _ (o.trans (s.trans B)) U (.bl false)
  | _=>exact m.elim
theorem Uo(ho:OpR X (B2 op) (rD X.K f))(m:OpR X (B2 l) (rD X.K g))(o:GE X E a ma)(hb:GE X E b mb)(s:GE X E c A)
  (B:lastMarks [op,l] [b,c]=false:=by with_unfolding_all rfl):GT X E (.Compare a [op,l] [b,c] pos) (mB (m3 f g ma mb A)):=(ii ho m o hb s B).imp λ_ _ _ h=>dc (jN h)
noncomputable def ee(m:ME):ME:=λe S=>(m e S).bind λd l=>match d with
 | .int i=>.ok (.int (-i)) l
 | _=>.bad
theorem ao(h:GE X E a ma):GE X E (.UnaryOp .USub a pos) (ee ma):=(vy qr h).imp<|by
 rintro L H Q ⟨s,l,S,A,B,m⟩
 refine⟨s,l,S,A,B,m.seq λd N m o C x G I J=>?_⟩
 cases d <;> first | exact m.elim | skip
 cases J;exact⟨_,rfl,m o C _ G I (.int _)⟩
end
noncomputable abbrev MO:=Lo->Sto->Res (Option Int)
noncomputable def gO(K:AI)(E:EW)(m:MO):TO:=λB H Q=>∃s e S,Gz K s H e B/\Ch K s S H/\Cj K (λc=>E c B) s H (m e S) λo C=>∀l A,Le K s H l A->Ch K l C A->Q o A
noncomputable abbrev GO(X:Cx)(E:EW)(e:Option Expr)(m:MO):Prop:=PO X e (gO X.K E m)
noncomputable def P8:MO:=λ_ S=>.ok none S
noncomputable def NF(m:ME):MO:=λe S=>(m e S).bind λd l=>match d with
 | .int i=>.ok (some i) l
 | _=>.bad
noncomputable def Ij{α:Type}(xs:List α)(lo hi:Option Int):List α:=(xs.drop (HT.sIx xs.length 0 lo)).take (HT.sIx xs.length xs.length hi - HT.sIx xs.length 0 lo)
noncomputable def gc(n:Nat)(lo hi:Option Int):Bool:=decide (HT.sIx n 0 lo=0/\HT.sIx n n hi=n)
noncomputable def Ov(d:D)(lo hi:Option Int)(S:Sto):Res D:=match d with
 | .tup l=>if gc l.length lo hi=true then .bad else .ok (.tup (Ij l lo hi)) S
 | _=>match Ue d S with
  | some l=>.ok (.ref S.length) (S++[.lst (Ij l lo hi)])
  | none=>.bad
noncomputable def LK(m:ME)(ml l:MO):ME:=λe S=>(m e S).bind λd o=>(ml e o).bind λlo s=>(l e s).bind λA B=>okR (Ov d lo A B)
section
variable{X:Cx}{E:EW}{e:Expr}{lo hi:Option Expr}{pos p2:Pos}{m:ME}{ml mh:MO}
theorem PO.imp(h:PO X o t)(i:∀l H Q,t' l H Q->t l H Q):PO X o t':=λA s l H Q I q=>h A s l H Q I (i l H Q q)
theorem XZ:GO X E none P8:=PO.imp mY λB H Q ⟨o,l,S,C,s,A⟩=>A o H .refl s
theorem QK(h:GE X E e m):GO X E (some e) (NF m):=PO.imp (mX h)<|by
 rintro N H Q ⟨A,l,S,B,C,o⟩
 refine⟨A,l,S,B,C,o.seq λd O o s G x I J L=>?_⟩
 cases d <;> first | exact o.elim | skip
 cases L;exact⟨_,rfl,o s G I J⟩
theorem Uz{K}{ρ}{H}{ds}{vs}(r:A9 K ρ H ds vs)(lo hi:Option Int):A9 K ρ H (Ij ds lo hi) (SX vs lo hi):=by
 unfold Ij SX;rw[r.length];exact(r.drop _).take _
theorem Ur(he:GE X E e m)(C:GO X E lo ml)(hu:GO X E hi mh):GE X E (.Subscript e (.Slice lo hi none p2) pos) (LK m ml mh):=(Yp (lw.or iM) he C hu).imp<|by
 rintro σ H Q ⟨ρ,l,S,C,hs,B⟩
 refine⟨ρ,l,S,C,hs,B.seq λd S1 B N H1 x G s1 r1=>⟨N,l,S1,C.mono G,s1,(B.later G).seq λlo S2 B O H2 I s2=>⟨O,l,S2,C.mono (G.trans I),s2,(B.later I).seq λhi P B J R T U=>?_⟩⟩⟩;obtain⟨d',S',e,k⟩:=B.okR;have r3:=r1.mono (I.trans T)
 have lst:∀s,Ue d P=some s->Res.ok (.ref P.length) (P++[.lst (Ij s lo hi)])=Res.ok d' S'->vf X.K x lo hi R Q:=λs A e=>by
  cases e;obtain⟨p,Y,rfl,rr,sq⟩:=OH U r3 A;refine⟨p,Y,rfl,sq,λq A=>?_⟩;have le:Le X.K J R (J++[q]) (upd R q (.lst (SX Y lo hi))):=Le.alloc A;obtain⟨Z,L,at4⟩:=U.alloc (ho:=.lst (SX Y lo hi)) (o:=.lst (Ij s lo hi)) A ⟨_,CB,(Uz rr lo hi).mono le⟩;exact k _ _ _ (G.trans (I.trans (T.trans L))) Z (.ref at4)
 cases d with
 | tup s=>
  unfold Ov at e;dsimp only at e;split at e
  ·cases e
  ·rename_i hw
   cases e
   cases r3 with
   | @tup _ a vs h1 h2=>
    refine .inr ⟨a,vs,rfl,.inl (.inl h1),λz=>hw ?_,λq A=>?_⟩
    ·unfold gc
     rw[h2.length];exact wX z
    ·obtain⟨Z,L⟩:=HN (ho:=.tup (SX vs lo hi)) U A
     exact k _ _ _ (G.trans (I.trans (T.trans L))) Z (.tup CB ((Uz h2 lo hi).mono L))
 | non=>cases e
 | bl _=>cases e
 | int _=>cases e
 | str _=>cases e
 | exc _=>cases e
 | fro s=>exact .inl (lst s rfl e)
 | ref n=>
  unfold Ov at e;dsimp only at e;split at e
  ·rename_i s A
   exact .inl (lst s A e)
  ·cases e
end
section
variable{X:Cx}{E:EW}{e:Expr}{p pos:Pos}{m:ME}
noncomputable def Ib(m:ME):ME:=λe S=>(m e S).bind λd l=>match HQ d l with
 | some o=>.ok (.tup o) l
 | none=>.bad
theorem KC(Y:Gl X "tuple") (B:X.mg "tuple" = none) (h:GE X E e m) (R:Aa [e] X.env=(false,CF e X.env) :: Aa [] X.env:=by rfl):GE X E (.Call (.Name "tuple" p) [e] [] pos) (Ib m):=
 (WD Vw Y B Rz (Hd h LH R) (by decide) (by decide) R rfl).imp<|by
 rintro σ H Q ⟨Z,l,S,hl,hs,B⟩
 refine⟨Z,l,S,hl,hs,B.seq λd S1 B I C x T L r1=>?_⟩
 cases s:HQ d S1 with
 | none=>rw[s]at B;exact B.elim
 | some ds=>
  rw[s]at B
  have G:∀a A,x=.ref a->SqL X.K C a A->A9 X.K I C ds A->∃p N,[x]=[.ref p]/\((SqL X.K C p N/\∀l,C l=none->Q (.ref l) (upd C l (.tup N)))∨(SqT X.K C p N/\Q (.ref p) C)):=λa A e sq O=>by
   subst e;refine⟨a,A,rfl,.inl ⟨sq,λq s=>?_⟩⟩;obtain⟨s2,U⟩:=HN (ho:=.tup A) L s;exact B _ _ _ (T.trans U) s2 (.tup CB (O.mono U))
  cases r1 with
  | @tup _ a A J P=>cases s;exact⟨a,A,rfl,.inr ⟨.inl (.inl J),B I C _ T L (.tup J P)⟩⟩
  | @fro _ a A J P=>cases s;exact G a A rfl J.sq P
  | @ref n a hn=>
   obtain⟨o,ho,ro⟩:=L.there hn;unfold HQ at s;simp only[ho]at s
   cases o with
   | lst es=>cases s;obtain⟨A,e,O⟩:=ro;exact G a A rfl (.inl (.inl e)) O
   | _=>cases s
  | _=>cases s
variable{o:Expr}
noncomputable def atL(d:D)(S:Sto):Option (Nat×List D):=match d with
 | .ref n=>match S[n]? with
  | some (.lst l)=>some (n,l)
  | _=>none
 | _=>none
theorem Xn{K}{ρ}{S}{H}{d}{x}{n}{xs}(s:Ch K ρ S H)(r:CM K ρ H d x)(h:atL d S=some (n,xs)):d=.ref n/\S[n]?=some (.lst xs)/\∃a vs,x=.ref a/\ρ[n]?=some a/\H a=some (.lst vs)/\A9 K ρ H xs vs:=by
 unfold atL at h;split at h
 ·split at h
  ·rename_i l hd
   cases h;exact⟨rfl,hd,b9 s r hd⟩
  ·cases h
 ·cases h
theorem cD{K}{ρ}{S}{H}{n}{a}{vs l}{ys}(s:Ch K ρ S H)(A:ρ[n]?=some a)(e:H a=some (.lst vs))(r:A9 K ρ H ys l) :
  Ch K ρ (S.set n (.lst ys)) (upd H a (.lst l))/\Le K ρ H ρ (upd H a (.lst l)):=by
 have le:Le K ρ H ρ (upd H a (.lst l)):=Le.write A (by rw[e];trivial);exact s.write (ho:=.lst l) (o:=.lst ys) A ⟨_,CB,r.mono le⟩ le
end
section
variable{X:Cx}
noncomputable def W0:ZLi->Int:=λl=>TJ (λi=>l.getD i 0) l.length
theorem Mj:∀(n:Nat),(∀i,i < n->f i=g i)->TJ f n=TJ g n
 | 0,_=>rfl
 | n+1,h=>by
  show TJ f n+f n=TJ g n+g n;rw[Mj n λi l=>h i (by lia),h n (by lia)]
theorem Ro(x:Int)(f:Nat->Int):∀n:Nat,TJ (λi=>match i with | 0=>x | j+1=>f j) (n+1)=x+TJ f n
 | 0=>by show(0:Int)+x=x+0;lia
 | n+1=>by
  show TJ _ (n+1)+f n=x+(TJ f n+f n);rw[Ro x f n]
  lia
theorem Wz:∀ns:ZLi,W0 ns=ns.sum
 | []=>rfl
 | n :: ns=>by
  have:=Wz ns;unfold W0 at this ⊢;rw[List.sum_cons,<-this,BC,<-Ro]
  refine Mj _ λi l=>?_
  cases i <;> simp
theorem Vu{ns:ZLi}{l:List AK}(r:CG (ns.map V.int) l):∃xs:Array (Int×Tok),l.toArray=intItems xs/\xs.size=ns.length/\∀i,i < ns.length->numAt xs i=ns.getD i 0:=by
 induction ns generalizing l with
 | nil=>
  cases r;exact⟨#[],by simp[intItems],rfl,λi m=>zX m (by simp)⟩
 | cons n ns s=>
  cases r with
  | cons A B=>
   obtain⟨xs,o,C,E⟩:=s B;obtain⟨t,rfl⟩:=A;refine⟨#[(n,t)]++xs,?_,by simp[C];lia,λi m=>?_⟩
   ·unfold intItems at o ⊢
    rw[Array.map_append,<-o];simp
   ·cases i with
    | zero=>
     unfold numAt;rw[Array.getElem?_append_left (by simp)];simp
    | succ i=>
     have:=E i (by simpa using m);unfold numAt at this ⊢;rw[Array.getElem?_append_right (by simp)];simpa using this
noncomputable def vi(K:AI)(f:ZLi->Int):List V->Hp->VK->Prop:=λm H Q=>∃p l,m=[.ref p]/\SqL K H p (l.map V.int)/\Q (.int (f l)) H
theorem fV(l:X.calm=true):NG X (.builtin "sum") (vi X.K W0):=by
 intro L s N H xs O Q I r h;obtain⟨p,P,rfl,m,q⟩:=h;obtain⟨u,rfl,o⟩:=vals1 r;cases o;obtain⟨R,A,B,S⟩:=I.list m;obtain⟨xs,C,E,G⟩:=Vu A
 refine sum_intListG (xs:=xs) (I.ok.hd l) (by rw[<-C];exact B.isList) λT U J kp=>⟨.int _,H,I.kept kp,⟨J,rfl⟩,?_⟩
 rw[E,Mj _ G];exact q
noncomputable def J9:List D->Option ZLi
 | []=>some []
 | .int b :: l=>(J9 l).map (b :: ·)
 | _ :: _=>none
theorem QJ:∀{ds:List D} {ns:ZLi},J9 ds=some ns->ds=ns.map D.int
 | [],_,h=>by cases h;rfl
 | .int b :: ds,ns,h=>by
  unfold J9 at h
  cases l:J9 ds with
  | none=>rw[l]at h;cases h
  | some m=>rw[l]at h;cases h;rw[QJ l];rfl
 | .non :: _,_,h=>by cases h
 | .bl _ :: _,_,h=>by cases h
 | .str _ :: _,_,h=>by cases h
 | .tup _ :: _,_,h=>by cases h
 | .fro _ :: _,_,h=>by cases h
 | .ref _ :: _,_,h=>by cases h
 | .exc _ :: _,_,h=>by cases h
noncomputable def nS(m:ME):ME:=λe S=>(m e S).bind λd l=>match Ue d l with
 | some o=>match J9 o with
  | some s=>.ok (.int (W0 s)) l
  | none=>.bad
 | none=>.bad
theorem tf(J:X.calm=true)(L:Gl X "sum") (o:X.mg "sum" = none) (h:GE X E e m) (C:Aa [e] X.env=(false,CF e X.env) :: Aa [] X.env:=by rfl):GE X E (.Call (.Name "sum" p) [e] [] pos) (nS m):=
 (Nh (fV J) L o xf (Hd h LH C) (by decide) (by decide) C rfl).imp<|by
 rintro σ H Q ⟨N,l,S,O,P,o⟩
 refine⟨N,l,S,O,P,o.seq λd R o s T x U G Y=>?_⟩
 cases A:Ue d R with
 | none=>rw[A]at o;exact o.elim
 | some Z=>
  rw[A]at o;dsimp only at o
  cases B:J9 Z with
  | none=>rw[B]at o;exact o.elim
  | some ns=>
   rw[B]at o;obtain⟨p,xs,rfl,I,sq⟩:=OH G Y A;rw[QJ B]at I;rw[I.ints]at sq;exact⟨p,ns,rfl,sq,o s T _ U G (.int _)⟩
end
noncomputable def LI{α:Type}(r r':Res α):Res α:=match r with
 | .bad=>r'
 | r=>r
theorem eW{l:Type}(r r':Res l):LI r r'=r∨LI r r'=r':=by cases r <;> simp[LI]
noncomputable def op2(f g:D->D->Sto->Res D):D->D->Sto->Res D:=λx y S=>LI (f x y S) (g x y S)
theorem cQ(f g:D->D->Sto->Res D)(ma mb:ME)(l:Lo)(S:Sto):m2 (op2 f g) ma mb l S=m2 f ma mb l S∨m2 (op2 f g) ma mb l S=m2 g ma mb l S:=by
 unfold m2
 cases ma l S with
 | ok x o=>
  dsimp only[Res.bind]
  cases mb l o with
  | ok y m=>
   dsimp only[Res.bind];unfold op2
   rcases eW (f x y m) (g x y m)with e | e <;> rw[e] <;> simp
  | err c m=>exact .inl rfl
  | bad=>exact .inl rfl
 | err c o=>exact .inl rfl
 | bad=>exact .inl rfl
section
theorem jp{m o m2}(L:GE X E e o)(N:GE X E e m2)(h:∀l S,m l S=o l S∨m l S=m2 l S):GE X E e m:=by
 rintro A s B H Q I ⟨C,l,S,G,J,a⟩
 rcases h l S with q | q
 ·rw[q]at a;exact L A s B H Q I ⟨C,l,S,G,J,a⟩
 ·rw[q]at a;exact N A s B H Q I ⟨C,l,S,G,J,a⟩
theorem jk(G:GT X E e J)(L:GT X E e N)(h:∀l S,t l S=J l S∨t l S=N l S):GT X E e t:=by
 rintro m s o H Q I ⟨A,l,S,B,C,a⟩
 rcases h l S with q | q
 ·rw[q]at a;exact G m s o H Q I ⟨A,l,S,B,C,a⟩
 ·rw[q]at a;exact L m s o H Q I ⟨A,l,S,B,C,a⟩
theorem tZ(G:GI X E tg e J)(L:GI X E tg e N)(h:∀l S,t l S=J l S∨t l S=N l S):GI X E tg e t:=by
 rintro m s o H R I ⟨A,l,S,B,C,a⟩
 rcases h l S with q | q
 ·rw[q]at a;exact G m s o H R I ⟨A,l,S,B,C,a⟩
 ·rw[q]at a;exact L m s o H R I ⟨A,l,S,B,C,a⟩
theorem pz{m o m2}(h:∀l S,m l S=o l S∨m l S=m2 l S)(l:Lo)(S:Sto):mB m l S=mB o l S∨mB m l S=mB m2 l S:=by
 unfold mB
 rcases h l S with q | q <;> rw[q] <;> simp
noncomputable abbrev inA(neg:Bool):=op2 (inD neg) (OT neg)
theorem xA(m:X.A.units+64 < FK)(hi:GE X E i mi)(ho:GE X E o mo)(l:Cz .In o=false:=by with_unfolding_all rfl):GE X E (.Compare i [.In] [o] pos) (m2 (inA false) mi mo):=
 jp (RL (pp m) hi ho l) (tq (by lia) hi ho l) λ_ _=>cQ _ _ _ _ _ _
theorem wz(m:X.A.units+64 < FK)(hi:GE X E i mi)(ho:GE X E o mo)(l:Cz .In o=false:=by with_unfolding_all rfl):GT X E (.Compare i [.In] [o] pos) (mB (m2 (inA false) mi mo)):=
 jk (EO (pp m) hi ho l) (tR (by lia) hi ho l) (pz λ_ _=>cQ _ _ _ _ _ _)
theorem JJ(m:X.A.units+64 < FK)(hi:GE X E i mi)(ho:GE X E o mo)(l:Cz .NotIn o=false:=by with_unfolding_all rfl):GT X E (.Compare i [.NotIn] [o] pos) (mB (m2 (inA true) mi mo)):=
 jk (EO (jA m) hi ho l) (fE (by lia) hi ho l) (pz λ_ _=>cQ _ _ _ _ _ _)
noncomputable abbrev ixA:=op2 ixD Uy
theorem FF(m:X.A.units+64 < FK)(ho:GE X E o mo)(hi:GE X E i mi)(l:Xq i:=by intro _ _;rfl):GE X E (.Subscript o i pos) (m2 ixA mo mi):=
 jp (w9 wG ho hi l) (oC (by lia) ho hi l) λ_ _=>cQ _ _ _ _ _ _
noncomputable def Ec(d:D):RX:=match d with
 | .tup l=>FZ l
 | d=>Ri d
noncomputable def EI(m:ME):MI:=λe S=>(m e S).bind λd l=>match Ec d l with
 | some _=>.ok (Ec d) l
 | none=>.bad
theorem DL(h:GE X E e m):GI X E tg e (EI m):=tZ (tY h) (tX h) λl S=>by
 unfold EI wl p9
 cases m l S with
 | ok d o=>
  dsimp only[Res.bind]
  cases d <;> first | exact .inl rfl | exact .inr rfl
 | err c o=>exact .inl rfl
 | bad=>exact .inl rfl
noncomputable def J8(m:ME):ME:=λe S=>(m e S).bind λd l=>match HQ d l with
 | some o=>.ok (.int o.length) l
 | none=>.bad
theorem LP(s:Gl X "len") (A:X.mg "len" = none) (h:GE X E e m) (B:Aa [e] X.env=(false,CF e X.env) :: Aa [] X.env:=by rfl):GE X E (.Call (.Name "len" p) [e] [] pos) (J8 m):=
 (n8 Xl rJ s A PySem.boot_len (w8 h) (by decide) (by decide) B).imp λJ H Q ⟨C,l,S,G,I,a⟩=>⟨C,l,S,G,I,by
  have q:mQ wZ (si m) l S=J8 m l S:=by
   unfold mQ si J8
   cases m l S with
   | ok d o=>
    dsimp only[Res.bind]
    cases HQ d o <;> rfl
   | err c o=>rfl
   | bad=>rfl
  rw[q];exact a⟩
theorem n9(l:X.calm=true)(m:Gl X "min") (o:X.mg "min" = none) (h:GA X E [a,b] ml) (s:Aa [a,b] X.env=(false,CF a X.env) :: Aa [b] X.env:=by rfl) (A:(Eo pos (Aa [b] X.env)).any (·.1)=false:=by rfl):GE X E (.Call (.Name "min" p) [a,b] [] pos) (mQ WJ ml):=
 cZ (fX l) ou m o xh h (by decide) (by decide) s A
theorem oA(l:X.calm=true)(m:Gl X "max") (o:X.mg "max" = none) (h:GA X E [a,b] ml) (s:Aa [a,b] X.env=(false,CF a X.env) :: Aa [b] X.env:=by rfl) (A:(Eo pos (Aa [b] X.env)).any (·.1)=false:=by rfl):GE X E (.Call (.Name "max" p) [a,b] [] pos) (mQ WM ml):=
 cZ (fY l) ox m o xi h (by decide) (by decide) s A
end
noncomputable def lN(l:Va)(x:Str):Bool:=decide (l.names.lookup x=some .local)||decide (l.names.lookup x=some .cell)||decide (l.names.lookup x=some .free)
noncomputable def kI(X:Cx)(scope:Va)(own N':List Str):Bool:=
 decide (scope.kind=.function)&&scope.names.all (λy=>!decide (y.2=.local)||decide (scope.names.lookup y.1=some .local)) &&
 scope.names.all (λy=>!decide (y.2=.free)||decide (X.env.kindOf y.1=some .cell)||decide (X.env.kindOf y.1=some .free))&&decide (N'.length=own.length+X.N.length) &&
 ((N'.drop own.length).zip X.N).all (λp=>!lN (Lg scope X.env) p.1||(decide (p.1=p.2)&&lN X.env.scope p.1&&(decide ((Lg scope X.env).names.lookup p.1=some .cell)||decide ((Lg scope X.env).names.lookup p.1=some .free))&&!decide (X.env.kindOf p.1=some .local)&&!scope.names.any (λz=>decide (z=(p.1,DU)))&&scope.names.any (λz=>decide (z=(p.1,Gj))))) &&
 (Lg scope X.env).names.all (λy=>(!decide (y.2=.cell)&&!decide (y.2=.free))||scope.names.any (λz=>decide (z=(y.1,Gj)))||scope.names.any (λz=>decide (z=(y.1,DU))))
theorem YF:lN l x=true↔Vis l x:=by
 unfold lN Vis;simp[or_assoc]
theorem Ew(h:kI X scope own N'=true):PR X scope own N':=by
 unfold kI at h;simp only[CS]at h;obtain⟨⟨⟨⟨⟨J,s⟩,A⟩,B⟩,C⟩,E⟩:=h;rw[ES]at s A C E;refine⟨of_decide_eq_true J,λy o e=>?_,λy o e=>?_,of_decide_eq_true B,λi x e v=>?_,λx m=>?_⟩
 ·have:=s y o
  simpa[e]using this
 ·have:=A y o
  simpa[e]using this
 ·have G:=of_decide_eq_true B
  have U:own.length+i < N'.length:=(AE.mp e).1
  have m:i < X.N.length:=by lia
  have L:(x,X.N[i])∈(N'.drop own.length).zip X.N:=by
   rw[List.mem_iff_getElem?];refine⟨i,?_⟩;rw[List.getElem?_zip_eq_some];exact⟨by rw[Qa];exact e,by simp[m]⟩
  have:=C _ L;rw[YF.mpr v]at this;simp only[Pj,qR,CS,HF,decide_eq_true_eq,Bool.not_eq_true',decide_eq_false_iff_not]at this;obtain⟨⟨⟨⟨⟨O,P⟩,Q⟩,R⟩,H⟩,S⟩:=this;refine⟨⟨by rw[O];simp[m],YF.mp P,Q,R⟩,λq=>?_,?_⟩
  ·rw[gU]at H
   exact H _ q (wX rfl)
  ·obtain⟨z,I,e⟩:=FC.mp S
   rw[of_decide_eq_true e]at I;exact I
 ·have l:∀k,(Lg scope X.env).names.lookup x=some k->(k=.cell∨k=.free)->(x,Gj)∈scope.names∨(x,DU)∈scope.names:=λk e T=>by
   have:=E _ (ED e)
   rcases T with rfl | rfl
   ·simpa using this
   ·simpa using this
  rcases m with e | e
  ·exact l _ e (.inl rfl)
  ·exact l _ e (.inr rfl)
structure Dfn(K:AI)(mg:Str->Option AK)(x qual:Str)(st:DB)(ps:List Str) where
 f:Ab
 fd:MN
 F:Fun K x qual st f fd
 b:Binds K fd ps []
 m:mg x=some (.ref f)
theorem Dfn.kp{K}{m}{x l}{st}{ps}(d:Dfn K m x l st ps):Fs K (.ref d.f)=true:=d.F.kp
structure Mtd(K:AI)(x qual:Str)(st:DB)(ps:List Str) where
 f:Ab
 fd:MN
 F:Fun K x qual st f fd
 b:Binds K fd ps []
structure Own(K:AI)(mg:Str->Option AK)(x:Str)(C f:Ab):Prop where
 cl:Cls K C
 mk':Mk K C f
 m:mg x=some (.ref C)
noncomputable abbrev wN:Nat:=1000000
end L2
namespace Srt
open PySem PyProof.Rows
structure Ord(U:Dv->Prop)(lt:Dv->Dv->Bool):Prop where
 asym:∀x y,U x->U y->lt x y=true->lt y x=false
 ntr:∀x y z,U x->U y->U z->lt y x=false->lt z y=false->lt z x=false
theorem Ord.irr(o:Ord U lt)(h:U x):lt x x=false:=by
 cases e:lt x x with
 | false=>rfl
 | true=>exact(o.asym x x h h e).symm.trans e |>.symm▸rfl
noncomputable def ix(xs:Array Dv)(i:Nat):Dv:=xs.getD i (.none,.none)
theorem L0(h:xs[i]?=ys[j]?):ix xs i=ix ys j:=by
 unfold ix;rw[Jq,Jq,h]
theorem S7(h:i < xs.size):xs[i]?=some (ix xs i):=by
 unfold ix;rw[Jq,getElem?_pos xs i h];rfl
theorem eu(o:l < xs.size)(hd:d<=l)(k:Nat) :
  ix (qL xs l d) k=if k=l - d then ix xs l else if l - d < k/\k<=l then ix xs (k - 1)else ix xs k:=by
 have e:=getElem?_bubble o d hd k;split
 ·rename_i h;rw[qX h]at e;exact L0 e
 ·rename_i h
  rw[qY h]at e;split
  ·rename_i m;rw[qX m]at e;exact L0 e
  ·rename_i m;rw[qY m]at e;exact L0 e
theorem E3(l:j<=xs.size)(k:Nat) :
  ix (MJ xs i j ((j - i) / 2)) k=if i<=k/\k < j then ix xs (i+j - 1 - k)else ix xs k:=by
 have e:=getElem?_mirror_all (i:=i) l k;split
 ·rename_i h;rw[qX h]at e;exact L0 e
 ·rename_i h;rw[qY h]at e;exact L0 e
section
noncomputable def VR(prog:Bw)(w:CV)(A:Cf)(s:AS)(a₀:Array Dv)(l:Qk)(lt:Dv->Dv->Bool):Prop:=
 ∀x y,x∈a₀->y∈a₀->∀(Q:Bool->AS->Prop) (E:AK->AS->Prop),Q (lt x y) s->Am (Aw prog w) A (keyLt' l x.1 y.1) Q E s
structure Good(a₀:Array Dv)(κ:Qk)(st:Fq):Prop where
 perm:(BD st).Perm a₀
 kind:kindOf st=κ
 failed:failedOf st=none
theorem Good.size{st:Fq}(g:Good a₀ l st):(BD st).size=a₀.size:=g.perm.size_eq
theorem Good.mem{st:Fq}(g:Good a₀ m st){i:Nat}(h:i < a₀.size):ix (BD st) i∈a₀:=by
 have l:i < (BD st).size:=by rw[g.size];exact h
 have e:=S7 l;have:=Array.mem_of_getElem? e;exact GM.mp ((Ke.mp g.perm).mem_iff.mp (GM.mpr this))
theorem Good.setArr{st:Fq}(g:Good a₀ l st){xs:Array Dv}(m:xs.Perm (BD st)):Good a₀ l (setArr st xs):=⟨m.trans g.perm,g.kind,g.failed⟩
theorem qT{st:Fq}{x y:Dv}{Q:Option Bool->Fq->Prop}(C:VR prog w A s a₀ l lt)(g:Good a₀ l st)(m:x∈a₀)(o:y∈a₀)(h:Q (some (lt x y)) st):wpS (Aw prog w) A E s (lt' x y) Q st:=by
 rw[lt'_eq];refine B9 (ZS ?_);rw[g.kind];refine B9 (wpS_lift (Sa ?_));refine C x y m o _ _ ⟨rfl,?_⟩;exact DH h
theorem Qo{st:Fq}{i j:Nat}{Q:Option Bool->Fq->Prop}(C:VR prog w A s a₀ m lt)(g:Good a₀ m st)(hi:i < a₀.size)(l:j < a₀.size)(h:Q (some (lt (ix (BD st) i) (ix (BD st) j))) st) :
  wpS (Aw prog w) A E s (ua i j) Q st:=by
 rw[ltAt'_eq];refine B9 (ZS ?_);show wpS _ _ _ _ (do let x <-elem' (BD st) i;let y <-elem' (BD st) j;lt' x y) Q st;rw[elem'_eq,elem'_eq,S7 (by rw[g.size];exact hi),S7 (by rw[g.size];exact l)];exact B9 (DH (B9 (DH (qT C g (g.mem hi) (g.mem l) h))))
noncomputable def Up(lt:Dv->Dv->Bool)(xs:Array Dv)(lo hi:Nat):Prop:=∀i j,lo<=i->i<=j->j < hi->lt (ix xs j) (ix xs i)=false
noncomputable def Dn(lt:Dv->Dv->Bool)(xs:Array Dv)(lo hi:Nat):Prop:=∀i j,lo<=i->i<=j->j < hi->lt (ix xs i) (ix xs j)=false
noncomputable def Out(xs ys:Array Dv)(lo hi:Nat):Prop:=∀i,(i < lo∨hi<=i)->ix ys i=ix xs i
theorem Out.refl{xs:Array Dv}{lo hi:Nat}:Out xs xs lo hi:=λ_ _=>rfl
theorem Out.trans{xs ys l:Array Dv}{lo hi:Nat}(a:Out xs ys lo hi)(b:Out ys l lo hi):Out xs l lo hi:=λi h=>(b i h).trans (a i h)
theorem Up.grow{st:Fq}(O:Ord (·∈a₀) lt)(g:Good a₀ B st){lo hi:Nat}(l:hi < a₀.size)(u:Up lt (BD st) lo hi)(C:lo < hi)(h:lt (ix (BD st) hi) (ix (BD st) (hi - 1))=false):Up lt (BD st) lo (hi+1):=λi j m o E=>by
 by_cases s:j < hi
 ·exact u i j m o s
 ·have:j=hi:=by lia
  subst this
  by_cases A:i=j
  ·subst A;exact O.irr (g.mem l)
  ·exact O.ntr _ _ _ (g.mem (by lia)) (g.mem (show j - 1 < _ by omega)) (g.mem l) (u i (j - 1) m (by lia) (by lia)) h
theorem wpS_binarySort{st:Fq}{lo n ok:Nat}{Q:Bool->Fq->Prop}(C:VR prog w A s a₀ T lt)(O:Ord (·∈a₀) lt)(hn:lo+n<=a₀.size)(hok:ok<=n)(g:Good a₀ T st)(u:Up lt (BD st) lo (lo+ok))
  (h:∀o,Good a₀ T o->Up lt (BD o) lo (lo+n)->Out (BD st) (BD o) lo (lo+n)->CU o=CU st->Q true o):wpS (Aw prog w) A E s (binarySort' lo n ok) Q st:=by
 rw[binarySort'_eq]
 refine B9 (Qd (JL (I:=λk c o=>c=(none,())/\Good a₀ T o/\Up lt (BD o) lo (lo+min k n)/\Out (BD st) (BD o) lo (lo+n)/\CU o=CU st)
  (Q:=λc o=>c=(none,())/\Good a₀ T o/\Up lt (BD o) lo (lo+n)/\Out (BD st) (BD o) lo (lo+n)/\CU o=CU st) ?step ?fin ?init) ?post)
 case post=>
  rintro c o ⟨rfl,Y,Z,o',p'⟩;exact DH (h o Y Z o' p')
 case init=>
  refine⟨rfl,g,λi j R U h3=>?_,.refl,rfl⟩
  by_cases h0:ok=0
  ·have:i=j:=by lia
   subst this;exact O.irr (g.mem (by omega))
  ·exact u i j R U (by lia)
 case fin=>
  rintro c o ⟨hc,Y,Z,o',p'⟩;refine⟨hc,Y,?_,o',p'⟩;rwa [show min (max (max ok 1) n) n=n by lia]at Z
 case step=>
  rintro k c J hak hkn ⟨rfl,G,X,o1,p1⟩;rw[show min k n=k by lia]at X
  have N:lo+k < a₀.size:=by lia
  refine B9 (Qd (JL (I:=λx c m=>m=J/\∃l r,c=(none,l,r)/\l<=r/\r<=k/\r - l<=k - x /\
    (∀i,i < l->lt (ix (BD J) (lo+k)) (ix (BD J) (lo+i))=false)/\(∀i,r<=i->i < k->lt (ix (BD J) (lo+k)) (ix (BD J) (lo+i))=true))
   (Q:=λc m=>m=J/\∃l r,c=(none,l,r)/\l<=k /\
    (∀i,i < l->lt (ix (BD J) (lo+k)) (ix (BD J) (lo+i))=false)/\(∀i,l<=i->i < k->lt (ix (BD J) (lo+k)) (ix (BD J) (lo+i))=true)) ?istep ?ifin ?iinit) ?ipost)
  case iinit=>exact⟨rfl,0,k,rfl,by lia,by lia,by lia,λi hi=>by lia,λi R U=>by lia⟩
  case ifin=>
   rintro c m ⟨rfl,l,r,rfl,hlr,L,hm,P,B⟩
   have:l=r:=by lia
   subst this;exact⟨rfl,l,l,rfl,L,P,B⟩
  case istep=>
   rintro x c m _ hxk ⟨rfl,l,r,rfl,hlr,L,hm,P,B⟩;dsimp only
   by_cases S:l ≥ r
   ·rw[qX S]
    have:l=r:=by lia
    subst this;exact DH ⟨rfl,l,l,rfl,L,P,B⟩
   ·rw[qY S]
    refine B9 (Qo C G N (by lia) ?_)
    cases H:lt (ix (BD m) (lo+k)) (ix (BD m) (lo+(l+r) / 2))with
    | true=>
     refine DH ⟨rfl,l,(l+r) / 2,rfl,by lia,by lia,by omega,P,λi R U=>?_⟩
     cases e:lt (ix (BD m) (lo+k)) (ix (BD m) (lo+i))with
     | true=>rfl
     | false=>
      have:=O.ntr _ _ _ (G.mem (show lo+(l+r) / 2 < _ by lia)) (G.mem (show lo+i < _ by lia)) (G.mem N) (X (lo+(l+r) / 2) (lo+i) (by lia) (by lia) (by lia)) e;rw[H]at this;cases this
    | false=>
     refine DH ⟨rfl,(l+r) / 2+1,r,rfl,by lia,by omega,by omega,λi R=>?_,B⟩;exact O.ntr _ _ _ (G.mem (show lo+i < _ by lia)) (G.mem (show lo+(l+r) / 2 < _ by lia)) (G.mem N) (X (lo+i) (lo+(l+r) / 2) (by lia) (by lia) (by lia)) H
  case ipost=>
   rintro c m ⟨rfl,l,r,rfl,hlk,P,B⟩;show wpS _ _ _ _ (do moveDown' (lo+k) (lo+l);pure (JE (none,()))) _ _;rw[moveDown'_eq]
   have hks:lo+k < (BD m).size:=by rw[G.size];exact N
   have e:∀i,ix (qL (BD m) (lo+k) (lo+k - (lo+l))) i=if i=lo+l then ix (BD m) (lo+k)else if lo+l < i/\i<=lo+k then ix (BD m) (i - 1)else ix (BD m) i:=λi=>by
    rw[eu hks (by lia),show lo+k - (lo+k - (lo+l))=lo+l by lia]
   refine B9 (MF (DH ⟨rfl,G.setArr (bubble_perm _ _ _),?_,o1.trans λi hi=>?_,p1⟩))
   ·rw[show min (k+1) n=k+1 by lia]
    intro i j R U h3;show lt (ix (qL (BD m) (lo+k) (lo+k - (lo+l))) j) (ix (qL (BD m) (lo+k) (lo+k - (lo+l))) i)=false;rw[e,e]
    repeat' split
    all_goals first
     | (exfalso;lia)
     | exact O.irr (G.mem N)
     | (have q:=P (i - lo) (by lia);rw[show lo+(i - lo)=i by lia]at q;exact q)
     | (have q:=B (j - 1 - lo) (by omega) (by omega);rw[show lo+(j - 1 - lo)=j - 1 by lia]at q;exact O.asym _ _ (G.mem N) (G.mem (by lia)) q)
     | exact X _ _ (by omega) (by omega) (by lia)
   ·show ix (qL (BD m) (lo+k) (lo+k - (lo+l))) i=ix (BD m) i
    rw[e,qY (by lia),qY (by lia)]
end
section
theorem YD{l:Type}{M:Model}{r:String}{Q:PUnit->l->Prop}{st:l}(h:Q ⟨⟩ st):wpS M A E s (liftM (rule r):StateT l Sem PUnit) Q st:=wpS_lift (TH ⟨rfl,h⟩)
theorem Dn.flip{xs:Array Dv}{lo hi:Nat}(l:hi<=xs.size)(d:Dn lt xs lo hi):Up lt (MJ xs lo hi ((hi - lo) / 2)) lo hi:=λi j m o s=>by
 rw[E3 l,E3 l,qX (by lia),qX (by lia)];exact d _ _ (by omega) (by omega) (by omega)
theorem Dn.part{xs:Array Dv}{lo hi m:Nat}(l:hi<=xs.size)(s:lo<=m)(o:m<=hi)(d:Dn lt xs lo hi)(e:Up lt xs m hi):Dn lt (MJ xs m hi ((hi - m) / 2)) lo hi:=λi j A B C=>by
 rw[E3 l,E3 l]
 by_cases E:m<=i
 ·rw[qX (by lia),qX (by lia)]
  exact e _ _ (by omega) (by omega) (by omega)
 ·rw[qY (by lia)]
  split
  ·exact d _ _ (by omega) (by lia) (by omega)
  ·exact d _ _ (by omega) (by omega) (by omega)
theorem Mo{xs:Array Dv}{i j lo hi:Nat}(l:j<=xs.size)(m:lo<=i)(o:j<=hi):Out xs (MJ xs i j ((j - i) / 2)) lo hi:=λk s=>by
 rw[E3 l,qY (by lia)]
theorem Dn.grow{st:Fq}(O:Ord (·∈a₀) lt)(g:Good a₀ B st){lo hi:Nat}(l:hi < a₀.size)(u:Dn lt (BD st) lo hi)(C:lo < hi)(h:lt (ix (BD st) (hi - 1)) (ix (BD st) hi)=false):Dn lt (BD st) lo (hi+1):=λi j m o E=>by
 by_cases s:j < hi
 ·exact u i j m o s
 ·have:j=hi:=by lia
  subst this
  by_cases A:i=j
  ·subst A;exact O.irr (g.mem l)
  ·exact O.ntr _ _ _ (g.mem l) (g.mem (show j - 1 < _ by omega)) (g.mem (by lia)) h (u i (j - 1) m (by lia) (by lia))
theorem Zv(O:Ord (·∈a₀) lt){st:Fq}(g:Good a₀ o st){lo:Nat}(h:lo < a₀.size):Up lt (BD st) lo (lo+1):=λi j s A B=>by
 have l:i=lo:=by lia
 have m:j=lo:=by lia
 rw[l,m];exact O.irr (g.mem h)
theorem lF{st:Fq}{lo y8 n:Nat}{Q:Option Nat->Fq->Prop}(C:VR prog w A s a₀ κ lt)(O:Ord (·∈a₀) lt)(h1:1<=n)(h2:n<=y8)(hn:lo+y8<=a₀.size)(g:Good a₀ κ st)(u:Up lt (BD st) lo (lo+n))
  (h:∀n,1<=n->n<=y8->Up lt (BD st) lo (lo+n)->Q (some n) st):wpS (Aw prog w) A E s (do
   let mut n:=n
   for _ in [n:y8] do
    let some yj <-ua (lo+n) (lo+n - 1) | return none
    if yj then break
    n:=n+1
   return some n) Q st:=by
 refine B9 (Qd (JL (I:=λx c tx=>tx=st/\c=(none,x)/\Up lt (BD st) lo (lo+x))
  (Q:=λc tx=>tx=st/\∃n,c=(none,n)/\1<=n/\n<=y8/\Up lt (BD st) lo (lo+n)) ?step ?fin ⟨rfl,rfl,u⟩) ?post)
 case fin=>
  rintro c tx ⟨rfl,rfl,u⟩
  have e:max n y8=y8:=by lia
  rw[e]at u ⊢;exact⟨rfl,y8,rfl,by lia,AM _,u⟩
 case step=>
  rintro x c tx hx1 hx2 ⟨rfl,rfl,u⟩;dsimp only;refine B9 (Qo C g (by lia) (by lia) ?_)
  cases hq:lt (ix (BD tx) (lo+x)) (ix (BD tx) (lo+x - 1))with
  | true=>exact DH ⟨rfl,x,rfl,by lia,by lia,u⟩
  | false=>exact DH ⟨rfl,rfl,Up.grow (hi:=lo+x) O g (by lia) u (by lia) hq⟩
 case post=>
  rintro c tx ⟨rfl,n,rfl,hn1,yH,u⟩;exact DH (h n hn1 yH u)
theorem wpS_countRun{st}{lo y8}{Q}(C:VR prog w A s a₀ κ lt)(O:Ord (·∈a₀) lt)(h1:1<=y8)(hn:lo+y8<=a₀.size)(g:Good a₀ κ st)
  (h:∀tx n,Good a₀ κ tx->1<=n->n<=y8->Up lt (BD tx) lo (lo+n)->Out (BD st) (BD tx) lo (lo+y8)->CU tx=CU st->Q (some n) tx):wpS (Aw prog w) A E s (countRun' lo y8) Q st:=by
 rw[countRun'_eq]
 refine B9 (Qd (JL (I:=λx c tx=>tx=st/\c=(none,x)/\Up lt (BD st) lo (lo+x))
  (Q:=λc tx=>tx=st/\∃n,c=(none,n)/\1<=n/\n<=y8/\Up lt (BD st) lo (lo+n)/\(n=y8∨lt (ix (BD st) (lo+n)) (ix (BD st) (lo+n - 1))=true)) ?step ?fin ?init) ?post)
 case init=>
  refine⟨rfl,rfl,λi j a1 a2 a3=>?_⟩
  have:i=j:=by lia
  subst this;exact O.irr (g.mem (by lia))
 case fin=>
  rintro c tx ⟨rfl,rfl,u⟩
  have e:max 1 y8=y8:=by lia
  rw[e]at u ⊢;exact⟨rfl,y8,rfl,h1,AM _,u,.inl rfl⟩
 case step=>
  rintro x c tx hx1 hx2 ⟨rfl,rfl,u⟩;dsimp only;refine B9 (Qo C g (by lia) (by lia) ?_)
  cases hq:lt (ix (BD tx) (lo+x)) (ix (BD tx) (lo+x - 1))with
  | true=>exact DH ⟨rfl,x,rfl,hx1,by lia,u,.inr hq⟩
  | false=>exact DH ⟨rfl,rfl,Up.grow (hi:=lo+x) O g (by lia) u (by lia) hq⟩
 case post=>
  rintro c tx ⟨rfl,n,rfl,hn1,yH,u,hd⟩;dsimp only
  by_cases hnn:n=y8
  ·rw[qX (by simpa using hnn)]
   exact DH (h tx n g hn1 yH u .refl rfl)
  ·rw[qY (by simpa using hnn)]
   have zF:=hd.resolve_left hnn
   have desc:∀(yG:Fq),Good a₀ κ yG->Dn lt (BD yG) lo (lo+(n+1))->Out (BD tx) (BD yG) lo (lo+y8)->CU yG=CU tx ->
     wpS (Aw prog w) A E s (do
      liftM (rule "list.sort.descending-run")
      let mut n:=n+1
      let mut neq:=0
      for _ in [n:y8] do
       let some yj <-ua (lo+n) (lo+n - 1) | return none
       if yj then
        if neq > 0 then Sb (lo+n - (neq+1)) (lo+n)
        neq:=0
       else
        let some ω <-ua (lo+n - 1) (lo+n) | return none
        if ω then break
        neq:=neq+1
       n:=n+1
      if neq > 0 then Sb (lo+n - (neq+1)) (lo+n)
      Sb lo (lo+n)
      for _ in [n:y8] do
       let some yj <-ua (lo+n) (lo+n - 1) | return none
       if yj then break
       n:=n+1
      return some n) Q yG:=by
    intro yG g1 d1 o1 p1;refine B9 (YD ?_)
    refine B9 (Qd (JL (I:=λx c yb=>Good a₀ κ yb/\∃q,c=(none,x,q)/\q+1<=x/\Dn lt (BD yb) lo (lo+x)/\Up lt (BD yb) (lo+x - (q+1)) (lo+x)/\Out (BD tx) (BD yb) lo (lo+y8)/\CU yb=CU tx)
     (Q:=λc yb=>Good a₀ κ yb/\∃n q,c=(none,n,q)/\n<=y8/\q+1<=n/\Dn lt (BD yb) lo (lo+n)/\Up lt (BD yb) (lo+n - (q+1)) (lo+n)/\Out (BD tx) (BD yb) lo (lo+y8)/\CU yb=CU tx) ?dstep ?dfin ?dinit) ?dpost)
    case dinit=>
     refine⟨g1,0,rfl,by lia,d1,?_,o1,p1⟩;have:=Zv O g1 (lo:=lo+n) (by lia);rwa [show lo+(n+1) - (0+1)=lo+n by lia,show lo+(n+1)=lo+n+1 by lia]
    case dfin=>
     rintro c yb ⟨g2,q,rfl,hq,d2,u2,o2,p2⟩
     have e:max (n+1) y8=y8:=by lia
     rw[e]at d2 u2 hq ⊢;exact⟨g2,y8,q,rfl,AM _,hq,d2,u2,o2,p2⟩
    case dstep=>
     rintro x c yb hx1 hx2 ⟨g2,q,rfl,hq,d2,u2,o2,p2⟩;dsimp only;refine B9 (Qo C g2 (by lia) (by lia) ?_)
     cases hs:lt (ix (BD yb) (lo+x)) (ix (BD yb) (lo+x - 1))with
     | true=>
      dsimp only;rw[qX rfl];have ye:=O.asym _ _ (g2.mem (show lo+x < _ by lia)) (g2.mem (show lo+x - 1 < _ by lia)) hs
      by_cases ϐ:q > 0
      ·rw[qX ϐ,OM]
       have hsz:lo+x<=(BD yb).size:=by rw[g2.size];lia
       have g3:Good a₀ κ (setArr yb (MJ (BD yb) (lo+x - (q+1)) (lo+x) ((lo+x - (lo+x - (q+1))) / 2))):=g2.setArr (Xt _ _ _ _);have d3:=Dn.part (lt:=lt) (lo:=lo) hsz (show lo<=lo+x - (q+1) by lia) (by omega) d2 u2;refine B9 (MF (DH ⟨g3,0,rfl,by lia,?_,?_,o2.trans (Mo hsz (by lia) (by lia)),p2⟩))
       ·refine Dn.grow (hi:=lo+x) O g3 (by lia) d3 (by lia) ?_
        show lt (ix (MJ (BD yb) (lo+x - (q+1)) (lo+x) ((lo+x - (lo+x - (q+1))) / 2)) (lo+x - 1)) (ix (MJ (BD yb) (lo+x - (q+1)) (lo+x) ((lo+x - (lo+x - (q+1))) / 2)) (lo+x))=false;rw[E3 hsz,E3 hsz,qX (by omega),qY (by lia)];exact O.ntr _ _ _ (g2.mem (by lia)) (g2.mem (show lo+x - 1 < _ by lia)) (g2.mem (by omega)) ye (d2 _ _ (by lia) (by omega) (by lia))
       ·have:=Zv O g3 (lo:=lo+x) (by lia)
        rwa [show lo+(x+1) - (0+1)=lo+x by lia,show lo+(x+1)=lo+x+1 by lia]
      ·rw[qY ϐ]
       refine DH ⟨g2,0,rfl,by lia,Dn.grow (hi:=lo+x) O g2 (by lia) d2 (by lia) ye,?_,o2,p2⟩;have:=Zv O g2 (lo:=lo+x) (by lia);rwa [show lo+(x+1) - (0+1)=lo+x by lia,show lo+(x+1)=lo+x+1 by lia]
     | false=>
      dsimp only;rw[qY AN];refine B9 (Qo C g2 (by lia) (by lia) ?_)
      cases hl:lt (ix (BD yb) (lo+x - 1)) (ix (BD yb) (lo+x))with
      | true=>exact DH ⟨g2,x,q,rfl,by lia,hq,d2,u2,o2,p2⟩
      | false=>
       refine DH ⟨g2,q+1,rfl,by lia,Dn.grow (hi:=lo+x) O g2 (by lia) d2 (by lia) hl,?_,o2,p2⟩;rw[show lo+(x+1) - (q+1+1)=lo+x - (q+1) by lia];exact Up.grow (hi:=lo+x) O g2 (by lia) u2 (by omega) hs
    case dpost=>
     rintro c yb ⟨g2,m,q,rfl,hm,hq,d2,u2,o2,p2⟩;dsimp only
     have hsz:lo+m<=(BD yb).size:=by rw[g2.size];lia
     have last:∀zb,Good a₀ κ zb->Dn lt (BD zb) lo (lo+m)->Out (BD tx) (BD zb) lo (lo+y8)->CU zb=CU tx->∀(R:StateT Fq Sem (Option Nat)),R=(do
        let mut n:=m
        for _ in [n:y8] do
         let some yj <-ua (lo+n) (lo+n - 1) | return none
         if yj then break
         n:=n+1
        return some n)->wpS (Aw prog w) A E s (do Sb lo (lo+m);R) Q zb:=by
      rintro zb g3 d3 o3 p3 R rfl
      have hsz3:lo+m<=(BD zb).size:=by rw[g3.size];lia
      rw[OM];refine B9 (MF ?_);have g4:Good a₀ κ (setArr zb (MJ (BD zb) lo (lo+m) ((lo+m - lo) / 2))):=g3.setArr (Xt _ _ _ _)
      exact lF C O (by lia) hm hn g4 (Dn.flip hsz3 d3) λk k1 k2 k3=>h _ k g4 k1 k2 k3 (o3.trans (Mo hsz3 (by lia) (by lia))) p3
     by_cases ϐ:q > 0
     ·rw[qX ϐ,OM]
      refine B9 (MF ?_);exact last _ (g2.setArr (Xt _ _ _ _)) (Dn.part hsz (by lia) (by omega) d2 u2) (o2.trans (Mo hsz (by lia) (by lia))) p2 _ rfl
     ·rw[qY ϐ]
      exact last _ g2 d2 o2 p2 _ rfl
   have ye:=O.asym _ _ (g.mem (show lo+n < _ by lia)) (g.mem (show lo+n - 1 < _ by omega)) zF
   by_cases hn0:n > 1
   ·rw[qX hn0]
    refine B9 (Qo C g (by lia) (by omega) ?_)
    cases hr:lt (ix (BD tx) lo) (ix (BD tx) (lo+n - 1))with
    | true=>exact DH (h tx n g hn1 yH u .refl rfl)
    | false=>
     dsimp only;rw[qY AN,OM]
     have hsz:lo+n<=(BD tx).size:=by rw[g.size];lia
     have g1:Good a₀ κ (setArr tx (MJ (BD tx) lo (lo+n) ((lo+n - lo) / 2))):=g.setArr (Xt _ _ _ _)
     have al:∀i j,lo<=i->i < lo+n->lo<=j->j < lo+n->lt (ix (BD tx) i) (ix (BD tx) j)=false:=λi j i1 i2 j1 j2=>by
      have q1:=u j (lo+n - 1) (by omega) (by lia) (by omega);have q2:=u lo i (by lia) (by omega) (by omega);exact O.ntr _ _ _ (g.mem (by lia)) (g.mem (show lo < _ by lia)) (g.mem (by lia)) (O.ntr _ _ _ (g.mem (by lia)) (g.mem (show lo+n - 1 < _ by lia)) (g.mem (by lia)) q1 hr) q2
     refine B9 (MF ?_);refine desc _ g1 ?_ (Mo hsz (by lia) (by lia)) rfl;refine Dn.grow (hi:=lo+n) O g1 (by lia) (λi j a1 a2 a3=>?_) (by lia) ?_
     ·show lt (ix (MJ (BD tx) lo (lo+n) ((lo+n - lo) / 2)) i) (ix (MJ (BD tx) lo (lo+n) ((lo+n - lo) / 2)) j)=false
      rw[E3 hsz,E3 hsz,qX (by lia),qX (by lia)];exact al _ _ (by omega) (by omega) (by omega) (by omega)
     ·show lt (ix (MJ (BD tx) lo (lo+n) ((lo+n - lo) / 2)) (lo+n - 1)) (ix (MJ (BD tx) lo (lo+n) ((lo+n - lo) / 2)) (lo+n))=false
      rw[E3 hsz,E3 hsz,qX (by omega),qY (by lia),show lo+(lo+n) - 1 - (lo+n - 1)=lo by omega];exact O.ntr _ _ _ (g.mem (by lia)) (g.mem (show lo+n - 1 < _ by lia)) (g.mem (by lia)) ye hr
   ·rw[qY hn0]
    have e:n=1:=by lia
    subst e;refine desc _ g (Dn.grow (hi:=lo+1) O g (by lia) (λi j a1 a2 a3=>?_) (by lia) ye) .refl rfl
    have e1:i=lo:=by lia
    have e2:j=lo:=by lia
    rw[e1,e2];exact O.irr (g.mem (by lia))
end
theorem oP(a:Array Dv)(i:Nat):(a.extract i a.size).toList=a.toList.drop i:=by
 simp[List.extract];exact EJ (by simp)
section
variable{lt:Dv->Dv->Bool}
noncomputable abbrev Rl(lt:Dv->Dv->Bool)(x y:Dv):Prop:=lt y x=false
end
theorem tI{a:Array Dv}{lo hi i:Nat}(h:hi<=a.size)(l:i < hi - lo):ix (a.extract lo hi) i=ix a (lo+i):=by
 apply L0
 rw[Array.getElem?_extract];simp
 lia
section
variable{lt:Dv->Dv->Bool}
theorem vL{a:Array Dv}{lo hi:Nat}(h:hi<=a.size)(u:Up lt a lo hi):(a.extract lo hi).toList.Pairwise (Rl lt):=by
 rw[Dp];intro i j o s A;simp at o s
 have e:∀k (l:k < (a.extract lo hi).toList.length),(a.extract lo hi).toList[k]=ix a (lo+k):=λk l=>by
  have m:k < (a.extract lo hi).size:=by rw[CN]at l;exact l
  have:=S7 m;rw[getElem?_pos (a.extract lo hi) k m]at this
  have B:(a.extract lo hi).size=hi - lo:=by simp;lia
  rw[<-tI h (by lia)];simpa using this
 rw[e,e];exact u _ _ (by lia) (by lia) (by omega)
end
section
variable{prog:Bw}{w:CV}{A:Cf}{E:AK->AS->Prop}{s:AS}{a₀:Array Dv}{κ:Qk}{lt:Dv->Dv->Bool}
theorem Vh{st:Fq}{Q:Unit->Fq->Prop}(U':a₀.size < 64)(h1:1<=a₀.size)(C:VR prog w A s a₀ κ lt)(O:Ord (·∈a₀) lt)(g:Good a₀ κ st)(hp:CU st = #[])
  (h:∀l,Good a₀ κ l->Up lt (BD l) 0 a₀.size->Q () l):wpS (Aw prog w) A E s sortRuns' Q st:=by
 rw[sortRuns'_eq];refine B9 (ZS ?_);dsimp only;rw[g.size]
 have N:minRun' a₀.size a₀.size 0=a₀.size:=by
  obtain⟨f,hf⟩:∃f,a₀.size=f+1:=⟨a₀.size - 1,by omega⟩
  have:minRun' (f+1) a₀.size 0=a₀.size:=by rw[minRun'_succ,qX U'];rfl
  rwa [<-hf]at this
 rw[N]
 refine B9 (Qd (JL (I:=λx c l=>(x=0/\c=(none,0)/\Good a₀ κ l/\CU l = #[])∨(1<=x/\c=(none,a₀.size)/\Good a₀ κ l/\Up lt (BD l) 0 a₀.size/\(CU l).size<=1))
  (Q:=λc l=>c=(none,a₀.size)/\Good a₀ κ l/\Up lt (BD l) 0 a₀.size/\(CU l).size<=1) ?step ?fin ?init) ?post)
 case init=>exact .inl ⟨rfl,rfl,g,hp⟩
 case fin=>
  rintro c l (⟨h0,_⟩ | ⟨_,rfl,g',u',p'⟩)
  ·lia
  ·exact⟨rfl,g',u',p'⟩
 case step=>
  rintro x c yG _ hx (⟨rfl,rfl,B,o⟩ | ⟨hx1,rfl,B,P,o⟩)
  ·dsimp only
   rw[qY (by lia)];refine B9 (wpS_countRun C O (by lia) (by lia) B λT n L n1 n2 R o2 U=>?_);dsimp only;rw[IQ]at R
   by_cases X:n < a₀.size
   ·rw[qX X]
    refine B9 (YD ?_);refine B9 (wpS_binarySort C O (by lia) (by lia) L (by simpa using R) λY S Z o3 p3=>?_);rw[qY (by simp)];refine B9 (ZS ?_)
    have G:CU Y = #[]:=by rw[p3,U,o]
    rw[G];dsimp only[ur]
    have em:min (a₀.size - 0) a₀.size=a₀.size:=by lia
    rw[em]at Z ⊢;refine B9 (MF (DH (.inr ⟨by lia,by rw[IQ],⟨S.perm,S.kind,S.failed⟩,by simpa using Z,?_⟩)));show((CU Y).push (0,a₀.size,0)).size<=1;rw[G];simp
   ·have e:n=a₀.size:=by lia
    subst e;rw[qY X];refine B9 (ZS ?_)
    have G:CU T = #[]:=by rw[U,o]
    rw[G];dsimp only[ur];refine B9 (MF (DH (.inr ⟨by lia,by rw[IQ],⟨L.perm,L.kind,L.failed⟩,R,?_⟩)));show((CU T).push (0,a₀.size,0)).size<=1;rw[G];simp
  ·dsimp only
   rw[qX (AM _)];exact DH ⟨rfl,B,P,o⟩
 case post=>
  rintro c yG ⟨rfl,B,P,o⟩;dsimp only;refine B9 (Qd (JL (I:=λx c m=>c=(none,())/\Good a₀ κ m/\Up lt (BD m) 0 a₀.size/\(CU m).size<=1) (Q:=λc m=>c=(none,())/\Good a₀ κ m/\Up lt (BD m) 0 a₀.size) ?_ ?_ ⟨rfl,B,P,o⟩) ?_)
  ·rintro x c m _ _ ⟨rfl,H,J,p4⟩
   refine B9 (ZS ?_);rw[qX p4];exact DH ⟨rfl,H,J⟩
  ·rintro c m ⟨rfl,H,J,_⟩
   exact⟨rfl,H,J⟩
  ·rintro c m ⟨rfl,H,J⟩
   exact DH (h m H J)
end
noncomputable def ltL:ZLi->ZLi->Bool
 | [],[]=>false
 | [],_ :: _=>true
 | _ :: _,[]=>false
 | x :: l,y :: m=>if x=y then ltL l m else decide (x < y)
theorem QC:∀x y,ltL x y=true->ltL y x=false
 | [],[],h=>by cases h
 | [],_ :: _,_=>rfl
 | _ :: _,[],h=>by cases h
 | x :: l,y :: m,h=>by
  unfold ltL at h ⊢
  by_cases e:x=y
  ·rw[qX e]at h;rw[qX e.symm];exact QC l m h
  ·rw[qY e]at h;rw[qY (Ck e)];simp at h ⊢;lia
theorem XT:∀x y z,ltL y x=false->ltL z y=false->ltL z x=false
 | [],y,[],_,_=>rfl
 | [],[],_ :: _,_,_=>rfl
 | [],_ :: _,_ :: _,_,_=>rfl
 | x :: A,[],z,h,_=>by cases h
 | _,y :: B,[],_,h=>by cases h
 | x :: A,y :: B,z :: E,m,l=>by
  unfold ltL at m l ⊢
  by_cases s:y=x
  ·rw[qX s]at m
   subst s
   by_cases o:z=y
   ·rw[qX o]at l ⊢
    exact XT A B E m l
   ·rw[qY o]at l ⊢;exact l
  ·rw[qY s]at m
   by_cases o:z=y
   ·subst o;rw[qY s];exact m
   ·rw[qY o]at l
    by_cases C:z=x
    ·subst C;simp at m l;lia
    ·rw[qY C];simp at m l ⊢;lia
theorem cS:∀x y,ltL x y=false->ltL y x=false->x=y
 | [],[],_,_=>rfl
 | [],_ :: _,h,_=>by cases h
 | _ :: _,[],_,h=>by cases h
 | x :: o,y :: s,l,m=>by
  unfold ltL at l m
  by_cases e:x=y
  ·rw[qX e]at l;rw[qX e.symm]at m;rw[e,cS o s l m]
  ·rw[qY e]at l;rw[qY (Ck e)]at m;simp at l m;lia
noncomputable def ltK(f:AK->ZLi)(x y:Dv):Bool:=ltL (f x.1) (f y.1)
theorem nA(f:AK->ZLi)(U:Dv->Prop):Ord U (ltK f):=⟨λx y _ _ h=>QC _ _ h,λx y z _ _ _ l m=>XT _ _ _ l m⟩
section
theorem aL(o:Bool)(h:Q (decide (a < b)) s):Am (Aw prog w) A (oneLt' o (.int a t) (.int b u)) Q E s:=by
 cases o with
 | true=>exact oneLt_int h
 | false=>
  rw[oneLt'_eq];simp only[DM,if_false];exact AB (wpAny_lt_int (E8 h))
noncomputable def bI(s:AS)(v:AK)(ns:ZLi):Prop:=∃a l,v=.ref a/\s.heap.IsTuple a l/\HE l.toList ns
noncomputable def xL(o:Bool):(AK×AK)×Nat->Option Bool×Unit->Sem (ForInStep (Option Bool×Unit)):=λe _=>match e with
 | ((p,q),i)=>eqBool p q >>= λc=>if (!c)=true then oneLt' (o&&i==0) p q >>= λb=>pure (.done (some b,()))else pure (.yield (none,()))
theorem jY(o:Bool)(x y:AK):keyLt' (uV o) x y=(Kh x >>= λr=>Kh y >>= λq=>forIn (r.toList.zip q.toList).zipIdx ((none,()):Option Bool×Unit) (xL o) >>= λz=>match z.1 with
  | some b=>pure b
  | none=>pure (decide (r.size < q.size))):=by kernel_rfl
theorem kK(o:Bool):∀{is B:List AK} {ns H:ZLi} (k:Nat) {Q:Bool->AS->Prop},HE is ns->HE B H->Q (ltL ns H) s ->
  Am (Aw prog w) A (forIn ((is.zip B).zipIdx k) ((none,()):Option Bool×Unit) (xL o) >>= λz=>match z.1 with
   | some b=>pure b
   | none=>pure (decide (n0+is.length < n0+B.length))) Q E s:=by
 intro is
 induction is with
 | nil=>
  intro B ns H k Q C G l;cases C;rw[List.zip_nil_left,lA,V2];refine AB (AL (AL ?_))
  cases G with
  | nil=>simpa[ltL]using l
  | cons m t h=>simpa[ltL]using l
 | cons v is I=>
  intro B ns H k Q C G l
  cases C with
  | cons n t C=>
   cases G with
   | nil=>
    rw[List.zip_nil_right,lA,V2];refine AB (AL (AL ?_));rw[wY (by rw[BC,EC];lia)];exact l
   | cons m u G=>
    rw[gB,List.zipIdx_cons,lC];rw[bind_assoc];unfold ltL at l;refine AB ?_;refine AB (Wf ?_)
    by_cases e:n=m
    ·rw[qX e]at l
     rw[qY (by simp[e])];refine AL ?_;have:=I (k+1) C G l;simpa[Nat.add_lt_add_iff_left]using this
    ·rw[qY e]at l
     rw[qX (by simp[e])];refine AB (aL _ (AL ?_));exact AB (AL (AL l))
end
section
theorem Qv(h:bI s v ns):∃l:Array AK,HE l.toList ns/\s.TypeIs v "tuple"/\∀(E:AK->AS->Prop) (Q:Array AK->AS->Prop),Q l s->Am (Aw prog w) A (Kh v) Q E s:=by
 obtain⟨a,l,rfl,⟨o,m,B,n,hd⟩,C⟩:=h;exact⟨l,C,⟨o,m,B⟩,λE Q q=>listItems_at m hd q⟩
theorem oZ(o:Bool)(l:bI s x ns)(m:bI s y B)(h:Q (ltL ns B) s):Am (Aw prog w) A (keyLt' (uV o) x y) Q E s:=by
 obtain⟨r,C,_,G⟩:=Qv (prog:=prog) (w:=w) (A:=A) l;obtain⟨q,H,_,I⟩:=Qv (prog:=prog) (w:=w) (A:=A) m;rw[jY];refine AB (G E _ (AB (I E _ ?_)));have:=kK (prog:=prog) (w:=w) (A:=A) (E:=E) (n0:=0) o 0 C H h;simp only[IQ,CN]at this;exact this
theorem fM(h:bI s v (n :: ns))(o:∀t,Q (some (.int n t)) s):Am (Aw prog w) A (dC v) Q E s:=by
 obtain⟨r,m,ty,B⟩:=Qv (prog:=prog) (w:=w) (A:=A) h;refine(AB (Op ty ?_):Am _ _ (dC v) Q E s);refine(show Am (Aw prog w) A (if (HC "tuple" != HC "tuple")=true then _ else _) Q E s from ?_);rw[qY (by simp)];refine AB (B E _ (AL ?_));generalize C:r.toList=l at m
 cases m with
 | cons _ t G=>
  have:r[0]?=some (.int n t):=by
   rw[<-Zb,C];rfl
  rw[this];exact o t
theorem Uv:∀{vs:List AK},(∀v∈vs,∃n ns,bI s v (n :: ns))->∀{Q:List (Option AK)->AS->Prop},(∀is ns,HE is ns->is.length=vs.length->Q (is.map some) s)->Am (Aw prog w) A (vs.mapM dC) Q E s
 | [],_,Q,h=>by
  rw[List.mapM_nil];exact AL (h [] [] .nil rfl)
 | v :: vs,m,Q,h=>by
  obtain⟨n,ns,o⟩:=m v AZ;rw[List.mapM_cons];refine AB (fM o λt=>AB (Uv (λv l=>m v (AV _ l)) λis B C G=>AL ?_));exact h (.int n t :: is) (n :: B) (.cons n t C) (by rw[BC,G,BC])
theorem XH(h:HE is ns)(l:is≠[]):oneTypeOnly' is.toArray=pure (some (.type "int")):=by
 rw[oneTypeOnly'_eq,gN,mapM_typeOf_ints h];simp only[map_pure,pure_bind]
 cases is with
 | nil=>exact zX rfl l
 | cons v is=>
  have m:(Re (λ_=>HC "int") (v :: is)).toArray[0]?=some (HC "int"):=by simp
  have o:((Re (λ_=>HC "int") (v :: is)).toArray.all λx=>x==HC "int")=true:=by
   simp only[List.all_toArray,ZW,ES]
   exact λ_ _=>rfl
  rw[m];simp only[o,if_true]
theorem jX(l:∀v∈vs,∃n ns,bI s v (n :: ns))(m:vs≠[])(h:Q (uV true) s):Am (Aw prog w) A (keyKind' vs.toArray) Q E s:=by
 rw[keyKind'_eq,gN];refine AB ?_;rw[map_eq_pure_bind];refine AB (Uv l λis ns o B=>AL ?_)
 have C:((is.map some).toArray.all λx=>x.isSome)=true:=by simp
 rw[qX C];refine AB (TH ?_)
 have G:(is.map some).toArray.filterMap id=is.toArray:=by simp
 rw[G,XH o (by intro e;subst e;cases vs with | nil=>exact m rfl | cons=>simp at B)];refine AB (AL (AL ?_));exact h
end
section
theorem IY(h:x∈NR vs):x.1∈vs/\x.1=x.2:=by
 have:x∈(NR vs).toList:=GM.mpr h;rw[pairsOf_toList]at this;exact⟨(mem_zip_self this).2,(mem_zip_self this).1⟩
theorem eS(vs:List AK):(NR vs).map (·.2)=vs.toArray:=by
 apply vE
 rw[MP,pairsOf_toList];simp[List.map_snd_zip]
noncomputable def Xp(prog:Bw)(w:CV)(A:Cf)(s:AS)(vs:List AK)(f:AK->ZLi):Prop:=
 ∃l:Qk,(∀(Q:Qk->AS->Prop) (E:AK->AS->Prop),Q l s->Am (Aw prog w) A (keyKind' vs.toArray) Q E s)/\VR prog w A s (NR vs) l (ltK f)
theorem SS{a:Ab}{vs:List AK}{n:Nat}{P:Fin->AS->Prop}{f:AK->ZLi}(ho:s.heap.get? a=some (Kv "list" vs.toArray n)) (Z:vs.length<=sizeLine) (O:vs.length < 64)
  (hk:2<=vs.length->∀s':AS,(∀b o,b≠a->s.heap.get? b=some o->s'.heap.get? b=some o)->Xp prog w A s' vs f)
  (h:∀out:Array AK,out.toList.Perm vs->out.toList.Pairwise (λx y=>ltL (f y) (f x)=false)->P (.done (.ret .none)) { s with heap:=qH s.heap a vs out }) :
  Am (Aw prog w) A (uq.«list.sort» ⟨[.ref a],[]⟩) P E s:=by
 have ha:a < s.heap.objs.size:=Ao ho
 have R:vs.toArray.size=vs.length:=by simp
 obtain⟨S,I⟩:∃S,(s.heap.update a (Gg λ_=>#[])).get? a=some (Kv "list" #[] S):=⟨_,get?_update_seq ho (λ_=>#[])⟩
 have B:(((s.heap.update a (Gg λ_=>#[])).push (Kv "tuple" vs.toArray 0)).push (Kv "list" #[] 0)).get? a=some (Kv "list" #[] S):=
  AR _ (AR _ I)
 have T:∀b o,b≠a->s.heap.get? b=some o->(((s.heap.update a (Gg λ_=>#[])).push (Kv "tuple" vs.toArray 0)).push (Kv "list" #[] 0)).get? b=some o:=λb o hb hg=>
  AR _ (AR _ (by rw[dJ _ _ _ _ hb];exact hg))
 have fin:∀m:Fq,(BD m).Perm (NR vs)->(BD m).toList.Pairwise (Rl (ltK f))->P (.done (.ret .none)) { s with heap:=qH s.heap a vs ((BD m).map (·.2)) }:=by
  intro m H L
  have X:∀x∈(BD m).toList,x.1=x.2:=λx U=>by
   have:x∈(NR vs).toList:=(Ke.mp H).mem_iff.mp U;exact(IY (GM.mp this)).2
  refine h _ ?_ ?_
  ·have:=(Ke.mp H).map (·.2)
   rw[<-MP,<-MP,eS]at this;simpa using this
  ·rw[MP,Bc]
   refine L.imp_of_mem λ{x y} U hy r=>?_
   rw[<-X x U,<-X y hy];exact r
 have G:∀m:Fq,(BD m).Perm (NR vs)->failedOf m=none->(BD m).toList.Pairwise (Rl (ltK f))->(((BD m).map (·.2)).size<=sizeLine+1):=λm H _ _=>by
  rw[Array.size_map,H.size_eq,VX]
  lia
 rw[list_sort_plain];refine AB (listItems_at ho rfl (AB (dB ho rfl (AB (ku I rfl (AB (wpAny_newTuple (AB (wpAny_newList (IC ?_)))))) ) (by rw[R];exact Z) (Do _))));show Am (Aw prog w) A _ P E { s with heap:=((s.heap.update a (Gg λ_=>#[])).push (Kv "tuple" vs.toArray 0)).push (Kv "list" #[] 0) };dsimp only
 by_cases N:vs.toArray.size < 2
 ·rw[qX N,qX N]
  refine AB (AL ?_);rw[StateT.run_pure]
  have J:(BD (NA Zd (vs.toArray.zip vs.toArray) #[] 7 none)).toList.Pairwise (Rl (ltK f)):=by
   have:(BD (NA Zd (vs.toArray.zip vs.toArray) #[] 7 none)).toList.length < 2:=by
    rw[CN];show(NR vs).size < 2;rw[VX];omega
   generalize (BD (NA Zd (vs.toArray.zip vs.toArray) #[] 7 none)).toList=l at this
   match l,this with
   | [],_=>exact .nil
   | [x],_=>exact D7 _ _
   | _ :: _ :: _,h=>simp at h;lia
  refine AB (AL (AB (ku B rfl (AB (dB B rfl ?_ (Do _) (G (NA Zd (vs.toArray.zip vs.toArray) #[] 7 none) (Qb _) rfl J))))));simp only[bne_self_eq_false,DM,if_false];exact AL (fin (NA Zd (vs.toArray.zip vs.toArray) #[] 7 none) (Qb _) J)
 ·rw[qY N,qY N]
  obtain⟨κ,kk,C⟩:=hk (by lia) { s with heap:=((s.heap.update a (Gg λ_=>#[])).push (Kv "tuple" vs.toArray 0)).push (Kv "list" #[] 0) } T;refine AB (kk _ _ ?_)
  refine AB (IM (Srt.Vh (a₀:=NR vs) (st:=NA κ (vs.toArray.zip vs.toArray) #[] 7 none)
   (Q:=λ_ m=>(BD m).Perm (NR vs)/\failedOf m=none/\(BD m).toList.Pairwise (Rl (ltK f))) (by rw[VX];exact O) (by rw[VX];lia) C (nA f _) ⟨Qb _,rfl,rfl⟩ rfl λm g u=>⟨g.perm,g.failed,?_⟩) ?_ λ_ _ e=>e)
  ·have:=vL (a:=BD m) (lo:=0) (hi:=(BD m).size) (AM _) (by rw[g.size];exact u)
   rwa [oP,List.drop_zero]at this
  rintro⟨⟨⟩,m⟩ s' ⟨rfl,H,Y,L⟩;refine AB (ku B rfl (AB (dB B rfl ?_ (Do _) (G m H Y L))));rw[Y];simp only[bne_self_eq_false,DM,if_false];exact AL (fin m H L)
theorem di(h:∀v∈vs,bI s v (f v)/\f v≠[])(l:vs≠[]):Xp prog w A s vs f:=
 ⟨uV true,λQ E q=>jX (λv m=>by
  obtain⟨o,B⟩:=h v m
  cases e:f v with
  | nil=>exact zX e B
  | cons n C=>exact⟨n,C,by rw[<-e];exact o⟩) l q,λx y G H Q E q=>oZ true (h _ (IY G).1).1 (h _ (IY H).1).1 q⟩
noncomputable def i8(v:AK):ZLi:=[numOf v]
theorem dj(h:HE vs ns)(B:2<=vs.length):Xp prog w A s vs i8:=by
 refine⟨oneType',λQ E q=>?_,λx y C G Q E q=>?_⟩
 ·match vs,B,h with
  | v :: u :: r,_,h=>rw[keyKind_ints h];exact AL q
 ·obtain⟨n,t,l⟩:=h.all _ (IY C).1
  obtain⟨m,u,o⟩:=h.all _ (IY G).1;rw[keyLt'_oneType,l,o];refine oneLt_int ?_
  have:ltK i8 x y=decide (n < m):=by
   unfold ltK i8;rw[l,o];show(if n=m then false else decide (n < m))=_;split
   ·rename_i e;simp[e]
   ·rfl
  rw[<-this];exact q
end
noncomputable def Vy(h:DO)(d:Ab)(es:Array Rg)(ep:Nat):Prop:=∃o,h.get? d=some o/\o.ExactDict/\o.data=.dict es ep
theorem Vy.at'(x:Vy h d es ep)(e:∀o,h.get? d=some o->h'.get? d=some o):Vy h' d es ep:=let ⟨o,l,r⟩:=x;⟨o,e _ l,r⟩
theorem Vy.ty{s:AS}{d:Ab}{es:Array Rg}{ep:Nat}(x:Vy s.heap d es ep):s.TypeIs (.ref d) "dict":=let ⟨o,l,m,_⟩:=x;⟨o,l,m.1⟩
section
theorem Yn{Q:AK->AS->Prop}(hd:(d==Cm)=false)(B:Vy s.heap d es ep)
  (G:Q (.ref s.heap.objs.size) { s with heap:=s.heap.push { cls:=.type "dict_keyiterator",data:=.fields #[.ref d,.int 0 0,.int es.size 0,.int ep 0] } }):Am (Aw prog w) A (qI (.ref d)) Q E s:=by
 have m:=B.ty;obtain⟨o,C,H,l⟩:=B;refine wpAny_pyIter_slot m Wm (Da Wm m PySem.F.entry_dict_iter ?_ (PySem.F.args_dict_iter_1 _));unfold uq.«dict.__iter__»;refine AB ?_;unfold xx;refine AB (kc m (show Am _ _ (pure (BW d)) _ _ s from AL ?_));refine(show Am _ _ (Ld d >>= _) _ _ s from ?_);unfold Ld;rw[qY (by simp[hd])];refine AB (AL (AB (E9 C l (AB (Ku C l (AB (CY (AL ⟨_,rfl, "dict_keyiterator",_,⟨_,Ah _ rfl,rfl⟩,DI.lookup,?_⟩))))))));simpa[Qh]using G
theorem Ym(l:s.heap.IsKeyIter it d i es.size ep)(H:Vy s.heap d es ep)(hi:i < es.size)
  (I:∀h',h'.IsKeyIter it d (i+1) es.size ep->FQ it s.heap h'->Q (some es[i].key) { s with heap:=h' }):Am (Aw prog w) A (Wh (.ref it)) Q E s:=by
 obtain⟨o,G,J,hd⟩:=id l;obtain⟨L,m,N,B⟩:=H;unfold Wh;refine AB (Sa (Db (name:=IP "__next__") l.typeIs DI (Da DI l.typeIs OW (AB (AL (AB (AB ?_)))) (OP _))))
 first | refine AB (Fj l.typeIs (AL (AB (Qg G hd ?_)))) | refine AB (IB l.typeIs (AL (AB (Qg G hd ?_))))
 simp only[show NT "dict_keyiterator" = false by decide,DM,if_false];refine(show Am _ _ (if (BW d==EY)=true then _ else _) _ _ s from ?_);rw[qY (λz:(BW d==EY)=true=>AN z)];refine AB (AL (AB (E9 m B ?_)));rw[qY (by simp)];refine AB (AL (AB (Ku m B ?_)));rw[qY (by simp)];refine AL ?_;simp only[show ¬((i:Int) < 0) by lia,if_false,At,V5 hi];refine AB ?_
 first | refine AB (Fj l.typeIs (AL (AB (Pa l.typeIs ?_)))) | refine AB (IB l.typeIs (AL (AB (Pa l.typeIs ?_))))
 refine(show Am _ _ (setField (.ref it) 1 (Qh ((i:Int)+1)) >>= _) _ _ s from ?_);have C:(s.heap.update it (uh (·.setIfInBounds 1 (Qh ((i:Int)+1))))).IsKeyIter it d (i+1) es.size ep:=⟨_,N9 _ G (bP (Kx hd _)),(kf ..).trans J,by rw[Kx hd];simp[Qh]⟩;refine AB (Qe G hd (by simp) (AB (IC (AB (Pa (s:={ s with heap:=s.heap.update it (uh (·.setIfInBounds 1 (Qh ((i:Int)+1)))) }) C.typeIs ?_)))));exact(show Am _ _ (pure es[i].key) _ _ _ from AL (AL ⟨_,rfl,AL (I _ C (IR ..))⟩))
theorem cB(H:A.handled=none)(l:s.heap.IsKeyIter it d i es.size ep)(I:Vy s.heap d es ep)(hi:es.size<=i)
  (J:∀h',bS it s.heap h'->Q none { s with heap:=h' }):Am (Aw prog w) A (Wh (.ref it)) Q E s:=by
 obtain⟨o,G,L,hd⟩:=id l;obtain⟨N,B,O,C⟩:=I;unfold Wh;refine AB (Sa (Db (name:=IP "__next__") l.typeIs DI (Da DI l.typeIs OW (AB (AL (AB (AB ?_)))) (OP _))))
 first | refine AB (Fj l.typeIs (AL (AB (Qg G hd ?_)))) | refine AB (IB l.typeIs (AL (AB (Qg G hd ?_))))
 simp only[show NT "dict_keyiterator" = false by decide,DM,if_false];refine(show Am _ _ (if (BW d==EY)=true then _ else _) _ _ s from ?_);rw[qY (λz:(BW d==EY)=true=>AN z)];refine AB (AL (AB (E9 B C ?_)));rw[qY (by simp)];refine AB (AL (AB (Ku B C ?_)));rw[qY (by simp)];refine AL ?_;simp only[show ¬((i:Int) < 0) by lia,if_false,At,Array.getElem?_eq_none hi];refine AB ?_
 first | refine AB (Fj l.typeIs (AL (show Am _ _ (setField (.ref it) 0 .none >>= _) _ _ s from ?_))) | refine AB (IB l.typeIs (AL (show Am _ _ (setField (.ref it) 0 .none >>= _) _ _ s from ?_)))
 refine AB (Qe G hd (by simp) (show Am _ _ (newExc (.type "StopIteration") [] >>= _) _ _ _ from AB ?_));simp only[newExc,newTuple];refine AB (CY (AB (m:=Qj _ _) (kl (a:=EY) (by first | rfl | (simp only[Qj];rfl)) (CY ?_ (by size_fits)))) (by size_fits));simp only[raiseNew];refine AB (wpAny_handled ?_);rw[show A.in1.handled=none from H];refine AB (AL (wpAny_throw ?_));refine AB (We (T:="StopIteration") (b:=true) ⟨_,Ah _ rfl,rfl⟩ isSubtype_stop (AL ?_));exact J _ (((IR ..).extBut.push _).push _)
theorem eI(L:A.handled=none)(I:Ab)(N:d≠I):Walks prog w A I [I,d] [I] es.size (λi v=>∃h:i < es.size,v=es[i].key) (λi h=>h.IsKeyIter I d i es.size ep/\Vy h d es ep) where
 sub:=λx G=>by simp at G;simp[G]
 frame:=λ_ _ _ st keep=>⟨st.1.at λo e=>keep I (by simp) o e,st.2.at' λo e=>keep d (by simp) o e⟩
 item:=λi s Q E H st l=>Ym st.1 st.2 H λm B J=>l _ m s.toks ⟨H,rfl⟩ ⟨B,st.2.at' λo e=>J.extBut d o N e⟩ λb o hb e=>J.extBut b o (λh=>hb (by simp[h])) e
 done:=λs Q E st l=>cB L st.1 st.2 (AM _) λm C=>l m s.toks λb o hb e=>C b o (λh=>hb (by simp[h])) e
 self:=λ_ _ _ _ st l=>kj st.1 l
theorem cA(lo:(d==Cm)=false):PySem.W.KdlSrc prog w "dict" d d es.size (λi v=>∃h:i < es.size,v=es[i].key) (λh=>Vy h d es ep) where
 type:=λ_ l=>l.ty
 there:=λ_ l=>⟨let ⟨_,m,_⟩:=l;Ao m,let ⟨_,m,_⟩:=l;Ao m⟩
 keep:=λ_ _ l A=>l.at' λo e=>A d (.inl rfl) o e
 notList:=by decide
 notTuple:=by decide
 hint:=λ_ _ _ _ l s=>PySem.W.kdl_hint_dict l.ty s
 iter:=λ_ _ B l=>⟨_,_,(λ_ _ s=>Yn lo l s),eI B _ (BK (let ⟨_,m,_⟩:=l;Ao m)),⟨⟨_,Ah _ rfl,rfl,rfl⟩,l.at' λo e=>AR _ e⟩⟩
end
end Srt
namespace L2
open PySem PySem.Spec PyProof.Rows
open Srt (ltL)
theorem Yq{E G:Type}{R:E->G->Prop}{H m:List G}(p:H.Perm m):∀{l1:List E},Gf R l1 H->∃o,Gf R o m/\o.Perm l1:=by
 induction p with
 | nil=>intro l1 h;cases h;exact⟨[],.nil,.refl _⟩
 | cons x _ I=>
  intro l1 h
  cases h with
  | cons r t=>
   obtain⟨J,s,A⟩:=I t;exact⟨_ :: J,.cons r s,A.cons _⟩
 | swap x y l=>
  intro l1 h
  cases h with
  | cons r t=>
   cases t with
   | cons L t=>exact⟨_ :: _ :: _,.cons L (.cons r t),List.Perm.swap _ _ _⟩
 | trans _ _ B C=>
  intro l1 h;obtain⟨a,s,A⟩:=B h;obtain⟨b,N,O⟩:=C s;exact⟨b,N,O.trans A⟩
theorem P3{l m s:Type}{R:l->m->Prop}{f:l->s}{g:m->s}:∀{o:List l} {A:List m},Gf R o A->(∀a∈o,∀b,R a b->g b=f a)->A.map g=o.map f
 | _,_,.nil,_=>rfl
 | _,_,.cons r t,h=>by rw[Az,Az,h _ AZ _ r,P3 t λa B=>h a (AV _ B)]
theorem UP{m l:Type}{R:m->l->Prop}:∀{o:List m} {s:List l} {b:l},Gf R o s->b∈s->∃a∈o,R a b
 | _,_,_,.nil,h=>nomatch h
 | _,_,b,.cons r t,h=>by
  rcases Af.mp h with h | h
  ·subst h;exact⟨_,AZ,r⟩
  ·obtain⟨a,A,e⟩:=UP t h
   exact⟨a,AV _ A,e⟩
noncomputable def Vt:V->Int
 | .int n=>n
 | _=>0
noncomputable def eC(H:Hp):AK->ZLi
 | .int n _=>[n]
 | .ref b=>match H b with
  | some (.tup l)=>l.map Vt
  | _=>[]
 | _=>[]
theorem RF(r:ZLi):(r.map V.int).map Vt=r:=by
 rw[BB];exact(DA λa _=>rfl).trans (uj r)
noncomputable def xS(K:AI)(H:Hp)(p:Ab)(G:List V->Prop):Prop:=
 (∃m,(SqL K H p m∨SqT K H p m)/\G m)∨(∃l,H p=some (.dK l)/\G (l.map λx=>kV x.1)) ∨
  ∃l,H p=some (.dT l)/\∀bs:List Ab,Gf (λ(k:List Key×V) b=>H b=some (.tup (k.1.map kV))) l bs->G (bs.map V.ref)
noncomputable def Wc(H:Hp)(f:V->ZLi)(vs:List V):Prop:=(∀v∈vs,∃n,v=.int n/\f v=[n])∨∀v∈vs,∃b,v=.ref b/\H b=some (.tup ((f v).map V.int))/\f v≠[]
noncomputable def ve(K:AI):List V->Hp->VK->Prop:=λo H Q=>∃p,o=[.ref p]/\xS K H p λm=>∃f:V->ZLi,m.length < 64/\Wc H f m /\
 ∀out,out.Perm m->out.Pairwise (λx y=>ltL (f y) (f x)=false)->∀l,H l=none->Q (.ref l) (upd H l (.lst out))
theorem Wc.rel(h:Wc H f vs):∀v∈vs,∀u,RelV v u->eC H u=f v:=λv l u r=>by
 rcases h with h | h
 ·obtain⟨n,rfl,e⟩:=h v l
  obtain⟨t,rfl⟩:=r;exact e.symm
 ·obtain⟨b,rfl,e,_⟩:=h v l
  cases r;show(match H b with | some (.tup m)=>m.map Vt | _=>[])=_;rw[e];exact RF _
theorem YS(hc:X.calm=true)(I:Inv X ζ σ H s)(h:xS X.K H p G) :
  ∃vs P,G vs/\CG vs P/\P.length<=sizeLine/\∀(R:List AK->AS->Prop) (E:AK->AS->Prop),(∀(g:DO) (Y:Nat),(∀b o,s.heap.get? b=some o->g.get? b=some o)->R P { s with heap:=g,toks:=Y })->Am (Aw X.prog X.w) X.A.in1 (collect (.ref p)) R E s:=by
 have hh:X.A.handled=none:=I.ok.hd hc
 rcases h with⟨vs,sq,g⟩ | ⟨B,e,g⟩ | ⟨B,e,g⟩
 ·rcases sq with sq | sq
  ·obtain⟨P,U,pl,J⟩:=I.list sq
   refine⟨vs,P,g,U,by rw[<-U.length];exact J,λR E k=>collect_list pl.isList (k _ s.toks λb o e=>?_) (by rw[<-U.length];exact J)⟩;rw[dJ _ _ _ _ (BK (Ao e))];exact AR _ e
  ·obtain⟨P,U,⟨o,ho,zu,n,hd⟩,J⟩:=I.tuple sq
   have Z:P.length<=sizeLine:=by rw[<-U.length];exact J
   exact⟨vs,P,g,U,Z,λR E k=>wpAny_collect_seq p (.inr rfl) ho zu hd (λh' kp=>by simpa using k h' s.toks kp) (by simpa using Z)⟩
 ·obtain⟨J,sm,us,kv,o,es,ep,g1,g2,g3,g5,g6,_⟩:=(show D2 X.prog X.w H s.heap p (.dK B)from I.hok p _ e)
  have C:es.size=B.length:=by
   have a1:=g6.length;have a2:B.length=us.length:=EG kv;rw[CN]at a1
   lia
  have hv:CG (B.map λx=>kV x.1) (es.toList.map (·.key)):=by
   have Q:∀{l:List Rg} {us:List (Key×AK)} {B:List (Key×V)},Pairs (Eu X.prog X.w) l us->KV B us->CG (B.map λx=>kV x.1) (l.map (·.key)):=by
    intro l us B hp
    induction hp generalizing B with
    | nil=>intro h;cases h;exact .nil
    | cons q1 q2 _ ih=>
     intro h
     cases h with
     | cons r t=>
      refine .cons ?_ (ih t);dsimp only;rw[r.1]
      rcases D1 q1 with⟨i,t,e1,S⟩ | ⟨x,t,e1,S⟩
      ·rw[e1,S];exact⟨t,rfl⟩
      ·rw[e1,S];exact⟨t,rfl⟩
   exact Q g6 kv
  refine⟨_,es.toList.map (·.key),g,hv,by rw[AC,CN,C];exact J,λR E k=>?_⟩
  refine ZT (Srt.cA (es:=es) (ep:=ep) sm) hh ⟨o,g1,g2,g3⟩ (by rw[C];exact J) λg' Y m kp T=>?_
  have:m.toList=es.toList.map (·.key):=by
   apply IH
   intro j
   by_cases L:j < es.size
   ·have N:j < m.size:=by rw[T.1];exact L
    obtain⟨_,S⟩:=T.2 j m[j] (by simp[N]);simp[L,N,S]
   ·have N:¬j < m.size:=by rw[T.1];exact L
    simp[L,N]
  rw[this];exact k g' Y kp
 ·obtain⟨J,sm,O,rr,o,es,ep,g1,g2,g3,g4,_⟩:=(show D2 X.prog X.w H s.heap p (.dT B)from I.hok p _ e)
  have C:es.size=B.length:=by
   have a1:=congrArg JW g4;have a2:B.length=O.length:=EG rr;rw[CN,AC]at a1
   lia
  have hb:Gf (λ(k:List Key×V) b=>H b=some (.tup (k.1.map kV))) B (O.map (·.2.1)):=by
   have Q:∀{B:List (List Key×V)} {O:List (List Key×Ab×AK)},Gf (λ(p:List Key×V) (q:List Key×Ab×AK)=>p.1=q.1/\H q.2.1=some (.tup (p.1.map kV))/\RelV p.2 q.2.2) B O->Gf (λ(k:List Key×V) b=>H b=some (.tup (k.1.map kV))) B (O.map (·.2.1)):=by
    intro B O h
    induction h with
    | nil=>exact .nil
    | cons r _ ih=>exact .cons r.2.1 ih
   exact Q rr
  have hk:es.toList.map (·.key)=(O.map (·.2.1)).map BW:=by
   rw[g4,BB,BB];rfl
  have hv:∀l:List Ab,CG (l.map V.ref) (l.map BW):=λl=>by
   induction l with
   | nil=>exact .nil
   | cons a l ih=>exact .cons rfl ih
  refine⟨_,(O.map (·.2.1)).map BW,g _ hb,hv _,by rw[AC,AC,<-EG rr];exact J,λR E k=>?_⟩
  refine ZT (Srt.cA (es:=es) (ep:=ep) sm) hh ⟨o,g1,g2,g3⟩ (by rw[C];exact J) λg' Y m kp T=>?_
  have:m.toList=(O.map (·.2.1)).map BW:=by
   rw[<-hk]
   apply IH
   intro j
   by_cases L:j < es.size
   ·have N:j < m.size:=by rw[T.1];exact L
    obtain⟨_,S⟩:=T.2 j m[j] (by simp[N]);simp[L,N,S]
   ·have N:¬j < m.size:=by rw[T.1];exact L
    simp[L,N]
  rw[this];exact k g' Y kp
theorem Ye{X:Cx}{s:AS}{H:Hp}{f:V->ZLi}{vs:List V}{l:List AK}(I:∀b xs,H b=some (.tup xs)->∃is:List AK,CG xs is/\lD s.heap b is.toArray)(h:Wc H f vs)(L:CG vs l)(N:2<=l.length){A:Cf}:Srt.Xp X.prog X.w A s l (eC H):=by
 rcases id h with R | S
 ·have:∃ns,HE l ns:=by
   have G:∀{vs:List V} {l:List AK},CG vs l->(∀v∈vs,∃n,v=.int n/\f v=[n])->∃ns,HE l ns:=by
    intro vs l r
    induction r with
    | nil=>exact λ_=>⟨[],.nil⟩
    | cons r _ T=>
     intro B
     obtain⟨ns,C⟩:=T λv J=>B v (AV _ J)
     obtain⟨n,rfl,_⟩:=B _ AZ;obtain⟨t,rfl⟩:=r;exact⟨n :: ns,.cons n t C⟩
   exact G L R
  obtain⟨ns,C⟩:=this;obtain⟨U,Y,Z⟩:=Srt.dj (prog:=X.prog) (w:=X.w) (A:=A) (s:=s) C N;refine⟨U,Y,λx y O P Q E q=>Z x y O P Q E ?_⟩;obtain⟨n,t,e1⟩:=C.all _ (Srt.IY O).1;obtain⟨m,u,e2⟩:=C.all _ (Srt.IY P).1
  have e:Srt.ltK Srt.i8 x y=Srt.ltK (eC H) x y:=by
   unfold Srt.ltK Srt.i8;rw[e1,e2];rfl
  rw[e];exact q
 ·refine Srt.di (λu hu=>?_) (by intro e;subst e;simp at N)
  obtain⟨v,B,r⟩:=UP L hu;rw[h.rel v B u r];obtain⟨b,rfl,e,ne⟩:=S v B;cases r;refine⟨⟨b,?_⟩,ne⟩;obtain⟨is,r,o,ho,zu,n,hd⟩:=I b _ e;exact⟨is.toArray,rfl,⟨o,ho,zu,n,hd⟩,by simpa using intsAre_of r⟩
theorem fW{X}(Z:X.calm=true):NG X (.builtin "sorted") (ve X.K):=by
 intro ζ s σ H S us Q I r h;obtain⟨p,rfl,G⟩:=h;obtain⟨u,rfl,rx⟩:=vals1 r;cases rx;obtain⟨vs,C,⟨f,J,l,q⟩,E,L,col⟩:=YS Z I G;refine Calls.call_function_entry kind_sorted plain_sorted entry_sorted (args_sorted1 _) ?_;unfold uq.«sorted»;refine AB (m:=checkCount "sorted" 1 1 _) (AL (AB (col _ _ λg T kp=>?_)));refine AB (wpAny_newList ?_ L);have N:Inv X ζ σ H { s with heap:=g,toks:=T }:=I.kept kp;have O:(g.push (Kv "list" C.toArray 0)).get? g.objs.size=some (Kv "list" C.toArray 0):=Ah _ rfl;refine AB (IC (Da slot_list_sort ⟨_,O,rfl⟩ entry_list_sort (Srt.SS (f:=eC H) O L (by rw[<-E.length];exact J) (λh2 s' keep=>?_) λout po so=>⟨_,rfl,AL ⟨_,rfl,?_⟩⟩) (args_list_sort _)))
 ·refine Ye (λb S e=>?_) l E h2
  obtain⟨_,is,r,o,U,zu,n,hd⟩:=(show D2 X.prog X.w H g b (.tup S)from N.hok b _ e);exact⟨is,r,o,keep b o (BK (Ao U)) (AR _ U),zu,n,hd⟩
 ·obtain⟨A,Y,pv⟩:=Yq po.symm E
  have P:A.Pairwise (λx y=>ltL (f y) (f x)=false):=by
   have e:out.toList.map (eC H)=A.map f:=P3 Y λa ha b rb=>l.rel a (pv.mem_iff.mp ha) b rb
   have:=(Bc (f:=eC H) (R:=λx y=>ltL y x=false)).mpr so;rw[e]at this;exact Bc.mp this
  obtain⟨k,hk⟩:=sortedHeap_at (out:=out) O
  have B:A.length<=sizeLine:=by rw[pv.length_eq,E.length];exact L
  have I2:=N.laid (a:=g.objs.size) (o:=.lst A) (t':=T) (h':=qH (g.push (Kv "list" C.toArray 0)) g.objs.size C out)
   (λb u z=>by
    have lt:b < g.objs.size:=Ao z;rw[sortedHeap_old (BK lt) (by rw[size_push'];exact R3 lt)]
    exact AR _ z) (AM _) ⟨B,out.toList,k,Y,hk⟩
  exact⟨.ref g.objs.size,_,I2,rfl,q A pv P _ (N.hok.fresh (AM _))⟩
noncomputable def Be(ns:ZLi):ZLi:=ns.mergeSort (λa b=>decide (a<=b))
@[simp] noncomputable def dk:Be []=[]:=by unfold Be;simp
theorem DK(ns:ZLi):(Be ns).Perm ns:=dH ns _
theorem NZ(ns:ZLi):(Be ns).Pairwise (·<=·):=by
 have:=X5 (le:=λa b:Int=>decide (a<=b)) (by intro a b c l m;simp at l m ⊢;lia) (by intro a b;simp;lia) ns
 exact this.imp λh=>by simpa using h
noncomputable def Lv(l:List ZLi):List ZLi:=l.mergeSort (λa b=>!ltL b a)
theorem IT(rs:List ZLi):(Lv rs).Perm rs:=dH rs _
theorem Pv(l:List ZLi):(Lv l).Pairwise (λa b=>ltL b a=false):=by
 have:=X5 (le:=λa b:ZLi=>!ltL b a) (by intro a b c m o;simp at m o ⊢;exact Srt.XT _ _ _ m o) (by
  intro a b
  cases e:ltL b a with
  | false=>simp
  | true=>simp[Srt.QC _ _ e]) l
 exact this.imp λh=>by simpa using h
theorem Qy{l l':List ZLi}(p:l.Perm l')(h:l.Pairwise (λa b=>ltL b a=false))(h':l'.Pairwise (λa b=>ltL b a=false)):l=l':=
 p.eq_of_pairwise (λa b _ _ m o=>Srt.cS a b o m) h h'
noncomputable def aY:Key->D
 | .inl i=>.int i
 | .inr x=>.str x
noncomputable def LN(d:D)(S:Sto):Option (List D):=match d with
 | .fro l=>some l
 | .tup l=>some l
 | .ref n=>match S[n]? with
  | some (.lst l)=>some l
  | some (.dK m)=>some (m.map λx=>aY x.1)
  | some (.dT m)=>some (m.map λx=>.tup (x.1.map aY))
  | _=>none
 | _=>none
noncomputable def OQ(r:ZLi):D:=.tup (r.map D.int)
noncomputable def Oe:List D->Option (List ZLi)
 | []=>some []
 | .tup l :: r=>match J9 l,Oe r with
  | some (n :: m),some o=>some ((n :: m) :: o)
  | _,_=>none
 | _ :: _=>none
noncomputable def Jt(ds:List D):Option (List D):=if ds.length < 64 then(match J9 ds with
 | some l=>some ((Be l).map D.int)
 | none=>match Oe ds with
  | some m=>some ((Lv m).map OQ)
  | none=>none)else none
theorem WA{ds es:List D}(h:Jt ds=some es):ds.length < 64:=by
 unfold Jt at h;split at h
 ·assumption
 ·cases h
noncomputable def Ev(m:ME):ME:=λe S=>(m e S).bind λd l=>match LN d l with
 | some o=>match Jt o with
  | some s=>.ok (.ref l.length) (l++[.lst s])
  | none=>.bad
 | none=>.bad
section
theorem nV(x y:Int):ltL [y] [x]=decide (y < x):=by
 show(if y=x then false else decide (y < x))=_;split
 ·rename_i e;simp[e]
 ·rfl
noncomputable def Vp(H:Hp):V->ZLi
 | .int n=>[n]
 | .ref b=>match H b with
  | some (.tup l)=>l.map Vt
  | _=>[]
 | _=>[]
theorem Yf{K}{ρ}{H}:∀{ds:List D} {m:List ZLi} {vs:List V},Oe ds=some m->A9 K ρ H ds vs->vs.map (Vp H)=m/\∀v∈vs,∃b,v=.ref b/\H b=some (.tup ((Vp H v).map V.int))/\Vp H v≠[]
 | [],_,_,h,.nil=>by cases h;exact⟨rfl,λv l=>nomatch l⟩
 | .tup I :: ds,m,_,h,.cons r t=>by
  unfold Oe at h;split at h
  ·rename_i n ns o s A
   cases h;obtain⟨B,C⟩:=Yf A t
   cases r with
   | @tup _ b J hb E=>
    have:=QJ s;subst this;have:=E.ints;subst this
    have e:Vp H (.ref b)=n :: ns:=by
     show(match H b with | some (.tup G)=>G.map Vt | _=>[])=_;rw[hb];exact RF _
    refine⟨by rw[Az,e,B],λv l=>?_⟩
    rcases Af.mp l with l | l
    ·subst l
     refine⟨b,rfl,?_,?_⟩
     ·rw[e];exact hb
     ·rw[e];exact List.cons_ne_nil _ _
    ·exact C v l
  ·cases h
 | .non :: _,_,_,h,_=>by cases h
 | .bl _ :: _,_,_,h,_=>by cases h
 | .int _ :: _,_,_,h,_=>by cases h
 | .str _ :: _,_,_,h,_=>by cases h
 | .fro _ :: _,_,_,h,_=>by cases h
 | .ref _ :: _,_,_,h,_=>by cases h
 | .exc _ :: _,_,_,h,_=>by cases h
theorem Yl{K}{ρ}{H}:∀{vs:List V},(∀v∈vs,∃b,v=.ref b/\H b=some (.tup ((Vp H v).map V.int))/\Vp H v≠[])->A9 K ρ H ((vs.map (Vp H)).map OQ) vs
 | [],_=>.nil
 | v :: vs,h=>by
  obtain⟨b,e,hb,_⟩:=h v AZ;refine .cons ?_ (Yl λu l=>h u (AV _ l));subst e;exact .tup hb (A9.of_ints _)
theorem iI{K:AI}{ρ:List Ab}{H:Hp}{ds es:List D}{vs:List V}(h:Jt ds=some es)(r:A9 K ρ H ds vs) :
  ∃f:V->ZLi,Wc H f vs/\∀out,out.Perm vs->out.Pairwise (λx y=>ltL (f y) (f x)=false)->A9 K ρ H es out:=by
 have C:=WA h;unfold Jt at h;rw[qX C]at h;split at h
 ·rename_i ns E
  cases h;have:=QJ E;subst this;have:=r.ints;subst this;refine⟨λv=>[Vt v],.inl λv m=>?_,λout o s=>?_⟩
  ·obtain⟨n,_,rfl⟩:=Ai.mp m
   exact⟨n,rfl,rfl⟩
  ·have G:out=(out.map Vt).map V.int:=by
    rw[BB]
    conv=>lhs;rw[<-OX out]
    refine DA λv m=>?_
    obtain⟨n,_,rfl⟩:=Ai.mp (o.mem_iff.mp m);rfl
   have A:out.map Vt=Be ns:=by
    have I:(out.map Vt).Perm (Be ns):=by
     have:=o.map Vt;rw[RF]at this;exact this.trans (DK ns).symm
    refine I.eq_of_pairwise (λa b _ _ J L=>pN J L) ?_ (NZ ns);rw[Bc]
    refine s.imp λ{x y} l=>?_
    rw[nV]at l;simp at l;exact l
   rw[G,A];exact A9.of_ints _
 ·split at h
  ·rename_i rs N
   cases h;obtain⟨O,B⟩:=Yf N r;refine⟨Vp H,.inr B,λout o s=>?_⟩
   have A:out.map (Vp H)=Lv rs:=by
    refine Qy ?_ (Bc.mpr s) (Pv rs);have:=o.map (Vp H);rw[O]at this;exact this.trans (IT rs).symm
   rw[<-A]
   exact Yl λv m=>B v (o.mem_iff.mp m)
  ·cases h
theorem Uh{K}{ρ}{H}:∀l:List Key,A9 K ρ H (l.map aY) (l.map kV)
 | []=>.nil
 | .inl i :: l=>.cons (.int i) (Uh l)
 | .inr x :: l=>.cons (.str x) (Uh l)
theorem QE{K}{ρ}{H}:∀{l:List (Key×D)} {m:List (Key×V)},KVR K ρ H l m->A9 K ρ H (l.map λx=>aY x.1) (m.map λx=>kV x.1)
 | _,_,.nil=>.nil
 | (k,_) :: _,(k',_) :: _,.cons r t=>by
  have e:k=k':=r.1;subst e
  cases k with
  | inl i=>exact .cons (.int i) (QE t)
  | inr x=>exact .cons (.str x) (QE t)
theorem Ug{K}{ρ}{H}:∀{l:List (List Key×D)} {m:List (List Key×V)} {bs:List Ab},KVR K ρ H l m->Gf (λ(k:List Key×V) b=>H b=some (.tup (k.1.map kV))) m bs->A9 K ρ H (l.map λx=>.tup (x.1.map aY)) (bs.map V.ref)
 | _,_,_,.nil,.nil=>.nil
 | (k,_) :: _,(k',_) :: _,_,.cons r t,.cons o s=>by
  have e:k=k':=r.1;subst e;exact .cons (.tup o (Uh k)) (Ug t s)
theorem Ie(hc:X.calm=true)(hg:Gl X "sorted") (B:X.mg "sorted" = none) (h:GE X E e m) (T:Aa [e] X.env=(false,CF e X.env) :: Aa [] X.env:=by rfl):GE X E (.Call (.Name "sorted" p) [e] [] pos) (Ev m):=
 (Nh (fW hc) hg B xg (Hd h LH T) (by decide) (by decide) T rfl).imp<|by
 rintro σ H Q ⟨ρ,l,S,hl,hs,B⟩
 refine⟨ρ,l,S,hl,hs,B.seq λd S1 B I J x l1 U r1=>?_⟩
 cases s:LN d S1 with
 | none=>rw[s]at B;exact B.elim
 | some Y=>
  rw[s]at B;dsimp only at B
  cases L:Jt Y with
  | none=>rw[L]at B;exact B.elim
  | some Z=>
   rw[L]at B
   have fin:∀A:List V,A9 X.K I J Z A->∀q,J q=none->Q (.ref q) (upd J q (.lst A)):=λA G q s=>by
    have le:Le X.K I J (I++[q]) (upd J q (.lst A)):=Le.alloc s;obtain⟨s4,l4,N⟩:=U.alloc (ho:=.lst A) (o:=.lst Z) s ⟨_,CB,G.mono le⟩;exact B _ _ _ (l1.trans l4) s4 (.ref N)
   have out:∀A,A9 X.K I J Y A->∃f:V->ZLi,A.length < 64/\Wc J f A/\∀out,out.Perm A->out.Pairwise (λx y=>ltL (f y) (f x)=false)->∀l,J l=none->Q (.ref l) (upd J l (.lst out)):=λA G=>by
    obtain⟨f,k1,k2⟩:=iI L G;exact⟨f,by rw[<-G.length];exact WA L,k1,λout po so=>fin out (k2 out po so)⟩
   cases r1 with
   | fro O P=>cases s;exact⟨_,rfl,.inl ⟨_,.inl O.sq,out _ P⟩⟩
   | tup O P=>cases s;exact⟨_,rfl,.inl ⟨_,.inr (.inl (.inl O)),out _ P⟩⟩
   | @ref n a hn=>
    obtain⟨o,ho,R⟩:=U.there hn;unfold LN at s;simp only[ho]at s
    cases o with
    | lst ys=>cases s;obtain⟨A,e,G⟩:=R;exact⟨_,rfl,.inl ⟨A,.inl (.inl (.inl e)),out _ G⟩⟩
    | dK f'=>cases s;obtain⟨A,e,G⟩:=R;exact⟨_,rfl,.inr (.inl ⟨A,e,out _ (QE G)⟩)⟩
    | dT f'=>cases s;obtain⟨A,e,G⟩:=R;exact⟨_,rfl,.inr (.inr ⟨A,e,λbs hb=>out _ (Ug G hb)⟩)⟩
    | ins C fs=>cases s
    | fK _=>cases s
    | fT _=>cases s
    | mem _=>cases s
   | _=>cases s
end
open PySem PySem.Spec PyProof.Rows
noncomputable def iH(K:AI):Sp:=λm H Q _=>∃(a:Ab) (l:ZLi),m=[.ref a]/\Vz K H a (l.map V.int)/\l.length<=63/\∀o,Q (.bl true) o
theorem jU{P}{w}{K}{m}{l}{k}{s}{fd}{f}(F:Cp P w K m l (CXG P w) k s fd ["script"] (spM K 1 f))
  (h:∀ns:ZLi,ns.length<=63->∃A,f [.fro (ns.map D.int)] []=.ok (.bl true) A):Cp P w K m l (CXG P w) k s fd ["script"] (iH K):=F.imp<|by
 rintro N H Q E ⟨a,ns,e,B,C,q⟩
 subst e;obtain⟨A,e⟩:=h ns C;refine⟨[],[.fro (ns.map D.int)],[],rfl,.cons (.fro B (A9.of_ints ns)) .nil,⟨rfl,λi j a G=>by simp at G,λn o a I=>by simp at I⟩,?_⟩;rw[e]
 exact λJ L x _ _ r=>by cases r;exact q L
theorem tz{K:AI}{H:Hp}{a:Ab}{ns:ZLi}(l:oz H)(m:SqL K H a (ns.map V.int)):Vz K H a (ns.map V.int):=by
 rcases m with(h | h) | h
 ·rcases l a with z | ⟨o,s,z⟩ <;> rw[z]at h <;> cases h
 ·exact .inl h
 ·exact .inr h
theorem uI(h:CXG P w [] H s (λ_ _ _=>False) e s'):False:=by
 obtain⟨_,_,_,_,_,_,_,_,_,z⟩:=h;exact z
open PySem
noncomputable def qD(I:Lo->Sto->Prop)(R:Fl->Sto->Prop)(f:Fl)(S:Sto):Prop:=match f with
 | .nx e=>I e S
 | .ct e=>I e S
 | .bk e=>R (.nx e) S
 | .rt d=>R (.rt d) S
 | .ex c e=>R (.ex c e) S
theorem oG(I:Nat->Lo->Sto->Prop)(R:Fl->Sto->Prop)(m:∀i e S,I i e S->v S=some xs)
  (step:∀i d e S,xs[i]?=some d->I i e S->∃e1 S1,g d e S=.ok e1 S1/\∃f S2,b e1 S1=.ok f S2/\qD (I (i+1)) R f S2)
  (fin:∀e S,I xs.length e S->R (.nx e) S):∀(k i:Nat) (e:Lo) (S:Sto),I i e S->i<=xs.length->xs.length<=i+k->∃f S',NO v g b k i e S=.ok f S'/\R f S':=by
 intro k
 induction k with
 | zero=>
  intro i e S h s A
  have:i=xs.length:=by lia
  subst this;refine⟨.nx e,S,?_,fin e S h⟩;unfold NO;rw[m _ e S h];simp
 | succ k o=>
  intro i e S h s A;unfold NO;rw[m _ e S h];dsimp only
  by_cases B:i < xs.length
  ·have hd:xs[i]?=some xs[i]:=by simp[B]
   rw[hd];dsimp only;obtain⟨e1,S1,C,f,S2,E,t⟩:=step i _ e S hd h;rw[C];dsimp only[Res.bind];rw[E];dsimp only[Res.bind]
   cases f with
   | nx l=>exact o (i+1) l S2 t (by lia) (by lia)
   | ct l=>exact o (i+1) l S2 t (by lia) (by lia)
   | bk l=>exact⟨_,_,rfl,t⟩
   | rt d=>exact⟨_,_,rfl,t⟩
   | ex c l=>exact⟨_,_,rfl,t⟩
  ·have:i=xs.length:=by lia
   subst this;rw[show xs[xs.length]?=none by simp];exact⟨.nx e,S,rfl,fin e S h⟩
theorem KF(I:Nat->Lo->Sto->Prop)(R:Fl->Sto->Prop)(l:I 0 e S)(m:∀i e S,I i e S->v S=some xs)
  (step:∀i d e S,xs[i]?=some d->I i e S->∃e1 S1,g d e S=.ok e1 S1/\∃f S2,b e1 S1=.ok f S2/\qD (I (i+1)) R f S2)
  (fin:∀e S,I xs.length e S->R (.nx e) S):∃f S',NO v g b (EE v S) 0 e S=.ok f S'/\R f S':=by
 have o:EE v S=xs.length:=by unfold EE;rw[m 0 e S l]
 rw[o];exact oG I R m step fin _ _ _ _ l (Do _) (by lia)
theorem kH(I:Nat->Lo->Sto->List D->Prop)(o:∀i e S l,I i e S l->v S=some xs)
  (step:∀i d e S l,xs[i]?=some d->I i e S l->l.length < sizeLine/\∃e1 S1,g d e S=.ok e1 S1/\∃b S2,c e1 S1=.ok b S2/\((b=true/\∃y S3,m e1 S2=.ok y S3/\I (i+1) e1 S3 (l++[y]))∨(b=false/\I (i+1) e1 S2 l))) :
  ∀(k i:Nat) (e:Lo) (S:Sto) (l:List D),I i e S l->i<=xs.length->xs.length<=i+k->∃r s,Gx v g c m k i e S l=.ok r s/\∃B,I xs.length B s r:=by
 intro k
 induction k with
 | zero=>
  intro i e S l h C E
  have:i=xs.length:=by lia
  subst this;refine⟨l,S,?_,e,h⟩;unfold Gx;rw[o _ e S l h];simp
 | succ k A=>
  intro i e S l h C E;unfold Gx;rw[o _ e S l h];dsimp only
  by_cases G:i < xs.length
  ·have hd:xs[i]?=some xs[i]:=by simp[G]
   rw[hd];dsimp only;obtain⟨H,e1,S1,J,b,S2,L,t⟩:=step i _ e S l hd h;rw[qX H,J];dsimp only[okR,Res.bind];rw[L];dsimp only[okR,Res.bind]
   rcases t with⟨rfl,y,S3,N,t⟩ | ⟨rfl,t⟩
   ·rw[qX rfl,N]
    exact A (i+1) e1 S3 _ t (by lia) (by lia)
   ·rw[qY AN]
    exact A (i+1) e1 S2 l t (by lia) (by lia)
  ·have:i=xs.length:=by lia
   subst this;rw[show xs[xs.length]?=none by simp];exact⟨l,S,rfl,e,h⟩
theorem Xe(I:Nat->Lo->Sto->List D->Prop)(o:I 0 e S [])(s:∀i e S l,I i e S l->v S=some xs)
  (step:∀i d e S l,xs[i]?=some d->I i e S l->l.length < sizeLine/\∃e1 S1,g d e S=.ok e1 S1/\∃b S2,c e1 S1=.ok b S2/\((b=true/\∃y S3,m e1 S2=.ok y S3/\I (i+1) e1 S3 (l++[y]))∨(b=false/\I (i+1) e1 S2 l))) :
  ∃r A,Gx v g c m (EE v S) 0 e S []=.ok r A/\∃B,I xs.length B A r:=by
 have C:EE v S=xs.length:=by unfold EE;rw[s 0 e S [] o]
 rw[C];exact kH I s step _ _ _ _ _ o (Do _) (by lia)
theorem aW(h:-1000000<=j):-(2 ^ 62)<=j:=Int.le_trans (by decide) h
theorem aj{j:Int}(h:j<=1000000):j < 2 ^ 62:=gW h (by decide)
theorem ai{ml:ML}{e:Lo}{S S1:Sto}{j:Int}(h:ml e S=.ok [.int j] S1)(l:-1000000<=j)(m:j<=1000000):iR1 ml e S=.ok (FZ (Ez 0 j.toNat)) S1:=by
 unfold iR1;rw[h];dsimp only[Res.bind];rw[qX ⟨aW l,aj m⟩]
theorem jf{ml:ML}{e:Lo}{S S1:Sto}{i j:Int}(h:ml e S=.ok [.int i,.int j] S1)(l:-1000000<=i)(m:i<=1000000)(o:-1000000<=j)(s:j<=1000000):iR2 ml e S=.ok (FZ (Ez i (j - i).toNat)) S1:=by
 unfold iR2;rw[h];dsimp only[Res.bind];rw[qX ⟨aW l,aj m,aW o,aj s⟩]
theorem WC(lo:Int)(n:Nat):(Ez lo n).length=n:=by simp[Ez]
theorem Yj{lo:Int}{n i:Nat}{d:D}(h:(Ez lo n)[i]?=some d):i < n/\d=.int (lo+i):=by
 rw[Q7]at h;split at h
 ·rename_i l
  cases h;exact⟨l,rfl⟩
 ·cases h
theorem wR(h:-1000000<=j)(l:j<=1000000):ZR i j:=.inr ⟨Int.lt_of_lt_of_le (by decide) h,gW l (by decide)⟩
theorem nO(h:-1000000<=j)(l:j<=1000000):XQ (.int i) (.int j) S=.ok (.int (i * j)) S:=by
 show(if ZR i j then _ else _)=_;rw[qX (wR h l)]
theorem jz(h:0 < j)(l:j<=1000000):Nu (.int i) (.int j) S=.ok (.int (i / j)) S:=by
 show(if kb i j then _ else _)=_;rw[qX ⟨h,by lia⟩]
theorem cM(h:0 < j):QA (.int i) (.int j) S=.ok (.int (i % j)) S:=by
 show(if 0 < j then _ else _)=_;rw[qX h]
theorem Dz(l:ma e S=.ok x S1)(hb:mb e S1=.ok y S2)(m:f x y S2=.ok d S3):m2 f ma mb e S=.ok d S3:=by
 unfold m2;rw[l];dsimp only[Res.bind];rw[hb];dsimp only[Res.bind];rw[m];rfl
theorem Ju(h:m e S=.ok d S1):Cg i m e S=.ok (.nx (e.set i (some d))) S1:=by
 unfold Cg dz;rw[h];rfl
theorem LG(h:m e S=.ok d S1):Cu m e S=.ok (.rt d) S1:=by
 unfold Cu;rw[h];rfl
theorem Ks(h:m e S=.ok d S1):FD m e S=.ok (.nx e) S1:=by
 unfold FD;rw[h];rfl
theorem Ge(h:t e S=.ok c S1):sIf t a b e S=if c=true then a e S1 else b e S1:=by
 unfold sIf;rw[h];rfl
theorem ja(h:t e S=.ok c S1):Yz t a b e S=if c=true then a e S1 else b e S1:=by
 unfold Yz;rw[h];rfl
theorem Ho(h:m e S=.ok v S1):Ee m g b e S=NO v g b (EE v S1) 0 e S1:=by
 unfold Ee;rw[h];rfl
theorem Ga(h:m e S=.ok ds S1)(l:ds.length=n):BX n f m e S=f ds S1:=by
 unfold BX;rw[h];dsimp only[Res.bind];rw[qX l]
theorem Bp(h:a e S=.ok (.nx e1) S1):BH a b e S=b e1 S1:=by unfold BH;rw[h];rfl
theorem Ow(h:a e S=.ok (.rt d) S1):BH a b e S=.ok (.rt d) S1:=by unfold BH;rw[h];rfl
noncomputable def Keeps(S l:Sto):Prop:=S.length<=l.length/\∀j,j < S.length->l[j]?=S[j]?
theorem Keeps.refl(S:Sto):Keeps S S:=⟨AM _,λ_ _=>rfl⟩
theorem Keeps.trans(a:Keeps S S1)(b:Keeps S1 S2):Keeps S S2:=⟨Aj a.1 b.1,λj h=>(b.2 j (AX h a.1)).trans (a.2 j h)⟩
theorem Keeps.app(S:Sto)(G:Sto):Keeps S (S++G):=⟨by simp,λj h=>Av h⟩
theorem Keeps.set(a:Keeps S S1)(h:S.length<=m)(o:Ob):Keeps S (S1.set m o):=⟨by simpa using a.1,λj l=>by rw[Ae (by lia)];exact a.2 j l⟩
theorem Keeps.at{S S1:Sto}(a:Keeps S S1){j:Nat}{o:Ob}(h:S[j]?=some o):S1[j]?=some o:=by
 rw[a.2 j (AE.mp h).1];exact h
theorem VN(l:mo e S=.ok (.ref n) S1)(m:S1[n]?=some (.lst xs))(o:ma e S1=.ok y S2)(s:S2[n]?=some (.lst xs2))(A:xs2.length < sizeLine) :
  Np mo ma e S=.ok .non (S2.set n (.lst (xs2++[y]))):=by
 unfold Np;rw[l];dsimp only[Res.bind];rw[m];dsimp only;rw[o];dsimp only[Res.bind];rw[s];dsimp only;rw[qX A]
theorem bp(h:xs.length+ys.length<=sizeLine):Em (.tup xs) (.tup ys) S=.ok (.tup (xs++ys)) S:=by
 unfold Em;dsimp only;rw[qX h]
theorem Dr(h:S[n]?=some (.lst xs)):Ec (.ref n) S=some xs:=by
 unfold Ec Ri;dsimp only;rw[h]
theorem L3(h:m e S=.ok (.ref n) S1)(l:S1[n]?=some (.lst xs)):EI m e S=.ok (Ec (.ref n)) S1:=by
 unfold EI;rw[h];dsimp only[Res.bind];rw[Dr l]
theorem Ul(h:m e S=.ok (.tup xs) S1):EI m e S=.ok (FZ xs) S1:=by
 unfold EI;rw[h];rfl
theorem RG(h:ml e S=.ok ds S1):Er ml e S=.ok (.ref S1.length) (S1++[.lst ds]):=by
 unfold Er;rw[h];rfl
theorem DR(S:Sto)(o:Ob):(S++[o])[S.length]?=some o:=by simp
theorem JF(h:S[n]?=some (.lst ds)):HQ (.ref n) S=some ds:=by
 unfold HQ;dsimp only;rw[h]
theorem PD(h:S[n]?=some (.lst ds)):LN (.ref n) S=some ds:=by
 unfold LN;dsimp only;rw[h]
theorem Jm(h:m e S=.ok d S1)(hi:LN d S1=some ds)(l:Jt ds=some es):Ev m e S=.ok (.ref S1.length) (S1++[.lst es]):=by
 unfold Ev;rw[h];dsimp only[Res.bind];rw[hi];dsimp only;rw[l]
theorem Pu(h:m e S=.ok d S1)(l:HQ d S1=some ds):Ib m e S=.ok (.tup ds) S1:=by
 unfold Ib;rw[h];dsimp only[Res.bind];rw[l]
theorem Uf(h:m e S=.ok d S1)(l:HQ d S1=some ds):J8 m e S=.ok (.int ds.length) S1:=by
 unfold J8;rw[h];dsimp only[Res.bind];rw[l]
theorem Sn(l:mv e S=.ok v S1)(ho:mo e S1=.ok (.ref n) S2)(m:S2[n]?=some (.ins C fs))(o:fs.length < 1000) :
  Kk C f mo mv e S=.ok (.nx e) (S2.set n (.ins C (Kf f v fs))):=by
 unfold Kk;rw[l];dsimp only[Res.lift];rw[ho];dsimp only[Res.lift];rw[m];dsimp only;rw[qX ⟨rfl,o⟩]
theorem KG(h:m e S=.ok (.ref n) S1)(l:S1[n]?=some (.ins C fs))(o:fs.lookup f=some v):Cr C f m e S=.ok v S1:=by
 unfold Cr;rw[h];dsimp only[Res.bind];rw[l];dsimp only;rw[qX rfl,o]
theorem cO(h:ml e S=.ok ds S1)(l:ds.length+1=n)(m:f (.ref S1.length :: ds) (S1++[.ins C []])=.ok .non S2):Oi C n f ml e S=.ok (.ref S1.length) S2:=by
 unfold Oi;rw[h];dsimp only[Res.bind];rw[qX l,m]
theorem CL(h:m e S=.ok d S1)(l:r e S1=.ok ds S2):AH m r e S=.ok (d :: ds) S2:=by
 unfold AH;rw[h];dsimp only[Res.bind];rw[l]
theorem TD(h:mi e S=.ok v S1):FE n mi g c m e S=Gx v g c m (EE v S1) 0 (B1 n none++e) S1 []:=by
 unfold FE;rw[h];rfl
theorem SZ(h:m e S=.ok (.bl b) S1):mB m e S=.ok b S1:=by
 unfold mB;rw[h];rfl
theorem p0(l:ma e S=.ok x S1)(hb:mb e S1=.ok y S2)(m:f x y S2=.ok (.bl true) S3)(o:s e S3=.ok w A)(B:g y w A=.ok d S5):m3 f g ma mb s e S=.ok d S5:=by
 unfold m3;rw[l];dsimp only[Res.bind];rw[hb];dsimp only[Res.bind];rw[m];dsimp only[Res.bind,okR];rw[o];dsimp only[Res.bind];rw[B]
theorem wT(l:ma e S=.ok x S1)(hb:mb e S1=.ok y S2)(m:f x y S2=.ok (.bl false) S3):m3 f g ma mb o e S=.ok (.bl false) S3:=by
 unfold m3;rw[l];dsimp only[Res.bind];rw[hb];dsimp only[Res.bind];rw[m];rfl
theorem jT(h:decide (i<=j)=b):leD (.int i) (.int j) S=.ok (.bl b) S:=by subst h;rfl
theorem jP(h:decide (i < j)=b):ltD (.int i) (.int j) S=.ok (.bl b) S:=by subst h;rfl
theorem tw(h:decide (j<=i)=b):geD (.int i) (.int j) S=.ok (.bl b) S:=by subst h;rfl
theorem au(h:decide (i=j)=b):eqD false (.int i) (.int j) S=.ok (.bl b) S:=by
 subst h;show Res.ok (D.bl (i==j)) S=_;rfl
theorem PB(h:m e S=.ok b S1):SR m e S=.ok (!b) S1:=by
 unfold SR;rw[h];rfl
theorem Ot(h:ml e S=.ok ds S1)(l:ds.length<=1000):Gu ml e S=.ok (.tup ds) S1:=by
 unfold Gu;rw[h];dsimp only[Res.bind];rw[qX (Aj l (by decide))]
theorem sJ(h:l e S=.ok false S1):mOr l m e S=m e S1:=by
 unfold mOr;rw[h];rfl
theorem Xo(h:l e S=.ok true S1):Ud l m e S=m e S1:=by
 unfold Ud;rw[h];rfl
theorem c6(h:l e S=.ok false S1):Ud l m e S=.ok false S1:=by
 unfold Ud;rw[h];rfl
theorem vq(h:ml e S=.ok ds S1)(l:f ds S1=.ok d S2):mQ f ml e S=.ok d S2:=by
 unfold mQ;rw[h];dsimp only[Res.bind];rw[l];rfl
theorem QD(h:S[n]?=some (.lst ds)):Ue (.ref n) S=some ds:=by
 unfold Ue;dsimp only;rw[h]
open PySem PySem.Spec PyProof.Rows
section
variable{X:Cx}{E:EW}{e:Expr}{p pos:Pos}{m:ME}
noncomputable def nT(m:ME):ME:=λe S=>(m e S).bind λd l=>match d with
 | .int i=>.ok (.int i) l
 | .bl k=>.ok (.int (if k then 1 else 0)) l
 | _=>.bad
theorem oB(J:Gl X "int") (o:X.mg "int" = none) (h:GE X E e m) (A:Aa [e] X.env=(false,CF e X.env) :: Aa [] X.env:=by rfl):GE X E (.Call (.Name "int" p) [e] [] pos) (nT m):=
 (WD fZ J o xl (Hd h LH A) (by decide) (by decide) A rfl).imp<|by
 rintro P H Q ⟨L,l,S,N,O,o⟩
 refine⟨L,l,S,N,O,o.seq λd R o s B x C G I=>?_⟩
 cases d <;> first | exact o.elim | skip
 ·cases I
  exact .inr ⟨_,rfl,o s B _ C G (.int _)⟩
 ·cases I
  exact .inl ⟨_,rfl,o s B _ C G (.int _)⟩
end
end L2
namespace PySem
open Sem (wp)
open AutoSeq1 (wpAny_loadPart')
theorem Nn(l:Ab)(items:Array AK)(n:Nat)(o:Option Ab)(sl:Array (Option AK)) :
  Meets (uq.«enumerate.__new__» ⟨[.type "enumerate",.ref l],[]⟩) (λ_ R s=>s.heap.get? l=some { cls:=.type "tuple",dict:=o,data:=.seq items n,slots:=sl } /\
   R (.ok (.ret (.ref (s.heap.push { cls:=.type "tuple_iterator",data:=.fields #[.ref l,.int 0 0] }).objs.size)))
    { s with heap:=(s.heap.push { cls:=.type "tuple_iterator",data:=.fields #[.ref l,.int 0 0] }).push { cls:=.type "enumerate",data:=.fields #[.none,.bool false,.ref s.heap.objs.size,Qh 0,.none,.none] } }):=
 .of_wp λC w A R s h=>by
  obtain⟨E,g,d,G,os⟩:=s;obtain⟨m,h⟩:=h;have H:=sub_enumerate;have B:DO.IsTuple (AS.heap ⟨E,g,d,G,os⟩) l items:=⟨_,m,rfl,n,rfl⟩
  wp_walk using PU m
  refine wpAny_stack_any λst=>AL ?_
  split
  ·rename_i c _ _ _ _ _
   cases(c==HC "enumerate")
   ·wp_walk using PU m,MH B
    exact⟨_,rfl,h⟩
   ·wp_walk using PU m,MH B
    exact⟨_,rfl,h⟩
  ·wp_walk using PU m,MH B
   exact⟨_,rfl,h⟩
section
variable{w:CV}{A:Cf}{E:AK->AS->Prop}{s:AS}
theorem Nz(I:s.heap.IsTuple l m)
  (h:∀h',Wq h' (s.heap.objs.size+1) s.heap.objs.size 0 .none->h'.IsTupleIter s.heap.objs.size l 0->h'.objs.size=s.heap.objs.size+2 ->
   (∀b o,s.heap.get? b=some o->h'.get? b=some o)->Q (.ref (s.heap.objs.size+1)) { s with heap:=h' }) :
  Am (Aw prog w) A (call (.type "enumerate") [.ref l]) Q E s:=by
 obtain⟨⟨c,B,J,sl⟩,L,C,n,hd⟩:=I
 replace C:c=.type "tuple":=C
 replace hd:J=.seq m n:=hd
 subst C hd
 refine callType_new F.called_enumerate (by decide) (F.typeCall_enumerate_1 _) (F.newCall_enumerate_1 _) (λobj=>gY obj _) F.entry_enumerate_new
  (Nn l m n B sl) ⟨L,?_⟩
 have G:(s.heap.push { cls:=.type "tuple_iterator",data:=.fields #[.ref l,.int 0 0] }).objs.size=s.heap.objs.size+1:=Eb ..;show _/\_;rw[G]
 have H:Wq ((s.heap.push { cls:=.type "tuple_iterator",data:=.fields #[.ref l,.int 0 0] }).push
   { cls:=.type "enumerate",data:=.fields #[.none,.bool false,.ref s.heap.objs.size,Qh 0,.none,.none] }) (s.heap.objs.size+1) s.heap.objs.size 0 .none:=by
  have:=Ah (s.heap.push { cls:=.type "tuple_iterator",data:=.fields #[.ref l,.int 0 0] })
   (o:={ cls:=.type "enumerate",data:=.fields #[.none,.bool false,.ref s.heap.objs.size,Qh 0,.none,.none] }) rfl
  rw[G]at this;exact this
 refine⟨⟨_,H,rfl⟩,h _ H ⟨_,AR _ (Ah _ rfl),rfl,rfl⟩ (by rw[Eb,G]) λb o x=>AR _ (AR _ x)⟩
theorem P9{it t}{i}{l}{x}{Q}(m:s.heap.IsTupleIter it t i)
  (H:s.heap.IsTuple t l) (I:l[i]?=some x)
  (J:∀h',h'.IsTupleIter it t (i+1)->FQ it s.heap h'->Q x { s with heap:=h' }) :
  Am (Aw prog w) A (FH (.ref it)) Q E s:=by
 obtain⟨o,B,L,hd⟩:=id m;obtain⟨N,C,_,O,G⟩:=H;unfold FH
 refine AB (Db (name:=IP "__next__") m.typeIs Gp
  (Da Gp m.typeIs Xy ?_ (Ws _)))
 show Am _ _ (field (.ref it) 0 >>= _) _ _ s;refine AB (Io B hd (x:=.ref t) rfl ?_);show Am _ _ (if (BW t==EY)=true then _ else _) _ _ s;rw[qY (show ¬((BW t==EY)=true)from AN)];show Am _ _ (field (.ref it) 1 >>= _) _ _ s;refine AB (Io B hd (x:=.int i 0) rfl ?_);show Am _ _ (seqItems? (.ref t) >>= _) _ _ s;refine AB (wpAny_seqItems C G ?_);simp only[At,I];refine AB (Qe B hd (by simp) (AL ⟨x,rfl,AL (J _ ?_ (IR ..))⟩))
 exact⟨_,N9 _ B (bP (Kx hd _)),(kf ..).trans L,by
  rw[Kx hd];simp[Qh]⟩
theorem Lz{it t}{i}{l}{Q}(I:A.handled=none)
  (B:s.heap.IsTupleIter it t i) (J:s.heap.IsTuple t l) (L:l[i]?=none)
  (N:∀h' e,bS it s.heap h'->(∃o,h'.get? e=some o/\o.cls=.type "StopIteration")->E (.ref e) { s with heap:=h' }) :
  Am (Aw prog w) A (FH (.ref it)) Q E s:=by
 obtain⟨o,C,O,hd⟩:=id B;obtain⟨P,G,_,R,H⟩:=J;unfold FH
 refine AB (Db (name:=IP "__next__") B.typeIs Gp
  (Da Gp B.typeIs Xy ?_ (Ws _)))
 show Am _ _ (field (.ref it) 0 >>= _) _ _ s;refine AB (Io C hd (x:=.ref t) rfl ?_);show Am _ _ (if (BW t==EY)=true then _ else _) _ _ s;rw[qY (show ¬((BW t==EY)=true)from AN)];show Am _ _ (field (.ref it) 1 >>= _) _ _ s;refine AB (Io C hd (x:=.int i 0) rfl ?_);show Am _ _ (seqItems? (.ref t) >>= _) _ _ s;refine AB (wpAny_seqItems G H ?_);simp only[At,L];refine AB (TH (AB (Qe C hd (by simp) ?_)));show Am _ _ (newExc (.type "StopIteration") [] >>= _) _ _ _;refine AB ?_;simp only[newExc,newTuple];refine AB (CY ?_ (by size_fits));refine AB (m:=Qj _ _) (kl (a:=EY) (by first | rfl | (simp only[Qj];rfl)) ?_);refine CY ?_ (by size_fits);simp only[raiseNew];refine AB (wpAny_handled ?_)
 first | rw[show A.in1.handled=none from I] | rw[I]
 refine AB (AL (wpAny_throw ?_));exact N _ _ (((IR ..).extBut.push _).push _) ⟨_,Ah _ rfl,rfl⟩
theorem ZP(I:A.handled=none)(it l:Ab)(J:l≠it)(m:Array AK) :
  Draws prog w A it [it,l] m.size (λi v=>m[i]?=some v) (λi h=>h.IsTupleIter it l i/\h.IsTuple l m) where
 live:=λ_ _ st=>let ⟨o,B,_⟩:=st.1;⟨o,B⟩
 frame:=λ_ _ _ st C=>⟨st.1.at λo e=>C it (by simp) o e,let ⟨o,B,r⟩:=st.2;⟨o,C l (by simp) o B,r⟩⟩
 item:=λi s Q E G st L=>by
  refine P9 st.1 st.2 (x:=m[i]) (by simp[G]) λN O H=>?_
  exact L _ N s.toks (by simp[G]) ⟨O,st.2.extBut H.extBut J⟩ H
 done:=λs Q E st P=>Lz I st.1 st.2 (by simp) P
theorem OR{e it l:Ab}{i:Nat}{m:Array AK}{B:AK}{Q:Option AK->AS->Prop}(J:A.handled=none)
  (H:Wq s.heap e it i B) (C:s.heap.IsTupleIter it l i) (L:s.heap.IsTuple l m) (N:m[i]?=none)
  (O:∀h',bS it s.heap h'->Q none { s with heap:=h' }):Am (Aw prog w) A (Wh (.ref e)) Q E s:=by
 have I:s.TypeIs (.ref e) "enumerate":=⟨_,H,rfl⟩;unfold Wh
 refine AB (Sa (Db (name:=IP "__next__") I gC
  (Da gC I F.entry_enumerate_next ?_ (F.args_enumerate_next_1 _))))
 show Am _ _ (field (.ref e) 2 >>= _) _ _ _;refine AB (Io H rfl (x:=.ref it) rfl ?_);refine AB (Lz J C L N λh' x G P=>?_);obtain⟨o,R,S⟩:=P;refine AB (We (T:="StopIteration") (b:=true) ⟨o,R,S⟩ isSubtype_stop ?_);exact AL (O _ G)
end
end PySem
namespace L2
open PySem PySem.Spec PyProof.Rows
theorem Inv.turned2(I:Inv X E J H s)(k:∀b u,b≠e->b≠it->s.heap.get? b=some u->h'.get? b=some u)
  (A:PQ X E H e) (B:PQ X E H it) (G:s.heap.objs.size<=a) (new:D2 X.prog X.w (upd H a o) h' a o):Inv X E J (upd H a o) { s with heap:=h',toks:=t' }:=by
 have C:=I.hok.fresh G
 have ϰ:∀b u,H b=some u->b≠e/\b≠it:=λb u q=>⟨λz=>(by rw[z,A.1]at q;cases q),λz=>(by rw[z,B.1]at q;cases q)⟩
 have out:∀b:Ab,b∉[e,it]->b≠e/\b≠it:=λb hb=>⟨λz=>hb (by simp[z]),λz=>hb (by simp[z])⟩
 refine I.step (g':=s.gens) (d':=s.drawn) (ch:=[e,it]) (λb hb=>?_) (λb o _ _ l q _=>k b o (out b l).1 (out b l).2 q) (λb o _ _ l q _=>⟨o.slots,k b o (out b l).1 (out b l).2 q⟩) (λb o _ q n=>?_)
  (λb o l q=>⟨o,k b o (out b l).1 (out b l).2 q⟩) (λb L q=>by rw[Bv (Cy q C)];exact q) (λb o u q=>by rw[Bv (Cy q C)];exact q) (λb S q=>⟨#[],by rw[Bv (Cy q C),q];simp⟩) (λm N=>?_) (λb u q=>?_) I.bare
 ·have O:b=e∨b=it:=by simpa using hb
  rcases O with z | z
  ·subst z;exact⟨A.2.2.2.1,A.2.1,A.2.2.2.2.1,A.2.2.2.2.2⟩
  ·subst z;exact⟨B.2.2.2.1,B.2.1,B.2.2.2.2.1,B.2.2.2.2.2⟩
 ·rw[Bv (BK (AX (Ao q) G))];exact n
 ·obtain⟨o,P,Q,R,r⟩:=N
  exact⟨o,P,Q,k _ o (Ck A.2.1) (Ck B.2.1) R,r⟩
 ·by_cases hb:b=a
  ·subst hb;rw[CB]at q;cases q;exact new
  ·rw[Bv hb]at q
   refine(I.hok b u q).stay (λc v l r=>?_) (λc r=>by rw[Bv (Cy r C)];exact r) λc L r=>by rw[Bv (Cy r C)];exact r
   have:c≠e/\c≠it:=by
    rcases l with z | z
    ·rw[z];exact ϰ b u q
    ·exact ϰ c _ z
   exact k c v this.1 this.2 r
noncomputable def Ite(sq:Hp->List V->Prop):It:=
 ⟨λi H=>∃l x,sq H l/\l[i]?=some x,λi H y m=>∃p x,H p=none/\y=.ref p/\m=upd H p (.tup [.int i,x])/\∀l,sq H l->l[i]?=some x,λi H=>∃l,sq H l/\l.length<=i⟩
section
variable{P:Bw}{w:CV}{K:AI}{elts:List Expr}{x1:Nat}{pos:Pos}
theorem WV{X:Cx}{C:List (Ab×Obj)}{L:St}{H:Hp}{s:AS}{E:AK->AS->Prop}{sq:Hp->List V->Prop}{e it:Ab}{i:Nat}{x:V}{u:AK}{m:Nat}{h':DO}{tn:Nat->DO->Prop}
  (I:Inv X C L H s) (yn:e≠it) (N:∀b∈[e,it],PQ X C H b) (le:e < s.heap.objs.size) (T:it < s.heap.objs.size) (U:RelV x u) (Y:∀xs,sq H xs->xs[i]?=some x)
  (ho:IsEnumOut h' e it ((i:Int)+1) u s.heap.objs.size) (O:h'.get? s.heap.objs.size=some { cls:=.type "tuple",data:=.seq #[.int i m,u] }) (Z:∀b o,b≠e->b≠it->s.heap.get? b=some o->h'.get? b=some o)
  (ht:∀h2,FQ e h' h2->(∃G,Wq h2 e it ((i+1:Nat):Int) G)->tn (i+1) h2) :
  Am (Aw X.prog X.w) X.A (PX (.Tuple elts x1 pos) (.ref e) (.ref s.heap.objs.size)) (λ_ Q=>∃y J,Inv X C L J Q/\RelV y (.ref s.heap.objs.size)/\(Ite sq).yld i H y J/\tn (i+1) Q.heap/\∀b∈[e,it],J b=none) E { s with heap:=h',toks:=m+1 }:=by
 have B:=N e (by simp);have R:=N it (by simp);have S:e≠s.heap.objs.size:=BK le;have ni:it≠s.heap.objs.size:=BK T
 have new:D2 X.prog X.w (upd H s.heap.objs.size (.tup [.int i,x])) h' s.heap.objs.size (.tup [.int i,x]):=
  ⟨⟨Aj (show 2<=1000 by decide) (by decide),_,O,rfl⟩,[.int i m,u],.cons ⟨m,rfl⟩ (.cons U .nil),_,O,rfl,_,rfl⟩
 have I1:=I.turned2 (t':=m+1) Z B R (AM _) new
 refine wpAny_letOwnedTupleGo_enum (s:={ s with heap:=h',toks:=m+1 }) ho λh2 zc yw=>?_
 have l:FQ e h' h2:=yw;have I2:=I1.turned (t':=m+1) (h':=h2) (it:=e) (λb o hb q=>(l.2 b hb).trans q) (by rw[Bv S];exact B.1) B.2.1 B.2.2.2.1 B.2.2.2.2.1 B.2.2.2.2.2;refine⟨.ref s.heap.objs.size,_,I2,rfl,⟨s.heap.objs.size,x,I.hok.fresh (AM _),rfl,rfl,Y⟩,ht h2 l ⟨u,by rw[Int.natCast_add,Int.natCast_one];exact zc⟩,λb hb=>?_⟩
 have yc:b=e∨b=it:=by simpa using hb
 rcases yc with z | z
 ·rw[z,Bv S];exact B.1
 ·rw[z,Bv ni];exact R.1
theorem Z0(a e it:Ab)(C:e≠it):Vx P w K (.Tuple elts x1 pos) (Ite λH xs=>SqL K H a xs) [e,it] e (λi h=>(∃l,Wq h e it i l)/\h.IsListIter it a i) where
 mem:=by simp
 obj:=λi h st b hb=>by
  have T:b=e∨b=it:=by simpa using hb
  rcases T with z | z
  ·subst z
   obtain⟨⟨l,m⟩,_⟩:=st
   exact⟨_,m,λv z=>by
    have U:TW _=YB v:=z
    cases U⟩
  ·subst z
   obtain⟨_,o,e,c,d⟩:=st;exact⟨o,e,λv z=>by rw[d]at z;cases z⟩
 keep:=λi h R st k=>⟨st.1.imp λl m=>k e (by simp) _ m,st.2.at λo q=>k it (by simp) o q⟩
 item:=by
  intro X G hw J S i Y s Z H E I L st N;subst G hw J;obtain⟨xs,x,B,O⟩:=N;obtain⟨i',Q,p,hz⟩:=I.list B;obtain⟨u,hu,ru⟩:=Q.get O;obtain⟨⟨l,m⟩,A⟩:=st
  have li:it < s.heap.objs.size:=by obtain⟨o,q,_⟩:=A;exact Ao q
  refine wpAny_pyNext_enum_item m A p.isList (x:=u) (by simpa using hu) C λR ho ϑ hT hsz hk=>?_
  exact⟨_,rfl,WV (sq:=λH xs=>SqL X.K H a xs) (tn:=λi h=>(∃l,Wq h e it i l)/\h.IsListIter it a i) I C L (Ao m) li ru (λys hy=>by rw[I.list_inj hy B];exact O) ho hT hk λh2 yw zc=>⟨zc,ϑ.at λo q=>(yw.2 it (Ck C)).trans q⟩⟩
 done:=by
  intro X G hw J S i Y s Z H E I L st N;subst G hw J;obtain⟨xs,B,O⟩:=N;obtain⟨i',Q,p,hz⟩:=I.list B;obtain⟨⟨l,m⟩,A⟩:=st;obtain⟨f0,f1,f2,f3,f4,f5⟩:=L it (by simp);have hl:=Q.length
  exact wpAny_pyNext_enum_end (I.ok.hd S) m A p.isList (by simp;lia) λR eb=>⟨rfl,I.turned (t':=s.toks) (λb o hb e=>eb b o hb e) f0 f1 f3 f4 f5⟩
 self:=λ_ _ _ _ _ st h=>by
  obtain⟨⟨l,m⟩,_⟩:=st;exact NQ m h
theorem Zz(a e it:Ab)(L:e≠it)(O:a≠it)(Q:e≠a):Vx P w K (.Tuple elts x1 pos) (Ite λH xs=>SqT K H a xs) [e,it] e (λi h=>(∃l,Wq h e it i l)/\h.IsTupleIter it a i) where
 mem:=by simp
 obj:=λi h st b hb=>by
  have yc:b=e∨b=it:=by simpa using hb
  rcases yc with z | z
  ·subst z
   obtain⟨⟨l,m⟩,_⟩:=st
   exact⟨_,m,λv z=>by
    have z':TW _=YB v:=z
    cases z'⟩
  ·subst z
   obtain⟨_,o,e,c,d⟩:=st;exact⟨o,e,λv z=>by rw[d]at z;cases z⟩
 keep:=λi h h' st k=>⟨st.1.imp λl m=>k e (by simp) _ m,st.2.at λo q=>k it (by simp) o q⟩
 item:=by
  intro X R hw S T i ζ s σ H E I U st Y;subst R hw S;obtain⟨xs,x,N,Z⟩:=Y;obtain⟨C,rv,p,hz⟩:=I.tuple N;have p':s.heap.IsTuple a C.toArray:=p;obtain⟨u,hu,ru⟩:=rv.get Z
  have ye:i < C.toArray.size:=by
   have:=(AE.mp hu).1;simpa using this
  obtain⟨⟨l,m⟩,B⟩:=st
  have li:it < s.heap.objs.size:=by obtain⟨o,q,_⟩:=B;exact Ao q
  refine wpAny_pyNext_enum_itemD (ZP (A:=X.A.in1) (I.ok.hd T) it a O C.toArray) m ⟨B,p'⟩ ye L (by simp[L,Q]) λu' h' tk hu' ho G hT hsz hk=>?_
  have:u'=u:=by
   have J:C[i]?=some u':=by simpa using hu'
   rw[hu]at J;cases J;rfl
  subst this;exact⟨_,rfl,WV (sq:=λH xs=>SqT X.K H a xs) (tn:=λi h=>(∃l,Wq h e it i l)/\h.IsTupleIter it a i) I L U (Ao m) li ru (λys hy=>by rw[I.tuple_inj hy N];exact Z) ho hT hk λh2 yw zc=>⟨zc,G.1.at λo q=>(yw.2 it (Ck L)).trans q⟩⟩
 done:=by
  intro X R hw S T i ζ s σ H E I U st Y;subst R hw S;obtain⟨xs,N,Z⟩:=Y;obtain⟨C,rv,p,hz⟩:=I.tuple N;obtain⟨⟨l,m⟩,B⟩:=st;obtain⟨f0,f1,f2,f3,f4,f5⟩:=U it (by simp);have hl:=rv.length
  exact OR (I.ok.hd T) m B (show s.heap.IsTuple a C.toArray from p) (by simp;lia) λh' eb=>⟨rfl,I.turned (t':=s.toks) (λb o hb e=>eb b o hb e) f0 f1 f3 f4 f5⟩
 self:=λ_ _ _ _ _ st h=>by
  obtain⟨⟨l,m⟩,_⟩:=st;exact NQ m h
end
section
variable{X:Cx}{E:EW}{e:Expr}{elts:List Expr}{x1:Nat}{p pos ptg:Pos}{ta:TA}
noncomputable def wt(K:AI)(ta:TA):TI:=λo H R=>ta o H λs m=>∃a,s=[.ref a]/\(((∃l,SqL K m a l)/\R (Ite λH l=>SqL K H a l) m)∨((∃l,SqT K m a l)/\R (Ite λH l=>SqT K H a l) m))
theorem md(U:Gl X "enumerate") (Y:X.mg "enumerate" = none) (Z:PA X [e] ta) (hs:Aa [e] X.env=[(false,CF e X.env)]:=by rfl):PI X (.Tuple elts x1 ptg) (.Call (.Name "enumerate" p) [e] [] pos) (wt X.K ta):=by
 intro P s σ H R I h;refine uo (LL I U Y boot_enumerate (Bt (thn (Z pos P s σ H _ I h) λus l ⟨vs,G,m,r1,J⟩=>?_) hs rfl));obtain⟨a,rfl,J⟩:=J;obtain⟨u,rfl,ru⟩:=vals1 r1;cases ru
 have Q:∀{h':DO} (b:Ab),b∈[l.heap.objs.size+1,l.heap.objs.size]->PQ X P G b:=λb hb=>by
  have yc:b=l.heap.objs.size+1∨b=l.heap.objs.size:=by simpa using hb
  rcases yc with z | z
  ·rw[z];exact m.fpOk (MB _) (m.hok.fresh (MB _))
  ·rw[z];exact m.fpOk (AM _) (m.hok.fresh (AM _))
 rcases J with⟨⟨xs,sq⟩,q⟩ | ⟨⟨xs,sq⟩,q⟩
 ·obtain⟨S,rv,L,hz⟩:=m.list sq
  refine call_enumerate_list L.isList λh' B A N O=>NQ B ?_
  exact⟨_,[l.heap.objs.size+1,l.heap.objs.size],_,_,G,rfl,m.kept (t':=l.toks) O,Z0 a _ _ (k6 _),⟨⟨_,B⟩,A⟩,Q (h':=h'),q⟩
 ·obtain⟨S,rv,L,hz⟩:=m.tuple sq
  have C:l.heap.IsTuple a S.toArray:=L
  have T:a < l.heap.objs.size:=by obtain⟨o,q,_⟩:=C;exact Ao q
  refine Nz C λh' B A N O=>NQ B ?_
  exact⟨_,[l.heap.objs.size+1,l.heap.objs.size],_,_,G,rfl,m.kept (t':=l.toks) O,Zz a _ _ (k6 _) (BK T) (FS (R3 T)),⟨⟨_,B⟩,A⟩,Q (h':=h'),q⟩
noncomputable def LS(ds:List D):List D:=ds.zipIdx.map λx=>.tup [.int x.2,x.1]
noncomputable def NC(v:RX):RX:=λS=>(v S).map LS
noncomputable def Hm(m:ME):MI:=λe S=>(m e S).bind λd l=>match Ec d l with
 | some _=>.ok (NC (Ec d)) l
 | none=>.bad
theorem aw(ds:List D):(LS ds).length=ds.length:=by unfold LS;simp
theorem PK(ds:List D)(i:Nat):(LS ds)[i]?=(ds[i]?).map λd=>.tup [.int i,d]:=by
 unfold LS;rw[Ad,JX]
 cases ds[i]? <;> simp
theorem Rh{K}{ρ}{H}{J}{v}{sq}(O:PP K ρ H J v)(P:∀i H,J.go i H->∃xs x,sq H xs/\xs[i]?=some x)(Q:∀i H,J.stop i H->∃xs,sq H xs/\xs.length<=i)
  (R:∀i H x,(∀xs,sq H xs->xs[i]?=some x)->J.yld i H x H):PP K ρ H (Ite sq) (NC v):=by
 intro G o S ds i l s A;unfold NC at A
 cases hd:v S with
 | none=>rw[hd]at A;cases A
 | some m=>
  rw[hd]at A;cases A;obtain⟨T,U⟩:=O G o S m i l s hd;refine⟨λI=>?_,λd B=>?_⟩
  ·rw[PK]at I
   refine Q i o (T ?_)
   cases C:m[i]? with
   | none=>rfl
   | some d=>rw[C]at I;cases I
  ·rw[PK]at B
   cases C:m[i]? with
   | none=>rw[C]at B;cases B
   | some Y=>
    rw[C]at B;cases B;obtain⟨Z,b2⟩:=U Y C;refine⟨P i o Z,λy H' hy=>?_⟩;obtain⟨p,x,hp,rfl,rfl,hx⟩:=hy;obtain⟨L,l3,s3,r3⟩:=b2 x o (R i o x hx);obtain⟨s4,N⟩:=HN (ho:=.tup [.int i,x]) s3 hp;exact⟨L,l3.trans N,s4,.tup CB (.cons (.int _) (.cons (r3.mono N) .nil))⟩
theorem S9(N:Gl X "enumerate") (o:X.mg "enumerate" = none) (h:GE X E e m) (G:Aa [e] X.env=[(false,CF e X.env)]:=by rfl):GI X E (.Tuple elts x1 ptg) (.Call (.Name "enumerate" p) [e] [] pos) (Hm m):=
 (md N o (Hd h LH G) G).imp<|by
 rintro σ H R ⟨O,l,S,P,Q,o⟩
 refine⟨O,l,S,P,Q,o.seq λd T o s I x J C A=>?_⟩
 cases d with
 | tup U=>
  have Y:=o
  cases A with
  | @tup _ a Z L q2=>
   exact⟨a,rfl,.inr ⟨⟨Z,.inl (.inl L)⟩,Y s I _ J C (Rh (TZ L q2) (λi H z=>z) (λi H z=>z) λi H x z=>⟨rfl,z⟩)⟩⟩
 | _=>
  cases B:Ec _ T with
  | none=>rw[B]at o;exact o.elim
  | some U=>
   rw[B]at o
   have:∃a,x=.ref a:=by
    cases A <;> first | exact⟨_,rfl⟩ | (cases B;done)
   obtain⟨a,rfl⟩:=this;obtain⟨xs,sq,_⟩:=Ti C A B;exact⟨a,rfl,.inl ⟨⟨xs,sq⟩,o s I _ J C (Rh (Td A) (λi H z=>z) (λi H z=>z) λi H x z=>⟨rfl,z⟩)⟩⟩
end
open PySem
theorem LZ{l:Type}{xs:List l}{j:Int}{x:l}(m:0<=j)(h:xs[j.toNat]?=some x):atI xs j=some x:=by
 have o:=(AE.mp h).1;unfold atI ixN;rw[qX (by omega),qX (by lia)];simpa using h
theorem Y2(h:ml e S=.ok ds S1)(l:ds.length<=1000):D5 ml e S=.ok ds S1:=by
 unfold D5;rw[h];dsimp only[Res.bind];rw[qX (Aj l (by decide))]
theorem uJ{l:Type}(xs:List l){k:Nat}(h:k<=xs.length):Ij xs none (some (k:Int))=xs.take k:=by
 unfold Ij;rw[HT.bz,HT.Yc,Vd h];simp
theorem ZG{l:Type}(xs:List l){k:Nat}(h:k<=xs.length):Ij xs (some (k:Int)) none=xs.drop k:=by
 unfold Ij;rw[HT.bz,HT.Yc,Vd h];exact EJ (by simp)
theorem ZE{m o:Type}(f:m->o)(l:List m)(lo hi:Option Int):Ij (l.map f) lo hi=(Ij l lo hi).map f:=by
 unfold Ij;rw[AC,Xw,qP]
theorem WB{n:Nat}{S:Sto}{ds:List D}{lo hi:Option Int}(h:S[n]?=some (.lst ds)):Ov (.ref n) lo hi S=.ok (.ref S.length) (S++[.lst (Ij ds lo hi)]):=by
 unfold Ov;dsimp only;rw[QD h]
theorem VQ(m:S[l]?=some (.lst xs))(o:S[b]?=some (.lst ys))(s:xs.length+ys.length<=100000):Em (.ref l) (.ref b) S=.ok (.ref S.length) (S++[.lst (xs++ys)]):=by
 unfold Em;dsimp only;rw[m,o];dsimp only;rw[qX (Aj s (by decide))]
theorem su{m:Type}:∀{l:List m},l.length=1->∃o,l=[o]
 | [a],_=>⟨a,rfl⟩
theorem wc{o:Type}:∀{l:List o},l.length=2->∃s m,l=[s,m]
 | y :: _,q=>by
  obtain⟨m,rfl⟩:=su (L9 q);exact⟨y,m,rfl⟩
theorem wb{s:Type}:∀{l:List s},l.length=3->∃A m o,l=[A,m,o]
 | y :: _,q=>by
  obtain⟨m,o,rfl⟩:=wc (L9 q);exact⟨y,m,o,rfl⟩
theorem wa{A:Type}:∀{l:List A},l.length=4->∃B m o s,l=[B,m,o,s]
 | y :: _,q=>by
  obtain⟨m,o,s,rfl⟩:=wb (L9 q);exact⟨y,m,o,s,rfl⟩
theorem len5{B:Type}:∀{l:List B},l.length=5->∃C m o s A,l=[C,m,o,s,A]
 | y :: _,q=>by
  obtain⟨m,o,s,A,rfl⟩:=wa (L9 q);exact⟨y,m,o,s,A,rfl⟩
open PySem PySem.Spec PyProof.Rows
section
noncomputable def UH(i:Nat)(g:Int->Int->Int)(m:ME):MS:=λe S=>match e[i]? with
 | some (some (.int x))=>(m e S).lift e λd l=>match d with
  | .int y=>.ok (.nx (e.set i (some (.int (g x y))))) l
  | _=>.bad
 | _=>.bad
theorem tU(hN:X.N.Nodup)(hi:X.N[i]?=some x)(G:Loc X.env.scope x)(I:PIp X op (ipI g))(J:GE X E e m)
  (L:X.fn x=true∨X.env.scope.names.lookup x=some .local:=by first | exact .inl rfl | exact .inr rfl | assumption):GS X E (.AugAssign (.Name x B) op e pos) (UH i g m):=(rf hN hi G J I L).imp<|by
 rintro D σ H ⟨O,l,S,s,P,o⟩
 unfold UH at o;split at o
 ·rename_i n Q
  obtain⟨v,R,T⟩:=s.at' i _ Q;cases T;refine⟨_,R,O,l,S,s,P,o.lift s .refl λd S1 o A U y C Y Z=>?_⟩
  cases d with
  | int y=>cases Z;exact⟨n,y,rfl,rfl,o A U _ C Y ((s.mono C).set (.int _) i)⟩
  | _=>exact o.elim
 ·exact o.elim
end
section
noncomputable def JG(lo:Int)(n:Nat):List V:=(BJ n).map λk:Nat=>V.int (lo+k)
theorem UJ{lo}:∀{n:Nat} {l:List AK},l.length=n->(∀(k:Nat) v,l[k]?=some v->∃t,v=.int (lo+k) t)->CG (JG lo n) l
 | 0,l,m,_=>by
  have:l=[]:=JY m;subst this;exact .nil
 | n+1,l,m,h=>by
  cases l with
  | nil=>cases m
  | cons v r=>
   have o:r.length=n:=L9 m;obtain⟨t,e⟩:=h 0 v rfl
   have s:=UJ (lo:=lo+1) o λk v A=>by
    obtain⟨t,e⟩:=h (k+1) v A;exact⟨t,by rw[e];congr 1;lia⟩
   have B:JG lo (n+1)=.int lo :: JG (lo+1) n:=by
    unfold JG;rw[ZV,Az,BB]
    congr 1
    ·congr 1;lia
    ·apply DA
     intro k _;show V.int (lo+((k+1:Nat):Int))=V.int (lo+1+k)
     congr 1
     lia
   rw[B];refine .cons ⟨t,?_⟩ s;rw[e]
   congr 1
   lia
theorem b6{K}{ρ}{H}(lo:Int)(n:Nat):A9 K ρ H (Ez lo n) (JG lo n):=by
 unfold Ez JG
 induction BJ n with
 | nil=>exact .nil
 | cons k r l=>exact .cons (.int _) l
end
end L2
namespace PySem
open Sem (wp)
open PyProof.Rows (IntsAre)
section
variable{E:AK->AS->Prop}
theorem Xf{R:Result->AS->Prop}{r:Ab}{a b c:Int}{t u v:Tok}{n:Nat}(H:A.handled=none)(I:ul s.heap r a b c t u v)(J:Ej a b c=true)(L:Bo a b c=n)(N:n<=2 ^ 24)
  (O:∀(h':DO) (C:Nat) (m:Array AK) (G:Nat),(∀b o,s.heap.get? b=some o->h'.get? b=some o)->h'.get? s.heap.objs.size=some { cls:=.type "list",data:=.seq m G }->uk (λi v=>∃t,v=.int (a+i * c) t) m n->R (.ok (.ret (.ref s.heap.objs.size))) { s with heap:=h',toks:=C }) :
  Li (Aw prog w) A (.builtin "proto.collect" ⟨[.ref r],[]⟩) R s:=by
 refine X2 F.entry_proto_collect ?_;rw[OA F.plain_proto_collect _];show Am _ A.in1 (newList [] >>= λl=>ft (.builtin "list.__iadd__" ⟨[l,.ref r],[]⟩)) _ _ s;refine AB (CY (AL ⟨plainId_quiet pP _,X2 F.entry_list_iadd ?_⟩));rw[OA pP _];show Am _ A.in1 (xw (.ref s.heap.objs.size) (.ref r) (.ref s.heap.objs.size)) _ _ _;have B:(s.heap.push { cls:=.type "list",data:=.seq ([]:List AK).toArray }).get? s.heap.objs.size=some { cls:=.type "list",data:=.seq #[] 0 }:=Ah _ rfl
 exact wpAny_extend_range (A:=A) (R:=R) (s:={ s with heap:=s.heap.push { cls:=.type "list",data:=.seq ([]:List AK).toArray } }) H (AR _ I) J L N s.heap.objs.size (.ref s.heap.objs.size) 0 B λh' C m G P Q S=>
  O h' C m G (λb o e=>P b o (BK (Ao e)) (AR _ e)) Q S
theorem ZI{Q:List AK->AS->Prop}{r:Ab}{a b c:Int}{t u v:Tok}{n:Nat}(B:A.handled=none)(C:ul s.heap r a b c t u v)(G:Ej a b c=true)(H:Bo a b c=n)(I:n<=2 ^ 24)
  (J:∀(h':DO) (m:Nat) (l:Array AK),(∀b o,s.heap.get? b=some o->h'.get? b=some o)->uk (λi v=>∃t,v=.int (a+i * c) t) l n->Q l.toList { s with heap:=h',toks:=m }):Am (Aw prog w) A (collect (.ref r)) Q E s:=by
 unfold collect;refine AB (wpAny_runValue (Xf B C G H I λh' m l P L N O=>?_));show Am _ A (load s.heap.objs.size >>= _) _ _ _;exact AB (wpAny_load N (AL (J h' m l L O)))
theorem U9{Q₁:AK->AS->Prop}{r:Ab}{a b c:Int}{t u v:Tok}{n:Nat}(H:A.handled=none)(C:ul s.heap r a b c t u v)(I:Ej a b c=true)(J:Bo a b c=n)(L:n<=2 ^ 24)(hsz:n<=sizeLine)
  (h:∀(h':DO) (l:Nat) (acc:Array AK),(∀b o,s.heap.get? b=some o->h'.get? b=some o)->uk (λi v=>∃t,v=.int (a+i * c) t) acc n->Q₁ (.ref h'.objs.size) { s with heap:=h'.push { cls:=.type "tuple",data:=.seq acc },toks:=l }) :
  Li (Aw prog w) A (.call (.builtin "tuple.__new__") ⟨[.type "tuple",.ref r],[]⟩) (wants Q₁ E) s:=by
 refine codeAny_of_tree ?_;show Am _ A.in1 (do checkBuiltinCall "tuple.__new__" ⟨[.type "tuple",.ref r],[]⟩;ft (.builtin "tuple.__new__" ⟨[.type "tuple",.ref r],[]⟩)) _ _ s;refine AB (kl (F.newCall_tuple_1 _) (AL ⟨plainId_quiet pO _,X2 F.entry_tuple_new ?_⟩));rw[OA pO _];have P:=sub_tuple_self;have m:=init_tuple_lookup;have N:=madeHere_tuple;have B:s.TypeIs (.ref r) "range":=⟨_,C,rfl⟩
 have Ϧ:A.in1.handled=none:=by simp[H]
 wp_walk using Op B,ZI Ϧ C I J L
 intro h' l acc O G;show Am _ _ (Df acc.toList.toArray >>= λv=>ret v) _ _ _;unfold Df;refine AB (CY ?_ (by show acc.toList.toArray.size<=sizeLine;simp only[Array.toArray_toList];rw[G.1];exact hsz));refine AL ?_
 have e:acc.toList.toArray=acc:=by simp
 rw[e];exact h h' l acc O G
theorem VC{Q:AK->AS->Prop}{r:Ab}{a b c:Int}{t u v:Tok}{n:Nat}(G:A.handled=none)(H:ul s.heap r a b c t u v)(I:Ej a b c=true)(J:Bo a b c=n)(L:n<=2 ^ 24)(hsz:n<=sizeLine)
  (N:∀(h':DO) (C:Nat) (B:Array AK),(∀b o,s.heap.get? b=some o->h'.get? b=some o)->uk (λi v=>∃t,v=.int (a+i * c) t) B n->Q (.ref h'.objs.size) { s with heap:=h'.push { cls:=.type "tuple",data:=.seq B },toks:=C }) :
  Am (Aw prog w) A (call (.type "tuple") [.ref r]) Q E s:=by
 refine callType_codes (Q₁:=λobj l=>l.TypeIs obj "tuple"/\Q obj l) YA (F.typeCall_tuple_1 _) F.entry_object_init
  (U9 G H I J L hsz λh' C B O P=>⟨⟨_,Ah _ rfl,rfl⟩,N h' C B O P⟩) λobj l m=>?_
 exact⟨m.1,gY obj _,object_init_meets YA.init.lookup YA.made (by decide) prog w A.in1 _ l ⟨m.1,rfl,m.2⟩⟩
end
end PySem
namespace L2
open PySem PySem.Spec PyProof.Rows
section
variable{X:Cx}{E:EW}{ml:ML}
theorem YO{J:List (Ab×Obj)}{L:St}{H:Hp}{s:AS}{Q:VK}{i j:Int}{t u v:Tok}{N:Nat}(T:X.calm=true)(I:Inv X J L H s)(B:-1000000<=i/\i<=1000000/\-1000000<=j/\j<=1000000)
  (q:∀q,H q=none->Q (.ref q) (upd H q (.tup (JG i (j - i).toNat)))) :
  Am (Aw X.prog X.w) X.A (call (.type "tuple") [.ref s.heap.objs.size]) (EP X J L Q) X.xe { s with heap:=s.heap.push { cls:=.type "range",data:=.fields #[.int i t,.int j u,.int 1 v] },toks:=N }:=by
 obtain⟨B,U,Y,Z⟩:=B
 have hn:Bo i j 1=((j - i).toNat:Nat):=by rw[dA];split <;> lia
 have m:(j - i).toNat<=2000000:=by lia
 refine VC (s:={ s with heap:=s.heap.push { cls:=.type "range",data:=.fields #[.int i t,.int j u,.int 1 v] },toks:=N }) (I.ok.hd T) (Rf ..) (uw (aW B) (aj U) (aW Y) (aj Z)) hn (Aj m (by decide)) (Aj m (by decide)) λO C l P G=>?_
 have k:∀b o,s.heap.get? b=some o->(O.push { cls:=.type "tuple",data:=.seq l }).get? b=some o:=λb o e=>AR _ (P b o (AR _ e))
 have R:CG (JG i (j - i).toNat) l.toList:=UJ (by have:=G.1;simpa using this) λk v hv=>by
  obtain⟨t,e⟩:=G.2 k v (by simpa using hv);exact⟨t,by rw[e];congr 1;lia⟩
 have S:s.heap.objs.size<=O.objs.size:=by
  have:=P s.heap.objs.size _ (Ah s.heap rfl);exact Kd (Ao this)
 refine⟨.ref _,upd H _ (.tup (JG i (j - i).toNat)),I.laid (t':=C) k S ?_,rfl,q _ (I.hok.fresh S)⟩;refine⟨⟨?_,_,Ah _ rfl,rfl⟩,l.toList,R,_,Ah _ rfl,rfl,0,by simp⟩;rw[R.length,show l.toList.length=(j - i).toNat by have:=G.1;simpa using this];exact Aj m (by decide)
noncomputable def pT(o:TA):TE:=λs H Q=>o s H λl m=>∃i j:Int,(l=[.int i,.int j]∨l=[.int j]/\i=0)/\(-1000000<=i/\i<=1000000/\-1000000<=j/\j<=1000000)/\∀q,m q=none->Q (.ref q) (upd m q (.tup (JG i (j - i).toNat)))
theorem iw(o:X.calm=true)(J:Gl X "tuple") (L:X.mg "tuple" = none) (N:Gl X "range") (O:X.mg "range" = none) (P:PA X [a] R)
  (S:Aa [a] X.env=[(false,CF a X.env)]:=by rfl)
  (A:Aa [.Call (.Name "range" m) [a] [] pos2] X.env=(false,CF (.Call (.Name "range" m) [a] [] pos2) X.env) :: Aa [] X.env:=by rfl) :
  PE X (.Call (.Name "tuple" p) [.Call (.Name "range" m) [a] [] pos2] [] pos) (pT R):=by
 intro T s U H Q I Y;refine Fm (LL I J L Rz ?_ (by decide) (by decide));refine Bt ?_ A rfl;rw[A];show Am _ _ (uX ((false,CF (.Call (.Name "range" m) [a] [] pos2) X.env) :: Eo pos (Aa [] X.env))) _ _ s;refine Pe ?_;refine uo (LL I N O TK (Bt (thn (P pos2 T s U H _ I Y) λus s1 ⟨vs,H1,B,C,Z⟩=>?_) S rfl));obtain⟨i,j,e,G,q⟩:=Z
 rcases e with e | ⟨e,rfl⟩
 ·subst e
  cases C with
  | cons r l=>
   cases l with
   | cons r' l=>
    cases l;obtain⟨t,rfl⟩:=r;obtain⟨t',rfl⟩:=r';exact call_range_2 (Lc (YO o B G q))
 ·subst e
  cases C with
  | cons r l=>
   cases l;obtain⟨t,rfl⟩:=r;exact gK (Lc (YO o B G q))
noncomputable def mL(ds:List D)(S:Sto):Res D:=match ds with
 | [.int i,.int j]=>if -1000000<=i/\i<=1000000/\-1000000<=j/\j<=1000000 then .ok (.tup (Ez i (j - i).toNat)) S else .bad
 | [.int j]=>if -1000000<=j/\j<=1000000 then .ok (.tup (Ez 0 j.toNat)) S else .bad
 | _=>.bad
noncomputable def Yy(ml:ML):ME:=λe S=>(ml e S).bind mL
theorem iB{es:List Expr}{B:St}{H:Hp}{Q:VK}(h:gE X.K E (Yy ml) B H Q):pT (gA X.K E ml) B H Q:=by
 obtain⟨C,l,S,J,L,m⟩:=h;refine⟨C,l,S,J,L,m.seq λds N m O G xs P R I=>?_⟩
 have fin:∀(i j:Int),(Cj X.K (λc=>E c B) C H (Res.ok (.tup (Ez i (j - i).toNat)) N) λd T=>∀o A x,Le X.K C H o A->Ch X.K o T A->CM X.K o A d x->Q x A)->∀q,G q=none->Q (.ref q) (upd G q (.tup (JG i (j - i).toNat))):=λi j m q U=>by
  obtain⟨Y,Z⟩:=HN (ho:=.tup (JG i (j - i).toNat)) R U;exact m _ _ _ (P.trans Z) Y (.tup CB (b6 _ _))
 unfold mL at m;split at m
 ·rename_i i j
  split at m
  ·rename_i hb
   cases I with
   | cons r s=>
    cases s with
    | cons r' s=>
     cases s;cases r;cases r';exact⟨i,j,.inl rfl,hb,fin i j m⟩
  ·exact m.elim
 ·rename_i j
  split at m
  ·rename_i hb
   cases I with
   | cons r s=>
    cases s;cases r;exact⟨0,j,.inr ⟨rfl,rfl⟩,⟨by lia,by lia,hb.1,hb.2⟩,fin 0 j (by rw[u7];exact m)⟩
  ·exact m.elim
 ·exact m.elim
theorem jn(m:X.calm=true)(o:Gl X "tuple") (s:X.mg "tuple" = none) (A:Gl X "range") (B:X.mg "range" = none) (C:GA X E [a] ml)
  (G:Aa [a] X.env=[(false,CF a X.env)]:=by rfl)
  (H:Aa [.Call (.Name "range" l) [a] [] pos2] X.env=(false,CF (.Call (.Name "range" l) [a] [] pos2) X.env) :: Aa [] X.env:=by rfl) :
  GE X E (.Call (.Name "tuple" p) [.Call (.Name "range" l) [a] [] pos2] [] pos) (Yy ml):=(iw m o s A B C G H).imp λ_ _ _ h=>iB (es:=[]) h
end
open PySem PySem.Spec PyProof.Rows
noncomputable def Itd(lo:Int)(n:Nat):It:=⟨λi _=>i < n,λi H x l=>l=H/\x=.int (lo - i),λi _=>n<=i⟩
theorem YN{P}{w}{K}{tg}(it:Ab)(lo:Int)(n:Nat):Vx P w K tg (Itd lo n) [it] it (λi h=>Xx h it (lo+(i:Nat) * -1) ((n:Int) - (i:Nat)) (-1)) where
 mem:=by simp
 obj:=λi h st b hb=>by
  have e:b=it:=by simpa using hb
  subst e
  exact⟨_,st,λv z=>by
   have Y:TW _=YB v:=z
   cases Y⟩
 keep:=λi h l st k=>k it (by simp) _ st
 item:=by
  intro X A hw B C i R s S H E I m st G;subst A hw B;obtain⟨J,L,Z,N,O,Q⟩:=m it (by simp);have W:=ub (prog:=X.prog) (w:=X.w) (I.ok.hd C) it lo (-1) n
  refine W.item i s _ _ G st λv l T hv U kk=>?_
  obtain⟨t,rfl⟩:=hv;have I1:Inv X R S H { s with heap:=l,toks:=T }:=I.turned (λb o hb e=>kk b o (by simpa using hb) e) J L N O Q;refine⟨_,rfl,Y9 (s:={ s with heap:=l,toks:=T }) (n:="range_iterator") U rfl rfl (by decide) ⟨.int (lo - i),H,I1,⟨t,?_⟩,⟨rfl,rfl⟩,U,λb hb=>(m b hb).1⟩⟩
  congr 1
  lia
 done:=by
  intro X A hw B C i R s S H E I m st G;subst A hw B;obtain⟨J,L,Z,N,O,Q⟩:=m it (by simp)
  exact gD (I.ok.hd C) st (by have:n<=i:=G;lia) λl eb=>⟨rfl,I.turned (t':=s.toks) (λb o hb e=>eb b o hb e) J L N O Q⟩
 self:=λ_ _ _ _ _ st h=>gF st h
theorem YV(i j:Int):Bo i j (-1)=if i > j then i - j else 0:=by
 unfold Bo;rw[qY (show ¬((-1:Int) > 0) by decide),show(-(-1):Int)=1 by decide,u8]
 split <;> lia
theorem iL(l:-1000000<=i)(m:i<=1000000)(o:-1000000<=j)(s:j<=1000000):Ej i j (-1)=true:=by
 unfold Ej;rw[YV];simp only[vD,CS,HF,decide_eq_true_eq,beq_iff_eq,show ¬((-1:Int) > 0) by decide,if_false]
 split <;> lia
theorem ly(i j:Int):Bo i j (-1)=(((i - j).toNat:Nat):Int):=by
 rw[YV]
 split <;> lia
section
noncomputable def wg(l:TA):TI:=λm H R=>l m H λo s=>∃i j:Int,o=[.int i,.int j,.int (-1)]/\(-1000000<=i/\i<=1000000/\-1000000<=j/\j<=1000000)/\R (Itd i (i - j).toNat) s
theorem eL(N:Gl X "range") (O:X.mg "range" = none) (P:PA X [a,b,c] Q) (S:Aa [a,b,c] X.env=[(false,CF a X.env),(false,CF b X.env),(false,CF c X.env)]:=by rfl) (E:Aa [b,c] X.env=[(false,CF b X.env),(false,CF c X.env)]:=by rfl) :
  PI X tg (.Call (.Name "range" p) [a,b,c] [] pos) (wg Q):=by
 intro G s J H R I h;refine uo (LL I N O TK (Bt (thn (P pos G s J H _ I h) λus m ⟨vs,L,T,U,Y⟩=>?_) (by rw[S,E]) (by rw[E];rfl)));obtain⟨i,j,e,⟨Z,b2,b3,b4⟩,q⟩:=Y;subst e
 cases U with
 | cons r A=>
  cases A with
  | cons r' A=>
   cases A with
   | cons B A=>
    cases A;obtain⟨t,rfl⟩:=r;obtain⟨t',rfl⟩:=r';obtain⟨l,rfl⟩:=B;refine call_range_3 (by decide) ?_ (Ra (Wn (by decide)));refine qF (Rf ..) (iL Z b2 b3 b4) ?_
    have C:Inv X G J L { m with heap:=m.heap.push { cls:=.type "range",data:=.fields #[.int i t,.int j t',.int (-1) l] },toks:=m.toks }:=T.kept λb o e=>AR _ e
    refine⟨_,[(m.heap.push { cls:=.type "range",data:=.fields #[.int i t,.int j t',.int (-1) l] }).objs.size],_,_,L,rfl,C.kept (t':=m.toks) λb o e=>AR _ e,YN _ i (i - j).toNat,?_,λb hb=>?_,q⟩
    ·have e1:i+((0:Nat):Int) * -1=i:=by lia
     have e2:(((i - j).toNat:Nat):Int) - ((0:Nat):Int)=Bo i j (-1):=by rw[ly];lia
     show Xx _ _ (i+((0:Nat):Int) * -1) ((((i - j).toNat:Nat):Int) - ((0:Nat):Int)) (-1);rw[e1,e2];exact Ah _ rfl
    ·have e:b=(m.heap.push { cls:=.type "range",data:=.fields #[.int i t,.int j t',.int (-1) l] }).objs.size:=by simpa using hb
     subst e;exact C.fpOk (AM _) (C.hok.fresh (AM _))
noncomputable def fP(lo:Int)(n:Nat):List D:=(BJ n).map λi:Nat=>D.int (lo - i)
noncomputable def iRD(ml:ML):MI:=λe S=>(ml e S).bind λl m=>match l with
 | [.int i,.int j,.int k]=>if k = -1/\-1000000<=i/\i<=1000000/\-1000000<=j/\j<=1000000 then .ok (FZ (fP i (i - j).toNat)) m else .bad
 | _=>.bad
theorem fG(J:Gl X "range") (m:X.mg "range" = none) (L:GA X E [a,b,c] ml) (A:Aa [a,b,c] X.env=[(false,CF a X.env),(false,CF b X.env),(false,CF c X.env)]:=by rfl) (N:Aa [b,c] X.env=[(false,CF b X.env),(false,CF c X.env)]:=by rfl) :
  GI X E tg (.Call (.Name "range" p) [a,b,c] [] pos) (iRD ml):=(eL J m L A N).imp<|by
 rintro σ H R ⟨O,l,S,P,A,m⟩
 refine⟨O,l,S,P,A,m.seq λQ S1 m B T xs U Y Z=>?_⟩;split at m
 ·rename_i i j k
  split at m
  ·rename_i hb
   obtain⟨rfl,hb⟩:=hb
   cases Z with
   | cons r s=>
    cases s with
    | cons r' s=>
     cases s with
     | cons C s=>
      cases s;cases r;cases r';cases C;refine⟨i,j,rfl,hb,m B T _ U Y ?_⟩;intro G H2 S2 Q k l2 s2 hv;cases hv
      have e:∀k:Nat,(fP i (i - j).toNat)[k]?=if k < (i - j).toNat then some (.int (i - k))else none:=λk=>by
       unfold fP;rw[Ad]
       by_cases o:k < (i - j).toNat
       ·rw[qX o,CP o];rfl
       ·rw[qY o,Bs (by rw[D8];lia)];rfl
      rw[e];refine⟨λI=>?_,λd hd=>?_⟩
      ·show(i - j).toNat<=k
       by_cases o:k < (i - j).toNat
       ·rw[qX o]at I;cases I
       ·lia
      ·by_cases o:k < (i - j).toNat
       ·rw[qX o]at hd
        cases hd;refine⟨o,λy H' ⟨e1,e2⟩=>?_⟩;subst e1 e2;exact⟨G,.refl,s2,.int _⟩
       ·rw[qY o]at hd;cases hd
  ·exact m.elim
 ·exact m.elim
end
section
noncomputable def lh(m:TA):TE:=λo H Q=>m o H λs l=>∃j:Int,s=[.int j]/\(-1000000<=j/\j<=1000000)/\∀q,l q=none->Q (.ref q) (upd l q (.lst (JG 0 (j - 0).toNat)))
theorem eQ(L:X.calm=true)(N:Gl X "list") (O:X.mg "list" = none) (P:Gl X "range") (R:X.mg "range" = none) (S:PA X [a] T)
  (U:Aa [a] X.env=[(false,CF a X.env)]:=by rfl)
  (C:Aa [.Call (.Name "range" m) [a] [] pos2] X.env=(false,CF (.Call (.Name "range" m) [a] [] pos2) X.env) :: Aa [] X.env:=by rfl) :
  PE X (.Call (.Name "list" p) [.Call (.Name "range" m) [a] [] pos2] [] pos) (lh T):=by
 intro Y s Z H Q I hq;refine Fm (LL I N O xj ?_ (by decide) (by decide));refine Bt ?_ C rfl;rw[C];show Am _ _ (uX ((false,CF (.Call (.Name "range" m) [a] [] pos2) X.env) :: Eo pos (Aa [] X.env))) _ _ s;refine Pe ?_;refine uo (LL I P R TK (Bt (thn (S pos2 Y s Z H _ I hq) λus A ⟨vs,H1,E,r1,q1⟩=>?_) U rfl));obtain⟨j,e,⟨b3,b4⟩,q⟩:=q1;subst e
 cases r1 with
 | cons r rr=>
  cases rr;obtain⟨t,rfl⟩:=r;refine gK ?_;refine Lc ?_
  have hn:Bo 0 j 1=((j - 0).toNat:Nat):=by rw[dA];split <;> lia
  refine call_list_range (I.ok.hd L) (Rf ..) (uw (aW (by lia)) (aj (by lia)) (aW b3) (aj b4)) hn (Aj (show(j - 0).toNat<=2000000 by lia) (by decide)) λh' tk l c' hk hS B=>?_
  have k:∀b o,A.heap.get? b=some o->h'.get? b=some o:=λb o e=>hk b o (AR _ e)
  have G:CG (JG 0 (j - 0).toNat) l.toList:=UJ (by have:=B.1;simpa using this) λk v hv=>by
   obtain⟨t,e⟩:=B.2 k v (by simpa using hv);exact⟨t,by rw[e];congr 1;lia⟩
  have hl:(JG 0 (j - 0).toNat).length<=sizeLine:=by
   rw[G.length,show l.toList.length=(j - 0).toNat by have:=B.1;simpa using this];exact Aj (show(j - 0).toNat<=2000000 by lia) (by decide)
  have J:∀o,A.heap.objs.size<=(A.heap.push o).objs.size:=λo=>by rw[Eb];exact MB _
  refine⟨.ref _,upd H1 _ (.lst (JG 0 (j - 0).toNat)),E.laid (t':=tk) k (J _) ?_,rfl,q _ (E.hok.fresh (J _))⟩;exact⟨hl,l.toList,c',G,by simpa using hS⟩
noncomputable def Sy(ml:ML):ML:=λe S=>(ml e S).bind λl m=>match l with
 | [.int j]=>if -1000000<=j/\j<=1000000 then .ok (Ez 0 (j - 0).toNat) m else .bad
 | _=>.bad
theorem fF(G:X.calm=true)(I:Gl X "list") (m:X.mg "list" = none) (J:Gl X "range") (L:X.mg "range" = none) (N:GA X E [a] ml)
  (o:Aa [a] X.env=[(false,CF a X.env)]:=by rfl)
  (O:Aa [.Call (.Name "range" B) [a] [] pos2] X.env=(false,CF (.Call (.Name "range" B) [a] [] pos2) X.env) :: Aa [] X.env:=by rfl) :
  GL X E (.Call (.Name "list" p) [.Call (.Name "range" B) [a] [] pos2] [] pos) (Sy ml):=(eQ G I m J L N o O).imp<|by
 rintro σ H Q ⟨P,l,S,R,o,m⟩
 refine⟨P,l,S,R,o,m.seq λds S1 m T H1 xs C s U=>?_⟩;split at m
 ·rename_i j
  split at m
  ·rename_i hb
   cases U with
   | cons r Y=>
    cases Y;cases r;refine⟨j,rfl,hb,λq A=>?_⟩;obtain⟨Z,l4⟩:=HN (ho:=.lst (JG 0 (j - 0).toNat)) s A;exact m _ _ q _ (C.trans l4) Z (b6 _ _) CB (λn z=>s.notIn A z) (C.back o s A)
  ·exact m.elim
 ·exact m.elim
end
theorem jv{P}{w}{K}{m}{l}{CX}{k n}{f}{fd}{ps}:Cp P w K m l CX k f fd ps (spM K n λ_ _=>.bad):=
 ⟨λ_ _ _ _ ⟨_,_,_,_,_,_,h⟩=>h.elim,λ_ _ _ _ _ _ _ _ _ _ _ _ _ ⟨_,_,_,_,_,_,h⟩=>h.elim⟩
open PySem PySem.Spec PyProof.Rows
noncomputable def rIns:V->List V->Hp->VK->Prop:=λx o H Q=>∃l m i y,x=.ref l/\o=[.int i,y]/\H l=some (.lst m)/\0<=i/\i < 2 ^ 63/\m.length+1<=sizeLine/\Q .non (upd H l (.lst (m.take i.toNat++[y]++m.drop i.toNat)))
section
theorem ed:MtM X "list.insert" rIns:=by
 intro L s N H x O v P Q I B C h;obtain⟨l,R,i,y,rfl,rfl,A,S,E,T,q⟩:=h;cases B;obtain⟨u,w,rfl,G,J⟩:=vals2 C;obtain⟨t,rfl⟩:=G;obtain⟨z,m,n,r,U,e⟩:=I.lstM A
 have o:¬(!Builtin.List.listFitsIndex i)=true:=by
  rw[fitsIndex_both (by lia) E];exact AN
 refine call_meets F.slot_list_insert ⟨_,e,rfl⟩ F.entry_list_insert (F.args_list_insert_3 _ _ _)
  (AutoListH.list_insert_list_int_val_1 l m.toArray n i t w o (by rw[Au];lia)) ⟨e,?_⟩
 refine⟨.non,_,I.lset (its':=m.take i.toNat++[w]++m.drop i.toNat) A e ?_ (((r.take _).append (.cons J .nil)).append (r.drop _)) ?_,rfl,q⟩
 ·show(m.toArray.extract 0 (if i < 0 then(i+((m.toArray.size:Nat):Int)).toNat else min i.toNat m.toArray.size)).push w++m.toArray.extract (if i < 0 then(i+((m.toArray.size:Nat):Int)).toNat else min i.toNat m.toArray.size)=_
  rw[qY (by lia)]
  apply vE
  rw[Au]
  by_cases c:i.toNat<=m.length
  ·rw[Vd c]
   simp;rw[EJ (by rw[FB];lia)]
  ·rw[Nat.min_eq_right (by lia),EJ (by lia),II (by lia)]
   simp
 ·simp only[AQ,Dt,FB,Ac]
  omega
end
noncomputable def jM(mo mi s:ME):ME:=λe S=>(mo e S).bind λd m=>match atL d m with
 | some (n,_)=>(mi e m).bind λx A=>(s e A).bind λy o=>match atL d o,x with
  | some (_,l),.int i=>if 0<=i/\i < 1000000/\l.length+1<=sizeLine then .ok .non (o.set n (.lst (l.take i.toNat++[y]++l.drop i.toNat)))else .bad
  | _,_=>.bad
 | none=>.bad
theorem A9.drop'{K}{ρ}{H}:∀{ds:List D} {vs:List V},A9 K ρ H ds vs->∀k,A9 K ρ H (ds.drop k) (vs.drop k)
 | _,_,.nil,k=>by rw[qQ,qQ];exact .nil
 | _,_,.cons r t,k=>by
  cases k with
  | zero=>exact .cons r t
  | succ k=>exact A9.drop' t k
section
theorem tp(ho:GE X E o mo)(he:GE X E e mi)(hf:GE X E f my)(yy:Gb o "insert" X.env (CF o X.env)=CF o X.env:=by rfl)
  (zG:((Eo B (Aa [e,f] X.env)).all (λx=>!x.1)&&(Zf B (Qi [] X.env)).all (λx=>x.1.isSome)
    &&decide ([e,f].length+([]:List ZX).length+(if ([]:List ZX).isEmpty then 0 else 1) < 30))=true:=by rfl)
  (yz:(s.endLine==B.line)=true:=by rfl) (C:Aa [e,f] X.env=(false,CF e X.env) :: Aa [f] X.env:=by rfl) (yw:Aa [f] X.env=(false,CF f X.env) :: Aa [] X.env:=by rfl) (yD:(Eo B (Aa [f] X.env)).any (·.1)=false:=by rfl) :
  GE X E (.Call (.Attribute o "insert" s) [e,f] [] B) (jM mo mi my):=(pY V0 PySem.F.slot_list_insert PySem.F.type_list_insert ed ho (Hd he (Hd hf LH yw) C) yy zG yz C yD).imp<|by
 rintro σ H Q ⟨ρ,l,S,J,C,m⟩
 refine⟨ρ,l,S,J,C,m.seq λd Y m L H1 v G Z r1=>?_⟩
 cases N:atL d Y with
 | none=>rw[N]at m;exact m.elim
 | some z=>
  obtain⟨n,xs0⟩:=z;rw[N]at m;dsimp only at m;obtain⟨rfl,h0,a,O,rfl,hn,e0,_⟩:=Xn Z r1 N;refine⟨.inl ⟨rfl,O,.inl (.inl e0)⟩,L,l,Y,J.mono G,Z,(m.later G).seq λx S2 m P H2 u I s2 r2=>⟨P,l,S2,J.mono (G.trans I),s2,(m.later I).seq λy S3 A R H3 w l3 s3 r3=>?_⟩⟩;split at A
  ·rename_i n' xs i h2
   split at A
   ·rename_i T
    obtain⟨e',h4,a',vs,ea,yH,e2,U⟩:=Xn s3 (r1.mono (I.trans l3)) h2;cases e';cases ea;cases r2;obtain⟨s4,l4⟩:=cD s3 yH e2 (((U.take i.toNat).append (.cons r3 .nil)).append (U.drop' i.toNat));exact⟨a,vs,i,w,rfl,rfl,e2,T.1,R6 T.2.1 (by decide),by rw[<-U.length];exact T.2.2,A R _ _ (G.trans (I.trans (l3.trans l4))) s4 .non⟩
   ·exact A.elim
  ·exact A.elim
end
end L2
namespace HT
open PySem PySem.Spec PyProof.Rows
section
variable{E:AK->AS->Prop}
theorem QO{t sl}{l}{C G}{lo hi}{Q}(m:lD s.heap t l)(H:s.heap.IsSliceOf sl C G .none)(pl:Qm C lo)(I:Qm G hi)
  (hw:sIx l.size 0 lo=0/\sIx l.size l.size hi=l.size) (h:Q (.ref t) s):Am (Aw prog w) A (Lh (.ref t) (.ref sl)) Q E s:=by
 obtain⟨os,J,o,L⟩:=id H;have B:s.TypeIs (.ref sl) "slice":=⟨os,J,o⟩;unfold Lh
 try with_reducible refine IC ?_
 first | refine AB (AL ?_) | skip
 refine AB (uT m.typeIs (by decide) (AB (Db (name:=IP "__getitem__") m.typeIs Ci
  (Da Ci m.typeIs pD ?_ (qM _ _)))))
 show Am (Aw prog w) _ (Ph (.ref t) >>= _) _ _ s;refine AB (tupleItemsOf_ m (AB (Op B ?_)));rw[qX (by decide)];refine AB (Lw H pl I ?_);show Am (Aw prog w) _ (if (((sIx l.size 0 lo:Nat):Int)==0&&(1:Int)==1&&(sIx l.size l.size hi - sIx l.size 0 lo)==l.size)=true then _ else _) _ _ s;rw[hw.1,hw.2,qX (by simp)];unfold vA;refine AB (AB (Op m.typeIs (AL ?_)));rw[qX (by decide)];exact AB (TH (AB (AL (AL ⟨_,rfl,AL h⟩))))
end
end HT
namespace L2
open PySem PySem.Spec PyProof.Rows
section
variable{X:Cx}
noncomputable def rSlW(K:AI):V->Option Int->Option Int->Hp->VK->Prop:=λx lo m H Q=>∃a l,x=.ref a/\SqT K H a l/\(HT.sIx l.length 0 lo=0/\HT.sIx l.length l.length m=l.length)/\Q (.ref a) H
theorem rH:SlR X (rSlW X.K):=by
 intro L s N H x v O P lo R sl Q I o A B C h;obtain⟨a,E,rfl,G,hw,q⟩:=h;cases o;obtain⟨J,r,m,_⟩:=I.tuple G
 have l:J.toArray.size=E.length:=by rw[Au];exact r.length.symm
 exact⟨"tuple",_,Ci.lookup,m.typeIs,HT.QO m A B C (by rw[l];exact hw) ⟨.ref a,H,I,rfl,q⟩⟩
noncomputable def rG(d:D)(lo hi:Option Int)(S:Sto):Res D:=match d with
 | .tup l=>.ok (.tup (Ij l lo hi)) S
 | _=>.bad
noncomputable def Sx(m:ME)(ml l:MO):ME:=λe S=>(m e S).bind λd o=>(ml e o).bind λlo s=>(l e s).bind λA B=>okR (rG d lo A B)
variable{E:EW}{e:Expr}{lo hi:Option Expr}{pos p2:Pos}{m:ME}{ml mh:MO}
theorem oX{l:Type}(xs:List l)(lo hi:Option Int)(h:HT.sIx xs.length 0 lo=0/\HT.sIx xs.length xs.length hi=xs.length):Ij xs lo hi=xs:=by
 unfold Ij;rw[h.1,h.2];simp
theorem fH(R:GE X E e m)(A:GO X E lo ml)(T:GO X E hi mh):GE X E (.Subscript e (.Slice lo hi none p2) pos) (Sx m ml mh):=(Yp (rH.or iM) R A T).imp<|by
 rintro σ H Q ⟨U,l,S,A,Y,o⟩
 refine⟨U,l,S,A,Y,o.seq λd Z o G H1 x B s1 r1=>⟨G,l,Z,A.mono B,s1,(o.later B).seq λlo S2 o I H2 C s2=>⟨I,l,S2,A.mono (B.trans C),s2,(o.later C).seq λhi S3 o ρ3 H3 J O=>?_⟩⟩⟩;obtain⟨d',S',e,k⟩:=o.okR;have r3:=r1.mono (C.trans J)
 cases d with
 | tup ds=>
  cases e
  cases r3 with
  | @tup _ a s L N=>
   by_cases hw:HT.sIx s.length 0 lo=0/\HT.sIx s.length s.length hi=s.length
   ·refine .inl ⟨a,s,rfl,.inl (.inl L),hw,k _ _ _ (B.trans (C.trans J)) O ?_⟩
    rw[oX ds lo hi (by rw[N.length];exact hw)];exact .tup L N
   ·refine .inr ⟨a,s,rfl,.inl (.inl L),hw,λq hq=>?_⟩
    obtain⟨s4,P⟩:=HN (ho:=.tup (SX s lo hi)) O hq;exact k _ _ _ (B.trans (C.trans (J.trans P))) s4 (.tup CB ((Uz N lo hi).mono P))
 | _=>cases e
end
section
noncomputable instance(i j:Int):Decidable ((λ_ j:Int=>0<=j) i j):=inferInstanceAs (Decidable (0<=j))
noncomputable abbrev R7:=intOp ka λi j=>.int (i * 2 ^ j.toNat)
noncomputable abbrev YW:=intOp (λ_ j=>0<=j) λi j=>.int (i / 2 ^ j.toNat)
noncomputable abbrev VP:=intOp (λ_ _=>True) λi j=>.int (Bn i j)
theorem O9:OpR X (Dc .LShift) (rD X.K R7):=RD (λ_ _ _ _=>.int _) sM
theorem aO:OpR X (Dc .RShift) (rD X.K YW):=RD (λ_ _ _ _=>.int _) sL
theorem RE:OpR X (Dc .BitAnd) (rD X.K VP):=OG (λ_ _ _ _=>.int _) sT
theorem cW:PIp X .BitOr (ipI λi j=>Cq i j):=by
 intro B s C H x y v u Q I l m h;obtain⟨i,j,o,A,q⟩:=h;subst o;subst A;obtain⟨a,rfl⟩:=l;obtain⟨b,rfl⟩:=m;exact ior_int ⟨.int _,H,I.tok _,⟨_,rfl⟩,q⟩
theorem tK:PIp X .BitAnd (ipI λi j=>Bn i j):=by
 intro B s C H x y v u Q I l m h;obtain⟨i,j,o,A,q⟩:=h;subst o;subst A;obtain⟨a,rfl⟩:=l;obtain⟨b,rfl⟩:=m;exact iand_int ⟨.int _,H,I.tok _,⟨_,rfl⟩,q⟩
theorem tJ:PIp X .BitXor (ipI λi j=>Ex i j):=by
 intro B s C H x y v u Q I l m h;obtain⟨i,j,o,A,q⟩:=h;subst o;subst A;obtain⟨a,rfl⟩:=l;obtain⟨b,rfl⟩:=m;exact ixor_int ⟨.int _,H,I.tok _,⟨_,rfl⟩,q⟩
end
noncomputable def No(C:Ab)(m:Str)(n:Nat)(f:List D->Sto->Res D)(mo:ME)(ml:ML):ME:=λe S=>(mo e S).bind λd l=>match d with
 | .ref k=>match l[k]? with
  | some (.ins s fs)=>if s=C/\fs.lookup m=none then(ml e l).bind λo A=>if o.length+1=n then f (.ref k :: o) A else .bad else .bad
  | _=>.bad
 | _=>.bad
theorem KVR.none{K}{ρ}{H}(f:Str):∀{x:List (Str×D)} {y:List (Str×V)},KVR K ρ H x y->x.lookup f=none->y.lookup f=none
 | _,_,.nil,_=>rfl
 | (g,a) :: x,(s,b) :: y,.cons r t,h=>by
  obtain⟨l,o⟩:=r;dsimp only at l o;subst l;rw[Bi]at h ⊢
  cases m:(f==g)with
  | true=>rw[m]at h;cases h
  | false=>rw[m]at h;exact KVR.none f t h
section
variable{X:Cx}{E:EW}{k n:Nat}{f C:Ab}{m:Str}{mo:ME}{ml:ML}{g:List D->Sto->Res D}
theorem iC{t:TA}{O:St}{H:Hp}{Q:VK}(h:gE X.K E (No C m n g mo ml) O H Q):pV C m (spM X.K n g) [] (Wt E) (gE X.K E mo) (gA X.K E ml) O H Q:=by
 obtain⟨Y,l,S,P,Z,o⟩:=h;refine⟨Y,l,S,P,Z,o.seq λd R o B H1 x G T r1=>?_⟩
 cases d <;> first | exact o.elim | skip
 rename_i q;dsimp only at o
 cases A:R[q]? with
 | none=>rw[A]at o;exact o.elim
 | some ob=>
  rw[A]at o
  cases ob <;> first | exact o.elim | skip
  rename_i C' fs;dsimp only at o;split at o
  ·rename_i I
   obtain⟨I,yB⟩:=I;rw[I]at A
   cases r1 with
   | ref U=>
    obtain⟨dx,zQ,e1,e2⟩:=T.ob q _ _ A U;refine⟨_,dx,zQ,rfl,e1,KVR.none m e2 yB,B,l,R,P.mono G,T,(o.later G).seq λds S2 o J H2 xs L s2 r2=>?_⟩;split at o
    ·rename_i s
     rw[By];exact⟨J,.ref q :: ds,S2,by simpa using s,.cons (.ref (L.pre _ _ U)) r2,s2,o.xk L λ_ _ k N H' z l' s' r'=>k N H' z (G.trans (L.trans l')) s' r'⟩
    ·exact o.elim
  ·exact o.elim
theorem QP{pl:Sem Bool}(ho:GE X E o mo)(c:Cls X.K C)(B:Xr X.K C m f)(F:Cp X.prog X.w X.K X.mg X.base CX k f fd ps (spM X.K n g))(G:M9 CX X (Wt E))(I:IE k X.A)(hb:Binds X.K fd ps [])(J:GA X E (e :: es) ml)
  (L:Aa (e :: es) X.env=(false,CF e X.env) :: Aa es X.env:=by rfl) (N:(Eo pos (Aa es X.env)).any (·.1)=false:=by rfl)
  (O:CF (.Call (.Attribute o m l) (e :: es) [] pos) X.env=(do
   let s <-CF o X.env
   uW l.atName
   let (f,fts) <-RY [s] (fm s m pl)
   callWith pos f fts (Eo pos (Aa (e :: es) X.env)) (Zf pos (Qi [] X.env))):=by rfl) :
  GE X E (.Call (.Attribute o m l) (e :: es) [] pos) (No C m n g mo ml):=
 (mm (E:=Wt E) ho c B F I hb .nil G J L N O).imp λP H Q h=>iC (t:=gA X.K E ml) h
end
section
noncomputable def vn:V->List V->Hp->VK->Prop:=λx l H Q=>∃i,x=.int i/\l=[]/\Q (.int (D3 i)) H
theorem nP:MtR X "int.bit_length" vn:=by
 intro o s A H x B v C Q I l m h;obtain⟨i,rfl,rfl,q⟩:=h;obtain⟨t,rfl⟩:=l;cases m;exact call_int_bit_length ⟨.int _,H,I.tok _,⟨_,rfl⟩,q⟩
noncomputable def cP(m:ME):ME:=λe S=>(m e S).bind λd l=>match d with
 | .int i=>.ok (.int (D3 i)) l
 | _=>.bad
theorem oE(ho:GE X E o mo)(B:Gb o "bit_length" X.env (CF o X.env)=CF o X.env:=by rfl) (C:(m.endLine==G.line)=true:=by rfl) :
  GE X E (.Call (.Attribute o "bit_length" m) [] [] G) (cP mo):=(sG PySem.F.plainAttrs_int PySem.F.slot_int_bit_length PySem.F.type_int_bit_length nP ho B C).imp<|by
 rintro T H Q ⟨I,l,S,J,L,s⟩
 refine⟨I,l,S,J,L,s.seq λd U s A N v O P R=>?_⟩
 cases d <;> first | exact s.elim | skip
 cases R;exact⟨rfl,_,rfl,rfl,s A N _ O P (.int _)⟩
end
section
noncomputable def vj(K:AI):V->V->Hp->VK->Prop:=λo i H Q=>∃p l k z,o=.ref p/\i=.int k/\0<=k/\H p=some (.lst l)/\l[k.toNat]?=some z/\Q z H
theorem jm:xW X (vj X.K):=by
 intro R s S H o i T U Q I B C h;obtain⟨p,E,k,z,rfl,rfl,G,J,m,q⟩:=h;cases B;obtain⟨t,rfl⟩:=C;obtain⟨A,n,r,L,N⟩:=I.lst J
 obtain⟨u,O,P⟩:∃u,A[k.toNat]?=some u/\RelV z u:=r.get m
 have Y:k.toNat < E.length:=(AE.mp m).1;have Z:=RJ;exact getItem_listL (l:=A) ⟨_,L,rfl,n,rfl⟩ G (by omega) O ⟨z,H,I,P,q⟩
noncomputable def Yd(g:Int->Int->Int)(mo mi mv:ME):MS:=λe S=>(mo e S).lift e λd s=>(mi e s).lift e λk l=>match atL d l,k with
 | some (_,A),.int i=>if 0<=i then(match A[i.toNat]? with
  | some (.int x)=>(mv e l).lift e λy m=>match y,atL d m with
   | .int y,some (n,o)=>if i.toNat < o.length then .ok (.nx e) (m.set n (.lst (o.set i.toNat (.int (g x y)))))else .bad
   | _,_=>.bad
  | _=>.bad)else .bad
 | _,_=>.bad
theorem nq(ho:GE X E o mo)(hi:GE X E i mi)(he:GE X E e mv)(hp:PIp X op (ipI g))
  (ha:∀J L new,augStore i J L new=(do RY [new,J,L] (uZ J L new);release [new,J,L] [];pure .next):=by intros;rfl):GS X E (.AugAssign (.Subscript o i tpos) op e pos) (Yd g mo mi mv):=
 (mV ho hi jm he hp iN ha).imp<|by
 rintro D σ H ⟨ρ,l,S,A,hs,m⟩
 refine⟨ρ,l,S,A,hs,m.lift A .refl λd S1 m N H1 x s s1 r1=>⟨N,l,S1,A.mono s,s1,(m.later s).lift (A.mono s) s λk S2 m O H2 y B U r2=>?_⟩⟩;have C:=r1.mono B;split at m
 ·rename_i n xs i hq
  split at m
  ·rename_i Y
   obtain⟨rfl,h5,a,vs,rfl,hn,e1,rr⟩:=Xn U C hq;cases r2;split at m
   ·rename_i x hx
    obtain⟨z,hz,rz⟩:=rr.get hx;cases rz;refine⟨a,vs,i,.int x,rfl,rfl,Y,e1,hz,O,l,S2,A.mono (s.trans B),U,(m.later B).lift (A.mono (s.trans B)) (s.trans B) λy S3 m P H3 w Q Z r3=>?_⟩;split at m
    ·rename_i y n3 zs ϓ
     split at m
     ·rename_i ye
      cases r3;obtain⟨_,h6,a3,G,e4,R,e3,I⟩:=Xn Z (C.mono Q) ϓ;cases e4;obtain⟨s4,l4⟩:=cD Z R e3 (I.set (.int (g x y)) i.toNat)
      have T:ixN G.length i=some i.toNat:=by
       unfold ixN;rw[qX Y,qX (by rw[<-I.length];omega)]
      exact⟨x,y,rfl,rfl,a,G,i,i.toNat,rfl,rfl,e3,T,m P _ _ ((s.trans B).trans (Q.trans l4)) s4 (A.mono ((s.trans B).trans (Q.trans l4)))⟩
     ·exact m.elim
    ·exact m.elim
   ·exact m.elim
  ·exact m.elim
 ·exact m.elim
end
open PySem PySem.Spec PyProof.Rows PySem.SeqAt
section
theorem Ef(l:N.Nodup:=by decide +kernel)(m:∀x∈ps,sc.names.lookup x=some .local∨sc.names.lookup x=some .cell:=by decide +kernel)(o:∀y∈sc.names,y.2≠.free:=by decide +kernel)(s:sc.kind=.function:=by rfl)(A:sc.isCoroutine=false:=by rfl)(B:sc.isGenerator=false:=by rfl)(C:N.take ps.length=ps:=by rfl):BV N ps sc:=⟨s,A,B,l,C,m,o⟩
end
section
variable{X:Cx}{E:EW}{e:Expr}
theorem Bx(i:Nat)(hN:X.N.Nodup)(hi:X.N[i]?=some x:=by rfl)(l:Loc X.env.scope x:=by first | exact Ra rfl | exact RZ rfl)(m:X.fn x=true∨X.env.scope.names.lookup x=some .local:=by first | exact .inl rfl | exact .inr rfl | assumption):GG X (.Name x pos) (tgN i):=ny (mj hN hi l m)
theorem CW(i:Nat)(hN:X.N.Nodup)(o:GE X E e m)(hi:X.N[i]?=some x:=by rfl)(s:Loc X.env.scope x:=by first | exact Ra rfl | exact RZ rfl)(A:HB e (some (.Name x l)) pos.line X.env=pure false:=by rfl)
  (B:X.fn x=true∨X.env.scope.names.lookup x=some .local:=by first | exact .inl rfl | exact .inr rfl | assumption):GS X E (.Assign [.Name x l] e pos) (Cg i m):=tT hN hi s o A B
theorem WQ(i:Nat)(hN:X.N.Nodup)(o:PIp X op (ipI g))(s:GE X E e m)(hi:X.N[i]?=some x:=by rfl)(A:Loc X.env.scope x:=by first | exact Ra rfl | exact RZ rfl)
  (B:X.fn x=true∨X.env.scope.names.lookup x=some .local:=by first | exact .inl rfl | exact .inr rfl | assumption):GS X E (.AugAssign (.Name x l) op e pos) (UH i g m):=tU hN hi A o s B
end
open PySem PySem.Spec PyProof.Rows
section
variable{X:Cx}{E:EW}{tg e:Expr}{K:AI}{ζ:List (Ab×Obj)}{σ:St}{H:Hp}{s:AS}
noncomputable def Itk(a:Ab)(l:Obj)(u:HO)(xs:List V):It:=
 ⟨λi H=>H a=some (.frz l u)/\i < xs.length,λi H x m=>m=H/\xs[i]?=some x,λi H=>H a=some (.frz l u)/\xs.length<=i⟩
theorem dY(Z:l.ExactDict)(hd:l.data=.dict es ep)(G:CG xs (es.toList.map (·.key))):Vx P w K tg (Itk a l u xs) [it] it (λi h=>h.IsKeyIter it a i es.size ep) where
 mem:=by simp
 obj:=λi h st b hb=>by
  have e:b=it:=by simpa using hb
  subst e;obtain⟨o,e,c,d⟩:=st;exact⟨o,e,λv z=>by rw[d]at z;cases z⟩
 keep:=λi h B st k=>st.at λo e=>k it (by simp) o e
 item:=by
  intro X J hw L hc i ζ s σ H E I C st N;subst J hw L;obtain⟨O,m⟩:=N;obtain⟨g,_⟩:=(show D2 X.prog X.w H s.heap a (.frz l u)from I.hok a _ O)
  have Q:xs.length=es.size:=by have:=G.length;rw[AC,CN]at this;exact this
  have A:i < es.size:=by rw[<-Q];exact m
  obtain⟨v,h1,h2⟩:=G.get (AO m);rw[Ad,Zb,V5 A]at h1;cases h1;obtain⟨R,S,f2,T,U,Y⟩:=C it (by simp)
  refine Srt.Ym st ⟨l,g,Z,hd⟩ A λB tx sb=>?_
  have I1:Inv X ζ σ H { s with heap:=B }:=I.turned (t':=s.toks) (λb o hb e=>(sb.2 b hb).trans e) R S T U Y;obtain⟨o,e,c,d⟩:=id tx;exact⟨_,rfl,Y9 (s:={ s with heap:=B }) e c d (by decide) ⟨_,H,I1,h2,⟨rfl,AO m⟩,tx,λb hb=>(C b hb).1⟩⟩
 done:=by
  intro X J hw L hc i ζ s σ H E I C st N;subst J hw L;obtain⟨O,m⟩:=N;obtain⟨g,_⟩:=(show D2 X.prog X.w H s.heap a (.frz l u)from I.hok a _ O)
  have Q:xs.length=es.size:=by have:=G.length;rw[AC,CN]at this;exact this
  obtain⟨R,S,f2,T,U,Y⟩:=C it (by simp)
  exact Srt.cB (I.ok.hd hc) st ⟨l,g,Z,hd⟩ (by rw[<-Q];exact m) λB eb=>⟨rfl,I.turned (t':=s.toks) (λb o hb e=>eb b o hb e) R S T U Y⟩
 self:=λ_ _ _ _ _ st h=>kj st h
theorem oV:∀{l:List Rg} {us:List (Key×AK)} {m:List (Key×V)},Pairs (Eu P w) l us->KV m us->CG (m.map λx=>kV x.1) (l.map (·.key)):=by
 intro l us m B
 induction B generalizing m with
 | nil=>intro h;cases h;exact .nil
 | cons C I _ G=>
  intro h
  cases h with
  | cons r t=>
   refine .cons ?_ (G t);dsimp only;rw[r.1]
   rcases D1 C with⟨i,t,o,A⟩ | ⟨x,t,o,A⟩
   ·rw[o,A];exact⟨t,rfl⟩
   ·rw[o,A];exact⟨t,rfl⟩
theorem j9:∀{l:List (List Key×V)} {xs:List (List Key×Ab×AK)},Gf (λ(p:List Key×V) (q:List Key×Ab×AK)=>p.1=q.1/\H q.2.1=some (.tup (p.1.map kV))/\RelV p.2 q.2.2) l xs->Gf (λ(k:List Key×V) b=>H b=some (.tup (k.1.map kV))) l (xs.map (·.2.1)):=by
 intro l xs h
 induction h with
 | nil=>exact .nil
 | cons r _ m=>exact .cons r.2.1 m
theorem eG(l:List Ab):CG (l.map V.ref) (l.map BW):=by
 induction l with
 | nil=>exact .nil
 | cons a l m=>exact .cons rfl m
noncomputable def iDct(A:TE):TI:=λσ H R=>A σ H λx m=>∃a o,x=.ref a/\((∃l,m a=some (.frz o (.dK l))/\R (Itk a o (.dK l) (l.map λx=>kV x.1)) m) ∨
 ∃l,m a=some (.frz o (.dT l))/\∀bs,Gf (λ(k:List Key×V) b=>m b=some (.tup (k.1.map kV))) l bs->R (Itk a o (.dT l) (bs.map V.ref)) m)
theorem me(U:PE X l Y):PI X tg l (iDct Y):=by
 intro ζ s σ H R I h
 refine thn (U ζ s σ H _ I h) λv s1 ⟨x,O,G,Z,q1⟩=>?_
 obtain⟨a,m,e,q⟩:=q1;subst e;cases Z
 have fin:∀{u:HO} {P:List V} {J:Array Rg} {Q:Nat},(a==Cm)=false->s1.heap.get? a=some m->m.ExactDict->m.data=.dict J Q->CG P (J.toList.map (·.key))->R (Itk a m u P) O ->
   Am (Aw X.prog X.w) X.A (qI (.ref a)) (PIE X ζ σ tg R) X.xe s1:=λL g B C hv q=>by
  refine Srt.Yn L ⟨m,g,B,C⟩ ?_;refine⟨s1.heap.objs.size,[s1.heap.objs.size],_,_,O,rfl,G.kept (t':=s1.toks) λb o e=>AR _ e,dY B C hv,⟨_,Ah _ rfl,rfl,rfl⟩,λb hb=>?_,q⟩
  have e:b=s1.heap.objs.size:=by simpa using hb
  subst e;exact G.fpOk (AM _) (G.hok.fresh (AM _))
 rcases q with⟨S,T,q⟩ | ⟨S,T,q⟩
 ·obtain⟨g,hz,L,us,kv,o,J,Q,N,B,C,g5,g6,_⟩:=(show D2 X.prog X.w O s1.heap a (.frz m (.dK S))from G.hok a _ T)
  rw[g]at N;cases N;exact fin L g B C (oV g6 kv) q
 ·obtain⟨g,hz,L,P,rr,o,J,Q,N,B,C,g4,_⟩:=(show D2 X.prog X.w O s1.heap a (.frz m (.dT S))from G.hok a _ T)
  rw[g]at N;cases N
  have hk:J.toList.map (·.key)=(P.map (·.2.1)).map BW:=by
   rw[g4,BB,BB];rfl
  exact fin L g B C (by rw[hk];exact eG _) (q _ (j9 rr))
noncomputable def Y5(d:D)(S:Sto):Option (List D):=match d with
 | .ref n=>match S[n]? with
  | some (.fK l)=>some (l.map λx=>aY x.1)
  | some (.fT l)=>some (l.map λx=>.tup (x.1.map aY))
  | _=>none
 | _=>none
noncomputable def cX(m:ME):MI:=λe S=>(m e S).bind λd l=>match Y5 d l with
 | some o=>.ok (FZ o) l
 | none=>.bad
theorem Te(G:H a=some (.frz I u))(J:A9 K ρ H ds xs):PP K ρ H (Itk a I u xs) (FZ ds):=by
 intro o P S Q i l s L;cases L;have A:=J.mono l;have m:=l.frz _ _ _ G;refine⟨λN=>⟨m,by rw[<-A.length];exact Go.mp N⟩,λd hd=>?_⟩;obtain⟨x,B,O⟩:=A.get hd;refine⟨⟨m,(AE.mp B).1⟩,λy R ⟨e,C⟩=>?_⟩;subst e;rw[B]at C;cases C;exact⟨o,.refl,s,O⟩
theorem nw(h:GE X E e m):GI X E tg e (cX m):=(me h).imp<|by
 rintro σ H R ⟨Q,l,S,T,U,B⟩
 refine⟨Q,l,S,T,U,B.seq λd Y B C N x O G Z=>?_⟩
 cases A:Y5 d Y with
 | none=>rw[A]at B;exact B.elim
 | some ds=>
  rw[A]at B
  cases Z with
  | @ref n a hn=>
   obtain⟨o,ho,P⟩:=G.there hn;unfold Y5 at A;simp only[ho]at A
   cases o with
   | fK f'=>
    cases A;obtain⟨I,J,e,L⟩:=P;exact⟨a,I,rfl,.inl ⟨J,e,B C N _ O G (Te e (QE L))⟩⟩
   | fT f'=>
    cases A;obtain⟨I,J,e,L⟩:=P;exact⟨a,I,rfl,.inr ⟨J,e,λbs hb=>B C N _ O G (Te e (Ug L hb))⟩⟩
   | _=>cases A
  | _=>cases A
theorem Inv.fz(I:Inv X ζ σ H s)(J:s.heap.get? a=some C)(B:H a=some u)(L:Mut (some u)):Inv X ζ σ (upd H a (.frz C u)) s:=by
 have m:∀b,H b=none->b≠a:=λb h z=>by subst z;rw[B]at h;cases h
 have l:∀b o,H b=some o->¬Mut (some o)->b≠a:=λb o h n z=>by subst z;rw[B]at h;cases h;exact n L
 have st:∀b o,D2 X.prog X.w H s.heap b o->D2 X.prog X.w (upd H a (.frz C u)) s.heap b o:=λb o x=>
  x.stay (λ_ _ _ q=>q) (λc r=>by rw[Bv (l c _ r λz=>z)];exact r) λc A r=>by rw[Bv (l c _ r λz=>z)];exact r
 refine⟨I.ok,I.os,I.bare,⟨I.base.keep,I.base.slot,λb o q n N=>?_,I.base.there,λb A q=>?_,λb o A q=>?_,λb O q=>?_⟩,I.loc,I.cell,?_,λx c q=>?_,λp P=>?_,λb o q=>?_,I.len⟩
 ·have:=I.base.free b o q n N
  rw[Bv (m b this)];exact this
 ·have:=I.base.tups b A q
  rw[Bv (l b _ this λz=>z)];exact this
 ·have:=I.base.frzs b o A q
  rw[Bv (l b _ this λz=>z)];exact this
 ·obtain⟨more,this⟩:=I.base.tbls b O q
  exact⟨more,by rw[Bv (l b _ this λz=>z)];exact this⟩
 ·rw[Bv (m _ I.free)];exact I.free
 ·rw[Bv (m _ (I.freeC x c q))];exact I.freeC x c q
 ·obtain⟨Q,G,R⟩:=I.pin p P
  exact⟨Q,by rw[Bv (m _ G)];exact G,R⟩
 ·by_cases hb:b=a
  ·subst hb
   rw[CB]at q;cases q;exact⟨J,st b u (I.hok b u B)⟩
  ·rw[Bv hb]at q
   exact st b o (I.hok b o q)
noncomputable def fzO:Ob->Option Ob
 | .dK l=>some (.fK l)
 | .dT l=>some (.fT l)
 | .fK l=>some (.fK l)
 | .fT l=>some (.fT l)
 | _=>none
noncomputable def sFz(i:Nat):MS:=λe S=>match e[i]? with
 | some (some (.ref n))=>match S[n]? with
  | some o=>match fzO o with
   | some l=>.ok (.nx e) (S.set n l)
   | none=>.bad
  | none=>.bad
 | _=>.bad
theorem YY{S:Sto}{n:Nat}{o:Ob}(h:S[n]?=some o):S.set n o=S:=by
 apply IH
 intro j;rw[De];split
 ·rename_i c
  subst c;split
  ·exact h.symm
  ·rename_i c;rw[Bs (Ky.mp c)]at h;cases h
 ·rfl
theorem w6{i:Nat}{st:DB}{R:MS}(h:GS X E st R):GS X E st (BH (sFz i) R):=by
 rintro ζ s σ H D I ⟨C,l,S,T,P,m⟩
 cases J:l[i]? with
 | none=>unfold BH sFz at m;rw[J]at m;exact m.elim
 | some x=>
  cases x with
  | none=>unfold BH sFz at m;rw[J]at m;exact m.elim
  | some d=>
   cases d with
   | ref n=>
    cases L:S[n]? with
    | none=>unfold BH sFz at m;rw[J]at m;dsimp only at m;rw[L]at m;exact m.elim
    | some o=>
     cases G:fzO o with
     | none=>unfold BH sFz at m;rw[J]at m;dsimp only at m;rw[L]at m;dsimp only at m;rw[G]at m;exact m.elim
     | some Z=>
      have N:Cj X.K noH C H (R l (S.set n Z)) λfl S'=>SV X.K E C H S' D fl:=by
       unfold BH sFz at m;rw[J]at m;dsimp only at m;rw[L]at m;dsimp only at m;rw[G]at m;exact m
      obtain⟨a,Q,ro⟩:=P.at L
      have fr:∀u,H a=some u->Mut (some u)->(∃B,s.heap.get? a=some B)->(∀B,Ed X.K C (upd H a (.frz B u)) a Z)->Am (Aw X.prog X.w) X.A (exec st X.env) _ _ s:=λu ha mu ⟨B,hg⟩ ra=>by
       have le:Le X.K C H C (upd H a (.frz B u)):=Le.write Q (by rw[ha];exact mu);obtain⟨s5,_⟩:=P.write Q (ra B) le;exact h ζ s σ _ D (I.fz hg ha mu) ⟨C,l,_,T.mono le,s5,N.go le λ_ _ k=>k.later le⟩
      cases o with
      | dK U=>
       cases G;obtain⟨O,e,Y⟩:=ro
       refine fr _ e trivial ?_ λB=>⟨B,O,CB,KVR.mono (Le.write Q (by rw[e];trivial)) Y⟩
       obtain⟨_,_,_,_,o,_,_,e,_⟩:=(show D2 X.prog X.w H s.heap a (.dK O)from I.hok a _ e);exact⟨o,e⟩
      | dT U=>
       cases G;obtain⟨O,e,Y⟩:=ro
       refine fr _ e trivial ?_ λB=>⟨B,O,CB,KVR.mono (Le.write Q (by rw[e];trivial)) Y⟩
       obtain⟨_,_,_,_,o,_,_,e,_⟩:=(show D2 X.prog X.w H s.heap a (.dT O)from I.hok a _ e);exact⟨o,e⟩
      | fK U=>cases G;rw[YY L]at N;exact h ζ s σ H D I ⟨C,l,S,T,P,N⟩
      | fT U=>cases G;rw[YY L]at N;exact h ζ s σ H D I ⟨C,l,S,T,P,N⟩
      | _=>cases G
   | _=>unfold BH sFz at m;rw[J]at m;exact m.elim
end
open PySem PySem.Spec PyProof.Rows
section
variable{K:AI}{ρ ρ':List Ab}{H H':Hp}{S:Sto}{L:Key->Int}{m n:Nat}{a:Ab}
mutual
theorem CM.cut(p:∀(n:Nat) a,ρ[n]?=some a->ρ'[n]?=some a):∀{d:D} {v o:V},CM K ρ H d v->CM K ρ' H' d o->CM K ρ H' d o
 | _,_,_,.non,.non=>.non
 | _,_,_,.bl _,.bl b=>.bl b
 | _,_,_,.int _,.int i=>.int i
 | _,_,_,.str _,.str x=>.str x
 | _,_,_,.tup _ r,.tup h l=>.tup h (A9.cut p r l)
 | _,_,_,.fro _ r,.fro h l=>.fro h (A9.cut p r l)
 | _,_,_,.ref h,.ref s=>by
  have e:=(p _ _ h).symm.trans s;cases e;exact .ref h
 | _,_,_,.exc _ _,.exc h e=>.exc h e
theorem A9.cut(p:∀(n:Nat) a,ρ[n]?=some a->ρ'[n]?=some a):∀{d:List D} {v l:List V},A9 K ρ H d v->A9 K ρ' H' d l->A9 K ρ H' d l
 | _,_,_,.nil,.nil=>.nil
 | _,_,_,.cons r t,.cons o s=>.cons (CM.cut p r o) (A9.cut p t s)
end
theorem KVR.cut(p:∀(n:Nat) a,ρ[n]?=some a->ρ'[n]?=some a):∀{x:List (o×D)} {y z:List (o×V)},KVR K ρ H x y->KVR K ρ' H' x z->KVR K ρ H' x z
 | _,_,_,.nil,.nil=>.nil
 | _,_,_,.cons r t,.cons l s=>.cons ⟨l.1,r.2.cut p l.2⟩ (KVR.cut p t s)
theorem Ed.cut(p:∀(n:Nat) a,ρ[n]?=some a->ρ'[n]?=some a)(h:Ed K ρ H a o)(h':Ed K ρ' H' a o):Ed K ρ H' a o:=by
 cases o with
 | lst A=>obtain⟨_,_,r⟩:=h;obtain⟨l,e,s⟩:=h';exact⟨l,e,r.cut p s⟩
 | dK A=>obtain⟨_,_,r⟩:=h;obtain⟨l,e,s⟩:=h';exact⟨l,e,KVR.cut p r s⟩
 | dT A=>obtain⟨_,_,r⟩:=h;obtain⟨l,e,s⟩:=h';exact⟨l,e,KVR.cut p r s⟩
 | ins C A=>obtain⟨_,_,_,r⟩:=h;obtain⟨B,l,e,s⟩:=h';exact⟨B,l,e,KVR.cut p r s⟩
 | fK A=>obtain⟨_,_,_,r⟩:=h;obtain⟨B,l,e,s⟩:=h';exact⟨B,l,e,KVR.cut p r s⟩
 | fT A=>obtain⟨_,_,_,r⟩:=h;obtain⟨B,l,e,s⟩:=h';exact⟨B,l,e,KVR.cut p r s⟩
 | mem L=>exact h'
noncomputable def o0(L:Key->Int)(l:List (Key×D)):Prop:=(l.map (·.1)).Nodup/\∀x∈l,x.1∈XR/\x.2=D.int (L x.1)
theorem cN:∀{o:List (Key×V)},(∀x∈o,x.2=V.int (L x.1))->KVR K ρ H (o.map λx=>(x.1,D.int (L x.1))) o
 | [],_=>.nil
 | (k,v) :: l,h=>.cons ⟨rfl,by rw[show v=V.int (L k)from h _ (AZ ..)];exact .int _⟩ (cN λx s=>h x (AV _ s))
theorem Y4:∀{s:List (Key×D)} {us:List (Key×V)},KVR K ρ H s us->(∀x∈s,x.1∈XR/\x.2=D.int (L x.1))->∀x∈us,x.1∈XR/\x.2=V.int (L x.1)
 | _,_,.nil,_,x,o=>by cases o
 | (k,d) :: l,(E,v) :: us,.cons r t,h,x,o=>by
  rcases Af.mp o with rfl | o
  ·obtain⟨e,r⟩:=r
   dsimp only at e r ⊢;subst e;obtain⟨A,B⟩:=h _ (AZ ..);dsimp only at A B;rw[B]at r;cases r;exact⟨A,rfl⟩
  ·exact Y4 t (λy C=>h y (AV _ C)) x o
theorem cT(r:KVR K ρ H l us)(h:o0 L l):(us.map (·.1)).Nodup/\∀x∈us,x.1∈XR/\x.2=V.int (L x.1):=⟨by rw[<-KVR.keys r];exact h.1,Y4 r h.2⟩
theorem Ch.swap(s:Ch K ρ S H)(A:S[m]?=some o)(h:∀a,ρ[m]?=some a->Ed K ρ H a o->Ed K ρ H a o'):Ch K ρ (S.set m o') H:=
 ⟨by rw[EB];exact s.len,s.nd,λj q b l hb=>by
  rw[De]at l;split at l
  ·rename_i c
   subst c;split at l
   ·cases l;exact h b hb (s.ob m o b A hb)
   ·cases l
  ·exact s.ob j q b l hb⟩
end
noncomputable def lmI:Res D->Int
 | .ok (.int z) _=>z
 | _=>0
noncomputable def t5(x:Str)(q:Nat)(S:Sto):Option Str:=match S[q]? with
 | some (.ins _ fs)=>match fs.lookup x with
  | some (.str y)=>some y
  | _=>none
 | _=>none
noncomputable def WL(x:Str)(ds:List D)(S:Sto):Option Nat:=match ds with
 | .ref q :: _=>match S[q]? with
  | some (.ins _ fs)=>match fs.lookup x with
   | some (.ref m)=>some m
   | _=>none
  | _=>none
 | _=>none
noncomputable def qE(f:List D->Sto->Res D)(ds:List D)(S:Sto)(m:Nat)(L:Key->Int)(z:Int):Prop:=
 ∀o,o0 L o->∃l s,f ds (S.set m (.dK o))=.ok (.int z) l/\l[m]?=some (.dK s)/\o0 L s/\∀n,n < S.length->n≠m->l[n]?=S[n]?
open Classical in
noncomputable def oy(x:Str)(f:List D->Sto->Res D)(ds:List D)(S:Sto):Res D:=match WL x ds S with
 | some m=>match S[m]? with
  | some (.mem L)=>match f ds (S.set m (.dK []))with
   | .ok (.int z) _=>if qE f ds S m L z then .ok (.int z) S else .bad
   | _=>.bad
  | _=>.bad
 | none=>.bad
noncomputable def nQ(x:Str)(o:List D->Sto->Key->Int)(f:List D->Sto->Res D)(ds:List D)(S:Sto):Res D:=match f ds S with
 | .ok .non l=>match WL x ds l with
  | some m=>match l[m]? with
   | some (.dK [])=>.ok .non (l.set m (.mem (o ds l)))
   | _=>.bad
  | none=>.bad
 | _=>.bad
section
variable{P:Bw}{w:CV}{K:AI}{mg:Str->Option AK}{base:DO}{CX:CXT}{k n:Nat}{fa:Ab}{fd:MN}{ps:List Str}{x:Str}{f:List D->Sto->Res D}{Lf:List D->Sto->Key->Int}
theorem t4(F:Cp P w K mg base CX k fa fd ps (spM K n f)):Cp P w K mg base CX k fa fd ps (spM K n (oy x f)):=F.imp<|by
 rintro vs H Q E ⟨J,R,S,T,U,B,A⟩
 unfold oy at A;split at A
 ·rename_i m hm
  split at A
  ·rename_i L G
   split at A
   ·rename_i z S0 hz
    split at A
    ·rename_i X
     obtain⟨a,Y,I,e,Z,N⟩:=B.at G
     obtain⟨S',vp,hf,zh,yC,hk⟩:=X (I.map λx=>(x.1,D.int (L x.1))) ⟨by rw[BB];exact Z,λy hy=>by
      obtain⟨u,hu,rfl⟩:=Ai.mp hy
      exact⟨(N u hu).1,rfl⟩⟩
     refine⟨J,R,S.set m (.dK (I.map λx=>(x.1,D.int (L x.1)))),T,U,B.swap G (λb hb _=>⟨I,?_,cN λx hx=>(N x hx).2⟩),?_⟩
     ·rw[Y]at hb;cases hb;exact e
     ·rw[hf]
      intro ρ' H' y l s r;cases r;refine A J H' _ ⟨λ_ _ h=>h,l.tup,l.frz,λa o e n=>⟨(l.oth a o e n).1,n⟩⟩ ⟨B.len,B.nd,λj o b C hb=>?_⟩ (.int z);have O:=l.pre j b hb
      by_cases c:j=m
      ·subst c
       rw[G]at C;cases C;obtain⟨us,e3,r3⟩:=s.ob j _ b zh O;exact⟨us,e3,cT r3 yC⟩
      ·exact(B.ob j o b C hb).cut l.pre (s.ob j o b ((hk j (AE.mp C).1 c).trans C) O)
    ·exact A.elim
   ·exact A.elim
  ·exact A.elim
 ·exact A.elim
theorem oI(F:Cp P w K mg base CX k fa fd ps (spM K n f)):Cp P w K mg base CX k fa fd ps (spM K n (nQ x Lf f)):=F.imp<|by
 rintro U H Q E ⟨B,C,S,G,I,J,o⟩
 unfold nQ at o;refine⟨B,C,S,G,I,J,?_⟩;split at o
 ·rename_i X L
  split at o
  ·rename_i m Y
   split at o
   ·rename_i N
    rw[L];intro A O y l s r;exact o A O y l (s.swap N λa Z ⟨R,e,r⟩=>⟨R,e,cT r ⟨EZ,λ_ T=>nomatch T⟩⟩) r
   ·exact o.elim
  ·exact o.elim
 ·exact o.elim
end
end L2
namespace L2
open PySem PySem.Spec PyProof.Rows PySem.W
section
variable{X:Cx}{k k' n:Nat}{x qual:Str}{st:DB}{ps:List Str}{p pos:Pos}{e:Expr}{es:List Expr}{ml:ML}{g:List D->Sto->Res D}
theorem gcl(D:Dfn X.K X.mg x qual st ps)(F:Cp X.prog X.w X.K X.mg X.base (CXG X.prog X.w) k D.f D.fd ps (spM X.K n g))(l:IE k' X.A)(o:GA X noE (e :: es) ml)(s:k<=k':=by decide)(B:X.xe=λ_ _=>False:=by rfl)(C:Gl X x:=by rfl)
  (E:(x==("__debug__" : Str))=false:=by decide) (G:Aa (e :: es) X.env=(false,CF e X.env) :: Aa es X.env:=by rfl) (H:(Eo pos (Aa es X.env)).any (·.1)=false:=by rfl) :
  GE X noE (.Call (.Name x p) (e :: es) [] pos) (BX n g ml):=OI F (good_none B).pass (l.mono s) C D.m D.kp D.b o E G H
end
noncomputable abbrev FnAt(K:Frag)(x l:Str)(st:DB)(f:Ab):Prop:=∃(s:AK) (A:Option Ab) (kV m B:AK) (C:Option Ab) (o ct:AK) (E:Array (Option AK)),
 K.lookup f=some ⟨s,A,.func (fnOf x l (M1 st) (Jj st) (A0 st) .none kV m B C o ct),E⟩/\codeIn K o l=true/\keepIn K (.ref f)=true
noncomputable abbrev DY(K:Frag)(x:Str)(st:DB)(f:Ab):Prop:=Rw K BZ x=some (some (.ref f))/\FnAt K x x st f
noncomputable abbrev Oo(K:Frag)(C:Ab)(x l:Str)(st:DB)(f:Ab):Prop:=findIn K (.ref C) x=some (some (.ref f))/\isFn K (.ref f)=true/\FnAt K x l st f
noncomputable abbrev ClsAt(K:Frag)(x:Str)(C:Ab):Prop:=Rw K BZ x=some (some (.ref C))/\plainGet K C Str.empty=true/\hasDictIn K C=true/\plainOver K C=true/\findIn K (.ref C) "__setattr__" = some (some (.builtin "object.__setattr__"))/\makesIn K C=true/\keepIn K (.ref C)=true
noncomputable def bM(st:DB)(ps:List Str):Prop:=∀(x l:Str) (kV m s:AK) (A:Option Ab) (B ct:AK) (o:List AK),o.length=ps.length->kx (fnOf x l (M1 st) (Jj st) (A0 st) .none kV m s A B ct) ⟨o,[]⟩=pure (ps.zip o)
section
variable{K:Frag}{h:DO}{mg:Str->Option AK}{x qual:Str}{st:DB}{f C:Ab}{ps:List Str}{a b c d e:Str}
theorem FnAt.fd(z:FnAt K x qual st f):∃fd,Fun K x qual st f fd:=by
 obtain⟨o,s,kV,m,A,B,E,ct,G,l,c,k⟩:=z;exact⟨_,jq l c k⟩
noncomputable def mkD(X:K.In h)(G:h.Ns BZ mg)(z:DY K x st f)(b:bM st ps):Dfn K mg x x st ps:=⟨f,(FnAt.fd z.2).choose,(FnAt.fd z.2).choose_spec,(FnAt.fd z.2).choose_spec.binds (b x x),fj X G z.1⟩
noncomputable def mkM(z:Oo K C x qual st f)(b:bM st ps):Mtd K x qual st ps:=⟨f,(FnAt.fd z.2.2).choose,(FnAt.fd z.2.2).choose_spec,(FnAt.fd z.2.2).choose_spec.binds (b x qual)⟩
theorem FnAt.kp(z:FnAt K x qual st f):keepIn K (.ref f)=true:=by
 obtain⟨o,s,kV,m,A,B,E,ct,G,l,c,k⟩:=z;exact k
theorem mkE(z:Oo K C x qual st f):Xr K C x f:=⟨z.1,z.2.1,FnAt.kp z.2.2⟩
theorem mkO(X:K.In h)(G:h.Ns BZ mg)(z:ClsAt K y C)(i:Oo K C "__init__" qual st f):Own K mg y C f:=⟨⟨z.2.1,z.2.2.1,z.2.2.2.1,z.2.2.2.2.1⟩,⟨z.2.2.2.2.2.1,i.1,i.2.1,z.2.2.2.2.2.2⟩,fj X G z.1⟩
noncomputable abbrev bnd(st:DB)(ps:List Str)(us:List AK):Prop:=∀(x qual:Str) (kV l m:AK) (o:Option Ab) (s ct:AK),kx (fnOf x qual (M1 st) (Jj st) (A0 st) .none kV l m o s ct) ⟨us,[]⟩=pure (ps.zip us)
theorem bd1(z:∀u,bnd st [a] [u]):bM st [a]:=λx q k d p n c t m l=>by obtain⟨u,rfl⟩:=su l;exact z u x q k d p n c t
theorem bd2(z:∀u v,bnd st [a,b] [u,v]):bM st [a,b]:=λx q k d p n c t m l=>by obtain⟨u,v,rfl⟩:=wc l;exact z u v x q k d p n c t
theorem bd3(z:∀u v w,bnd st [a,b,c] [u,v,w]):bM st [a,b,c]:=λx q k d p n c t m l=>by obtain⟨u,v,w,rfl⟩:=wb l;exact z u v w x q k d p n c t
theorem bd4(z:∀u v w y,bnd st [a,b,c,d] [u,v,w,y]):bM st [a,b,c,d]:=λx q k d p n c t m l=>by obtain⟨u,v,w,y,rfl⟩:=wa l;exact z u v w y x q k d p n c t
theorem bd5(z:∀u v w y l,bnd st [a,b,c,d,e] [u,v,w,y,l]):bM st [a,b,c,d,e]:=λx q k d p n c t o m=>by obtain⟨u,v,w,y,l,rfl⟩:=len5 m;exact z u v w y l x q k d p n c t
end
open PySem PySem.Spec PyProof.Rows
section
variable{X:Cx}{E:EW}{e:Expr}{p pos:Pos}{m:ME}
noncomputable def rAbs:List V->Hp->VK->Prop:=λl H Q=>∃i,l=[.int i]/\Q (.int (if i < 0 then -i else i)) H
theorem fb:NG X (.builtin "abs") rAbs:=by
 intro A s B H C G Q I l h;obtain⟨i,rfl,q⟩:=h;obtain⟨v,rfl,o⟩:=vals1 l;obtain⟨t,rfl⟩:=o
 exact call_abs_int λu J=>⟨.int _,H,I.tok _,⟨_,rfl⟩,q⟩
noncomputable def nU(m:ME):ME:=λe S=>(m e S).bind λd l=>match d with
 | .int i=>.ok (.int (if i < 0 then -i else i)) l
 | _=>.bad
theorem tu(B:Gl X "abs") (o:X.mg "abs" = none) (h:GE X E e m) (A:Aa [e] X.env=(false,CF e X.env) :: Aa [] X.env:=by rfl):GE X E (.Call (.Name "abs" p) [e] [] pos) (nU m):=
 (Nh fb B o xm (Hd h LH A) (by decide) (by decide) A rfl).imp<|by
 rintro P H Q ⟨C,l,S,G,I,o⟩
 refine⟨C,l,S,G,I,o.seq λd R o s J x L N O=>?_⟩
 cases d <;> first | exact o.elim | skip
 cases O;exact⟨_,rfl,o s J _ L N (.int _)⟩
end
end L2
namespace PySem
section
variable{prog:Bw}{w:CV}{K:Type}[DecidableEq K]{knd:HeapKind prog w K}{A:Cf}{E:AK->AS->Prop}{s:AS}
noncomputable def ah:AK->Option Int
 | .int i _=>some i
 | _=>none
noncomputable def Na(l:List (K×Ab×AK))(x:K×Ab×AK):Bool:=match ON l x.1 with
 | some p=>ah p.2==ah x.2.2
 | none=>false
theorem dw{nm:String}{a b:Ab}{xa l:List (K×Ab×AK)}{Q:Bool->AS->Prop}(hu:knd.room A)(ha:(a==Cm)=false)(hb:(b==Cm)=false)
  (da:s.heap.DictOfH knd a xa) (db:s.heap.DictOfH knd b l) (ia:∀x∈xa,∃i t,x.2.2=.int i t) (ib:∀x∈l,∃i t,x.2.2=.int i t) (h:Q (xa.length==l.length&&xa.all (Na l)) s) :
  Am (Aw prog w) A (Sf nm a b) Q E s:=by
 obtain⟨oa,o,ep,G,_,H,U,Z,_⟩:=da;obtain⟨ob,η,ep',E',_,yI,N,isb,X⟩:=db;have I:o.size=xa.length:=xX U;have Y:η.size=l.length:=xX N;unfold Sf Ld;rw[qY (show ¬(a==Cm)=true by rw[ha];exact AN),qY (show ¬(b==Cm)=true by rw[hb];exact AN)];refine AB (AL (AB (AL ?_)));refine AB (E9 G H ?_);dsimp only;refine AB (E9 E' yI ?_)
 by_cases J:o.size=η.size
 case neg=>
  rw[qX (by simpa using J)]
  have hbf:(xa.length==l.length)=false:=by rw[<-I,<-Y];simpa using J
  rw[hbf,OY]at h;exact AB (TH (AL h))
 case pos=>
  have T:Q (xa.all (Na l)) s:=by
   have:(xa.length==l.length)=true:=by rw[<-I,<-Y];simpa using J
   rw[this,Xz]at h;exact h
  rw[qY (by rw[J];simp)];refine AB (Ku G H ?_);refine AB ?_;rw[pG];simp only[pF,Nat.sub_zero,Nat.add_sub_cancel,Nat.div_one]
  refine wpAny_forIn_list _
   (λB q s'=>s'=s/\q=(none,())/\∃i,B=Gc i (o.size - i)/\i<=o.size/\xa.all (Na l)=(xa.drop i).all (Na l))
   _ ?_ ?_ _ _ ⟨rfl,rfl,0,by simp,Do _,by simp⟩
  ·rintro x B q s' ⟨rfl,rfl,i,O,hi,C⟩
   have ye:i < o.size:=by
    rcases Zi i o.size with h | h
    ·exact h
    ·rw[Nat.sub_eq_zero_of_le h]at O;simp at O
   obtain⟨rfl,P⟩:x=i/\B=Gc (i+1) (o.size - (i+1)):=by
    have e:o.size - i=(o.size - (i+1))+1:=by omega
    rw[e,Sd]at O
    injection O with h1 h2
    exact⟨h1,h2⟩
   refine AB (E9 G H ?_)
   have L:x < xa.length:=by rw[<-I];exact ye
   obtain⟨k,c,v,R⟩:∃k c v,xa[x]=(k,c,v):=⟨_,_,_,rfl⟩
   have yR:(k,c,v)∈xa:=by rw[<-R];exact Du _
   have S:xa.drop x=(k,c,v) :: xa.drop (x+1):=by rw[<-R];exact C0 L
   have hex:o[x]?=some (qK knd (k,c,v)):=by rw[entry_at U x,AO L,R];rfl
   rw[hex];obtain⟨n,t,hv⟩:=ia _ yR;have hv:v=.int n t:=hv;subst hv;rw[S,MD]at C;show Am _ _ (RY [BW c,KY n t] _ >>= _) _ _ _;refine AB (IC (AB (wpAny_dictFind_heap hu (Z _ yR) E' yI N isb X (λyB=>?_) λj p hj=>?_)))
   ·have hn:ON l k=none:=atKey_none_of_get yB
    have e0:Na l (k,c,KY n t)=false:=by unfold Na;rw[hn]
    rw[e0,OY]at C;rw[C]at T;refine AL ?_;show Am _ _ (if (!false)=true then _ else _) _ _ _;rw[qX (by decide)];exact AL (AL T)
   ·have hn:ON l k=some p:=atKey_of_get X hj
    have hey:η[j]?=some (qK knd (k,p)):=by rw[entry_at N j,hj];rfl
    refine AB (E9 E' yI ?_);rw[hey];obtain⟨m,u,hm⟩:=ib _ (Al hj)
    have e0:Na l (k,c,KY n t)=(n==m):=by
     unfold Na;rw[hn];show(ah p.2==some n)=_;rw[hm];show(some m==some n)=_;rw[NV];simp;exact⟨λe=>e.symm,λe=>e.symm⟩
    show Am _ _ (RY [p.2] (eqBool (KY n t) p.2)) _ _ _;rw[hm];refine IC (Wf ?_);rw[e0]at C
    cases hq:(n==m)with
    | false=>
     rw[hq,OY]at C;rw[C]at T;show Am _ _ (if (!false)=true then _ else _) _ _ _;rw[qX (by decide)];exact AL (AL T)
    | true=>
     rw[hq,Xz]at C;show Am _ _ (if (!true)=true then _ else _) _ _ _;rw[qY (by decide)];refine AB (Ku G H ?_);rw[qY (by simp)];exact AL ⟨rfl,rfl,x+1,P,ye,C⟩
  ·rintro q s' ⟨rfl,rfl,i,O,hi,C⟩
   have hin:i=o.size:=by
    rcases Zi i o.size with h | h
    ·have e:o.size - i=(o.size - (i+1))+1:=by omega
     rw[e,Sd]at O;exact nomatch O
    ·exact pK hi h
   refine AL ?_;rw[hin,I,List.drop_length]at C;rw[C]at T;exact T
theorem nM{a b:Ab}{l m:List (K×Ab×AK)}{Q:AK->AS->Prop}(C:knd.room A.in1)(G:(a==Cm)=false)(hb:(b==Cm)=false)
  (o:s.heap.DictOfH knd a l) (B:s.heap.DictOfH knd b m) (H:∀x∈l,∃i t,x.2.2=.int i t) (I:∀x∈m,∃i t,x.2.2=.int i t) (J:A.units < FK) (h:Q (.bool (!(l.length==m.length&&l.all (Na m)))) s) :
  Am (Aw prog w) A (B2 .NotEq (.ref a) (.ref b)) Q E s:=by
 refine wpAny_richCompare_same_room (op:=.NotEq) o.typeIs B.typeIs X4 (Da X4 o.typeIs PySem.F.entry_dict_ne ?_ (PySem.F.args_dict_ne_2 _ _)) J;show Am _ _ (Qn "__ne__" ⟨[.ref a,.ref b],[]⟩ >>= _) _ _ s;refine AB ?_;unfold Qn;refine AB (kc o.typeIs ?_);show Am _ _ (pure (BW a,BW b)) _ _ s;refine AL ?_;refine AB (We (T:="dict") B.typeIs PySem.F.sub_dict_dict ?_);simp only[Pj,DM,if_false];refine AB (AL (AB (AL ?_)));refine AB (dw C G hb o B H I ?_);refine AL ⟨_,rfl,?_,?_⟩
 ·exact λx=>nomatch x
 ·simpa using h
end
end PySem
namespace L2
open PySem PySem.Spec PyProof.Rows
noncomputable def ivK:List (List Key×D)->Option (List (List Key×Int))
 | []=>some []
 | (k,.int i) :: r=>(ivK r).map ((k,i) :: ·)
 | _ :: _=>none
noncomputable def Od{o s:Type}[DecidableEq o][DecidableEq s](l m:List (o×s)):Bool:=l.length==m.length&&l.all λx=>decide (An m x.1=some x.2)
noncomputable def jG(x y:D)(S:Sto):Res D:=match x,y with
 | .ref n,.ref m=>match S[n]?,S[m]? with
  | some (.dT l),some (.dT o)=>match ivK l,ivK o with
   | some s,some A=>.ok (.bl (!Od s A)) S
   | _,_=>.bad
  | _,_=>.bad
 | _,_=>.bad
noncomputable abbrev PrI:List (List Key×Int)->List (List Key×Ab×AK)->Prop:=Gf λp q=>p.1=q.1/\∃t,q.2.2=.int p.2 t
theorem vx{l:List (List Key×Int)}{xs:List (List Key×Ab×AK)}(h:PrI l xs)(k:List Key):(ON xs k).map (λp=>ah p.2)=(An l k).map some:=by
 induction h with
 | nil=>rfl
 | @cons p q l xs r _ m=>
  obtain⟨e,t,o⟩:=r;unfold ON An at m ⊢;rw[CD,CD]
  by_cases c:p.1=k
  ·rw[wX c,wX (show q.1=k by rw[<-e];exact c)]
   show some (ah q.2.2)=some (some p.2);rw[o];rfl
  ·rw[wY c,wY (show ¬q.1=k by rw[<-e];exact c)]
   exact m
theorem rj{m:List (List Key×Int)}{s:List (List Key×Ab×AK)}(hb:PrI m s){l:List (List Key×Int)}{xs:List (List Key×Ab×AK)}(h:PrI l xs):xs.all (Na s)=l.all λx=>decide (An m x.1=some x.2):=by
 induction h with
 | nil=>rfl
 | @cons p q l xs r _ B=>
  obtain⟨e,t,C⟩:=r;rw[MD,MD,B]
  congr 1
  unfold Na;have:=vx hb q.1;rw[<-e]at this ⊢;rw[C]
  cases A:ON s p.1 with
  | none=>
   rw[A]at this
   cases o:An m p.1 with
   | none=>rfl
   | some z=>rw[o]at this;cases this
  | some z=>
   rw[A]at this
   cases o:An m p.1 with
   | none=>rw[o]at this;cases this
   | some y=>
    rw[o]at this;have E:ah z.2=some y:=Bq this;show(ah z.2==some p.2)=decide (some y=some p.2);rw[E,NV];simp
theorem io{K:AI}{ρ:List Ab}{H:Hp}:∀{m:List (List Key×D)} {l:List (List Key×Int)} {s:List (List Key×V)} {xs:List (List Key×Ab×AK)},ivK m=some l->KVR K ρ H m s->KT H s xs->PrI l xs
 | [],l,_,_,h,.nil,.nil=>by cases h;exact .nil
 | (k,d) :: m,l,_,_,h,.cons r t,.cons A E=>by
  cases d <;> first | (cases h;done) | skip
  rename_i i;unfold ivK at h
  cases o:ivK m with
  | none=>rw[o]at h;cases h
  | some I=>
   rw[o]at h;cases h;refine .cons ⟨?_,?_⟩ (io o t E)
   ·exact r.1.trans A.1
   ·have B:=r.2
    generalize G:(Prod.snd _:V)=v at B;cases B;have C:=A.2.2;rw[G]at C;exact C
section
variable{X:Cx}
theorem sX(hu:X.A.units+64 < FK):OpR X (B2 .NotEq) (rD X.K jG):=by
 intro ζ s σ H x y v u Q I T U h;obtain⟨Y,S,a,b,d,S',E,Z,rb,o,k⟩:=h
 cases a <;> first | (cases o;done) | skip
 cases b <;> first | (cases o;done) | skip
 rename_i n m
 cases Z with
 | @ref _ p hn=>
 cases rb with
 | @ref _ q zh=>
 cases T;cases U;obtain⟨o1,G,J⟩:=E.there hn;obtain⟨o2,B',L⟩:=E.there zh;unfold jG at o;simp only[G,B']at o
 cases o1 <;> first | (cases o;done) | skip
 cases o2 <;> first | (cases o;done) | skip
 rename_i k1 k2;dsimp only at o
 cases C:ivK k1 with
 | none=>rw[C]at o;cases o
 | some l1=>
  cases N:ivK k2 with
  | none=>rw[C,N]at o;cases o
  | some l2=>
   rw[C,N]at o;cases o;obtain⟨w1,g1,r1⟩:=J;obtain⟨w2,g2,r2⟩:=L;obtain⟨_,a1,x1,t1,d1⟩:=kA I.hok g1;obtain⟨_,a2,x2,t2,d2⟩:=kA I.hok g2;have O:=io C r1 t1;have P:=io N r2 t2
   have allI:∀{l:List (List Key×Int)} {R:List (List Key×Ab×AK)},PrI l R->∀x∈R,∃i t,x.2.2=.int i t:=λh=>by
    induction h with
    | nil=>intro x B;cases B
    | cons r _ ih=>
     intro x B
     rcases Af.mp B with rfl | B
     ·exact⟨_,r.2⟩
     ·exact ih x B
   refine nM (IN (by lia)) a1 a2 d1 d2 (allI O) (allI P) (by lia) ?_;rw[rj P O,<-EG O,<-EG P];exact⟨.bl _,H,I,rfl,k Y H _ .refl E (.bl _)⟩
end
noncomputable abbrev Cx.q(X:Cx):Cx:={ X with xe:=λ_ _=>False }
noncomputable def Dg(n:Nat)(mb:MS)(ds:List D)(S:Sto):Res D:=(okR (mb (IS n ds) S)).bind λf l=>match f with
 | .rt d=>.ok d l
 | .nx _=>.ok .non l
 | _=>.bad
section
variable{P:Bw}{w:CV}{K:AI}{mg:Str->Option AK}{base:DO}
theorem oH{x B}{st}{f}{fd}{N ps}{k n}(F:Fun K x B st f fd)(Z:BV N ps (A0 st))(hn:ps.length=n){mb}
  (yV:∀(O:AK) (A:Cf) (o:List Env) (s:AS) (H:Hp) (E:XK),IE k (A.deeper (Oq B (A0 st) s.heap.objs.size f O))->GSs (ay (CXG P w) P w K mg base N B (A0 st) f O A o s H E).q noE (Jj st) mb) :
  Cp P w K mg base (CXG P w) (k+1) f fd ps (spM K n (Dg N.length mb)):=by
 obtain⟨oc,od,kV,doc,pm,an,O,ct,zB,rfl,lk,zp⟩:=F.ex
 refine xE lk zp Z (λvs H Q E h=>by rw[hn];exact h.len) λA o s H vs Q E L h=>?_
 obtain⟨ρ,ds,S,h1,h2,h3,C⟩:=h;have hb:=yV O A o s H E L;refine⟨gS K noE mb,λζ R σ T D I q=>IM (hb ζ R σ T D (I.with _) q) (λU s1 z=>?_) λe s1 z=>z.elim,ρ,_,S,Z6 h2,h3,?_⟩
 ·cases U with
  | next=>obtain⟨m,G,J,z⟩:=z;exact⟨m,G,J.without,z⟩
  | brk=>obtain⟨m,G,J,z⟩:=z;exact⟨m,G,J.without,z⟩
  | cont=>obtain⟨m,G,J,z⟩:=z;exact⟨m,G,J.without,z⟩
  | ret u=>obtain⟨v,m,G,J,r,z⟩:=z;exact⟨v,m,G,J.without,r,z⟩
 ·unfold Dg at C
  cases L:mb (IS N.length ds) S with
  | bad=>rw[L]at C;exact C.elim
  | err c S'=>rw[L]at C;exact C.elim
  | ok U S'=>
   rw[L]at C
   cases U with
   | nx X=>exact λY T m l R r=>C Y T .non l R .non
   | rt d=>exact C
   | bk X=>exact C.elim
   | ct X=>exact C.elim
   | ex c X=>exact C.elim
end
end L2
namespace M
open PySem L2
noncomputable abbrev oN(e:L2.Lo)(S:L2.Sto):L2.Res L2.Fl:=.ok (.nx e) S
noncomputable abbrev yN:Option L2.D:=some .non
noncomputable abbrev sR(n:Nat):Option L2.D:=some (.ref n)
noncomputable abbrev sI(i:Int):Option L2.D:=some (.int i)
noncomputable abbrev sF(l:ZLi):Option L2.D:=some (.fro (l.map L2.D.int))
theorem HU(h:mb (IS n ds) S=.ok (.rt d) S1):Dg n mb ds S=.ok d S1:=by unfold Dg;rw[h];rfl
theorem aI(h:mb (IS n ds) S=.ok (.nx e) S1):Dg n mb ds S=.ok .non S1:=by unfold Dg;rw[h];rfl
end M
namespace L4
open PySem L2
inductive Cel where
 | no | fz (o:Ob) | ow (i:Nat)
noncomputable abbrev Fz:=Nat->Cel
inductive Sl where
 | u | v (d:D) | z (o:Ob) | y (o:Ob) | w (i:Nat) (o:Ob) | q (P:(Nat->Option Ob)->D->Prop)
noncomputable def Sl.ok(S0:Sto)(F:Fz)(S:Sto):Sl->Option D->Prop
 | .u,_=>True
 | .v d,x=>x=some d
 | .z o,x=>∃n,x=some (.ref n)/\F n=.fz o
 | .y o,x=>∃n,x=some (.ref n)/\F n=.fz o/\S0.length<=n
 | .w i o,x=>∃n,x=some (.ref n)/\F n=.ow i/\S[n]?=some o
 | .q P,x=>∃d,x=some d/\∀L:Nat->Option Ob,(∀n o,F n=.fz o->L n=some o)->P L d
structure Vs(S0:Sto)(A:List Sl)(e:Lo)(F:Fz)(S:Sto):Prop where
 kp:Keeps S0 S
 fz:∀n o,F n=.fz o->S[n]?=some o
 ow:∀n i,F n=.ow i->S0.length<=n/\n < S.length
 hi:∀n,S.length<=n->F n=.no
 sl:∀(i:Nat) (a:Sl),A[i]?=some a->∃x,e[i]?=some x/\a.ok S0 F S x
noncomputable def Fle(F l:Fz):Prop:=∀n o,F n=.fz o->l n=.fz o
theorem Fle.refl(F:Fz):Fle F F:=λ_ _ h=>h
theorem Fle.trans(a:Fle F G)(b:Fle G H):Fle F H:=λn o h=>b n o (a n o h)
noncomputable def RO(F:Fz)(S l:Sto):Fz:=λn=>if n < S.length then F n else match l[n]? with
 | some o=>.fz o
 | none=>.no
section
variable{S0 S S':Sto}{A B:List Sl}{e:Lo}{F:Fz}{α β γ ρ σ τ:Type}
theorem Gw(h:n < S.length):RO F S S' n=F n:=qX h
theorem QT(h:S.length<=n)(ho:S'[n]?=some o):RO F S S' n=.fz o:=by
 unfold RO;rw[qY (Ky.mpr h),ho]
theorem Bf(h:S[n]?=some o):n < S.length:=(AE.mp h).1
theorem Sl.mono{S0:Sto}{F s:Fz}{S S':Sto}{a:Sl}{x:Option D}(h:a.ok S0 F S x)(C:∀n o,F n=.fz o->s n=.fz o)(G:∀n i o,F n=.ow i->S[n]?=some o->s n=.ow i/\S'[n]?=some o):a.ok S0 s S' x:=by
 cases a with
 | u=>trivial
 | v d=>exact h
 | z o=>obtain⟨n,l,m⟩:=h;exact⟨n,l,C _ _ m⟩
 | y o=>obtain⟨n,l,m,E⟩:=h;exact⟨n,l,C _ _ m,E⟩
 | w i o=>obtain⟨n,l,m,E⟩:=h;exact⟨n,l,G _ _ _ m E⟩
 | q P=>obtain⟨d,l,m⟩:=h;exact⟨d,l,λL H=>m L λn o q=>H n o (C n o q)⟩
theorem Vs.fle(h:Vs S0 A e F S)(S':Sto):Fle F (RO F S S'):=λn o q=>by rw[Gw (Bf (h.fz n o q))];exact q
theorem Vs.grow(h:Vs S0 A e F S)(k:Keeps S S'):Vs S0 A e (RO F S S') S':=by
 refine⟨h.kp.trans k,λn o q=>?_,λn i q=>?_,λn m=>?_,λi a C=>?_⟩
 ·unfold RO at q
  split at q
  ·rename_i m
   rw[k.2 n m];exact h.fz n o q
  ·cases l:S'[n]? with
   | none=>rw[l]at q;cases q
   | some E=>rw[l]at q;cases q;rfl
 ·unfold RO at q
  split at q
  ·exact⟨(h.ow n i q).1,AX (h.ow n i q).2 k.1⟩
  ·cases l:S'[n]? with
   | none=>rw[l]at q;cases q
   | some E=>rw[l]at q;cases q
 ·unfold RO
  rw[qY (Ky.mpr (Aj k.1 m)),Bs m]
 ·obtain⟨x,G,H⟩:=h.sl i a C
  exact⟨x,G,Sl.mono H (h.fle S') λn i o I s=>⟨by rw[Gw (Bf s)];exact I,by rw[k.2 n (Bf s)];exact s⟩⟩
theorem Vs.cons(h:Vs S0 A e F S)(l:a.ok S0 F S x):Vs S0 (a :: A) (x :: e) F S:=
 ⟨h.kp,h.fz,h.ow,h.hi,λi b hb=>by
  cases i with
  | zero=>cases hb;exact⟨x,rfl,l⟩
  | succ i=>exact h.sl i b hb⟩
theorem Vs.set(h:Vs S0 A e F S)(i:Nat)(l:a.ok S0 F S x):Vs S0 (A.set i a) (e.set i x) F S:=
 ⟨h.kp,h.fz,h.ow,h.hi,λj b hb=>by
  by_cases c:i=j
  ·subst c
   rw[De]at hb;rw[qX rfl]at hb;split at hb
   ·rename_i m
    cases hb;obtain⟨y,o,_⟩:=h.sl i (A[i]) (AO m);exact⟨x,by rw[De];rw[qX rfl,qX (AE.mp o).1],l⟩
   ·cases hb
  ·rw[Ae c]at hb ⊢
   exact h.sl j b hb⟩
inductive Wk:List Sl->List Sl->Prop where
 | nil:Wk [] []
 | same {a:Sl} {A B:List Sl}:Wk A B->Wk (a :: A) (a :: B)
 | drop {a:Sl} {A B:List Sl}:Wk A B->Wk (a :: A) (.u :: B)
 | less {o:Ob} {A B:List Sl}:Wk A B->Wk (.y o :: A) (.z o :: B)
theorem Wk.at:∀{A B:List Sl},Wk A B->∀(i:Nat) (b:Sl),B[i]?=some b->∃a,A[i]?=some a/\(b=.u∨b=a∨∃o,a=.y o/\b=.z o)
 | _,_,.nil,i,b,h=>by simp at h
 | _,_,.same w,0,b,h=>by cases h;exact⟨_,rfl,.inr (.inl rfl)⟩
 | _,_,.less w,0,b,h=>by cases h;exact⟨_,rfl,.inr (.inr ⟨_,rfl,rfl⟩)⟩
 | _,_,.less w,i+1,b,h=>Wk.at w i b h
 | _,_,.drop w,0,b,h=>by cases h;exact⟨_,rfl,.inl rfl⟩
 | _,_,.same w,i+1,b,h=>Wk.at w i b h
 | _,_,.drop w,i+1,b,h=>Wk.at w i b h
theorem Wk.refl:∀A:List Sl,Wk A A
 | []=>.nil
 | _ :: A=>.same (Wk.refl A)
theorem Vs.weak(h:Vs S0 A e F S)(w:Wk A B):Vs S0 B e F S:=⟨h.kp,h.fz,h.ow,h.hi,λi b hb=>by
 obtain⟨a,s,C⟩:=w.at i b hb;obtain⟨x,l,m⟩:=h.sl i a s
 rcases C with rfl | rfl | ⟨o,rfl,rfl⟩
 ·exact⟨x,l,trivial⟩
 ·exact⟨x,l,m⟩
 ·obtain⟨n,E,G,_⟩:=m
  exact⟨x,l,n,E,G⟩⟩
noncomputable def Sl.oth(i:Nat):Sl->Bool
 | .w k _=>!(Nat.beq k i)
 | _=>true
theorem i5(h:((A.set i .u).all (Sl.oth i))=true)(m:j≠i)(s:A[j]?=some (.w k o)):k≠i:=by
 have C:(A.set i .u)[j]?=some (.w k o):=by rw[Ae (Ck m)];exact s
 have:=ES.mp h _ (Al C);intro e;subst e;have l:(!(Nat.beq k k))=true:=this;rw[Nat.beq_refl]at l;cases l
theorem Vs.put(h:Vs S0 A e F S)(I:((A.set i .u).all (Sl.oth i))=true)(Q:A[i]?=some (.w i o))(J:e[i]?=some (some (.ref n)))(s:F n=.ow i):Vs S0 (A.set i (.w i o')) e F (S.set n o'):=by
 have G:=h.ow n i s;refine⟨h.kp.set G.1 o',λk q C=>?_,λk j q=>by rw[EB];exact h.ow k j q,λk H=>h.hi k (by rw[EB]at H;exact H),λj b hb=>?_⟩
 ·have:n≠k:=λc=>by subst c;rw[s]at C;cases C
  rw[Ae this];exact h.fz k q C
 ·by_cases c:i=j
  ·subst c
   rw[De]at hb;rw[qX rfl]at hb;split at hb
   ·cases hb
    exact⟨_,J,n,rfl,s,by rw[De];rw[qX rfl,qX G.2]⟩
   ·cases hb
  ·rw[Ae c]at hb
   obtain⟨x,L,l⟩:=h.sl j b hb;refine⟨x,L,?_⟩
   cases b with
   | u=>trivial
   | v d=>exact l
   | z q=>exact l
   | y q=>exact l
   | q P=>exact l
   | w k q=>
    obtain⟨m,N,E,O⟩:=l;refine⟨m,N,E,?_⟩
    have:n≠m:=λz=>by
     subst z;rw[s]at E;cases E;exact i5 I (λz=>c z.symm) hb rfl
    rw[Ae this];exact O
theorem Vs.freeze(h:Vs S0 A e F S)(O:((A.set i .u).all (Sl.oth i))=true)(Q:A[i]?=some (.w i o)):∃F',Vs S0 (A.set i (.y o)) e F' S/\Fle F F':=by
 obtain⟨x,R,n,rfl,I,N⟩:=h.sl i _ Q
 have g:∀k,k≠n->(if k=n then Cel.fz o else F k)=F k:=λk G=>qY G
 have H:Fle F (λk=>if k=n then Cel.fz o else F k):=λk q s=>by
  have:k≠n:=λc=>by subst c;rw[I]at s;cases s
  show(if k=n then Cel.fz o else F k)=_;rw[qY this];exact s
 refine⟨λk=>if k=n then .fz o else F k,⟨h.kp,λk q s=>?_,λk j q=>?_,λk G=>?_,λj b hb=>?_⟩,H⟩
 ·split at s
  ·rename_i c;cases s;subst c;exact N
  ·exact h.fz k q s
 ·split at q
  ·cases q
  ·exact h.ow k j q
 ·have:k≠n:=λc=>by subst c;exact zX (Bf N) (Ky.mpr G)
  show(if k=n then Cel.fz o else F k)=_;rw[qY this];exact h.hi k G
 ·by_cases c:i=j
  ·subst c
   rw[De]at hb;rw[qX rfl]at hb;split at hb
   ·cases hb
    exact⟨_,R,n,rfl,qX rfl,(h.ow n i I).1⟩
   ·cases hb
  ·rw[Ae c]at hb
   obtain⟨x,T,E⟩:=h.sl j b hb;refine⟨x,T,?_⟩
   cases b with
   | u=>trivial
   | v d=>exact E
   | z q=>obtain⟨m,C,l⟩:=E;exact⟨m,C,H _ _ l⟩
   | y q=>obtain⟨m,C,l,J⟩:=E;exact⟨m,C,H _ _ l,J⟩
   | q P=>obtain⟨d,C,l⟩:=E;exact⟨d,C,λL U=>l L λn o q=>U n o (H n o q)⟩
   | w k q=>
    obtain⟨m,C,l,J⟩:=E;refine⟨m,C,?_,J⟩
    have:m≠n:=λz=>by
     subst z;rw[I]at l;cases l;exact i5 O (λz=>c z.symm) hb rfl
    show(if m=n then Cel.fz o else F m)=_;rw[qY this];exact l
theorem Vs.own(h:Vs S0 A e F S)(k:Keeps S S'){i n:Nat}{o:Ob}(C:S.length<=n)(ho:S'[n]?=some o):∃F',Vs S0 (A.set i (.w i o)) (e.set i (some (.ref n))) F' S'/\Fle F F':=by
 have g:=h.grow k;have s:=Bf ho
 have G:Fle F (λj=>if j=n then Cel.ow i else RO F S S' j):=λj q l=>by
  have:j≠n:=λc=>by subst c;exact zX (Bf (h.fz _ _ l)) (Ky.mpr C)
  show(if j=n then Cel.ow i else _)=_;rw[qY this];exact h.fle S' _ _ l
 refine⟨λj=>if j=n then .ow i else RO F S S' j,(Vs.set (a:=.w i o) (x:=some (.ref n)) ⟨g.kp,λj q l=>?_,λj q l=>?_,λj H=>?_,λj b hb=>?_⟩ i ⟨n,rfl,qX rfl,ho⟩),G⟩
 ·split at l
  ·cases l
  ·exact g.fz j q l
 ·split at l
  ·rename_i c;subst c;exact⟨Aj h.kp.1 C,s⟩
  ·exact g.ow j q l
 ·have:j≠n:=λc=>by subst c;exact zX s (Ky.mpr H)
  show(if j=n then Cel.ow i else _)=_;rw[qY this];exact g.hi j H
 ·obtain⟨x,J,L⟩:=h.sl j b hb
  refine⟨x,J,Sl.mono L G λm j q N I=>?_⟩;have E:=Bf I
  have:m≠n:=λc=>by subst c;exact zX E (Ky.mpr C)
  refine⟨?_,by rw[k.2 m E];exact I⟩;show(if m=n then Cel.ow i else _)=_;rw[qY this,Gw E];exact N
noncomputable abbrev Rk(α:Type):=α->Sto->D->Sto->Prop
noncomputable def rV(enc:α->D):Rk α:=λv _ d _=>d=enc v
noncomputable def rO(l:α->Ob):Rk α:=λv _ d S=>∃n,d=.ref n/\S[n]?=some (l v)
noncomputable def rN(l:α->Ob):Rk α:=λv S0 d S=>∃n,d=.ref n/\S0.length<=n/\S[n]?=some (l v)
noncomputable def VE(A:List Sl)(m:ME)(R:Rk α)(p:Option α):Prop:=∀v,p=some v->∀S0 e F S,Vs S0 A e F S->∃d S',m e S=.ok d S'/\Keeps S S'/\R v S d S'
noncomputable def VB(A:List Sl)(t:MT)(p:Option Bool):Prop:=∀v,p=some v->∀S0 e F S,Vs S0 A e F S->∃S',t e S=.ok v S'/\Keeps S S'
noncomputable def VL(A:List Sl)(ml:ML)(enc:α->D)(p:Option (List α)):Prop:=∀v,p=some v->∀S0 e F S,Vs S0 A e F S->∃S',ml e S=.ok (v.map enc) S'/\Keeps S S'
noncomputable def VK(A:List Sl)(mi:MI)(enc:α->D)(p:Option (List α)):Prop:=∀v,p=some v->∀S0 e F S,Vs S0 A e F S->∃w S',mi e S=.ok w S'/\Keeps S S'/\∀l,Keeps S' l->w l=some (v.map enc)
noncomputable def VI(A:List Sl)(mi:MI)(enc:α->D)(p:Option (List α)):Prop:=∀v,p=some v->∀S0 e F S,Vs S0 A e F S->∃w S',mi e S=.ok w S'/\Keeps S S'/\∀l m,Fle (RO F S S') l->(∀n o,l n=.fz o->m[n]?=some o)->w m=some (v.map enc)
theorem VI.k(h:VI A mi enc p):VK A mi enc p:=λv s S0 e F S l=>by
 obtain⟨w,S',C,m,E⟩:=h v s S0 e F S l;have g:=l.grow m;exact⟨w,S',C,m,λo k=>E _ o (g.fle o) (g.grow k).fz⟩
noncomputable def eT(enc:α->D)(l:List α):D:=.tup (l.map enc)
noncomputable def eP(a:α->D)(b:β->D)(x:α×β):D:=.tup [a x.1,b x.2]
noncomputable def eP3(a:α->D)(b:β->D)(c:γ->D)(x:α×β×γ):D:=.tup [a x.1,b x.2.1,c x.2.2]
noncomputable def eO(a:α->D):Option α->D
 | none=>.non
 | some x=>a x
noncomputable def eU(_:Unit):D:=.non
noncomputable def eF(l:ZLi):D:=.fro (l.map D.int)
noncomputable def oL(enc:α->D)(l:List α):Ob:=.lst (l.map enc)
theorem qk(h:VE A m R p)(i:∀v S d S',R v S d S'->R' v S d S'):VE A m R' p:=λv l S0 e F S o=>by
 obtain⟨d,S',s,C,E⟩:=h v l S0 e F S o;exact⟨d,S',s,C,i _ _ _ _ E⟩
theorem Ki(h:VE A m (rN l) p):VE A m (rO l) p:=qk h λv S d S' ⟨n,o,_,s⟩=>⟨n,o,s⟩
theorem AT(h:A[i]?=some (.v (enc v))):VE A (AD i) (rV enc) (some v):=λ_ l S0 e F S m=>by
 cases l;obtain⟨x,o,s⟩:=m.sl i _ h;cases s;exact⟨_,S,by unfold AD;rw[o],Keeps.refl S,rfl⟩
theorem Bj(h:A[i]?=some (.z (m v))):VE A (AD i) (rO m) (some v):=λ_ o S0 e F S l=>by
 cases o;obtain⟨x,s,n,rfl,C⟩:=l.sl i _ h;exact⟨_,S,by unfold AD;rw[s],Keeps.refl S,n,rfl,l.fz _ _ C⟩
theorem Fb(h:A[i]?=some (.y (m v))):VE A (AD i) (rO m) (some v):=λ_ o S0 e F S l=>by
 cases o;obtain⟨x,s,n,rfl,C,_⟩:=l.sl i _ h;exact⟨_,S,by unfold AD;rw[s],Keeps.refl S,n,rfl,l.fz _ _ C⟩
theorem MV(h:A[i]?=some (.w k (l v))):VE A (AD i) (rO l) (some v):=λ_ m S0 e F S o=>by
 cases m;obtain⟨x,s,n,rfl,E,C⟩:=o.sl i _ h;exact⟨_,S,by unfold AD;rw[s],Keeps.refl S,n,rfl,C⟩
theorem Cv(h:d=enc v):VE A (mC d) (rV enc) (some v):=λ_ l S0 e F S m=>by
 cases l;exact⟨d,S,rfl,Keeps.refl S,h⟩
theorem BA(h:p.bind q=some v):∃x,p=some x/\q x=some v:=Option.bind_eq_some_iff.mp h
theorem IJ{f:D->D->Sto->Res D}{a b:ME}{m:α->D}{eb:β->D}{o:γ->D}{s:Option α}{C:Option β}{g:α->β->Option γ}(I:VE A a (rV m) s)(hb:VE A b (rV eb) C)
  (J:∀x y z S,g x y=some z->f (m x) (eb y) S=.ok (o z) S):VE A (m2 f a b) (rV o) (s.bind λx=>C.bind λy=>g x y):=λv l S0 e F S E=>by
 obtain⟨x,L,l⟩:=BA l;obtain⟨y,N,O⟩:=BA l;obtain⟨d1,P,Q,G,rfl⟩:=I x L S0 e F S E;obtain⟨d2,H,R,T,rfl⟩:=hb y N S0 e _ P (E.grow G);exact⟨_,H,Dz Q R (J x y v H O),G.trans T,rfl⟩
theorem qf{f:D->D->Sto->Res D}{a b:ME}{m:α->D}{o:β->Ob}{s:γ->D}{C:Option α}{E:Option β}{g:α->β->Option γ}(J:VE A a (rV m) C)(hb:VE A b (rO o) E)
  (L:∀x y z S (n:Nat),S[n]?=some (o y)->g x y=some z->f (m x) (.ref n) S=.ok (s z) S):VE A (m2 f a b) (rV s) (C.bind λx=>E.bind λy=>g x y):=λv l S0 e F S G=>by
 obtain⟨x,N,l⟩:=BA l;obtain⟨y,O,P⟩:=BA l;obtain⟨d1,Q,R,H,rfl⟩:=J x N S0 e F S G;obtain⟨d2,I,T,U,n,rfl,X⟩:=hb y O S0 e _ Q (G.grow H);exact⟨_,I,Dz R T (L x y v I n X P),H.trans U,rfl⟩
theorem Wx{f:D->D->Sto->Res D}{a b:ME}{m:α->Ob}{eb:β->D}{o:γ->D}{s:Option α}{C:Option β}{g:α->β->Option γ}(J:VE A a (rO m) s)(hb:VE A b (rV eb) C)
  (L:∀x y z S (n:Nat),S[n]?=some (m x)->g x y=some z->f (.ref n) (eb y) S=.ok (o z) S):VE A (m2 f a b) (rV o) (s.bind λx=>C.bind λy=>g x y):=λv l S0 e F S E=>by
 obtain⟨x,N,l⟩:=BA l;obtain⟨y,O,P⟩:=BA l;obtain⟨d1,Q,R,G,n,rfl,T⟩:=J x N S0 e F S E;obtain⟨d2,H,U,I,rfl⟩:=hb y O S0 e _ Q (E.grow G);exact⟨_,H,Dz R U (L x y v H n (I.at T) P),G.trans I,rfl⟩
theorem K9(h:VE A m (rV D.bl) p):VB A (mB m) p:=λv l S0 e F S o=>by
 obtain⟨d,S',s,C,rfl⟩:=h v l S0 e F S o;exact⟨S',SZ s,C⟩
theorem gz(h:VE A m (rV D.bl) p):VB A (FM m) p:=λv l S0 e F S o=>by
 obtain⟨d,S',s,C,rfl⟩:=h v l S0 e F S o;refine⟨S',?_,C⟩;unfold FM;rw[s];rfl
theorem Ja:VB A Gy (some true):=λv l S0 e F S m=>by cases l;exact⟨S,rfl,Keeps.refl S⟩
theorem g7(h:VB A t p):VB A (SR t) (p.bind λb=>some (!b)):=λv l S0 e F S m=>by
 obtain⟨x,o,s⟩:=BA l;cases s;obtain⟨S',C,E⟩:=h x o S0 e F S m;exact⟨S',PB C,E⟩
theorem qo(h:VB A t p)(E:VB A u q):VB A (Ud t u) (p.bind λb=>if b=true then q else some false):=λv G S0 e F S m=>by
 obtain⟨x,H,o⟩:=BA G;obtain⟨s,C,l⟩:=h x H S0 e F S m
 cases x with
 | true=>
  obtain⟨I,J,L⟩:=E v o S0 e _ s (m.grow l);exact⟨I,(Xo C).trans J,l.trans L⟩
 | false=>cases o;exact⟨s,c6 C,l⟩
theorem Zq(J:VB A t pt)(L:VE A a R N)(hb:VE A b R O)(G:∀v S S1 d S',S.length<=S1.length->R v S1 d S'->R v S d S'):VE A (Yz t a b) R (pt.bind λc=>if c=true then N else O):=λv P S0 e F S m=>by
 obtain⟨x,Q,H⟩:=BA P;obtain⟨S1,I,l⟩:=J x Q S0 e F S m
 cases x with
 | true=>
  obtain⟨d,o,s,C,E⟩:=L v H S0 e _ S1 (m.grow l);exact⟨d,o,(ja I).trans s,l.trans C,G _ _ _ _ _ l.1 E⟩
 | false=>
  obtain⟨d,o,s,C,E⟩:=hb v H S0 e _ S1 (m.grow l);exact⟨d,o,(ja I).trans s,l.trans C,G _ _ _ _ _ l.1 E⟩
theorem Dh:∀(v:α) (S S1:Sto) (d:D) (S':Sto),S.length<=S1.length->rV enc v S1 d S'->rV enc v S d S':=λ_ _ _ _ _ _ h=>h
theorem JI:∀(v:α) (S S1:Sto) (d:D) (S':Sto),S.length<=S1.length->rN m v S1 d S'->rN m v S d S':=λ_ _ _ _ _ l ⟨n,o,s,C⟩=>⟨n,o,Aj l s,C⟩
inductive Fw(ρ σ:Type) where
 | rt (r:ρ) | nx (s:σ) | bk (s:σ) | ct (s:σ)
noncomputable def VG(S0:Sto)(F:Fz)(S':Sto)(R:Rk ρ)(B:σ->List Sl)(g:Fl):Fw ρ σ->Prop
 | .nx s=>∃l m,g=.nx l/\Vs S0 (B s) l m S'/\Fle F m
 | .ct s=>∃l m,g=.ct l/\Vs S0 (B s) l m S'/\Fle F m
 | .bk s=>∃l m,g=.bk l/\Vs S0 (B s) l m S'/\Fle F m
 | .rt r=>∃d,g=.rt d/\R r S0 d S'/\Keeps S0 S'
noncomputable def VS(A:List Sl)(b:MS)(R:Rk ρ)(p:Option (Fw ρ σ))(B:σ->List Sl):Prop:=∀f,p=some f->∀S0 e F S,Vs S0 A e F S->∃g S',b e S=.ok g S'/\VG S0 F S' R B g f
noncomputable def BM(p:Option (Fw ρ σ))(q:σ->Option (Fw ρ τ)):Option (Fw ρ τ):=match p with
 | some (.nx s)=>q s
 | some (.rt r)=>some (.rt r)
 | _=>none
theorem VG.up{S0:Sto}{F H:Fz}{S':Sto}{R:Rk ρ}{B:σ->List Sl}{g:Fl}{f:Fw ρ σ}(l:Fle F H)(h:VG S0 H S' R B g f):VG S0 F S' R B g f:=by
 cases f with
 | rt r=>exact h
 | nx s=>obtain⟨m,o,C,E,G⟩:=h;exact⟨m,o,C,E,l.trans G⟩
 | bk s=>obtain⟨m,o,C,E,G⟩:=h;exact⟨m,o,C,E,l.trans G⟩
 | ct s=>obtain⟨m,o,C,E,G⟩:=h;exact⟨m,o,C,E,l.trans G⟩
theorem BF{a b:MS}{R:Rk ρ}{p:Option (Fw ρ σ)}{q:σ->Option (Fw ρ τ)}{B:σ->List Sl}{C:τ->List Sl}(H:VS A a R p B)(hb:∀s,VS (B s) b R (q s) C):VS A (BH a b) R (BM p q) C:=λf m S0 e F S I=>by
 cases p with
 | none=>cases m
 | some w=>
  obtain⟨g,E,G,l⟩:=H _ rfl S0 e F S I
  cases w with
  | nx s=>
   obtain⟨J,L,rfl,l,o⟩:=l;obtain⟨N,O,P,Q⟩:=hb s f m S0 J L E l;exact⟨N,O,(Bp G).trans P,Q.up o⟩
  | rt r=>
   cases m;obtain⟨d,rfl,l,o⟩:=l;exact⟨_,E,Ow G,d,rfl,l,o⟩
  | bk s=>cases m
  | ct s=>cases m
theorem HH{R:Rk ρ}{B:σ->List Sl}{s:σ}(w:Wk A (B s)):VS A sNx R (some (.nx s)) B:=λf l S0 e F S m=>by
 cases l;exact⟨_,S,rfl,e,F,rfl,m.weak w,Fle.refl F⟩
noncomputable def Eg(g:σ->τ)(p:Option (Fw ρ σ)):Option (Fw ρ τ):=match p with
 | some (.nx s)=>some (.nx (g s))
 | some (.rt r)=>some (.rt r)
 | some (.bk s)=>some (.bk (g s))
 | some (.ct s)=>some (.ct (g s))
 | none=>none
theorem Ct{b:MS}{R:Rk ρ}{p:Option (Fw ρ σ)}{g:σ->τ}{B:σ->List Sl}{C:τ->List Sl}(h:VS A b R p B)(w:∀s,Wk (B s) (C (g s))):VS A b R (Eg g p) C:=λf m S0 e F S J=>by
 cases p with
 | none=>cases m
 | some x=>
  obtain⟨g,H,I,l⟩:=h _ rfl S0 e F S J
  cases x with
  | nx s=>cases m;obtain⟨o,E,rfl,l,G⟩:=l;exact⟨_,H,I,o,E,rfl,l.weak (w s),G⟩
  | rt r=>cases m;exact⟨_,H,I,l⟩
  | bk s=>cases m;obtain⟨o,E,rfl,l,G⟩:=l;exact⟨_,H,I,o,E,rfl,l.weak (w s),G⟩
  | ct s=>cases m;obtain⟨o,E,rfl,l,G⟩:=l;exact⟨_,H,I,o,E,rfl,l.weak (w s),G⟩
theorem Dx(h:VE A m (rV enc) p):VS A (Cg i m) R (p.bind λv=>some (.nx v)) (λv=>A.set i (.v (enc v))):=λf o S0 e F S l=>by
 obtain⟨v,s,C⟩:=BA o;cases C;obtain⟨d,S',E,G,rfl⟩:=h v s S0 e F S l;exact⟨_,S',Ju E,_,_,rfl,(l.grow G).set i rfl,l.fle S'⟩
theorem MR(h:VE A m (rN o) p):VS A (Cg i m) R (p.bind λv=>some (.nx v)) (λv=>A.set i (.y (o v))):=λf C S0 e F S l=>by
 obtain⟨v,E,G⟩:=BA C;cases G;obtain⟨d,S',H,I,n,rfl,s,J⟩:=h v E S0 e F S l;exact⟨_,S',Ju H,_,_,rfl,(l.grow I).set (a:=.y (o v)) i ⟨n,rfl,QT s J,Aj l.kp.1 s⟩,l.fle S'⟩
theorem Iq(h:VE A m (rN o) p):VS A (Cg i m) R (p.bind λv=>some (.nx v)) (λv=>A.set i (.w i (o v))):=λf s S0 e F S l=>by
 obtain⟨v,C,E⟩:=BA s;cases E;obtain⟨d,S',G,H,n,rfl,I,J⟩:=h v C S0 e F S l;obtain⟨L,N,O⟩:=l.own H (i:=i) I J;exact⟨_,S',Ju G,_,L,rfl,N,O⟩
theorem dO(h:A[j]?=some (.y o)):VS A (Cg i (AD j)) R (some (.nx ())) (λ_:Unit=>A.set i (.y o)):=λf m S0 e F S l=>by
 cases m;obtain⟨x,s,n,rfl,C,E⟩:=l.sl j _ h;exact⟨_,S,Ju (d:=.ref n) (by unfold AD;rw[s]),_,F,rfl,l.set (a:=.y o) i ⟨n,rfl,C,E⟩,Fle.refl F⟩
theorem qW{b:MS}{R:Rk ρ}{p:Option (Fw ρ σ)}{B:σ->List Sl}{o:Ob}(i:Nat)(l:A[i]?=some (.w i o))(m:((A.set i .u).all (Sl.oth i))=true)(h:VS (A.set i (.y o)) b R p B):VS A b R p B:=λf s S0 e F S C=>by
 obtain⟨E,G,H⟩:=C.freeze m l;obtain⟨g,S',I,J⟩:=h f s S0 e E S G;exact⟨g,S',I,J.up H⟩
theorem DP{m:ME}{enc:ρ->D}{p:Option ρ}{B:σ->List Sl}(h:VE A m (rV enc) p):VS A (Cu m) (rV enc) (p.bind λv=>some (.rt v)) B:=λf o S0 e F S l=>by
 obtain⟨v,s,C⟩:=BA o;cases C;obtain⟨d,S',E,G,rfl⟩:=h v s S0 e F S l;exact⟨_,S',LG E,_,rfl,rfl,l.kp.trans G⟩
theorem Pk{m:ME}{o:ρ->Ob}{p:Option ρ}{B:σ->List Sl}(h:VE A m (rN o) p):VS A (Cu m) (rN o) (p.bind λv=>some (.rt v)) B:=λf s S0 e F S l=>by
 obtain⟨v,C,E⟩:=BA s;cases E;obtain⟨d,S',G,H,n,rfl,I,J⟩:=h v C S0 e F S l;exact⟨_,S',LG G,_,rfl,⟨n,rfl,Aj l.kp.1 I,J⟩,l.kp.trans H⟩
theorem Sg{i:Nat}{m:ρ->Ob}{v:ρ}{B:σ->List Sl}{k:Nat}(h:A[i]?=some (.w k (m v))):VS A (Cu (AD i)) (rN m) (some (.rt v)) B:=λf o S0 e F S l=>by
 cases o;obtain⟨x,s,n,rfl,C,E⟩:=l.sl i _ h;exact⟨_,S,LG (d:=.ref n) (by unfold AD;rw[s]),_,rfl,⟨n,rfl,(l.ow _ _ C).1,E⟩,l.kp⟩
theorem lJ{i:Nat}{m:ρ->Ob}{v:ρ}{B:σ->List Sl}(h:A[i]?=some (.y (m v))):VS A (Cu (AD i)) (rN m) (some (.rt v)) B:=λf o S0 e F S l=>by
 cases o;obtain⟨x,s,n,rfl,C,E⟩:=l.sl i _ h;exact⟨_,S,LG (d:=.ref n) (by unfold AD;rw[s]),_,rfl,⟨n,rfl,E,l.fz _ _ C⟩,l.kp⟩
theorem HI{t:MT}{a b:MS}{R:Rk ρ}{pt:Option Bool}{p q:Option (Fw ρ σ)}{B:σ->List Sl}(I:VB A t pt)(J:VS A a R p B)(hb:VS A b R q B):VS A (sIf t a b) R (pt.bind λc=>if c=true then p else q) B:=λf L S0 e F S l=>by
 obtain⟨c,N,E⟩:=BA L;obtain⟨m,G,H⟩:=I c N S0 e F S l
 cases c with
 | true=>
  obtain⟨g,o,s,C⟩:=J f E S0 e _ m (l.grow H);exact⟨g,o,(Ge G).trans s,C.up (l.fle m)⟩
 | false=>
  obtain⟨g,o,s,C⟩:=hb f E S0 e _ m (l.grow H);exact⟨g,o,(Ge G).trans s,C.up (l.fle m)⟩
noncomputable def bE(l:List α)(x:α):Option (List α):=if l.length < 1000000 then some (l++[x])else none
noncomputable def j4(l k:List α):Option (List α):=if l.length+k.length<=1000000 then some (l++k)else none
theorem eh(h:n < 1000000):n < sizeLine:=AX h (by decide)
theorem sx(h:n<=1000000):n<=sizeLine:=Aj h (by decide)
theorem Zm(hi:A[i]?=some (.w i (oL enc l)))(h:VE A m (rV enc) p)(J:((A.set i .u).all (Sl.oth i))=true) :
  VS A (FD (Np (AD i) m)) R (p.bind λv=>(bE l v).bind λs=>some (.nx s)) (λs=>A.set i (.w i (oL enc s))):=λf L S0 e F S C=>by
 obtain⟨v,N,o⟩:=BA L;obtain⟨s,o,O⟩:=BA o;cases O;unfold bE at o;split at o
 ·rename_i P
  cases o;obtain⟨x,G,n,rfl,Q,E⟩:=C.sl i _ hi;obtain⟨d,S',T,H,rfl⟩:=h v N S0 e F S C;have U:=C.grow H;have I:=VN (mo:=AD i) (e:=e) (S:=S) (S1:=S) (n:=n) (by unfold AD;rw[G]) E T (H.at E) (by rw[AC];exact eh P);rw[show l.map enc++[enc v]=(l++[v]).map enc by simp]at I;exact⟨_,_,Ks I,e,_,rfl,U.put J hi G (by rw[Gw (Bf E)];exact Q),C.fle S'⟩
 ·cases o
theorem Si(h:VE A m Rm p):VS A (FD m) R (p.bind λ_=>some (.nx ())) (λ_:Unit=>A):=λf o S0 e F S l=>by
 obtain⟨v,s,C⟩:=BA o;cases C;obtain⟨d,S',E,G,_⟩:=h v s S0 e F S l;exact⟨_,S',Ks E,e,_,rfl,l.grow G,l.fle S'⟩
theorem Qp(hi:A[i]?=some (.v (D.int x)))(h:VE A m (rV D.int) p):VS A (UH i g m) R (p.bind λy=>some (.nx (g x y))) (λz=>A.set i (.v (D.int z))):=λf o S0 e F S l=>by
 obtain⟨v,s,C⟩:=BA o;cases C;obtain⟨d,S',E,G,rfl⟩:=h v s S0 e F S l;obtain⟨y,H,I⟩:=l.sl i _ hi;cases I;refine⟨_,S',?_,_,_,rfl,(l.grow G).set (a:=.v (D.int (g x v))) i rfl,l.fle S'⟩;unfold UH;rw[H];dsimp only;rw[E];rfl
noncomputable def VT(g:MG)(enc:α->D)(t:α->List Sl->List Sl):Prop:=∀x S0 A e F S,Vs S0 A e F S->∃l,g (enc x) e S=.ok l S/\Vs S0 (t x A) l F S
theorem DN:VT (tgN i) enc (λx A=>A.set i (.v (enc x))):=λx S0 A e F S l=>⟨_,rfl,l.set (a:=.v (enc x)) i rfl⟩
theorem bV:VT (Gq 2 (CO (tgN i) (CO (tgN j) G7))) (eP a b) (λx A=>(A.set i (.v (a x.1))).set j (.v (b x.2))):=λx S0 A e F S l=>⟨_,rfl,(l.set (a:=.v (a x.1)) i rfl).set (a:=.v (b x.2)) j rfl⟩
theorem gd:VT (Gq 3 (CO (tgN i) (CO (tgN j) (CO (tgN k) G7)))) (eP3 a b c) (λx A=>((A.set i (.v (a x.1))).set j (.v (b x.2.1))).set k (.v (c x.2.2))):=λx S0 A e F S l=>⟨_,rfl,((l.set (a:=.v (a x.1)) i rfl).set (a:=.v (b x.2.1)) j rfl).set (a:=.v (c x.2.2)) k rfl⟩
noncomputable def EQ:List α->σ->(σ->α->Option (Fw ρ σ))->Option (Fw ρ σ)
 | [],s,_=>some (.nx s)
 | x :: l,s,q=>match q s x with
  | some (.nx m)=>EQ l m q
  | some (.ct m)=>EQ l m q
  | some (.bk m)=>some (.nx m)
  | some (.rt r)=>some (.rt r)
  | none=>none
theorem lK{enc:α->D}{g:MG}{t:α->List Sl->List Sl}{b:MS}{R:Rk ρ}{q:σ->α->Option (Fw ρ σ)}{B:σ->List Sl}(hg:VT g enc t)(hb:∀s x,VS (t x (B s)) b R (q s x) B){w:RX}{S0:Sto}{Z:Fz}{m:List α}
  (hw:∀P zi,Fle Z P->(∀n o,P n=.fz o->zi[n]?=some o)->w zi=some (m.map enc)):∀(l:List α) (k:Nat),m.drop k=l->∀(s:σ) (f:Fw ρ σ),EQ l s q=some f->∀e F S,Vs S0 (B s) e F S->Fle Z F->∃h S',NO w g b (l.length) k e S=.ok h S'/\VG S0 Z S' R B h f:=by
 intro l
 induction l with
 | nil=>
  intro k U s f E e F S Q G;cases E
  have:m.length<=k:=by
   have:=congrArg JW U;rw[FB,EC]at this
   lia
  refine⟨_,S,?_,e,F,rfl,Q,G⟩;unfold NO;rw[hw F S G Q.fz];dsimp only;rw[Bs (by rw[AC];exact this)]
 | cons x l ih=>
  intro k U s f E e F S Q G
  have hx:m[k]?=some x:=by
   have:=congrArg (λz=>z[0]?) U;rw[Qa]at this;simpa using this
  have yo:m.drop (k+1)=l:=by
   have H:m.drop (k+1)=(m.drop k).drop 1:=by rw[pM]
   exact H.trans (congrArg (List.drop 1) U)
  obtain⟨H,g1,X⟩:=hg x S0 _ e F S Q
  have run:∀h S',b H S=.ok h S'->NO w g b ((x :: l).length) k e S=(match h with
    | .nx C=>NO w g b l.length (k+1) C S'
    | .ct C=>NO w g b l.length (k+1) C S'
    | .bk C=>.ok (.nx C) S'
    | .rt d=>.ok (.rt d) S'
    | .ex c C=>.ok (.ex c C) S'):=λh S' yc=>by
   show NO w g b (l.length+1) k e S=_
   conv=>lhs;unfold NO
   rw[hw F S G Q.fz];dsimp only;rw[Ad,hx];dsimp only[ug];rw[g1];dsimp only[Res.bind];rw[yc]
   all_goals (cases h <;> rfl)
  unfold EQ at E;split at E
  ·rename_i Y I
   obtain⟨h,J,L,C,T,rfl,N,O⟩:=hb s x _ I S0 H F S X;rw[run _ _ L];exact ih (k+1) yo Y f E C T J N (G.trans O)
  ·rename_i Y I
   obtain⟨h,J,L,C,T,rfl,N,O⟩:=hb s x _ I S0 H F S X;rw[run _ _ L];exact ih (k+1) yo Y f E C T J N (G.trans O)
  ·rename_i Y I
   cases E;obtain⟨h,J,L,C,T,rfl,N,O⟩:=hb s x _ I S0 H F S X;rw[run _ _ L];exact⟨_,J,rfl,C,T,rfl,N,G.trans O⟩
  ·rename_i r I
   cases E;obtain⟨h,J,L,d,rfl,N,O⟩:=hb s x _ I S0 H F S X;rw[run _ _ L];exact⟨_,J,rfl,d,rfl,N,O⟩
  ·cases E
theorem Dq{enc:α->D}{mi:MI}{g:MG}{t:α->List Sl->List Sl}{b:MS}{R:Rk ρ}{p:Option (List α)}{q:σ->α->Option (Fw ρ σ)}{B:σ->List Sl}{s0:σ}(hi:VI A mi enc p)(G:VT g enc t)(w0:Wk A (B s0))(hb:∀s x,VS (t x (B s)) b R (q s x) B) :
  VS A (Ee mi g b) R (p.bind λl=>EQ l s0 q) B:=λf H S0 e F S C=>by
 obtain⟨l,I,J⟩:=BA H;obtain⟨w,o,L,N,E⟩:=hi l I S0 e F S C;have m:=C.grow N
 have O:EE w o=l.length:=by unfold EE;rw[E _ o (Fle.refl _) m.fz];exact AC _
 obtain⟨h,P,Q,T⟩:=lK G hb E l 0 rfl s0 f J e _ o (m.weak w0) (Fle.refl _);refine⟨h,P,?_,T.up (C.fle o)⟩;rw[Ho L,O];exact Q
noncomputable def U2(c:α->Option Bool)(m:α->Option β):List α->Option (List β)
 | []=>some []
 | x :: l=>(c x).bind λb=>if b=true then(m x).bind λy=>(U2 c m l).bind λo=>some (y :: o)else U2 c m l
noncomputable def Fg(l:List α)(c:α->Option Bool)(m:α->Option β):Option (List β):=if l.length<=1000000 then U2 c m l else none
theorem gh{enc:α->D}{eb:β->D}{g:MG}{P:List (Option D)->Prop}{T:α->List Sl}{c:MT}{m:ME}{Z:α->Option Bool}{pm:α->Option β}
  (hg:∀x S0 e F S s,P s->Vs S0 A e F S->∃G,g (enc x) (s++e) S=.ok (G++e) S/\P G/\Vs S0 (T x) (G++e) F S)
  (hc:∀x,VB (T x) c (Z x)) (hm:∀x,VE (T x) m (rV eb) (pm x)) {w:RX} {S0:Sto} {e:Lo} {o:List α} {S1:Sto} (hf:o.length<=1000000) (hw:∀zi,Keeps S1 zi->w zi=some (o.map enc)) :
  ∀(l:List α) (k:Nat),o.drop k=l->∀(r:List β),U2 Z pm l=some r->∀s F S C,P s->Vs S0 A e F S->Keeps S1 S->C.length<=k->∃S',Gx w g c m l.length k (s++e) S C=.ok (C++r.map eb) S'/\Keeps S S':=by
 intro l
 induction l with
 | nil=>
  intro k I r J s F S C hp N E ha;cases J
  have:o.length<=k:=by
   have:=congrArg JW I;rw[FB,EC]at this
   lia
  refine⟨S,?_,Keeps.refl S⟩;unfold Gx;rw[hw S E];dsimp only;rw[Bs (by rw[AC];exact this),Ka,By]
 | cons x l ih=>
  intro k I r J s F S C hp N E ha
  have hx:o[k]?=some x:=by
   have:=congrArg (λz=>z[0]?) I;rw[Qa]at this;simpa using this
  have yo:o.drop (k+1)=l:=by
   have e1:o.drop (k+1)=(o.drop k).drop 1:=by rw[pM]
   exact e1.trans (congrArg (List.drop 1) I)
  have O:k < o.length:=(AE.mp hx).1;obtain⟨G,g1,g2,g3⟩:=hg x S0 e F S s hp N;unfold U2 at J;obtain⟨b,h1,L⟩:=BA J;obtain⟨S2,h3,H⟩:=hc x b h1 S0 _ F S g3;have yw:=N.grow H
  show ∃S',Gx w g c m (l.length+1) k (s++e) S C=_/\_
  conv=>arg 1;ext S';arg 1;lhs;unfold Gx
  rw[hw S E];dsimp only;rw[Ad,hx];dsimp only[ug];rw[qX (Aq ha (eh (AX O hf))),g1];dsimp only[okR,Res.bind];rw[h3];dsimp only[okR,Res.bind]
  cases b with
  | true=>
   rw[qX rfl]at L ⊢;obtain⟨y,h5,h6⟩:=BA L;obtain⟨ys,Q,h7⟩:=BA h6;cases h7;obtain⟨d,S3,h8,R,rfl⟩:=hm x y h5 S0 _ _ S2 (g3.grow H);rw[h8];obtain⟨U,X,Y⟩:=ih (k+1) yo ys Q G _ S3 (C++[eb y]) g2 (yw.grow R) (E.trans (H.trans R)) (by rw[AQ,Ac];lia);refine⟨U,?_,(H.trans R).trans Y⟩;show Gx w g c m l.length (k+1) (G++e) S3 (C++[eb y])=_;rw[X,CT];rfl
  | false=>
   rw[qY AN]at L ⊢;obtain⟨U,X,Y⟩:=ih (k+1) yo r L G _ S2 C g2 yw (E.trans H) (by lia);exact⟨U,X,H.trans Y⟩
theorem bY{enc:α->D}{eb:β->D}{n:Nat}{mi:MI}{g:MG}{P:List (Option D)->Prop}{T:α->List Sl}{c:MT}{m:ME}{p:Option (List α)}{G:α->Option Bool}{H:α->Option β}(hi:VK A mi enc p)(N:P (B1 n none))
  (O:∀x S0 e F S o,P o->Vs S0 A e F S->∃C,g (enc x) (o++e) S=.ok (C++e) S/\P C/\Vs S0 (T x) (C++e) F S)
  (Q:∀x,VB (T x) c (G x)) (R:∀x,VE (T x) m (rV eb) (H x)):VL A (FE n mi g c m) eb (p.bind λl=>Fg l G H):=λr U S0 e F S I=>by
 obtain⟨l,X,s⟩:=BA U;obtain⟨w,E,Y,J,L⟩:=hi l X S0 e F S I;unfold Fg at s;split at s
 ·rename_i Z
  have zT:=I.grow J;obtain⟨S2,h6,h7⟩:=gh O Q R Z L l 0 rfl r s _ _ E [] N zT (Keeps.refl _) (AM _);refine⟨S2,?_,J.trans h7⟩;rw[TD Y,show EE w E=l.length by unfold EE;rw[L E (Keeps.refl _)];exact AC _];exact h6
 ·cases s
theorem FL{enc:α->D}{eb:β->D}{mi:MI}{c:MT}{m:ME}{p:Option (List α)}{s:α->Option Bool}{C:α->Option β}(hi:VK A mi enc p)(E:∀x,VB (.v (enc x) :: A) c (s x))(G:∀x,VE (.v (enc x) :: A) m (rV eb) (C x)) :
  VL A (FE 1 mi (tgN 0) c m) eb (p.bind λl=>Fg l s C):=
 bY (P:=λo=>∃z,o=[z]) hi ⟨none,rfl⟩ (λx S0 e F S o H I=>by
  obtain⟨z,rfl⟩:=H
  exact⟨[some (enc x)],rfl,⟨_,rfl⟩,I.cons (a:=.v (enc x)) rfl⟩) E G
theorem gi{a:α->D}{b:γ->D}{eb:β->D}{mi:MI}{c:MT}{m:ME}{p:Option (List (α×γ))}{s:α×γ->Option Bool}{C:α×γ->Option β}(hi:VK A mi (eP a b) p)(E:∀x:α×γ,VB (.v (a x.1) :: .v (b x.2) :: A) c (s x))(G:∀x:α×γ,VE (.v (a x.1) :: .v (b x.2) :: A) m (rV eb) (C x)) :
  VL A (FE 2 mi (Gq 2 (CO (tgN 0) (CO (tgN 1) G7))) c m) eb (p.bind λl=>Fg l s C):=
 bY (P:=λo=>∃z y,o=[z,y]) hi ⟨none,none,rfl⟩ (λx S0 e F S o H I=>by
  obtain⟨z,y,rfl⟩:=H
  exact⟨[some (a x.1),some (b x.2)],rfl,⟨_,_,rfl⟩,(I.cons (a:=.v (b x.2)) rfl).cons (a:=.v (a x.1)) rfl⟩) E G
theorem Ey(h:VL A ml enc p):VE A (Er ml) (rN (oL enc)) p:=λv m S0 e F S o=>by
 obtain⟨S',s,l⟩:=h v m S0 e F S o;exact⟨_,_,RG s,l.trans (Keeps.app _ _),_,rfl,l.1,DR _ _⟩
inductive Ar where
 | v (d:D) | z (o:Ob) | q (P:(Nat->Option Ob)->D->Prop)
noncomputable def Ar.ok(S:Sto):Ar->D->Prop
 | .v d,x=>x=d
 | .z o,x=>∃n,x=.ref n/\S[n]?=some o
 | .q P,x=>∀L:Nat->Option Ob,(∀n o,S[n]?=some o->L n=some o)->P L x
noncomputable def Ar.sl:Ar->Sl
 | .v d=>.v d
 | .z o=>.z o
 | .q P=>.q P
noncomputable def NH(S:Sto):List Ar->List D->Prop
 | [],[]=>True
 | a :: as,d :: l=>a.ok S d/\NH S as l
 | _,_=>False
theorem NH.len:∀{as:List Ar} {ds:List D},NH S as ds->ds.length=as.length
 | [],[],_=>rfl
 | _ :: as,_ :: ds,h=>by rw[BC,BC,NH.len h.2]
 | [],_ :: _,h=>h.elim
 | _ :: _,[],h=>h.elim
theorem NH.at:∀{as:List Ar} {ds:List D},NH S as ds->∀(i:Nat) (a:Ar),as[i]?=some a->∃d,ds[i]?=some d/\a.ok S d
 | [],[],_,i,a,h=>by simp at h
 | b :: as,d :: ds,h,0,a,q=>by cases q;exact⟨d,rfl,h.1⟩
 | b :: as,d :: ds,h,i+1,a,q=>NH.at h.2 i a q
 | [],_ :: _,h,_,_,_=>h.elim
 | _ :: _,[],h,_,_,_=>h.elim
noncomputable def VF(f:List D->Sto->Res D)(as:List Ar)(R:Rk α)(p:Option α):Prop:=∀v,p=some v->∀S l,NH S as l->∃d S',f l S=.ok d S'/\Keeps S S'/\R v S d S'
noncomputable def VA(A:List Sl)(ml:ML)(p:Option γ)(m:γ->List Ar):Prop:=∀v,p=some v->∀S0 e F S,Vs S0 A e F S->∃l S',ml e S=.ok l S'/\Keeps S S'/\NH S' (m v) l
theorem Bk:VA A Ay (some ()) (λ_=>[]):=λv l S0 e F S m=>⟨[],S,rfl,Keeps.refl S,trivial⟩
theorem C2(h:VE A m (rV enc) p)(s:VA A ml q C):VA A (AH m ml) (p.bind λx=>q.bind λy=>some (x,y)) (λz=>.v (enc z.1) :: C z.2):=λv E S0 e F S l=>by
 obtain⟨x,G,H⟩:=BA E;obtain⟨y,I,J⟩:=BA H;cases J;obtain⟨d,L,N,o,rfl⟩:=h x G S0 e F S l;obtain⟨T,O,P,Q,R⟩:=s y I S0 e _ L (l.grow o);exact⟨_,O,CL N P,o.trans Q,rfl,R⟩
theorem GP(h:VE A m (rO C) p)(E:VA A ml q G):VA A (AH m ml) (p.bind λx=>q.bind λy=>some (x,y)) (λz=>.z (C z.1) :: G z.2):=λv H S0 e F S l=>by
 obtain⟨x,I,J⟩:=BA H;obtain⟨y,L,N⟩:=BA J;cases N;obtain⟨d,O,P,o,n,rfl,Q⟩:=h x I S0 e F S l;obtain⟨X,R,T,s,U⟩:=E y L S0 e _ O (l.grow o);exact⟨_,R,CL P T,o.trans s,⟨n,rfl,s.at Q⟩,U⟩
theorem Bb(s:VA A ml p l)(C:∀z,VF f (l z) R (q z))(E:∀z,(l z).length=n)(G:∀v S S1 d S',S.length<=S1.length->R v S1 d S'->R v S d S'):VE A (BX n f ml) R (p.bind q):=λv H S0 e F S I=>by
 obtain⟨z,J,L⟩:=BA H;obtain⟨N,S1,O,m,o⟩:=s z J S0 e F S I;obtain⟨d,P,Q,T,U⟩:=C z v L S1 N o;exact⟨d,P,(Ga O (o.len.trans (E z))).trans Q,m.trans T,G _ _ _ _ _ m.1 U⟩
noncomputable def L8(S:Sto):Fz:=λn=>match S[n]? with
 | some o=>.fz o
 | none=>.no
theorem Vs.start(h:NH S as ds):Vs S (as.map Ar.sl++B1 (n - as.length) .u) (IS n ds) (L8 S) S:=by
 refine⟨Keeps.refl S,λn o q=>?_,λn i q=>?_,λn E=>by unfold L8;rw[Bs E],λi a l=>?_⟩
 ·unfold L8 at q
  split at q
  ·rename_i Q G;cases q;exact G
  ·cases q
 ·unfold L8 at q
  split at q <;> cases q
 ·unfold IS
  by_cases c:i < as.length
  ·rw[Av (by rw[AC];exact c),Ad]at l
   rw[Av (by rw[AC,h.len];exact c),Ad]
   cases s:as[i]? with
   | none=>rw[s]at l;cases l
   | some b=>
    rw[s]at l;cases l;obtain⟨d,H,C⟩:=h.at i b s;refine⟨some d,by rw[H];rfl,?_⟩
    cases b with
    | v x=>exact congrArg some C
    | z o=>obtain⟨m,I,J⟩:=C;exact⟨m,congrArg some I,by unfold L8;rw[J]⟩
    | q P=>exact⟨d,rfl,λL N=>C L λn o q=>N n o (by unfold L8;rw[q])⟩
  ·rw[Bd (by rw[AC];lia)]at l
   rw[AC,D9]at l;split at l
   ·rename_i O
    cases l;refine⟨none,?_,trivial⟩;rw[Bd (by rw[AC,h.len];lia),AC,h.len,D9,qX O]
   ·cases l
noncomputable def Fi(p:Option (Fw ρ σ)):Option ρ:=match p with
 | some (.rt r)=>some r
 | _=>none
noncomputable def eV(p:Option (Fw Unit σ)):Option Unit:=match p with
 | some (.rt r)=>some ()
 | some (.nx _)=>some ()
 | _=>none
end
section
variable{S0 S S':Sto}{A:List Sl}{α β γ δ:Type}
section
variable{a b c:ME}{pa pb pc:Option Int}
theorem HK(l:VE A a (rV D.int) pa)(hb:VE A b (rV D.int) pb):VE A (m2 Em a b) (rV D.int) (pa.bind λx=>pb.bind λy=>some (x+y)):=IJ l hb λx y z S h=>by cases h;rfl
theorem Tl(l:VE A a (rV D.int) pa)(hb:VE A b (rV D.int) pb):VE A (m2 Z4 a b) (rV D.int) (pa.bind λx=>pb.bind λy=>some (x - y)):=IJ l hb λx y z S h=>by cases h;rfl
noncomputable def eZ(x y:Int):Option Int:=if ZR x y then some (x * y)else none
noncomputable def WS(x y:Int):Option Int:=if kb x y then some (x / y)else none
noncomputable def jH(x y:Int):Option Int:=if 0 < y then some (x % y)else none
theorem Zp(l:VE A a (rV D.int) pa)(hb:VE A b (rV D.int) pb):VE A (m2 XQ a b) (rV D.int) (pa.bind λx=>pb.bind λy=>eZ x y):=IJ l hb λx y z S h=>by
 unfold eZ at h;split at h
 ·rename_i m;cases h;exact qX m
 ·cases h
theorem Ww(l:VE A a (rV D.int) pa)(hb:VE A b (rV D.int) pb):VE A (m2 Nu a b) (rV D.int) (pa.bind λx=>pb.bind λy=>WS x y):=IJ l hb λx y z S h=>by
 unfold WS at h;split at h
 ·rename_i m;cases h;exact qX m
 ·cases h
theorem gp(l:VE A a (rV D.int) pa)(hb:VE A b (rV D.int) pb):VE A (m2 QA a b) (rV D.int) (pa.bind λx=>pb.bind λy=>jH x y):=IJ l hb λx y z S h=>by
 unfold jH at h;split at h
 ·rename_i m;cases h;exact cM m
 ·cases h
theorem Pn(m:(decide (0 < k)&&decide (k<=1000000))=true)(o:VE A a (rV D.int) pa):VE A (m2 Nu a (mC (.int k))) (rV D.int) (pa.bind λx=>some (x / k)):=λv s S0 e F S B=>by
 obtain⟨x,C,E⟩:=BA s;cases E;obtain⟨d,S',G,H,rfl⟩:=o x C S0 e F S B;have l:=CS _ _▸m;exact⟨_,S',Dz G rfl (jz (of_decide_eq_true l.1) (of_decide_eq_true l.2)),H,rfl⟩
theorem Kj(l:decide (0 < k)=true)(m:VE A a (rV D.int) pa):VE A (m2 QA a (mC (.int k))) (rV D.int) (pa.bind λx=>some (x % k)):=λv o S0 e F S s=>by
 obtain⟨x,B,C⟩:=BA o;cases C;obtain⟨d,S',E,G,rfl⟩:=m x B S0 e F S s;exact⟨_,S',Dz E rfl (cM (of_decide_eq_true l)),G,rfl⟩
theorem bf(m:(decide (-1000000<=k)&&decide (k<=1000000))=true)(o:VE A a (rV D.int) pa):VE A (m2 XQ a (mC (.int k))) (rV D.int) (pa.bind λx=>some (x * k)):=λv s S0 e F S B=>by
 obtain⟨x,C,E⟩:=BA s;cases E;obtain⟨d,S',G,H,rfl⟩:=o x C S0 e F S B;have l:=CS _ _▸m;exact⟨_,S',Dz G rfl (nO (of_decide_eq_true l.1) (of_decide_eq_true l.2)),H,rfl⟩
theorem Zo(l:VE A a (rV D.int) pa):VE A (ee a) (rV D.int) (pa.bind λx=>some (-x)):=λv m S0 e F S o=>by
 obtain⟨x,s,B⟩:=BA m;cases B;obtain⟨d,S',C,E,rfl⟩:=l x s S0 e F S o;exact⟨_,S',by unfold ee;rw[C];rfl,E,rfl⟩
theorem vI(l:VE A a (rV D.int) pa)(hb:VE A b (rV D.int) pb):VE A (m2 ltD a b) (rV D.bl) (pa.bind λx=>pb.bind λy=>some (decide (x < y))):=IJ l hb λx y z S h=>by cases h;rfl
theorem vJ(l:VE A a (rV D.int) pa)(hb:VE A b (rV D.int) pb):VE A (m2 leD a b) (rV D.bl) (pa.bind λx=>pb.bind λy=>some (decide (x<=y))):=IJ l hb λx y z S h=>by cases h;rfl
theorem bg(l:VE A a (rV D.int) pa)(hb:VE A b (rV D.int) pb):VE A (m2 gtD a b) (rV D.bl) (pa.bind λx=>pb.bind λy=>some (decide (y < x))):=IJ l hb λx y z S h=>by cases h;rfl
theorem YG{f g:D->D->Sto->Res D}{P Q:Int->Int->Bool}(L:∀x y S,f (.int x) (.int y) S=.ok (.bl (P x y)) S)(N:∀x y S,g (.int x) (.int y) S=.ok (.bl (Q x y)) S)(O:VE A a (rV D.int) pa)(hb:VE A b (rV D.int) pb)(R:VE A c (rV D.int) pc) :
  VE A (m3 f g a b c) (rV D.bl) (pa.bind λx=>pb.bind λy=>if P x y=true then pc.bind λz=>some (Q y z)else some false):=λv s S0 e F S B=>by
 obtain⟨x,T,s⟩:=BA s;obtain⟨y,U,l⟩:=BA s;obtain⟨d1,X,G,m,rfl⟩:=O x T S0 e F S B;obtain⟨d2,C,H,E,rfl⟩:=hb y U S0 e _ X (B.grow m);have o:=L x y C
 cases I:P x y with
 | false=>
  rw[I]at l o;cases l;exact⟨_,C,wT G H o,m.trans E,rfl⟩
 | true=>
  rw[I]at l o;rw[qX rfl]at l;obtain⟨w,Y,Z⟩:=BA l;cases Z;obtain⟨d3,J,q3,k3,rfl⟩:=R w Y S0 e _ C ((B.grow m).grow E);exact⟨_,J,p0 G H o q3 (N y w J),(m.trans E).trans k3,rfl⟩
theorem xO(x y:Int)(S:Sto):ltD (.int x) (.int y) S=.ok (.bl (decide (x < y))) S:=rfl
theorem kL(x y:Int)(S:Sto):leD (.int x) (.int y) S=.ok (.bl (decide (x<=y))) S:=rfl
theorem qi{pb}(hb:VE A b (rV D.bl) pb):VE A (nT b) (rV D.int) (pb.bind λx=>some (if x=true then 1 else 0)):=λv l S0 e F S m=>by
 obtain⟨x,o,s⟩:=BA l;cases s;obtain⟨d,S',B,C,rfl⟩:=hb x o S0 e F S m;refine⟨_,S',?_,C,rfl⟩;unfold nT;rw[B];rfl
theorem lV{pa pb}(B:VE A a (rV D.bl) pa)(hb:VE A b (rV D.bl) pb):VE A (Y0 a b) (rV D.bl) (pa.bind λx=>if x=true then pb else some false):=λv C S0 e F S m=>by
 obtain⟨x,E,o⟩:=BA C;obtain⟨d,S',s,l,rfl⟩:=B x E S0 e F S m
 cases x with
 | true=>
  obtain⟨d,G,H,I,rfl⟩:=hb v o S0 e _ S' (m.grow l);exact⟨_,G,by unfold Y0;rw[s];exact H,l.trans I,rfl⟩
 | false=>cases o;exact⟨_,S',by unfold Y0;rw[s];rfl,l,rfl⟩
end
noncomputable def EqN(n:Nat)(enc:α->D)[DecidableEq α]:Prop:=∀x y,eqP n (enc x) (enc y)=some (decide (x=y))
noncomputable def NL(enc:α->D):Prop:=∀x S,Ue (enc x) S=none
theorem JB:EqN n D.int:=λx y=>by
 have:M0 (.int x) (.int y)=some (decide (x=y)):=rfl
 cases n <;> exact this
theorem uC:EqN n D.bl:=λx y=>by
 have:M0 (.bl x) (.bl y)=some (decide (x=y)):=by cases x <;> cases y <;> rfl
 cases n <;> exact this
theorem oS:EqN n D.str:=λx y=>by
 have:M0 (.str x) (.str y)=some (decide (x=y)):=rfl
 cases n <;> exact this
theorem cj{n:Nat}{enc:α->D}[DecidableEq α](h:EqN n enc):EqN (n+1) (eT enc):=by
 have m:∀l k:List α,eqL (eqP n) (l.map enc) (k.map enc)=some (decide (l=k)):=by
  intro l
  induction l with
  | nil=>intro k;cases k <;> rfl
  | cons x l o=>
   intro k
   cases k with
   | nil=>rfl
   | cons y k=>
    rw[Az,Az];unfold eqL;rw[h x y,o k]
    by_cases c:x=y <;> by_cases d:l=k <;> simp[c,d]
 exact λl k=>m l k
theorem Ua:NL D.int:=λ_ _=>rfl
theorem wK:NL D.bl:=λ_ _=>rfl
theorem sg:NL D.str:=λ_ _=>rfl
theorem sf:NL (eT enc):=λ_ _=>rfl
section
variable{a b:ME}{enc:α->D}[DecidableEq α]
theorem j6(h:EqN 8 enc)(n:NL enc)(neg:Bool)(x y:α)(S:Sto):eqD neg (enc x) (enc y) S=.ok (.bl (if neg then !decide (x=y)else decide (x=y))) S:=by
 unfold eqD eqB;rw[n x S,n y S];dsimp only;rw[h x y]
theorem Tn(h:EqN 8 enc)(n:NL enc)(l:VE A a (rV enc) m)(hb:VE A b (rV enc) o):VE A (m2 (eqD false) a b) (rV D.bl) (m.bind λx=>o.bind λy=>some (decide (x=y))):=IJ l hb λx y z S q=>by cases q;exact j6 h n false x y S
theorem vH(h:EqN 8 enc)(n:NL enc)(l:VE A a (rV enc) m)(hb:VE A b (rV enc) o):VE A (m2 (eqD true) a b) (rV D.bl) (m.bind λx=>o.bind λy=>some (!decide (x=y))):=IJ l hb λx y z S q=>by cases q;exact j6 h n true x y S
theorem ZN(h:EqN 8 enc)(x:α):∀l:List α,On (enc x) (l.map enc)=some (decide (x∈l))
 | []=>by simp[On]
 | y :: l=>by
  rw[Az];unfold On;rw[h y x,ZN h x l]
  by_cases c:y=x
  ·subst c;simp
  ·have:¬x=y:=λz=>c z.symm
   simp[c,this]
theorem je(h:EqN 8 enc)(neg:Bool)(x:α){l:List α}{d:D}{S:Sto}(m:HQ d S=some (l.map enc)):inA neg (enc x) d S=.ok (.bl (if neg then !decide (x∈l)else decide (x∈l))) S:=by
 show LI (inD neg (enc x) d S) _=_
 have e:inD neg (enc x) d S=.ok (.bl (if neg then !decide (x∈l)else decide (x∈l))) S:=by
  unfold inD;rw[m];dsimp only;rw[ZN h]
 rw[e];rfl
theorem qj{pl:Option (List α)}(h:EqN 8 enc)(m:VE A a (rV enc) o)(hb:VE A b (rV (eT enc)) pl):VE A (m2 (inA false) a b) (rV D.bl) (o.bind λx=>pl.bind λl=>some (decide (x∈l))):=IJ m hb λx l z S q=>by cases q;exact je h false x rfl
theorem be{pl:Option (List α)}(h:EqN 8 enc)(m:VE A a (rV enc) o)(hb:VE A b (rV (eT enc)) pl):VE A (m2 (inA true) a b) (rV D.bl) (o.bind λx=>pl.bind λl=>some (!decide (x∈l))):=IJ m hb λx l z S q=>by cases q;exact je h true x rfl
theorem uD(h:EqN n enc):∀l k:List α,eqL (eqP n) (l.map enc) (k.map enc)=some (decide (l=k)):=by
 intro l
 induction l with
 | nil=>intro k;cases k <;> rfl
 | cons x l m=>
  intro k
  cases k with
  | nil=>rfl
  | cons y k=>
   rw[Az,Az];unfold eqL;rw[h x y,m k]
   by_cases c:x=y <;> by_cases d:l=k <;> simp[c,d]
theorem fN(h:EqN 8 enc)(neg:Bool)(o:S[n]?=some (oL enc l))(s:S[m]?=some (oL enc k)):eqD neg (.ref n) (.ref m) S=.ok (.bl (if neg then !decide (l=k)else decide (l=k))) S:=by
 unfold eqD eqB;rw[QD o,QD s];dsimp only;rw[AC,AC]
 by_cases c:l.length=k.length
 ·rw[qX c,uD h]
 ·rw[qY c,wY λz=>c (by rw[z])]
theorem pR{f:D->D->Sto->Res D}{o:β->Ob}{s:γ->Ob}{B:δ->D}{C:Option β}{E:Option γ}{g:β->γ->Option δ}(L:VE A a (rO o) C)(hb:VE A b (rO s) E)
  (N:∀x y z S (n m:Nat),S[n]?=some (o x)->S[m]?=some (s y)->g x y=some z->f (.ref n) (.ref m) S=.ok (B z) S):VE A (m2 f a b) (rV B) (C.bind λx=>E.bind λy=>g x y):=λv l S0 e F S G=>by
 obtain⟨x,O,l⟩:=BA l;obtain⟨y,P,Q⟩:=BA l;obtain⟨d1,R,T,H,n,rfl,U⟩:=L x O S0 e F S G;obtain⟨d2,I,X,J,m,rfl,Y⟩:=hb y P S0 e _ R (G.grow H);exact⟨_,I,Dz T X (N x y v I n m (J.at U) Y Q),H.trans J,rfl⟩
theorem qg{l o:Option (List α)}(h:EqN 8 enc)(s:VE A a (rO (oL enc)) l)(hb:VE A b (rO (oL enc)) o):VE A (m2 (eqD true) a b) (rV D.bl) (l.bind λx=>o.bind λy=>some (!decide (x=y))):=pR s hb λx y z S n m B C q=>by cases q;exact fN h true B C
end
section
variable{a b m mo:ME}
theorem ot(l:List α)(i:Int)(f:α->β):atI (l.map f) i=(atI l i).map f:=by
 unfold atI;rw[AC]
 cases ixN l.length i with
 | none=>rfl
 | some j=>show(l.map f)[j]?=(l[j]?).map f;rw[Ad]
theorem aa(o:HQ d S=some (l.map enc))(h:atI l i=some x):ixA d (.int i) S=.ok (enc x) S:=by
 show LI (ixD d (.int i) S) _=_
 have:ixD d (.int i) S=.ok (enc x) S:=by
  unfold ixD;rw[o];dsimp only;rw[ot,h];rfl
 rw[this];rfl
theorem gr(o:VE A a (rV (eT enc)) pl)(hb:VE A b (rV D.int) s):VE A (m2 ixA a b) (rV enc) (pl.bind λl=>s.bind λi=>atI l i):=IJ o hb λl i z S q=>aa rfl q
theorem qh{pl}(o:VE A a (rV eF) pl)(hb:VE A b (rV D.int) s):VE A (m2 ixA a b) (rV D.int) (pl.bind λl=>s.bind λi=>atI l i):=IJ o hb λl i z S q=>aa rfl q
theorem JP(o:VE A a (rO (oL enc)) pl)(hb:VE A b (rV D.int) s):VE A (m2 ixA a b) (rV enc) (pl.bind λl=>s.bind λi=>atI l i):=Wx o hb λl i z S n B q=>aa (JF B) q
theorem Wv(o:VE A a (rV (eT enc)) pl):VE A (J8 a) (rV D.int) (pl.bind λl=>some (l.length:Int)):=λv s S0 e F S B=>by
 obtain⟨l,C,E⟩:=BA s;cases E;obtain⟨d,S',G,H,rfl⟩:=o l C S0 e F S B;exact⟨_,S',(Uf (ds:=l.map enc) G rfl).trans (by rw[AC]),H,rfl⟩
theorem lR{pl}(o:VE A a (rV eF) pl):VE A (J8 a) (rV D.int) (pl.bind λl=>some (l.length:Int)):=λv s S0 e F S B=>by
 obtain⟨l,C,E⟩:=BA s;cases E;obtain⟨d,S',G,H,rfl⟩:=o l C S0 e F S B;exact⟨_,S',(Uf (ds:=l.map D.int) G rfl).trans (by rw[AC]),H,rfl⟩
theorem Sk(o:VE A a (rO (oL enc)) pl):VE A (J8 a) (rV D.int) (pl.bind λl=>some (l.length:Int)):=λv s S0 e F S B=>by
 obtain⟨l,C,E⟩:=BA s;cases E;obtain⟨d,S',G,H,n,rfl,I⟩:=o l C S0 e F S B;exact⟨_,S',(Uf (ds:=l.map enc) G (JF I)).trans (by rw[AC]),H,rfl⟩
theorem L1:∀ns:ZLi,J9 (ns.map D.int)=some ns
 | []=>rfl
 | x :: ns=>by rw[Az];unfold J9;rw[L1 ns];rfl
theorem OB(o:VE A a (rO (oL enc)) pl):VE A (Ib a) (rV (eT enc)) pl:=λl s S0 e F S B=>by
 obtain⟨d,S',C,E,n,rfl,G⟩:=o l s S0 e F S B;exact⟨_,S',Pu C (JF G),E,rfl⟩
theorem Jr:VL A Ay enc (some []):=λv l S0 e F S o=>by cases l;exact⟨S,rfl,Keeps.refl S⟩
theorem HJ(h:VE A m (rV enc) p)(B:VL A ml enc pl):VL A (AH m ml) enc (p.bind λx=>pl.bind λl=>some (x :: l)):=λv C S0 e F S o=>by
 obtain⟨x,E,G⟩:=BA C;obtain⟨l,H,I⟩:=BA G;cases I;obtain⟨d,J,L,s,rfl⟩:=h x E S0 e F S o;obtain⟨N,O,P⟩:=B l H S0 e _ J (o.grow s);exact⟨N,CL L O,s.trans P⟩
noncomputable def NP(l:List α):Option (List α):=if l.length<=1000000 then some l else none
theorem Lq(h:VL A ml enc pl):VL A (D5 ml) enc (pl.bind NP):=λv s S0 e F S B=>by
 obtain⟨l,C,o⟩:=BA s;unfold NP at o;split at o
 ·rename_i E
  cases o;obtain⟨S',G,H⟩:=h _ C S0 e F S B;refine⟨S',?_,H⟩;unfold D5;rw[G];dsimp only[Res.bind];rw[qX (by rw[AC];exact sx E)]
 ·cases o
theorem Tj(h:VL A ml enc pl):VE A (Gu ml) (rV (eT enc)) (pl.bind NP):=λv s S0 e F S B=>by
 obtain⟨l,C,o⟩:=BA s;unfold NP at o;split at o
 ·rename_i E
  cases o;obtain⟨S',G,H⟩:=h _ C S0 e F S B;refine⟨_,S',?_,H,rfl⟩;unfold Gu;rw[G];dsimp only[Res.bind];rw[qX (by rw[AC];exact sx E)];rfl
 ·cases o
theorem Sj(E:VE A a (rV o) G)(hb:VE A b (rV s) H):VE A (Gu (AH a (AH b Ay))) (rV (eP o s)) (G.bind λx=>H.bind λy=>some (x,y)):=λv l S0 e F S B=>by
 obtain⟨x,I,l⟩:=BA l;obtain⟨y,J,L⟩:=BA l;cases L;obtain⟨d1,N,O,C,rfl⟩:=E x I S0 e F S B;obtain⟨d2,P,Q,R,rfl⟩:=hb y J S0 e _ N (B.grow C);exact⟨_,P,Ot (ds:=[o x,s y]) (CL O (CL Q rfl)) (by simp),C.trans R,rfl⟩
theorem bj(o:VE A a (rV (eT enc)) pl)(hb:VE A b (rV (eT enc)) s):VE A (m2 Em a b) (rV (eT enc)) (pl.bind λl=>s.bind λk=>j4 l k):=IJ o hb λl k z S q=>by
 unfold j4 at q;split at q
 ·rename_i B
  cases q;unfold eT;rw[Ba];exact bp (by rw[AC,AC];exact sx B)
 ·cases q
noncomputable def VO(A:List Sl)(mo:MO)(p:Option (Option Int)):Prop:=∀v,p=some v->∀S0 e F S,Vs S0 A e F S->∃S',mo e S=.ok v S'/\Keeps S S'
theorem lM:VO A P8 (some none):=λv l S0 e F S o=>by cases l;exact⟨S,rfl,Keeps.refl S⟩
theorem Wu(h:VE A m (rV D.int) l):VO A (NF m) (l.bind λi=>some (some i)):=λv o S0 e F S s=>by
 obtain⟨x,B,C⟩:=BA o;cases C;obtain⟨d,S',E,G,rfl⟩:=h x B S0 e F S s;exact⟨S',by unfold NF;rw[E];rfl,G⟩
theorem ZF(l:List α)(f:α->β)(lo hi:Option Int):Ij (l.map f) lo hi=(Ij l lo hi).map f:=by
 unfold Ij;rw[AC,<-qP,<-Xw]
theorem lS(G:VE A a (rV (eT enc)) pl)(H:VO A mlo I)(J:VO A mhi ph):VE A (Sx a mlo mhi) (rV (eT enc)) (pl.bind λl=>I.bind λx=>ph.bind λy=>some (Ij l x y)):=λv o S0 e F S s=>by
 obtain⟨l,L,o⟩:=BA o;obtain⟨x,N,o⟩:=BA o;obtain⟨y,O,P⟩:=BA o;cases P;obtain⟨d1,Q,R,B,rfl⟩:=G l L S0 e F S s;obtain⟨T,U,C⟩:=H x N S0 e _ Q (s.grow B);obtain⟨E,X,Y⟩:=J y O S0 e _ T ((s.grow B).grow C);refine⟨_,E,?_,(B.trans C).trans Y,rfl⟩;unfold Sx;rw[R];dsimp only[Res.bind];rw[U];dsimp only;rw[X];show Res.ok (D.tup (Ij (l.map enc) x y)) E=_;rw[ZF];rfl
noncomputable def Om{α β:Type}(l:List α)(v:β):Option β:=if l.length < 64 then some v else none
theorem QR{α β:Type}{l:List α}{v:β}(h:l.length < 64):Om l v=some v:=qX h
theorem PH{α β:Type}{l:List α}{v u:β}(h:Om l v=some u):l.length < 64/\v=u:=by
 unfold Om at h;split at h
 ·cases h
  exact⟨by assumption,rfl⟩
 ·cases h
theorem gm{pl}(s:VE A a (rO (oL D.int)) pl):VE A (Ev a) (rN (oL D.int)) (pl.bind λl=>Om l (Be l)):=λv B S0 e F S C=>by
 obtain⟨l,E,G⟩:=BA B;obtain⟨H,rfl⟩:=PH G;obtain⟨d,S',I,o,n,rfl,J⟩:=s l E S0 e F S C;refine⟨_,_,Jm I (PD J) (es:=(Be l).map D.int) ?_,o.trans (Keeps.app _ _),_,rfl,o.1,DR _ _⟩;unfold Jt;rw[qX (by rw[AC];exact H)];rw[L1]
noncomputable def UA(l:List ZLi):Option (List ZLi):=if l.all (λr=>!r.isEmpty)=true/\l.length < 64 then some (Lv l)else none
theorem Yg:∀l:List ZLi,l.all (λr=>!r.isEmpty)=true->Oe (l.map OQ)=some l
 | [],_=>rfl
 | [] :: l,h=>by simp at h
 | (x :: r) :: l,h=>by
  rw[MD,CS]at h;show Oe (.tup ((x :: r).map D.int) :: l.map OQ)=_;unfold Oe;rw[L1,Yg l h.2]
theorem gn{pl}(C:VE A a (rO (oL (eT D.int))) pl):VE A (Ev a) (rN (oL (eT D.int))) (pl.bind UA):=λv E S0 e F S G=>by
 obtain⟨l,H,o⟩:=BA E;obtain⟨d,S',I,B,n,rfl,J⟩:=C l H S0 e F S G;unfold UA at o;split at o
 ·rename_i s
  obtain⟨s,L⟩:=s;cases o;refine⟨_,_,Jm I (PD J) (es:=(Lv l).map OQ) ?_,B.trans (Keeps.app _ _),_,rfl,B.1,DR _ _⟩
  cases l with
  | nil=>show some ((Be []).map D.int)=some ((Lv []).map OQ);rw[dk];unfold Lv;rw[List.mergeSort_nil];rfl
  | cons x l=>
   unfold Jt;rw[qX (by rw[AC];exact L)];rw[show J9 (Re (eT D.int) (x :: l))=none from rfl,show Oe (Re (eT D.int) (x :: l))=some (x :: l)from Yg _ s]
 ·cases o
theorem MU(o:VE A a (rV (eT enc)) pl):VI A (EI a) enc pl:=λl s S0 e F S B=>by
 obtain⟨d,S',C,E,rfl⟩:=o l s S0 e F S B;exact⟨_,S',Ul (xs:=l.map enc) C,E,λ_ _ _ _=>rfl⟩
theorem K6(s:VE A a (rN (oL enc)) pl):VI A (EI a) enc pl:=λl B S0 e F S C=>by
 obtain⟨d,S',E,G,n,rfl,H,o⟩:=s l B S0 e F S C;exact⟨_,S',L3 E o,G,λJ L I h=>Dr (h n _ (I _ _ (QT H o)))⟩
theorem bZ(h:A[i]?=some (.y (oL enc l))):VI A (EI (AD i)) enc (some l):=λ_ C S0 e F S o=>by
 cases C;obtain⟨x,E,n,rfl,s,_⟩:=o.sl i _ h;have B:=o.fz _ _ s;exact⟨_,S,L3 (n:=n) (by unfold AD;rw[E]) B,Keeps.refl S,λH I G h=>Dr (h n _ (G _ _ (by rw[Gw (Bf B)];exact s)))⟩
noncomputable def DQ(lo:Int)(n:Nat):ZLi:=(BJ n).map λi:Nat=>lo+i
noncomputable def Mg(j:Int):Option ZLi:=if -1000000<=j/\j<=1000000 then some (DQ 0 j.toNat)else none
noncomputable def Yk(i j:Int):Option ZLi:=if -1000000<=i/\i<=1000000/\-1000000<=j/\j<=1000000 then some (DQ i (j - i).toNat)else none
theorem XC(lo:Int)(n:Nat):Ez lo n=(DQ lo n).map D.int:=by
 unfold Ez DQ;rw[BB];rfl
theorem GN(B:VE A a (rV D.int) C):VI A (iR1 (AH a Ay)) D.int (C.bind Mg):=λl E S0 e F S G=>by
 obtain⟨j,H,o⟩:=BA E;obtain⟨d,S',I,J,rfl⟩:=B j H S0 e F S G;unfold Mg at o;split at o
 ·rename_i s
  cases o;exact⟨_,S',ai (j:=j) (CL I rfl) s.1 s.2,J,λ_ _ _ _=>congrArg some (XC _ _)⟩
 ·cases o
theorem Lr(G:VE A a (rV D.int) H)(hb:VE A b (rV D.int) I):VI A (iR2 (AH a (AH b Ay))) D.int (H.bind λi=>I.bind λj=>Yk i j):=λl B S0 e F S C=>by
 obtain⟨i,J,B⟩:=BA B;obtain⟨j,L,o⟩:=BA B;obtain⟨d,N,O,E,rfl⟩:=G i J S0 e F S C;obtain⟨d,P,Q,R,rfl⟩:=hb j L S0 e _ N (C.grow E);unfold Yk at o;split at o
 ·rename_i s
  cases o;exact⟨_,P,jf (i:=i) (j:=j) (CL O (CL Q rfl)) s.1 s.2.1 s.2.2.1 s.2.2.2,E.trans R,λ_ _ _ _=>congrArg some (XC _ _)⟩
 ·cases o
noncomputable def DT(l:List α):List (Int×α):=l.zipIdx.map λx=>((x.2:Int),x.1)
theorem RP(l:List α):LS (l.map enc)=(DT l).map (eP D.int enc):=by
 unfold LS DT;rw[List.zipIdx_map,BB,BB];rfl
theorem gj(o:VE A a (rV (eT enc)) pl):VI A (Hm a) (eP D.int enc) (pl.bind λl=>some (DT l)):=λv s S0 e F S B=>by
 obtain⟨l,C,E⟩:=BA s;cases E;obtain⟨d,S',G,H,rfl⟩:=o l C S0 e F S B;refine⟨NC (Ec (eT enc l)),S',?_,H,λI J L h=>?_⟩
 ·unfold Hm
  rw[G];rfl
 ·show some (LS (l.map enc))=_
  rw[RP]
noncomputable def NN(enc:α->D):Prop:=∀x S neg,Uj neg (enc x) .non S=.ok (.bl neg) S
theorem se:NN D.int:=λ_ _ _=>rfl
theorem cJ{a:α->D}{b:β->D}:NN (eP a b):=λ_ _ _=>rfl
theorem Zr(l:NN enc)(s:VE A a (rV (eO enc)) p):VE A (m2 (Uj false) a (mC .non)) (rV D.bl) (p.bind λo=>some o.isNone):=λv B S0 e F S C=>by
 obtain⟨x,E,G⟩:=BA B;cases G;obtain⟨d,S',H,I,rfl⟩:=s x E S0 e F S C;refine⟨_,S',Dz H rfl ?_,I,rfl⟩
 cases x with
 | none=>rfl
 | some y=>exact l y S' false
theorem ba(l:VE A a (rV enc) p):VE A a (rV (eO enc)) (p.bind λo=>some (some o)):=λv s S0 e F S B=>by
 obtain⟨x,C,E⟩:=BA s;cases E;exact l _ C S0 e F S B
theorem bd:VE A (mC .non) (rV (eO enc)) (some none):=Cv rfl
end
end
section
variable{α β ρ σ κ κ':Type}
noncomputable def oDK(enc:α->D)(l:List (Int×α)):Ob:=.dK (l.map λx=>(EA x.1,enc x.2))
theorem Po[DecidableEq κ][DecidableEq κ']{m:κ->κ'}(o:∀x y,m x=m y->x=y)(f:α->β)(l:List (κ×α))(k:κ):An (l.map λx=>(m x.1,f x.2)) (m k)=(An l k).map f:=by
 unfold An
 induction l with
 | nil=>rfl
 | cons x l s=>
  rw[Az,CD,CD]
  by_cases c:x.1=k
  ·rw[wX c,wX (show m x.1=m k by rw[c])]
   rfl
  ·rw[wY c,wY λz=>c (o _ _ z)]
   exact s
theorem UM[DecidableEq κ][DecidableEq κ']{m:κ->κ'}(s:∀x y,m x=m y->x=y)(f:α->β)(l:List (κ×α))(k:κ)(v:α):CJ (l.map λx=>(m x.1,f x.2)) (m k) (f v)=(CJ l k v).map λx=>(m x.1,f x.2):=by
 have any:((l.map λx=>(m x.1,f x.2)).any λo=>decide (o.1=m k))=l.any λo=>decide (o.1=k):=by
  rw[List.any_map]
  congr 1
  funext x
  exact decide_eq_decide.mpr ⟨s _ _,λz=>congrArg m z⟩
 unfold CJ;rw[any];split
 ·rw[BB,BB]
  refine DA λx _=>?_
  show(if m x.1=m k then(m x.1,f v)else(m x.1,f x.2))=_
  by_cases c:x.1=k
  ·show _=(λx:κ×α=>(m x.1,f x.2)) (if x.1=k then(x.1,v)else x)
   rw[qX c,qX (show m x.1=m k by rw[c])]
  ·show _=(λx:κ×α=>(m x.1,f x.2)) (if x.1=k then(x.1,v)else x)
   rw[qY c,qY λz=>c (s _ _ z)]
 ·rw[Ba]
  rfl
theorem S8(x y:Int)(h:(EA x:Key)=EA y):x=y:=by cases h;rfl
theorem cq{enc:α->D}{l:List (Int×α)}{n:Nat}{S:Sto}(h:S[n]?=some (oDK enc l))(k:Int):OU (.ref n) (.int k) S=some ((An l k).map enc):=by
 unfold OU;dsimp only;rw[h];show some (An _ (EA k))=_;rw[Po S8]
theorem ax(l:HQ (.ref n) S=none)(h:OU (.ref n) y S=some o)(neg:Bool):inA neg y (.ref n) S=.ok (.bl (if neg then !o.isSome else o.isSome)) S:=by
 show LI (inD neg y (.ref n) S) (OT neg y (.ref n) S)=_;rw[show inD neg y (.ref n) S=.bad by unfold inD;rw[l]];show OT neg y (.ref n) S=_;unfold OT;rw[h]
theorem RQ(l:HQ (.ref n) S=none)(h:OU (.ref n) y S=some (some d)):ixA (.ref n) y S=.ok d S:=by
 show LI (ixD (.ref n) y S) (Uy (.ref n) y S)=_;rw[show ixD (.ref n) y S=.bad by unfold ixD;rw[l]];show Uy (.ref n) y S=_;unfold Uy;rw[h]
theorem mF(h:S[n]?=some (oDK enc l)):HQ (.ref n) S=none:=by unfold HQ;dsimp only;rw[h];rfl
section
theorem Tp:VE A JS (rN (oDK enc)) (some []):=λv l m e F S o=>by cases l;exact⟨_,_,rfl,Keeps.app _ _,_,rfl,AM _,DR _ _⟩
theorem To{m}{pl}(s:VE A a (rV D.int) m)(hb:VE A b (rO (oDK enc)) pl):VE A (m2 (inA true) a b) (rV D.bl) (m.bind λx=>pl.bind λl=>some (!(An l x).isSome)):=qf s hb λx l z S n o q=>by cases q;rw[ax (mF o) (cq o x)];simp
theorem gw(o:VE A a (rO (oDK enc)) pl)(hb:VE A b (rV D.int) s):VE A (m2 ixA a b) (rV enc) (pl.bind λl=>s.bind λx=>An l x):=Wx o hb λl x z S n m q=>RQ (mF m) (by rw[cq m x,q];rfl)
noncomputable def IX[DecidableEq κ](l:List (κ×α))(k:κ)(v:α):Option (List (κ×α)):=if l.length < 1000000 then some (CJ l k v)else none
theorem bX{J:κ->D}[DecidableEq κ]{B:List (κ×α)->Ob}{R:Rk ρ}{p:Option α}{L:Option κ}{i:Nat}{l:List (κ×α)}
  (Q:∀(l:List (κ×α)) (k:κ) (v:α) (S:Sto) (n:Nat),S[n]?=some (B l)->l.length < 1000000->SW (.ref n) (J k) (enc v) S=some (S.set n (B (CJ l k v))))
  (hi:A[i]?=some (.w i (B l))) (T:VE A b (rV J) L) (h:VE A m (rV enc) p) (U:((A.set i .u).all (Sl.oth i))=true) :
  VS A (DE (AD i) b m) R (p.bind λv=>L.bind λk=>(IX l k v).bind λE=>some (.nx E)) (λE=>A.set i (.w i (B E))):=λf X N e F S o=>by
 obtain⟨v,Y,Z⟩:=BA X;obtain⟨k,ϔ,h3⟩:=BA Z;obtain⟨E,G,h0⟩:=BA h3;cases h0;unfold IX at G;split at G
 ·rename_i hl
  cases G;obtain⟨x,O,n,rfl,g2,I⟩:=o.sl i _ hi;obtain⟨d,s,h5,C,rfl⟩:=h v Y N e F S o;obtain⟨d,H,h7,P,rfl⟩:=T k ϔ N e _ s (o.grow C);have hg:=(o.grow C).grow P;have hn:=(C.trans P).at I
  have hx:DE (AD i) b m e S=.ok (.nx e) (H.set n (B (CJ l k v))):=by
   unfold DE;rw[h5];dsimp only[Res.lift];rw[show AD i e s=.ok (.ref n) s by unfold AD;rw[O]];dsimp only;rw[h7];dsimp only;rw[Q l k v H n hn hl]
  have hF:RO (RO F S s) s H n=.ow i:=by rw[Gw (Bf (C.at I)),Gw (Bf I)];exact g2
  exact⟨_,_,hx,e,_,rfl,hg.put U hi O hF,(o.fle s).trans ((o.grow C).fle H)⟩
 ·cases G
theorem Pl{R:Rk ρ}{p:Option α}{s:Option Int}{i:Nat}{l:List (Int×α)}(hi:A[i]?=some (.w i (oDK enc l)))(B:VE A b (rV D.int) s)(h:VE A m (rV enc) p)(C:((A.set i .u).all (Sl.oth i))=true) :
  VS A (DE (AD i) b m) R (p.bind λv=>s.bind λk=>(IX l k v).bind λo=>some (.nx o)) (λo=>A.set i (.w i (oDK enc o))):=
 bX (λl k v S n E G=>by
  unfold SW;dsimp only;rw[E];show(if (l.map _).length < sizeLine then some (S.set n (.dK (CJ (l.map λx=>(EA x.1,enc x.2)) (EA k) (enc v))))else none)=_;rw[qX (by rw[AC];exact eh G),UM S8]
  rfl) hi B h C
theorem lW(h:VE A m (rV (eT enc)) pl):VB A (FM m) (pl.bind λl=>some (!l.isEmpty)):=λv o s e F S B=>by
 obtain⟨l,C,E⟩:=BA o;cases E;obtain⟨d,G,H,I,rfl⟩:=h l C s e F S B;refine⟨G,?_,I⟩;unfold FM;rw[H]
 cases l <;> rfl
theorem bm(h:VE A m (rO (oL enc)) pl):VB A (FM m) (pl.bind λl=>some (!l.isEmpty)):=λv s B e F S C=>by
 obtain⟨l,E,G⟩:=BA s;cases G;obtain⟨d,o,H,I,n,rfl,J⟩:=h l E B e F S C;refine⟨o,?_,I⟩;unfold FM;rw[H];dsimp only[Res.bind]
 have:Rq (.ref n) o=some (!l.isEmpty):=by
  unfold Rq;dsimp only;rw[J]
  cases l <;> rfl
 rw[this]
theorem TY{b:MS}{R:Rk ρ}{B:σ->List Sl}:VS A b R none B:=λf l=>by cases l
theorem qd(m:VE A a (rO (oL D.int)) pl):VE A (nS a) (rV D.int) (pl.bind λl=>some (W0 l)):=λv o s e F S B=>by
 obtain⟨l,C,E⟩:=BA o;cases E;obtain⟨d,G,H,I,n,rfl,J⟩:=m l C s e F S B;refine⟨_,G,?_,I,rfl⟩;unfold nS;rw[H];dsimp only[Res.bind];rw[QD J];dsimp only;rw[L1]
end
end
section
variable{α ρ σ:Type}
theorem CI:BM (some (.nx s)) q=q s:=rfl
theorem kU:BM (some (.rt r)) q=some (.rt r):=rfl
theorem nR:Eg (ρ:=ρ) g (some (.nx s))=some (.nx (g s)):=rfl
theorem XF:Fi (some (.rt r:Fw ρ σ))=some r:=rfl
theorem Sv:eV (some (.nx s))=some ():=rfl
theorem cb{l:List α}{q:σ->α->Option (Fw ρ σ)}{s0:σ}(I:List α->σ->Prop)(B:I [] s0)(h:∀m x s,x∈l->m++[x] <+: l->I m s->∃s',q s x=some (.nx s')/\I (m++[x]) s'):∃s,EQ l s0 q=some (.nx s)/\I l s:=by
 have o:∀(r m:List α) (s:σ),l=m++r->I m s->∃s',EQ r s q=some (.nx s')/\I l s':=by
  intro r
  induction r with
  | nil=>intro m s e A;rw[By]at e;subst e;exact⟨s,rfl,A⟩
  | cons x r C=>
   intro m s e A;obtain⟨s',E,G⟩:=h m x s (by rw[e];simp) ⟨r,by rw[e];simp⟩ A;obtain⟨H,J,L⟩:=C (m++[x]) s' (by rw[e];simp) G;refine⟨H,?_,L⟩;unfold EQ;rw[E];exact J
 exact o l [] s0 rfl B
theorem ju(I:List α->σ->Prop)(R:ρ->Prop)(E:I [] s0)(h:∀m x s,x∈l->m++[x] <+: l->I m s->(∃s',q s x=some (.nx s')/\I (m++[x]) s')∨∃r,q s x=some (.rt r)/\R r):(∃s,EQ l s0 q=some (.nx s)/\I l s)∨∃r,EQ l s0 q=some (.rt r)/\R r:=by
 have o:∀(r m:List α) (s:σ),l=m++r->I m s->(∃s',EQ r s q=some (.nx s')/\I l s')∨∃y,EQ r s q=some (.rt y)/\R y:=by
  intro r
  induction r with
  | nil=>intro m s e A;rw[By]at e;subst e;exact .inl ⟨s,rfl,A⟩
  | cons x r G=>
   intro m s e A
   rcases h m x s (by rw[e];simp) ⟨r,by rw[e];simp⟩ A with⟨s',B,C⟩ | ⟨y,B,C⟩
   ·have H:EQ (x :: r) s q=EQ r s' q:=by
     conv=>lhs;unfold EQ
     rw[B]
    rw[H];exact G (m++[x]) s' (by rw[e];simp) C
   ·refine .inr ⟨y,?_,C⟩
    unfold EQ;rw[B]
 exact o l [] s0 rfl E
theorem kJ(B:∀x∈l,c x=some (P x))(C:∀x∈l,P x=true->m x=some (f x)):U2 c m l=some ((l.filter P).map f):=by
 induction l with
 | nil=>rfl
 | cons x l o=>
  have o:=o (λy s=>B y (AV _ s)) λy s=>C y (AV _ s)
  unfold U2;rw[B x AZ];show(if P x=true then _ else _)=_
  cases A:P x with
  | true=>
   rw[qX rfl,C x AZ A,o,X8 A];rfl
  | false=>
   rw[qY AN,o,X9 (by rw[A];exact AN)]
theorem U6(o:l.length<=1000000)(s:∀x∈l,c x=some (P x))(A:∀x∈l,P x=true->m x=some (f x)):Fg l c m=some ((l.filter P).map f):=by
 unfold Fg;rw[qX o,kJ s A]
theorem GZ(o:l.length<=1000000)(s:∀x∈l,m x=some (f x)):Fg l (λ_=>some true) m=some (l.map f):=by
 rw[U6 (P:=λ_=>true) o (λ_ _=>rfl) λx A _=>s x A,List.filter_eq_self.mpr λ_ _=>rfl]
theorem PL(m:l.length<=1000000)(o:∀x∈l,c x=some (P x)):Fg l c (λx=>some x)=some (l.filter P):=by
 rw[U6 (f:=λx=>x) m o λx s _=>rfl,uj]
theorem cz(h:l.length < 1000000):bE l x=some (l++[x]):=qX h
theorem oQ(h:l.length+k.length<=1000000):j4 l k=some (l++k):=qX h
theorem t9:NP ([]:List α)=some []:=rfl
theorem xF(a:α):NP [a]=some [a]:=qX (by simp)
theorem few2(a b:α):NP [a,b]=some [a,b]:=qX (by simp)
theorem Kl(l:-1000000<=j)(m:j<=1000000):Mg j=some (DQ 0 j.toNat):=qX ⟨l,m⟩
theorem Sr(l:-1000000<=i)(m:i<=1000000)(o:-1000000<=j)(s:j<=1000000):Yk i j=some (DQ i (j - i).toNat):=qX ⟨l,m,o,s⟩
theorem Bh{lo:Int}{n:Nat}{x:Int}:x∈DQ lo n↔lo<=x/\x < lo+n:=by
 unfold DQ;rw[Ai]
 constructor
 ·rintro⟨k,l,rfl⟩
  have:=Ea.mp l
  lia
 ·rintro⟨m,o⟩
  exact⟨(x - lo).toNat,Ea.mpr (by lia),by lia⟩
theorem Br(lo:Int)(n:Nat):(DQ lo n).length=n:=by unfold DQ;rw[AC,D8]
theorem Jb(lo:Int)(n:Nat):(DQ lo n).Pairwise (· < ·):=by
 unfold DQ;rw[Bc]
 exact List.pairwise_lt_range.imp λh=>by lia
theorem uO(o:0<=i)(s:i < l.length):∃x,atI l i=some x/\l[i.toNat]?=some x:=by
 have m:i.toNat < l.length:=by lia
 exact⟨l[i.toNat],LZ o (AO m),AO m⟩
theorem oq(h:atI l i=some x):x∈l:=by
 unfold atI at h;obtain⟨j,_,m⟩:=BA h;exact Al m
theorem cL(h:0 < y):jH x y=some (x % y):=qX h
theorem ZA(P:α->Bool)(l:List α)(x:α):(l++[x]).filter P=if P x=true then l.filter P++[x]else l.filter P:=by
 rw[List.filter_append]
 cases c:P x with
 | true=>rw[qX rfl,X8 c];rfl
 | false=>rw[qY AN,X9 (by rw[c];exact AN)];simp
theorem Yi{lo:Int}{n:Nat}{l:ZLi}{x:Int}(h:l++[x] <+: DQ lo n):x=lo+l.length/\l.length < n:=by
 have m:=h.length_le;rw[AQ,Ac,Br]at m;obtain⟨r,o⟩:=h;have:=congrArg (λz=>z[l.length]?) o;simp only[CT,Bd (AM _),uz]at this;rw[show([x]++r)[0]?=some x from rfl]at this;unfold DQ at this;rw[Ad,CP (by lia)]at this;simp only[Option.map_some,Option.some.injEq]at this;exact⟨this,by lia⟩
theorem Gh[DecidableEq α]:∀{l k:List α},l.Nodup->(∀x∈l,x∈k)->l.length<=k.length
 | [],_,_,_=>Do _
 | x :: l,k,s,h=>by
  have m:=h x AZ;obtain⟨A,B⟩:=Bu.mp s
  have:=Gh (l:=l) (k:=k.erase x) B λy o=>(List.mem_erase_of_ne (λz:y=x=>A (by rw[<-z];exact o))).mpr (h y (AV _ o))
  rw[MC m]at this;have:=List.length_pos_of_mem m;rw[BC]
  lia
noncomputable def Ok(p:Option α)(P:α->Prop):Prop:=∃v,p=some v/\P v
theorem Ok.pure(h:P v):Ok (some v) P:=⟨v,rfl,h⟩
theorem Ok.is(h:Ok p λr=>r=v):p=some v:=by
 obtain⟨_,l,rfl⟩:=h;exact l
theorem Ok.bind(h:Ok p P)(l:∀v,P v->Ok (q v) Q):Ok (p.bind q) Q:=by
 obtain⟨v,rfl,h⟩:=h;exact l v h
theorem Ok.imp(h:Ok p P)(i:∀v,P v->Q v):Ok p Q:=by
 obtain⟨v,rfl,h⟩:=h;exact⟨v,rfl,i v h⟩
noncomputable def OkF(p:Option (Fw ρ σ))(N:σ->Prop)(R:ρ->Prop):Prop:=(∃s,p=some (.nx s)/\N s)∨∃r,p=some (.rt r)/\R r
theorem OkF.nx(h:N s):OkF (some (.nx s)) N R:=.inl ⟨s,rfl,h⟩
theorem OkF.rt(h:R r):OkF (some (.rt r)) N R:=.inr ⟨r,rfl,h⟩
theorem OkF.seq(h:OkF p N R)(l:∀s,N s->OkF (q s) N' R):OkF (BM p q) N' R:=by
 rcases h with⟨s,rfl,h⟩ | ⟨r,rfl,h⟩
 ·exact l s h
 ·exact .inr ⟨r,rfl,h⟩
theorem OkF.map(h:OkF p N R)(l:∀s,N s->N' (g s)):OkF (Eg g p) N' R:=by
 rcases h with⟨s,rfl,h⟩ | ⟨r,rfl,h⟩
 ·exact .inl ⟨_,rfl,l s h⟩
 ·exact .inr ⟨r,rfl,h⟩
theorem OkF.for(I:List α->σ->Prop)(o:I [] s0)(h:∀m x s,x∈l->m++[x] <+: l->I m s->OkF (q s x) (I (m++[x])) R):OkF (EQ l s0 q) (I l) R:=ju I R o h
theorem OkF.out(h:OkF p (λ_=>False) R):Ok (Fi p) R:=by
 rcases h with⟨s,rfl,h⟩ | ⟨r,rfl,h⟩
 ·exact h.elim
 ·exact⟨r,rfl,h⟩
theorem OkF.imp(h:OkF p N R)(l:∀s,N s->N' s)(m:∀r,R r->R' r):OkF p N' R':=by
 rcases h with⟨s,rfl,h⟩ | ⟨r,rfl,h⟩
 ·exact .inl ⟨s,rfl,l s h⟩
 ·exact .inr ⟨r,rfl,m r h⟩
theorem VF.law(h:VF f [.v (eF ns)] (rV D.bl) (some true)):∃S',f [.fro (ns.map D.int)] []=.ok (.bl true) S':=by
 obtain⟨d,S',l,_,rfl⟩:=h true rfl [] [.fro (ns.map D.int)] ⟨rfl,trivial⟩;exact⟨S',l⟩
end
section
noncomputable def Px(x y:Int):Option Int:=if ka x y then some (x * 2 ^ y.toNat)else none
noncomputable def lz(x y:Int):Option Int:=if 0<=y then some (x / 2 ^ y.toNat)else none
theorem Qq(l:VE A a (rV D.int) m)(hb:VE A b (rV D.int) o):VE A (m2 R7 a b) (rV D.int) (m.bind λx=>o.bind λy=>Px x y):=IJ l hb λx y z S h=>by
 unfold Px at h;split at h
 ·rename_i s;cases h;exact qX s
 ·cases h
theorem qe(l:VE A a (rV D.int) m)(hb:VE A b (rV D.int) o):VE A (m2 YW a b) (rV D.int) (m.bind λx=>o.bind λy=>lz x y):=IJ l hb λx y z S h=>by
 unfold lz at h;split at h
 ·rename_i s;cases h;exact qX s
 ·cases h
theorem Sm(l:VE A a (rV D.int) m)(hb:VE A b (rV D.int) o):VE A (m2 VP a b) (rV D.int) (m.bind λx=>o.bind λy=>some (Bn x y)):=IJ l hb λx y z S h=>by cases h;rfl
theorem bn(h:VE A m (rV D.int) o):VB A (FM m) (o.bind λx=>some (x != 0)):=λv s B e F S C=>by
 obtain⟨l,E,G⟩:=BA s;cases G;obtain⟨d,H,I,J,rfl⟩:=h l E B e F S C;refine⟨H,?_,J⟩;unfold FM;rw[I];rfl
end
section
theorem V6(o:VE A a (rV (eT D.int)) pl):VE A (Ev a) (rN (oL D.int)) (pl.bind λl=>Om l (Be l)):=λv s B e F S C=>by
 obtain⟨l,E,G⟩:=BA s;obtain⟨H,rfl⟩:=PH G;obtain⟨d,J,I,m,rfl⟩:=o l E B e F S C;refine⟨_,_,Jm I (ds:=l.map D.int) rfl (es:=(Be l).map D.int) ?_,m.trans (Keeps.app _ _),_,rfl,m.1,DR _ _⟩;unfold Jt;rw[qX (by rw[AC];exact H)];rw[L1]
end
section
variable{ρ σ:Type}
theorem EF{n:Nat}{b:MS}{as:List Ar}{R:Rk ρ}{p:Option (Fw ρ σ)}{B:σ->List Sl}(h:VS (as.map Ar.sl++B1 (n - as.length) .u) b R p B):VF (Dg n b) as R (Fi p):=λv hv S ds ha=>by
 cases p with
 | none=>cases hv
 | some x=>
  obtain⟨g,S',h1,h2⟩:=h _ rfl S _ _ S (Vs.start ha)
  cases x with
  | rt r=>cases hv;obtain⟨d,rfl,h2,h3⟩:=h2;exact⟨d,S',_root_.M.HU h1,h3,h2⟩
  | nx s=>cases hv
  | bk s=>cases hv
  | ct s=>cases hv
theorem Zn{n:Nat}{b:MS}{as:List Ar}{p:Option (Fw Unit σ)}{B:σ->List Sl}(h:VS (as.map Ar.sl++B1 (n - as.length) .u) b (rV eU) p B):VF (Dg n b) as (rV eU) (eV p):=λv hv S ds ha=>by
 cases p with
 | none=>cases hv
 | some x=>
  obtain⟨g,S',h1,h2⟩:=h _ rfl S _ _ S (Vs.start ha)
  cases x with
  | rt r=>obtain⟨d,rfl,h2,h3⟩:=h2;exact⟨d,S',_root_.M.HU h1,h3,h2⟩
  | nx s=>obtain⟨e',F',rfl,h2,h3⟩:=h2;exact⟨.non,S',_root_.M.aI h1,h2.kp,rfl⟩
  | bk s=>cases hv
  | ct s=>cases hv
end
section
variable{κ α:Type}[DecidableEq κ]
theorem DD(l:List (κ×α))(k:κ)(v:α)(k':κ):An (CJ l k v) k'=if k'=k then some v else An l k':=by
 have s:∀l:List (κ×α),An (l.map λm=>if m.1=k then(m.1,v)else m) k'=if k'=k then(An l k').map (λ_=>v)else An l k':=by
  intro l
  induction l with
  | nil=>unfold An;simp
  | cons x l A=>
   unfold An at A ⊢;rw[Az,CD,CD]
   by_cases c:x.1=k
   ·rw[qX c]
    by_cases d:x.1=k'
    ·rw[wX d,qX (show k'=k from d▸c)]
     rfl
    ·rw[wY d]
     exact A
   ·rw[qY c]
    by_cases d:x.1=k'
    ·rw[wX d,qY (λz:k'=k=>c (d.trans z))]
    ·rw[wY d]
     exact A
 unfold CJ;split
 ·rename_i h
  rw[s]
  by_cases c:k'=k
  ·rw[qX c,qX c]
   subst c
   have:(An l k').isSome=true:=by
    unfold An;rw[IA,gR];obtain⟨x,o,B⟩:=FC.mp h;exact⟨x,o,B⟩
   obtain⟨b,hb⟩:=Ce.mp this;rw[hb];rfl
  ·rw[qY c,qY c]
 ·rename_i h
  unfold An;rw[List.find?_append]
  by_cases c:k'=k
  ·subst c
   rw[qX rfl]
   have:l.find? (λm=>decide (m.1=k'))=none:=by
    rw[FP];intro x o B;exact h (FC.mpr ⟨x,o,B⟩)
   rw[this];simp
  ·rw[qY c]
   have:[(k,v)].find? (λm=>decide (m.1=k'))=none:=by
    rw[FP];intro x o;rw[AG.mp o];simp
    exact λz=>c z.symm
   rw[this];simp
theorem Hk(l:List (κ×α))(k:κ)(v:α):(CJ l k v).map (·.1)=if k∈l.map (·.1)then l.map (·.1)else l.map (·.1)++[k]:=by
 have o:(l.any λs=>decide (s.1=k))=true↔k∈l.map (·.1):=by
  rw[FC,Ai];exact⟨λ⟨x,m,e⟩=>⟨x,m,of_decide_eq_true e⟩,λ⟨x,m,e⟩=>⟨x,m,wX e⟩⟩
 unfold CJ
 by_cases c:k∈l.map (·.1)
 ·rw[qX c,qX (o.mpr c),BB]
  refine DA λx _=>?_
  show(if x.1=k then(x.1,v)else x).1=x.1
  split <;> rfl
 ·rw[qY c,qY λz=>c (o.mp z),Ba]
  rfl
theorem DC(l:List (κ×α))(k:κ):(An l k).isSome=true↔k∈l.map (·.1):=by
 unfold An;rw[IA,gR,Ai];exact⟨λ⟨x,m,e⟩=>⟨x,m,of_decide_eq_true e⟩,λ⟨x,m,e⟩=>⟨x,m,wX e⟩⟩
end
noncomputable def hb(bits x:Int):Bool:=Bn (bits / 2 ^ x.toNat) 1 != 0
noncomputable abbrev HL:=List ZPi
noncomputable abbrev QL:=List (Int×Bool)
noncomputable def Oj(st:HL->Int->QL->Option (Bool×HL×QL))(g:Int):ZLi->HL->QL->Option (Bool×HL×QL)
 | [],H,Q=>some (false,H,Q)
 | x :: r,H,Q=>if (An Q x).isSome=true then Oj st g r H Q else(IX Q x true).bind λl=>(An H x).bind λm=>(st H m l).bind λz=>if z.1=true then(IX z.2.1 x g).bind λo=>some (true,o,z.2.2)else Oj st g r z.2.1 z.2.2
noncomputable def Ir(T:Int->ZLi)(bits:Int):Nat->HL->Int->QL->Option (Bool×HL×QL)
 | 0,_,_,_=>none
 | n+1,H,g,Q=>match((T g).filter λx=>hb bits x&&!(An Q x).isSome).find? (λx=>!(An H x).isSome)with
  | some x=>(IX H x g).bind λl=>some (true,l,Q)
  | none=>Oj (Ir T bits n) g ((T g).filter λx=>hb bits x&&!(An Q x).isSome) H Q
section
noncomputable abbrev w0(T:Int->ZLi)(bits g:Int):ZLi:=(T g).filter (hb bits)
structure KOk{α:Type}(U:ZLi)(l:List (Int×α)):Prop where
 nd:(l.map (·.1)).Nodup
 sub:∀x∈l.map (·.1),x∈U
theorem KOk.len{m:Type}{l:List (Int×m)}(h:KOk U l):l.length<=U.length:=by
 have:=Gh h.nd h.sub;rwa [AC]at this
theorem KOk.put{o:Type}{l:List (Int×o)}(h:KOk U l){x:Int}(s:x∈U)(v:o):KOk U (CJ l x v):=by
 by_cases c:x∈l.map (·.1)
 ·exact⟨by rw[Hk,qX c];exact h.nd,by rw[Hk,qX c];exact h.sub⟩
 ·refine⟨?_,?_⟩
  ·rw[Hk,qY c]
   unfold Kg;rw[DS];exact⟨h.nd,by simp,λa A b B z=>c (by rw[AG.mp B]at z;rw[<-z];exact A)⟩
  ·rw[Hk,qY c]
   intro y m
   rcases Ag.mp m with m | m
   ·exact h.sub y m
   ·rw[AG.mp m];exact s
theorem KOk.more{m:Type}{l:List (Int×m)}{x:Int}(c:(An l x).isSome=false)(v:m):(CJ l x v).length=l.length+1:=by
 have o:x∉l.map (·.1):=λz=>by rw[(DC l x).mpr z]at c;cases c
 have:=congrArg JW (Hk l x v);rw[qY o,AC,AQ,AC]at this;exact this
noncomputable def MOn(T:Int->ZLi)(bits:Int)(P:Int->Prop)(H:HL):Prop:=(∀x,P x->∀a,An H x=some a->x∈w0 T bits a)/\∀x y a,P x->P y->An H x=some a->An H y=some a->x=y
noncomputable abbrev sn(Q:QL)(x:Int):Prop:=(An Q x).isSome=true
noncomputable def Good(T:Int->ZLi)(bits:Int)(H:HL)(g:Int)(Q:QL)(l:HL):Prop:=
 (∀x,sn Q x->An l x=An H x)/\(MOn T bits (λx=>¬sn Q x) H->(∀x,¬sn Q x->An H x≠some g)->MOn T bits (λx=>¬sn Q x) l/\∀a,(∃x,¬sn Q x/\An l x=some a)↔a=g∨∃x,¬sn Q x/\An H x=some a)
noncomputable def Clo(T:Int->ZLi)(bits:Int)(H:HL)(Q l:QL):Prop:=∀x,sn l x->sn Q x∨∃a,An H x=some a/\∀y∈w0 T bits a,sn l y
structure xU(T:Int->ZLi)(bits:Int)(U:ZLi)(Gd:Int->Prop)(H:HL)(g:Int)(Q:QL)(z:Bool×HL×QL):Prop where
 h1:KOk U z.2.1
 h2:KOk U z.2.2
 h3:∀x a,An z.2.1 x=some a->Gd a
 h4:∀x,sn Q x->sn z.2.2 x
 h5:z.1=false->z.2.1=H/\(∀x∈w0 T bits g,sn z.2.2 x)/\Clo T bits H Q z.2.2
 h6:z.1=true->Good T bits H g Q z.2.1
theorem put_ok{m:Type}{l:List (Int×m)}(h:KOk U l)(o:U.length < 1000000)(x:Int)(v:m):IX l x v=some (CJ l x v):=qX (Aq h.len o)
theorem LB:sn (CJ Q x true) y↔y=x∨sn Q y:=by
 unfold sn;rw[DD]
 by_cases c:y=x
 ·rw[qX c];simp[c]
 ·rw[qY c];simp[c]
theorem YX(hT:∀g,Gd g->∀x∈T g,x∈U)(hU:U.length < 1000000):∀(n:Nat) (H:HL) (g:Int) (Q:QL),KOk U H->KOk U Q->(∀x a,An H x=some a->Gd a)->Gd g->U.length < n+Q.length->Ok (Ir T bits n H g Q) (xU T bits U Gd H g Q):=by
 intro n
 induction n with
 | zero=>intro H g Q hH hQ hG hg hn;exact zX hQ.len (by lia)
 | succ n ih=>
  intro H g Q hH hQ hG hg hn;unfold Ir
  have wm:∀x,x∈(T g).filter (λx=>hb bits x&&!(An Q x).isSome)↔x∈w0 T bits g/\¬sn Q x:=by
   intro x;unfold w0 sn;rw[BE,BE]
   cases An Q x <;> simp
  generalize (T g).filter (λx=>hb bits x&&!(An Q x).isSome)=w at wm
  have wU:∀x∈w,x∈U:=λx N=>hT g hg x (BE.mp ((wm x).mp N).1).1
  cases hf:w.find? (λx=>!(An H x).isSome)with
  | some x=>
   have N:=Lb hf
   have zd:An H x=none:=by
    have:=VV hf
    cases q:An H x with
    | none=>rfl
    | some a=>rw[q]at this;cases this
   obtain⟨x1,P⟩:=(wm x).mp N;show Ok ((IX H x g).bind _) _;rw[put_ok hH hU];refine .pure ⟨hH.put (wU x N) g,hQ,λy a o=>?_,λ_ h=>h,λz=>(by cases z),λ_=>⟨λy o=>?_,λm R=>⟨⟨λy o a e=>?_,λy z a o J e1 G=>?_⟩,λa=>⟨?_,?_⟩⟩⟩⟩
   ·rw[show An (true,CJ H x g,Q).2.1 y=if y=x then some g else An H y from DD _ _ _ _]at o
    split at o
    ·cases o;exact hg
    ·exact hG y a o
   ·show An (CJ H x g) y=_
    rw[DD,qY λc:y=x=>P (by rw[<-c];exact o)]
   ·rw[show An (true,CJ H x g,Q).2.1 y=if y=x then some g else An H y from DD _ _ _ _]at e
    split at e
    ·rename_i c;cases e;rw[c];exact x1
    ·exact m.1 y o a e
   ·rw[show An (true,CJ H x g,Q).2.1 y=if y=x then some g else An H y from DD _ _ _ _]at e1
    rw[show An (true,CJ H x g,Q).2.1 z=if z=x then some g else An H z from DD _ _ _ _]at G;split at e1
    ·rename_i c
     cases e1;split at G
     ·rename_i d;rw[c,d]
     ·exact zX G (R z J)
    ·split at G
     ·cases G;exact zX e1 (R y o)
     ·exact m.2 y z a o J e1 G
   ·rintro⟨y,o,e⟩
    rw[show An (true,CJ H x g,Q).2.1 y=if y=x then some g else An H y from DD _ _ _ _]at e;split at e
    ·cases e;exact .inl rfl
    ·exact .inr ⟨y,o,e⟩
   ·rintro(rfl | ⟨y,o,e⟩)
    ·exact⟨x,P,by show An (CJ H x a) x=_;rw[DD,qX rfl]⟩
    ·refine⟨y,o,?_⟩
     show An (CJ H x g) y=_;rw[DD,qY λc=>by rw[c,zd]at e;cases e];exact e
  | none=>
   have held:∀x∈w,∃a,An H x=some a:=by
    intro x N;have:=FP.mp hf x N
    cases q:An H x with
    | none=>rw[q]at this;exact zX rfl this
    | some a=>exact⟨a,rfl⟩
   have key:∀(r:ZLi) (E:QL),(∀x∈r,x∈w)->KOk U E->(∀x,sn Q x->sn E x)->Q.length<=E.length->Clo T bits H Q E->(∀x∈w,x∈r∨sn E x)->Ok (Oj (Ir T bits n) g r H E) (xU T bits U Gd H g Q):=by
    intro r
    induction r with
    | nil=>
     intro E _ ϧ Y hl hc hw;refine .pure ⟨hH,ϧ,hG,Y,λ_=>⟨rfl,λx N=>?_,hc⟩,λz=>(by cases z)⟩
     by_cases c:sn Q x
     ·exact Y x c
     ·rcases hw x ((wm x).mpr ⟨N,c⟩)with h | h
      ·cases h
      ·exact h
    | cons x r ih2=>
     intro E hr ϧ Y hl hc hw;unfold Oj
     by_cases c:(An E x).isSome=true
     ·rw[qX c]
      refine ih2 E (λy o=>hr y (AV _ o)) ϧ Y hl hc λy o=>?_
      rcases hw y o with h | h
      ·rcases Af.mp h with rfl | h
       ·exact .inr c
       ·exact .inl h
      ·exact .inr h
     ·rw[qY c,put_ok ϧ hU]
      have S:=hr x AZ;obtain⟨x1,P⟩:=(wm x).mp S;obtain⟨a,O⟩:=held x S;have hQ1:=ϧ.put (wU x S) true;have su:=KOk.more (l:=E) (x:=x) (by cases q:(An E x).isSome;rfl;exact zX q c) true;obtain⟨z,ez,J⟩:=ih H a (CJ E x true) hH hQ1 hG (hG x a O) (by lia);show Ok ((An H x).bind _) _;rw[O];show Ok ((Ir T bits n H a (CJ E x true)).bind _) _;rw[ez];show Ok (if z.1=true then _ else _) _
      cases yc:z.1 with
      | true=>
       rw[qX rfl,put_ok J.h1 hU];obtain⟨g1,g2⟩:=J.h6 yc;refine .pure ⟨J.h1.put (wU x S) g,J.h2,λy b o=>?_,λy o=>J.h4 y (LB.mpr (.inr (Y y o))),λq=>(by cases q),λ_=>⟨λy o=>?_,λm R=>?_⟩⟩
       ·rw[show An (true,CJ z.2.1 x g,z.2.2).2.1 y=if y=x then some g else An z.2.1 y from DD _ _ _ _]at o
        split at o
        ·cases o;exact hg
        ·exact J.h3 y b o
       ·show An (CJ z.2.1 x g) y=_
        rw[DD,qY λq:y=x=>P (by rw[<-q];exact o)];exact g1 y (LB.mpr (.inr (Y y o)))
       ·have C:∀y,¬sn (CJ E x true) y->¬sn Q y/\y≠x/\¬sn E y:=λy o=>⟨λq=>o (LB.mpr (.inr (Y y q))),λq=>o (LB.mpr (.inl q)),λq=>o (LB.mpr (.inr q))⟩
        obtain⟨m1,m2⟩:=g2 ⟨λy o b e=>m.1 y (C y o).1 b e,λy s b o X e B=>m.2 y s b (C y o).1 (C s X).1 e B⟩ λy o e=>(C y o).2.1 (m.2 y x a (C y o).1 P e O)
        have A:∀y,y=x∨(y≠x/\An z.2.1 y=An H y/\sn E y)∨¬sn (CJ E x true) y:=λy=>by
         by_cases q:y=x
         ·exact .inl q
         ·by_cases Z:sn E y
          ·exact .inr (.inl ⟨q,g1 y (LB.mpr (.inr Z)),Z⟩)
          ·exact .inr (.inr λq3=>(LB.mp q3).elim q Z)
        have I:∀y,y≠x->An (CJ z.2.1 x g) y=An z.2.1 y:=λy q=>by rw[DD,qY q]
        have Ϩ:An (CJ z.2.1 x g) x=some g:=by rw[DD,qX rfl]
        show MOn T bits _ (CJ z.2.1 x g)/\∀b,(∃y,_/\An (CJ z.2.1 x g) y=some b)↔_
        refine⟨⟨λy o b e=>?_,λy s b o X e B=>?_⟩,λb=>⟨?_,?_⟩⟩
        ·rcases A y with rfl | ⟨q,q1,Z⟩ | q
         ·rw[Ϩ]at e;cases e;exact x1
         ·rw[I y q,q1]at e;exact m.1 y o b e
         ·rw[I y (C y q).2.1]at e;exact m1.1 y q b e
        ·rcases A y with rfl | ⟨q,q1,Z⟩ | q
         ·rw[Ϩ]at e
          cases e
          rcases A s with rfl | ⟨p,p1,L⟩ | p
          ·rfl
          ·rw[I s p,p1]at B;exact zX B (R s X)
          ·rw[I s (C s p).2.1]at B
           rcases(m2 g).mp ⟨s,p,B⟩with rfl | ⟨y2,L,G⟩
           ·exact zX O (R y o)
           ·exact zX G (R y2 (C y2 L).1)
         ·rw[I y q,q1]at e
          rcases A s with rfl | ⟨p,p1,L⟩ | p
          ·rw[Ϩ]at B;cases B;exact zX e (R y o)
          ·rw[I s p,p1]at B;exact m.2 y s b o X e B
          ·rw[I s (C s p).2.1]at B
           rcases(m2 b).mp ⟨s,p,B⟩with rfl | ⟨y2,L,G⟩
           ·exact zX (m.2 y x b o P e O) q
           ·have:=m.2 y y2 b o (C y2 L).1 e G
            rw[<-this]at L;exact zX Z (C y L).2.2
         ·rw[I y (C y q).2.1]at e
          rcases A s with rfl | ⟨p,p1,L⟩ | p
          ·rw[Ϩ]at B
           cases B
           rcases(m2 g).mp ⟨y,q,e⟩with rfl | ⟨y2,L,G⟩
           ·exact zX O (R s X)
           ·exact zX G (R y2 (C y2 L).1)
          ·rw[I s p,p1]at B
           rcases(m2 b).mp ⟨y,q,e⟩with rfl | ⟨y2,p3,G⟩
           ·exact zX (m.2 s x b X P B O) p
           ·have:=m.2 s y2 b X (C y2 p3).1 B G
            rw[<-this]at p3;exact zX L (C s p3).2.2
          ·rw[I s (C s p).2.1]at B
           exact m1.2 y s b q p e B
        ·rintro⟨y,o,e⟩
         rcases A y with rfl | ⟨q,q1,Z⟩ | q
         ·rw[Ϩ]at e;cases e;exact .inl rfl
         ·rw[I y q,q1]at e;exact .inr ⟨y,o,e⟩
         ·rw[I y (C y q).2.1]at e
          rcases(m2 b).mp ⟨y,q,e⟩with rfl | ⟨y2,L,G⟩
          ·exact .inr ⟨x,P,O⟩
          ·exact .inr ⟨y2,(C y2 L).1,G⟩
        ·rintro(rfl | ⟨y,o,e⟩)
         ·exact⟨x,P,Ϩ⟩
         ·rcases A y with rfl | ⟨q,q1,Z⟩ | q
          ·rw[O]at e
           cases e;obtain⟨s,p,B⟩:=(m2 a).mpr (.inl rfl);exact⟨s,(C s p).1,by rw[I s (C s p).2.1];exact B⟩
          ·exact⟨y,o,by rw[I y q,q1];exact e⟩
          ·obtain⟨s,p,B⟩:=(m2 b).mpr (.inr ⟨y,q,e⟩)
           exact⟨s,(C s p).1,by rw[I s (C s p).2.1];exact B⟩
      | false=>
       rw[qY AN];obtain⟨f1,f2,f3⟩:=J.h5 yc;rw[f1]
       have up:∀y,sn E y->sn z.2.2 y:=λy o=>J.h4 y (LB.mpr (.inr o))
       refine ih2 z.2.2 (λy o=>hr y (AV _ o)) J.h2 (λy o=>up y (Y y o)) ?_ (λy o=>?_) λy o=>?_
       ·have h1:∀k∈E.map (·.1),k∈z.2.2.map (·.1):=λk hk=>(DC _ _).mp (up k ((DC _ _).mpr hk))
        have:=Gh ϧ.nd h1;rw[AC,AC]at this
        lia
       ·rcases f3 y o with h | h
        ·rcases LB.mp h with rfl | h
         ·exact .inr ⟨a,O,f2⟩
         ·rcases hc y h with h | ⟨b,e,k⟩
          ·exact .inl h
          ·exact .inr ⟨b,e,λs X=>up s (k s X)⟩
        ·exact .inr h
       ·rcases hw y o with h | h
        ·rcases Af.mp h with rfl | h
         ·exact .inr (J.h4 _ (LB.mpr (.inl rfl)))
         ·exact .inl h
        ·exact .inr (up y h)
   exact key w Q (λ_ h=>h) hQ (λ_ h=>h) (AM _) (λx N=>.inl N) λx N=>.inl N
end
noncomputable def T9(bits:Int):ZLi->HL->Option HL
 | [],H=>some H
 | g :: r,H=>if hb bits g=true then(IX H g g).bind λl=>T9 bits r l else T9 bits r H
noncomputable def UK(T:Int->ZLi)(bits:Int)(n:Nat):ZLi->HL->Option Bool
 | [],_=>some true
 | g :: r,H=>if hb bits g=true then UK T bits n r H else(Ir T bits n H g []).bind λz=>if z.1=true then UK T bits n r z.2.1 else some false
noncomputable def WR(T:Int->ZLi)(bits:Int)(n:Nat)(gs:ZLi):Option Bool:=(T9 bits gs []).bind λH=>UK T bits n gs H
noncomputable def Sdr(T:Int->ZLi)(bits:Int)(gs:ZLi):Prop:=∃f:Int->Int,(∀g∈gs,f g∈w0 T bits g)/\∀a∈gs,∀b∈gs,f a=f b->a=b
section
variable{T:Int->ZLi}{bits:Int}{U:ZLi}{Gd:Int->Prop}
theorem dh(C:U.length < 1000000):∀(gs:ZLi) (H:HL),(∀g∈gs,g∈U)->KOk U H->Ok (T9 bits gs H) λl=>KOk U l/\∀x,An l x=if x∈gs/\hb bits x=true then some x else An H x:=by
 intro gs
 induction gs with
 | nil=>intro H _ h;exact .pure ⟨h,λx=>by rw[qY (by simp)]⟩
 | cons g gs B=>
  intro H m h;unfold T9
  cases c:hb bits g with
  | true=>
   rw[qX rfl,put_ok h C]
   refine(B (CJ H g g) (λy o=>m y (AV _ o)) (h.put (m g AZ) g)).imp λl ⟨s,A⟩=>⟨s,λx=>?_⟩
   rw[A x,DD]
   by_cases d:x=g
   ·subst d
    rw[qX rfl,qX (show x∈x :: gs/\hb bits x=true from⟨AZ,c⟩)]
    split <;> rfl
   ·rw[qY d]
    have:(x∈g :: gs/\hb bits x=true)↔(x∈gs/\hb bits x=true):=by rw[Af];simp[d]
    by_cases q:x∈gs/\hb bits x=true
    ·rw[qX q,qX (this.mpr q)]
    ·rw[qY q,qY λz=>q (this.mp z)]
  | false=>
   rw[qY AN]
   refine(B H (λy o=>m y (AV _ o)) h).imp λl ⟨s,A⟩=>⟨s,λx=>?_⟩
   rw[A x]
   have:(x∈g :: gs/\hb bits x=true)↔(x∈gs/\hb bits x=true):=by
    rw[Af];refine⟨λ⟨z,y⟩=>⟨z.elim (λe=>?_) id,y⟩,λ⟨z,y⟩=>⟨.inr z,y⟩⟩;rw[e,c]at y;cases y
   by_cases q:x∈gs/\hb bits x=true
   ·rw[qX q,qX (this.mpr q)]
   ·rw[qY q,qY λz=>q (this.mp z)]
theorem jD{l:Type}:KOk U ([]:List (Int×l)):=⟨EZ,λ_ h=>(nomatch h)⟩
theorem eE(hT:∀g,Gd g->∀x∈T g,x∈U)(hU:U.length < 1000000)(hn:U.length < n)(hg:∀g∈gs,Gd g)(Y:gs.Nodup):∀(r pre:ZLi) (H:HL),gs=pre++r->KOk U H->(∀x a,An H x=some a->Gd a)->MOn T bits (λ_=>True) H->(∀a,(∃x,An H x=some a)↔a∈gs/\(a∈pre∨hb bits a=true))->Ok (UK T bits n r H) λb=>b=true↔Sdr T bits gs:=by
 intro r
 induction r with
 | nil=>
  intro pre H e N O B o;rw[By]at e;subst e;refine .pure ⟨λ_=>?_,λ_=>rfl⟩
  have ex:∀a:Int,∃x:Int,a∈gs->An H x=some a:=λa=>by
   by_cases c:a∈gs
   ·obtain⟨x,l⟩:=(o a).mpr ⟨c,.inl c⟩
    exact⟨x,λ_=>l⟩
   ·exact⟨0,λz=>zX z c⟩
  refine⟨λa=>DJ (ex a),λa P=>B.1 _ trivial a (EK (ex a) P),λa P b J e=>?_⟩;have Z:=EK (ex a) P;have h2:=EK (ex b) J;have e:DJ (ex a)=DJ (ex b):=e;rw[e,h2]at Z;cases Z;rfl
 | cons g r ih=>
  intro pre H e N O B o
  have s:g∈gs:=by rw[e];simp
  have Q:g∉pre:=λz=>by
   rw[e]at Y;exact(Dd.mp Y).2.2 g z g AZ rfl
  unfold UK
  cases c:hb bits g with
  | true=>
   rw[qX rfl]
   refine ih (pre++[g]) H (by rw[e];simp) N O B λa=>?_
   rw[o a];refine⟨λ⟨z,y⟩=>⟨z,y.elim (λy=>.inl (BP _ y)) .inr⟩,λ⟨z,y⟩=>⟨z,y.elim (λy=>?_) .inr⟩⟩
   rcases Ag.mp y with y | y
   ·exact .inl y
   ·rw[AG.mp y];exact .inr c
  | false=>
   rw[qY AN];obtain⟨z,ez,E⟩:=YX (bits:=bits) hT hU n H g [] N jD O (hg g s) (by simpa using hn);rw[ez];show Ok (if z.1=true then _ else _) _
   have no:∀x,¬sn ([]:QL) x:=λx h=>by unfold sn at h;cases h
   have ng:∀x,An H x≠some g:=λx q=>by
    have:=((o g).mp ⟨x,q⟩).2
    rcases this with h | h
    ·exact Q h
    ·rw[c]at h;cases h
   cases J:z.1 with
   | true=>
    rw[qX rfl];obtain⟨-,g2⟩:=E.h6 J
    obtain⟨m1,m2⟩:=g2 ⟨λx _ a q=>B.1 x trivial a q,λx y a _ _ q G=>B.2 x y a trivial trivial q G⟩ λx _=>ng x
    refine ih (pre++[g]) z.2.1 (by rw[e];simp) E.h1 E.h3 ⟨λx _ a q=>m1.1 x (no x) a q,λx y a _ _ q G=>m1.2 x y a (no x) (no y) q G⟩ λa=>?_
    constructor
    ·rintro⟨x,l⟩
     rcases(m2 a).mp ⟨x,no x,l⟩with rfl | ⟨y,_,A⟩
     ·exact⟨s,.inl (by simp)⟩
     ·obtain⟨L,m⟩:=(o a).mp ⟨y,A⟩
      exact⟨L,m.elim (λq=>.inl (BP _ q)) .inr⟩
    ·rintro⟨L,m⟩
     have:a=g∨∃x,¬sn ([]:QL) x/\An H x=some a:=by
      rcases m with m | m
      ·rcases Ag.mp m with m | m
       ·obtain⟨x,l⟩:=(o a).mpr ⟨L,.inl m⟩
        exact .inr ⟨x,no x,l⟩
       ·exact .inl (AG.mp m)
      ·obtain⟨x,l⟩:=(o a).mpr ⟨L,.inr m⟩
       exact .inr ⟨x,no x,l⟩
     obtain⟨x,_,l⟩:=(m2 a).mpr this;exact⟨x,l⟩
   | false=>
    rw[qY AN];obtain⟨f1,f2,f3⟩:=E.h5 J;refine .pure ⟨λq=>(by cases q),?_⟩;rintro⟨f,fw,fi⟩
    exfalso
    have X:=z.2.2.map (·.1)
    have I:∀x∈z.2.2.map (·.1),∃a,An H x=some a/\∀y∈w0 T bits a,sn z.2.2 y:=λx l=>by
     rcases f3 x ((DC _ _).mpr l)with h | h
     ·exact zX h (no x)
     ·exact h
    have ex:∀x:Int,∃a:Int,x∈z.2.2.map (·.1)->An H x=some a/\∀y∈w0 T bits a,sn z.2.2 y:=λx=>by
     by_cases q:x∈z.2.2.map (·.1)
     ·obtain⟨a,h⟩:=I x q
      exact⟨a,λ_=>h⟩
     ·exact⟨0,λG=>zX G q⟩
    have hc:=λx=>EK (ex x)
    generalize hh:(λx=>DJ (ex x))=h at hc
    have C:∀x∈z.2.2.map (·.1),An H x=some (h x)/\∀y∈w0 T bits (h x),sn z.2.2 y:=λx l=>by rw[<-hh];exact hc x l
    have nd:(f g :: (z.2.2.map (·.1)).map λx=>f (h x)).Nodup:=by
     rw[Bu]
     have R:∀x∈z.2.2.map (·.1),h x∈gs:=λx l=>((o (h x)).mp ⟨x,(C x l).1⟩).1
     refine⟨λq=>?_,?_⟩
     ·obtain⟨x,l,S⟩:=Ai.mp q
      have:=fi (h x) (R x l) g s S;exact ng x (by rw[(C x l).1,this])
     ·unfold Kg
      rw[Bc]
      refine E.h2.nd.imp_of_mem λ{x y} l A ne S=>ne ?_
      have:=fi (h x) (R x l) (h y) (R y A) S;exact B.2 x y (h x) trivial trivial (C x l).1 (by rw[this];exact(C y A).1)
    have sub:∀y∈(f g :: (z.2.2.map (·.1)).map λx=>f (h x)),y∈z.2.2.map (·.1):=by
     intro y A
     rcases Af.mp A with rfl | A
     ·exact(DC _ _).mp (f2 _ (fw g s))
     ·obtain⟨x,l,rfl⟩:=Ai.mp A
      exact(DC _ _).mp ((C x l).2 _ (fw _ ((o (h x)).mp ⟨x,(C x l).1⟩).1))
    have:=Gh nd sub;rw[BC,AC]at this;omega
theorem fL(A:∀g,Gd g->∀x∈T g,x∈U)(B:U.length < 1000000)(E:U.length < n)(l:∀g∈gs,Gd g/\g∈T g)(G:gs.Nodup):Ok (WR T bits n gs) λb=>b=true↔Sdr T bits gs:=by
 unfold WR
 refine(dh B gs [] (λg h=>A g (l g h).1 g (l g h).2) jD).bind λH ⟨I,C⟩=>?_
 have m:∀x a,An H x=some a->a=x/\x∈gs/\hb bits x=true:=λx a e=>by
  rw[C x]at e;split at e
  ·rename_i q;cases e;exact⟨rfl,q⟩
  ·cases e
 refine eE A B E (λg h=>(l g h).1) G gs [] H rfl I (λx a e=>?_) ⟨λx _ a e=>?_,λx y a _ _ e J=>?_⟩ λa=>⟨?_,?_⟩
 ·obtain⟨rfl,q,_⟩:=m x a e;exact(l _ q).1
 ·obtain⟨rfl,o,s⟩:=m x a e
  exact BE.mpr ⟨(l _ o).2,s⟩
 ·rw[<-(m x a e).1,<-(m y a J).1]
 ·rintro⟨x,e⟩
  obtain⟨rfl,o,s⟩:=m x a e;exact⟨o,.inr s⟩
 ·rintro⟨o,s⟩
  refine⟨a,?_⟩;rw[C a,qX ⟨o,s.elim (λq=>(nomatch q)) id⟩]
end
section
theorem LA(h:e[i]?=some (some d)):AD i e S=.ok d S:=by unfold AD;rw[h]
end
noncomputable def rP{l m:Type}(enc:l->D)(o:m->Ob):Rk (l×m):=λv s d S=>∃n,d=.tup [enc v.1,.ref n]/\s.length<=n/\S[n]?=some (o v.2)
noncomputable def nj{m:Type}(l:List m)(i:Int)(x:m):Option (List m):=if 0<=i/\i < 1000000/\l.length < 1000000 then some (l.take i.toNat++[x]++l.drop i.toNat)else none
section
variable{α β:Type}
theorem vh:∀(v:α×β) (S S1:Sto) (d:D) (S':Sto),S.length<=S1.length->rP enc m v S1 d S'->rP enc m v S d S':=λv _ _ _ _ l ⟨n,o,s,A⟩=>⟨n,o,Aj l s,A⟩
theorem lL(h:VE A m (rP enc o) p):VS A (dz m (Gq 2 (CO (tgN i) (CO (tgN j) G7)))) R (p.bind λv=>some (.nx v)) (λv=>(A.set i (.v (enc v.1))).set j (.y (o v.2))):=λf C E e F S l=>by
 obtain⟨v,G,H⟩:=BA C;cases H;obtain⟨d,s,I,J,n,rfl,B,hb⟩:=h v G E e F S l;have g:=l.grow J;have L:=g.set (a:=.v (enc v.1)) (x:=some (enc v.1)) i rfl;have N:=L.set (a:=.y (o v.2)) (x:=some (.ref n)) j ⟨n,rfl,QT B hb,Aj l.kp.1 B⟩;refine⟨.nx ((e.set i (some (enc v.1))).set j (some (.ref n))),s,?_,_,_,rfl,N,l.fle s⟩;unfold dz;rw[I];rfl
theorem qV(hi:A[i]?=some (.w i (oL enc l)))(h:VE A mi (rV D.int) L)(N:VE A mx (rV enc) px)(O:((A.set i .u).all (Sl.oth i))=true) :
  VS A (FD (jM (AD i) mi mx)) R (L.bind λk=>px.bind λv=>(nj l k v).bind λo=>some (.nx o)) (λo=>A.set i (.w i (oL enc o))):=λf P G e F S m=>by
 obtain⟨k,Q,T⟩:=BA P;obtain⟨v,U,X⟩:=BA T;obtain⟨o,s,Y⟩:=BA X;cases Y;unfold nj at s;split at s
 ·rename_i B
  cases s;obtain⟨x,H,n,rfl,Z,C⟩:=m.sl i _ hi;obtain⟨d1,S1,c1,I,rfl⟩:=h k Q G e F S m;obtain⟨d2,E,c2,k2,rfl⟩:=N v U G e _ S1 (m.grow I);have J:=I.trans k2;have hg:=m.grow J
  have a0:atL (.ref n) S=some (n,l.map enc):=by unfold atL;dsimp only;rw[C];rfl
  have a2:atL (.ref n) E=some (n,l.map enc):=by unfold atL;dsimp only;rw[J.at C];rfl
  have Ρ:jM (AD i) mi mx e S=.ok .non (E.set n (oL enc (l.take k.toNat++[v]++l.drop k.toNat))):=by
   unfold jM;rw[LA H];dsimp only[Res.bind];rw[a0];dsimp only;rw[c1];dsimp only[Res.bind];rw[c2];dsimp only[Res.bind];rw[a2];dsimp only;rw[qX ⟨B.1,B.2.1,by rw[AC];exact Aj (Nat.succ_le_of_lt B.2.2) (by decide)⟩];rw[show(l.map enc).take k.toNat++[enc v]++(l.map enc).drop k.toNat=(l.take k.toNat++[v]++l.drop k.toNat).map enc by simp];rfl
  exact⟨_,_,Ks Ρ,e,_,rfl,hg.put O hi H (by rw[Gw (Bf C)];exact Z),m.fle E⟩
 ·cases s
theorem dP(h:VE A a (rV D.int) m):VL A (Sy (AH a Ay)) D.int (m.bind Mg):=λv o s e F S B=>by
 obtain⟨j,C,l⟩:=BA o;obtain⟨d,E,G,H,rfl⟩:=h j C s e F S B;unfold Mg at l;split at l
 ·rename_i I
  cases l;refine⟨E,?_,H⟩;unfold Sy;rw[CL G rfl];dsimp only[Res.bind];rw[qX I,u7,XC]
 ·cases l
theorem lT(H:VE A a (rV eF) pl)(I:VO A mlo J)(L:VO A mhi ph):VE A (LK a mlo mhi) (rN (oL D.int)) (pl.bind λl=>J.bind λx=>ph.bind λy=>some (Ij l x y)):=λv m s e F S B=>by
 obtain⟨l,N,m⟩:=BA m;obtain⟨x,O,m⟩:=BA m;obtain⟨y,P,Q⟩:=BA m;cases Q;obtain⟨d1,R,T,o,rfl⟩:=H l N s e F S B;obtain⟨U,X,C⟩:=I x O s e _ R (B.grow o);obtain⟨E,Y,G⟩:=L y P s e _ U ((B.grow o).grow C);refine⟨.ref E.length,E++[oL D.int (Ij l x y)],?_,((o.trans C).trans G).trans (Keeps.app _ _),_,rfl,((o.trans C).trans G).1,DR _ _⟩;unfold LK;rw[T];dsimp only[Res.bind];rw[X];dsimp only;rw[Y];show Res.ok _ (E++[Ob.lst (Ij (l.map D.int) x y)])=_;rw[ZF];rfl
end
section
variable{F:Fz}
noncomputable def loF(F:Fz):Nat->Option Ob:=λn=>match F n with
 | .fz o=>some o
 | _=>none
theorem jQ(h:F n=.fz o):loF F n=some o:=by unfold loF;rw[h]
theorem Nq(h:loF F n=some o):F n=.fz o:=by
 unfold loF at h;split at h
 ·rename_i m l;cases h;exact l
 ·cases h
end
section
variable{S0 S:Sto}{A:List Sl}{ρ σ:Type}
noncomputable def whF(c:σ->Option Bool)(q:σ->Option (Fw ρ σ)):Nat->σ->Option (Fw ρ σ)
 | 0,_=>none
 | n+1,s=>(c s).bind λt=>if t=true then match q s with
   | some (.nx l)=>whF c q n l
   | some (.ct l)=>whF c q n l
   | some (.bk l)=>some (.nx l)
   | some (.rt r)=>some (.rt r)
   | none=>none
  else some (.nx s)
theorem dM(Y:∀s,VB (B s) t (c s))(hb:∀s,VS (B s) b R (q s) B):∀(n:Nat) (s:σ),VS (B s) (JQ t b n) R (whF c q n s) B:=by
 intro n
 induction n with
 | zero=>intro s f N;cases N
 | succ n X=>
  intro s f N S0 e F S I;unfold whF at N;obtain⟨v,Z,o⟩:=BA N;obtain⟨S1,h3,h4⟩:=Y s v Z S0 e F S I;have J:=I.grow h4
  have run:JQ t b (n+1) e S=if v=true then(b e S1).bind λf l=>match f with
   | .nx m=>JQ t b n m l
   | .ct m=>JQ t b n m l
   | .bk m=>.ok (.nx m) l
   | .rt d=>.ok (.rt d) l
   | .ex c m=>.ok (.ex c m) l
  else .ok (.nx e) S1:=by
   show(t e S).lift e _=_;rw[h3];rfl
  cases v with
  | false=>
   rw[qY AN]at o;cases o;exact⟨_,S1,run.trans (qY AN),e,_,rfl,J,I.fle S1⟩
  | true=>
   rw[qX rfl]at o;rw[run,qX rfl];split at o
   ·rename_i O C
    obtain⟨h,l,E,m,L,rfl,G,H⟩:=hb s _ C S0 e _ S1 J;rw[E];obtain⟨P,Q,T,U⟩:=X O f o S0 m L l G;exact⟨P,Q,T,U.up ((I.fle S1).trans H)⟩
   ·rename_i O C
    obtain⟨h,l,E,m,L,rfl,G,H⟩:=hb s _ C S0 e _ S1 J;rw[E];obtain⟨P,Q,T,U⟩:=X O f o S0 m L l G;exact⟨P,Q,T,U.up ((I.fle S1).trans H)⟩
   ·rename_i O C
    cases o;obtain⟨h,l,E,m,L,rfl,G,H⟩:=hb s _ C S0 e _ S1 J;rw[E];exact⟨_,l,rfl,m,L,rfl,G,(I.fle S1).trans H⟩
   ·rename_i r C
    cases o;obtain⟨h,l,E,d,rfl,G,H⟩:=hb s _ C S0 e _ S1 J;rw[E];exact⟨_,l,rfl,d,rfl,G,H⟩
   ·cases o
theorem YE(w0:Wk A (B s0))(l:∀s,VB (B s) t (c s))(hb:∀s,VS (B s) b R (q s) B):VS A (JQ t b n) R (whF c q n s0) B:=λf m S0 e F S o=>
 dM l hb n s0 f m S0 e F S (o.weak w0)
end
section
theorem gl(h:VE A a (rV D.int) o):VE A (Yy (AH a Ay)) (rV (eT D.int)) (o.bind Mg):=λv s B e F S C=>by
 obtain⟨x,E,l⟩:=BA s;obtain⟨d,m,G,H,rfl⟩:=h x E B e F S C;unfold Mg at l;split at l
 ·rename_i I
  cases l;refine⟨_,m,?_,H,rfl⟩;unfold Yy;rw[CL (r:=Ay) G rfl];show mL [.int x] m=_;unfold mL;dsimp only;rw[qX I,XC];rfl
 ·cases l
end
section
variable{S0 S S':Sto}{A B:List Sl}{e:Lo}{F:Fz}{α ρ σ:Type}{a b:ME}{enc:α->D}
noncomputable def oFK(enc:α->D)(l:List (Int×α)):Ob:=.fK (l.map λx=>(EA x.1,enc x.2))
theorem uH(h:S[n]?=some (oFK enc l))(k:Int):OU (.ref n) (.int k) S=some ((An l k).map enc):=by
 unfold OU;dsimp only;rw[h];show some (An _ (EA k))=_;rw[Po S8]
theorem vc(h:S[n]?=some (oFK enc l)):HQ (.ref n) S=none:=by unfold HQ;dsimp only;rw[h];rfl
theorem dS(o:VE A a (rO (oFK enc)) pl)(hb:VE A b (rV D.int) s):VE A (m2 ixA a b) (rV enc) (pl.bind λl=>s.bind λx=>An l x):=Wx o hb λl x z S n m q=>RQ (vc m) (by rw[uH m x,q];rfl)
theorem nZ(h:S[n]?=some (oFK enc l)):Y5 (.ref n) S=some ((l.map (·.1)).map D.int):=by
 unfold Y5;dsimp only;rw[h];show some _=_;rw[BB,BB];rfl
theorem qZ(h:A[i]?=some (.y (oFK enc l))):VI A (cX (AD i)) D.int (some (l.map (·.1))):=λ_ o S0 e F S m=>by
 cases o;obtain⟨x,s,n,rfl,C,_⟩:=m.sl i _ h;refine⟨FZ ((l.map (·.1)).map D.int),S,?_,Keeps.refl S,λ_ _ _ _=>rfl⟩;unfold cX;rw[LA s];dsimp only[Res.bind];rw[nZ (m.fz _ _ C)]
theorem vG{b:MS}{R:Rk ρ}{p:Option (Fw ρ σ)}{B:σ->List Sl}{l:List (Int×α)}(i:Nat)(m:A[i]?=some (.w i (oDK enc l)))(s:((A.set i .u).all (Sl.oth i))=true)(h:VS (A.set i (.y (oFK enc l))) b R p B):VS A (BH (sFz i) b) R p B:=λf H S0 e F S C=>by
 obtain⟨x,E,n,rfl,I,J⟩:=C.sl i _ m;have L:=C.put (o':=oFK enc l) s m E I;have o:(A.set i (.w i (oFK enc l)))[i]?=some (.w i (oFK enc l)):=As (AE.mp m).1;obtain⟨N,G,O⟩:=L.freeze (by rw[ui];exact s) o;rw[ui]at G;obtain⟨g,S',P,Q⟩:=h f H S0 e N _ G;refine⟨g,S',?_,Q.up O⟩
 have:sFz i e S=.ok (.nx e) (S.set n (oFK enc l)):=by
  unfold sFz;rw[E];dsimp only;rw[J];rfl
 exact(Bp this).trans P
theorem gy(m:VE A a (rO (oDK enc)) pl):VB A (FM a) (pl.bind λl=>some (!l.isEmpty)):=λv o S0 e F S s=>by
 obtain⟨l,C,E⟩:=BA o;cases E;obtain⟨d,S',G,H,n,rfl,I⟩:=m l C S0 e F S s;refine⟨S',?_,H⟩;unfold FM;rw[G];dsimp only[Res.bind];rw[show Rq (.ref n) S'=some (!l.isEmpty) by unfold Rq;dsimp only;rw[I];show some (!(Re _ l).isEmpty)=_;rw[List.isEmpty_map]]
end
noncomputable abbrev Pq:=(Nat->Option Ob)->D->Prop
noncomputable def AtV(P:Pq)(C:Ab)(x:Str)(d0:D):Prop:=∀L d,P L d->∃q fs,d=.ref q/\L q=some (.ins C fs)/\fs.lookup x=some d0
noncomputable def AtO(P:Pq)(C:Ab)(x:Str)(o:Ob):Prop:=∀L d,P L d->∃q fs n,d=.ref q/\L q=some (.ins C fs)/\fs.lookup x=some (.ref n)/\L n=some o
noncomputable def AtN(P:Pq)(C:Ab)(x:Str):Prop:=∀L d,P L d->∃q fs,d=.ref q/\L q=some (.ins C fs)/\fs.lookup x=none
noncomputable def rQ(P:β->Pq):Rk β:=λv l d S=>∀L:Nat->Option Ob,(∀n o,l.length<=n->S[n]?=some o->L n=some o)->P v L d
section
variable{S0 S S':Sto}{A:List Sl}{e:Lo}{F:Fz}{α β:Type}{enc:α->D}{ob:α->Ob}{i n:Nat}{P:Pq}{Pf Pg:β->Pq}{C:Ab}{x:Str}{v:α}{f:β}
theorem Vs.qAt(l:Vs S0 A e F S)(h:A[i]?=some (.q P)):∃d,e[i]?=some (some d)/\P (loF F) d:=by
 obtain⟨x,m,d,rfl,s⟩:=l.sl i _ h;exact⟨d,m,s _ λn o q=>jQ q⟩
theorem ql(m:AtV P C x (enc v))(h:A[i]?=some (.q P)):VE A (Cr C x (AD i)) (rV enc) (some v):=λ_ o S0 e F S l=>by
 cases o;obtain⟨d,s,B⟩:=Vs.qAt l h;obtain⟨q,fs,rfl,E,G⟩:=m _ _ B;exact⟨_,S,KG (LA s) (l.fz _ _ (Nq E)) G,Keeps.refl S,rfl⟩
theorem G0(m:AtO P C x (ob v))(h:A[i]?=some (.q P)):VE A (Cr C x (AD i)) (rO ob) (some v):=λ_ o S0 e F S l=>by
 cases o;obtain⟨d,s,B⟩:=Vs.qAt l h;obtain⟨q,fs,n,rfl,E,G,H⟩:=m _ _ B;exact⟨_,S,KG (LA s) (l.fz _ _ (Nq E)) G,Keeps.refl S,n,rfl,l.fz _ _ (Nq H)⟩
theorem qc(B:AtO P C x (oL enc l))(h:A[i]?=some (.q P)):VI A (EI (Cr C x (AD i))) enc (some l):=λ_ E S0 e F S m=>by
 cases E;obtain⟨d,G,H⟩:=Vs.qAt m h;obtain⟨q,fs,n,rfl,I,J,L⟩:=B _ _ H;have o:=Nq L;have s:=m.fz _ _ o;exact⟨_,S,L3 (n:=n) (KG (LA G) (m.fz _ _ (Nq I)) J) s,Keeps.refl S,λO Q N h=>Dr (h n _ (N _ _ (by rw[Gw (Bf s)];exact o)))⟩
theorem lO(B:AtO P C x (oL enc l))(h:A[i]?=some (.q P)):VI A (Hm (Cr C x (AD i))) (eP D.int enc) (some (DT l)):=λ_ E S0 e F S m=>by
 cases E;obtain⟨d,G,H⟩:=Vs.qAt m h;obtain⟨q,fs,n,rfl,I,J,L⟩:=B _ _ H;have o:=Nq L;have s:=m.fz _ _ o;refine⟨NC (Ec (.ref n)),S,?_,Keeps.refl S,λO Q N h=>?_⟩
 ·unfold Hm
  rw[KG (C:=C) (f:=x) (LA (S:=S) G) (m.fz _ _ (Nq I)) J];dsimp only[Res.bind];rw[Dr s]
 ·unfold NC
  rw[Dr (h n _ (N _ _ (by rw[Gw (Bf s)];exact o)))];exact congrArg some (RP l)
theorem g8(s:∀L d,Pf f L d->Pg f L d)(h:A[i]?=some (.q (Pf f)))(B:VA A ml q E):VA A (AH (AD i) ml) (q.bind λy=>some (f,y)) (λz=>.q (Pg z.1) :: E z.2):=λv G S0 e F S l=>by
 obtain⟨y,H,I⟩:=BA G;cases I;obtain⟨x,J,d,rfl,N⟩:=l.sl i _ h;obtain⟨U,O,Q,m,R⟩:=B y H S0 e F S l;exact⟨_,O,CL (LA J) Q,m,λL T=>s _ _ (N L λn o q=>T n o (m.at (l.fz _ _ q))),R⟩
theorem Pm(H:AtN (Pf f) C m)(I:∀L d,Pf f L d->Pg f L d)(h:A[i]?=some (.q (Pf f)))(J:VA A ml p B)(N:∀z,VF g (.q (Pg f) :: B z) R (q z))(O:∀z,(B z).length+1=n)
  (Q:∀v S S1 d S',S.length<=S1.length->R v S1 d S'->R v S d S'):VE A (No C m n g (AD i) ml) R (p.bind q):=λv T S0 e F S l=>by
 obtain⟨z,U,X⟩:=BA T;obtain⟨x,Y,d,rfl,E⟩:=l.sl i _ h;obtain⟨k,fs,rfl,Z,h7⟩:=H _ _ (E (loF F) λn o q=>jQ q);obtain⟨ds,S2,q1,s,G⟩:=J z U S0 e F S l;obtain⟨d,S3,r1,r2,r3⟩:=N z v X S2 (.ref k :: ds) ⟨λL hL=>I _ _ (E L λn o q=>hL n o (s.at (l.fz _ _ q))),G⟩;refine⟨d,S3,?_,s.trans r2,Q _ _ _ _ _ s.1 r3⟩;unfold No;rw[LA Y];dsimp only[Res.bind];rw[l.fz _ _ (Nq Z)];dsimp only;rw[qX ⟨rfl,h7⟩,q1];dsimp only;rw[qX (by rw[G.len];exact O z)];exact r1
theorem bW(h:VE A m (rQ Pf) p):VS A (Cg i m) R (p.bind λv=>some (.nx v)) (λv=>A.set i (.q (Pf v))):=λf s S0 e F S l=>by
 obtain⟨v,B,E⟩:=BA s;cases E;obtain⟨d,S',G,H,I⟩:=h v B S0 e F S l;exact⟨_,S',Ju G,_,_,rfl,(l.grow H).set (a:=.q (Pf v)) (x:=some d) i ⟨d,rfl,λL J=>I L λn o N O=>J n o (QT N O)⟩,l.fle S'⟩
end
noncomputable def kR(r:ZLi):List Key:=r.map EA
noncomputable def oDR(enc:m->D)(l:List (ZLi×m)):Ob:=.dT (l.map λx=>(kR x.1,enc x.2))
theorem aZ(x y:ZLi)(h:kR x=kR y):x=y:=by
 have:∀r:ZLi,(kR r).map (λk:Key=>match k with | .inl i=>i | .inr _=>0)=r:=λr=>by
  unfold kR;rw[BB]
  conv=>rhs;rw[<-OX r]
  rfl
 rw[<-this x,h,this y]
theorem p7(r:ZLi):Ol (r.map D.int)=some (kR r):=by
 induction r with
 | nil=>rfl
 | cons x r l=>
  rw[Az];unfold Ol;rw[l];rfl
section
variable{S0 S S':Sto}{A:List Sl}{e:Lo}{F:Fz}{α:Type}{enc:α->D}{a b m:ME}
theorem xK(h:S[n]?=some (oDR enc l))(k:ZLi):OU (.ref n) (eT D.int k) S=some ((An l k).map enc):=by
 unfold OU;dsimp only;rw[h];show(match Ol (k.map D.int)with | some o=>some (An (l.map λx:ZLi×α=>(kR x.1,enc x.2)) o) | none=>none)=_;rw[p7];dsimp only;rw[Po aZ]
theorem seqR(h:S[n]?=some (oDR enc l)):HQ (.ref n) S=none:=by unfold HQ;dsimp only;rw[h];rfl
theorem gu:VE A RI (rN (oDR enc)) (some []):=λv l S0 e F S o=>by cases l;exact⟨_,_,rfl,Keeps.app _ _,_,rfl,AM _,DR _ _⟩
theorem gv(s:VE A a (rO (oDR enc)) pl)(hb:VE A b (rV (eT D.int)) B):VE A (m2 ixA a b) (rV enc) (pl.bind λl=>B.bind λx=>An l x):=Wx s hb λl x z S n o q=>RQ (seqR o) (by rw[xK o x,q];rfl)
theorem kC(l:List (ZLi×α))(k:ZLi)(v:α)(S:Sto)(n:Nat)(o:S[n]?=some (oDR enc l))(s:l.length < 1000000):SW (.ref n) (eT D.int k) (enc v) S=some (S.set n (oDR enc (CJ l k v))):=by
 unfold SW;dsimp only;rw[o];show(match Ol (k.map D.int)with | some B=>if (l.map _).length < sizeLine then some (S.set n (Ob.dT (CJ (l.map λx:ZLi×α=>(kR x.1,enc x.2)) B (enc v))))else none | none=>none)=_;rw[p7];dsimp only;rw[qX (by rw[AC];exact eh s),UM aZ];rfl
theorem gg(hi:A[i]?=some (.w i (oDR enc l)))(s:VE A b (rV (eT D.int)) B)(h:VE A m (rV enc) p)(C:((A.set i .u).all (Sl.oth i))=true) :
  VS A (DE (AD i) b m) R (p.bind λv=>B.bind λk=>(IX l k v).bind λo=>some (.nx o)) (λo=>A.set i (.w i (oDR enc o))):=bX kC hi s h C
theorem lU(l:VE A a (rV D.int) p):VE A (cP a) (rV D.int) (p.bind λx=>some (D3 x:Int)):=λv o S0 e F S s=>by
 obtain⟨x,B,C⟩:=BA o;cases C;obtain⟨d,S',E,G,rfl⟩:=l x B S0 e F S s;refine⟨_,S',?_,G,rfl⟩;unfold cP;rw[E];rfl
theorem dR(s:VE A a (rO (oDK enc)) pl):VE A (Ev a) (rN (oL D.int)) (pl.bind λl=>Om l (Be (l.map (·.1)))):=λv B S0 e F S C=>by
 obtain⟨l,E,G⟩:=BA B;obtain⟨H,rfl⟩:=PH G;obtain⟨d,S',I,o,n,rfl,J⟩:=s l E S0 e F S C;refine⟨_,_,Jm I (d:=.ref n) (ds:=(l.map (·.1)).map D.int) ?_ (es:=(Be (l.map (·.1))).map D.int) ?_,o.trans (Keeps.app _ _),_,rfl,o.1,DR _ _⟩
 ·unfold LN
  dsimp only;rw[J];show some ((l.map _).map _)=_;rw[BB,BB];rfl
 ·unfold Jt
  rw[qX (by rw[AC,AC];exact H)];rw[L1]
theorem gx(B:VE A a (rV C) p)(hb:VE A b (rV (eP eb E)) q):VE A (m2 Em (Gu (AH a Ay)) b) (rV (eP3 C eb E)) (p.bind λx=>q.bind λy=>some (x,y)):=λv l S0 e F S o=>by
 obtain⟨x,G,l⟩:=BA l;obtain⟨y,H,I⟩:=BA l;cases I;obtain⟨d1,J,L,s,rfl⟩:=B x G S0 e F S o;obtain⟨d2,N,O,P,rfl⟩:=hb y H S0 e _ J (o.grow s);exact⟨_,N,Dz (Ot (CL L rfl) (Nat.le_of_ble_eq_true rfl)) O rfl,s.trans P,rfl⟩
end
section
variable{S0 S S':Sto}{A:List Sl}{e:Lo}{F:Fz}{α β σ:Type}{ob:β->Ob}{a m:ME}
theorem qm{p:Option Int}(l:VE A a (rV D.int) p):VE A (nU a) (rV D.int) (p.bind λx=>some (if x < 0 then -x else x)):=λv o S0 e F S s=>by
 obtain⟨x,B,C⟩:=BA o;cases C;obtain⟨d,S',E,G,rfl⟩:=l x B S0 e F S s;refine⟨_,S',?_,G,rfl⟩;unfold nU;rw[E];rfl
theorem gf{enc:α->D}{B:σ->List Sl}{p:Option α}{i k:Nat}{v:β}(s:VE A m (rV enc) p)(h:A[i]?=some (.w k (ob v))):VS A (Cu (Gu (AH m (AH (AD i) Ay)))) (rP enc ob) (p.bind λx=>some (.rt (x,v))) B:=λf C S0 e F S l=>by
 obtain⟨x,E,G⟩:=BA C;cases G;obtain⟨d1,H,I,o,rfl⟩:=s x E S0 e F S l;obtain⟨y,J,n,rfl,L,N⟩:=l.sl i _ h;exact⟨_,H,LG (Ot (CL I (CL (LA J) rfl)) (by simp)),_,rfl,⟨n,rfl,(l.ow _ _ L).1,o.at N⟩,l.kp.trans o⟩
end
section
variable{A:List Sl}{a b:ME}
theorem ae:∀l:List (ZLi×Int),ivK (l.map λx=>(kR x.1,D.int x.2))=some (l.map λx=>(kR x.1,x.2))
 | []=>rfl
 | x :: l=>by
  rw[Az,Az];unfold ivK;rw[ae l];rfl
theorem dy(l m:List (ZLi×Int)):Od (l.map λx=>(kR x.1,x.2)) (m.map λx=>(kR x.1,x.2))=Od l m:=by
 unfold Od;rw[AC,AC,ZW]
 congr 2
 funext x
 show decide (An (m.map λx=>(kR x.1,x.2)) (kR x.1)=some x.2)=_;have:=Po aZ (λz:Int=>z) m x.1;rw[show(m.map λx=>(kR x.1,x.2))=m.map λx=>(kR x.1,(λz:Int=>z) x.2)from rfl,this,Option.map_id']
theorem lQ{pl l:Option (List (ZLi×Int))}(o:VE A a (rO (oDR D.int)) pl)(hb:VE A b (rO (oDR D.int)) l):VE A (m2 jG a b) (rV D.bl) (pl.bind λx=>l.bind λy=>some (!Od x y)):=pR o hb λx y z S n m s B q=>by
 cases q;unfold jG;simp only[s,B];show(match ivK (x.map λx=>(kR x.1,D.int x.2)),ivK (y.map λx=>(kR x.1,D.int x.2))with | some C,some E=>Res.ok (D.bl (!Od C E)) S | _,_=>.bad)=_;rw[ae,ae];show Res.ok (D.bl (!Od _ _)) S=_;rw[dy]
noncomputable def dnZ(i:Int)(n:Nat):ZLi:=(BJ n).map λk:Nat=>i - k
noncomputable def mK(i j k:Int):Option ZLi:=if k = -1/\-1000000<=i/\i<=1000000/\-1000000<=j/\j<=1000000 then some (dnZ i (i - j).toNat)else none
theorem dQ{c:ME}{C E G:Option Int}(J:VE A a (rV D.int) C)(hb:VE A b (rV D.int) E)(L:VE A c (rV D.int) G):VI A (iRD (AH a (AH b (AH c Ay)))) D.int (C.bind λi=>E.bind λj=>G.bind λk=>mK i j k):=λl m o e F S s=>by
 obtain⟨i,N,m⟩:=BA m;obtain⟨j,O,m⟩:=BA m;obtain⟨k,P,m⟩:=BA m;obtain⟨d1,Q,R,B,rfl⟩:=J i N o e F S s;obtain⟨d2,H,T,I,rfl⟩:=hb j O o e _ Q (s.grow B);obtain⟨d3,U,X,Y,rfl⟩:=L k P o e _ H ((s.grow B).grow I);unfold mK at m;split at m
 ·rename_i Z
  cases m;refine⟨FZ (fP i (i - j).toNat),U,?_,(B.trans I).trans Y,λF2 H _ _=>?_⟩
  ·unfold iRD
   rw[CL R (CL T (CL X rfl))];dsimp only[Res.bind];rw[qX Z]
  ·show some (fP i (i - j).toNat)=_
   unfold fP dnZ;rw[BB];rfl
 ·cases m
end
end L4
namespace L2
open PySem PySem.Spec PyProof.Rows
section
variable{P:Bw}{w:CV}{K:AI}{mg:Str->Option AK}{base:DO}
theorem BL{x m}{st}{f}{fd}{N ps}{k n}(F:Fun K x m st f fd)(B:BV N ps (A0 st))(G:ps.length=n){mb}
  (I:∀(o:AK) (A:Cf) (l:List Env) (s:AS) (H:Hp) (E:XK),IE k (A.deeper (Oq m (A0 st) s.heap.objs.size f o))->(A.deeper (Oq m (A0 st) s.heap.objs.size f o)).units+64 < FK->N.Nodup ->
   GSs (ay (CXG P w) P w K mg base N m (A0 st) f o A l s H E).q noE (Jj st) mb) :
  Cp P w K mg base (CXG P w) (k+1) f fd ps (spM K n (Dg N.length mb)):=oH F B G λo A l s H E C=>I o A l s H E C C.units B.nd
end
end L2
namespace M
open PySem PySem.Spec PyProof.Rows L2
noncomputable def top(i:Nat):DB:=qO.main.body.getD i (.Pass ⟨0,0,0,0⟩)
structure Wd where
 Web:Ab
 Field:Ab
noncomputable def Wd.excs(W:Wd):List Ab:=[]
noncomputable abbrev J3:DB:=top 11
noncomputable abbrev Jx:DB:=top 12
noncomputable abbrev O1:DB:=Mt (top 10) 0
noncomputable abbrev HR:DB:=top 13
noncomputable abbrev aF:DB:=top 14
noncomputable abbrev Oz:DB:=top 16
noncomputable abbrev Q5:DB:=top 17
noncomputable abbrev Q2:DB:=top 18
noncomputable abbrev UF:DB:=top 19
noncomputable abbrev aH:DB:=top 20
noncomputable abbrev Nb:DB:=top 22
noncomputable abbrev Q0:DB:=top 24
noncomputable abbrev HS:DB:=top 25
noncomputable abbrev Mc:DB:=top 26
noncomputable abbrev Md:DB:=top 27
noncomputable abbrev Nd:DB:=top 28
noncomputable abbrev Q4:DB:=top 29
noncomputable abbrev IU:DB:=top 32
noncomputable abbrev O0:DB:=top 33
noncomputable abbrev Nc:DB:=top 34
noncomputable abbrev FT:DB:=Mt (top 36) 3
noncomputable abbrev FU:DB:=Mt (top 36) 4
noncomputable abbrev Mf:DB:=Mt (top 36) 0
noncomputable abbrev LF:DB:=Mt (top 36) 1
noncomputable abbrev J5:DB:=Mt (top 36) 2
noncomputable abbrev J6:DB:=Mt (top 36) 5
noncomputable abbrev LC:DB:=top 38
noncomputable abbrev UG:DB:=top 37
noncomputable abbrev Jz:DB:=top 39
noncomputable abbrev Q3:DB:=top 40
noncomputable abbrev XA:DB:=top 41
noncomputable abbrev Jv:DB:=top 44
noncomputable abbrev J1:DB:=top 45
noncomputable abbrev Mb:DB:=top 46
noncomputable abbrev Me:DB:=top 49
noncomputable abbrev Jw:DB:=top 48
noncomputable abbrev J2:DB:=top 47
noncomputable abbrev Ft:DB:=top 52
noncomputable abbrev Jy:DB:=top 53
noncomputable abbrev aG:DB:=top 54
noncomputable abbrev J4:DB:=top 56
noncomputable abbrev IV:DB:=top 58
noncomputable abbrev Nf:DB:=top 59
noncomputable abbrev LD:DB:=top 60
noncomputable abbrev bw:DB:=top 61
noncomputable def VH(W:Wd):MS:=
  (BH (Cg 2 RI)
  (BH (Ee (EI (AD 1)) (Gq 2 (CO (tgN 3) (CO (tgN 4) G7)))
  (BH (Cg 5 (Gu (AH (mQ WJ (AH (AD 3) (AH (AD 4) Ay))) (AH (mQ WM (AH (AD 3) (AH (AD 4) Ay))) Ay))))
  (BH (sIf (mB (m2 (eqD false) (m2 ixA (AD 5) (mC (.int 0))) (m2 ixA (AD 5) (mC (.int 1))))) Q6 sNx)
  (BH (sIf (mOr (mB (m2 ltD (m2 ixA (AD 5) (mC (.int 0))) (mC (.int 0)))) (mB (m2 geD (m2 ixA (AD 5) (mC (.int 1))) (AD 0)))) Q6 sNx)
  (BH (sIf (mB (m2 (inA false) (AD 5) (AD 2))) Q6 sNx)
  (DE (AD 2) (AD 5) (mC (.bl true))))))))
  (Cu (Ib (Ev (AD 2))))))
noncomputable def Hv(W:Wd):List D->Sto->Res D:=Dg 6 (VH W)
noncomputable def N2(W:Wd):MS:=
  (BH (Cg 2 (Er (FE 1 (iR1 (AH (AD 0) Ay)) (tgN 0) Gy (Er (D5 Ay)))))
  (BH (Ee (EI (AD 1)) (Gq 2 (CO (tgN 3) (CO (tgN 4) G7)))
  (BH (FD (Np (m2 ixA (AD 2) (AD 3)) (AD 4)))
  (FD (Np (m2 ixA (AD 2) (AD 4)) (AD 3)))))
  (Cu (Ib (Er (FE 1 (EI (AD 2)) (tgN 0) Gy (Ib (Ev (AD 0)))))))))
noncomputable def Hr(W:Wd):List D->Sto->Res D:=Dg 5 (N2 W)
noncomputable def VJ(W:Wd):MS:=
  (BH (sIf (SR (mB (m3 leD leD (mC (.int 1)) (AD 1) (mC (.int 60))))) Q6 sNx)
  (BH (Kk W.Web "places" (AD 0) (AD 1))
  (BH (Kk W.Web "ties" (AD 0) (BX 2 (Hv W) (AH (AD 1) (AH (AD 2) Ay))))
  (Kk W.Web "near_sets" (AD 0) (BX 2 (Hr W) (AH (AD 1) (AH (Cr W.Web "ties" (AD 0)) Ay)))))))
noncomputable def KL(W:Wd):List D->Sto->Res D:=Dg 3 (VJ W)
noncomputable def Hx(W:Wd):MS:=
  (sIf (SR (mB (m3 leD ltD (mC (.int 0)) (AD 1) (Cr W.Web "places" (AD 0))))) Q6 sNx)
noncomputable def Hq(W:Wd):List D->Sto->Res D:=Dg 2 (Hx W)
noncomputable def bB(W:Wd):MS:=
  (BH (FD (BX 2 (Hq W) (AH (AD 0) (AH (AD 1) Ay))))
  (Cu (m2 ixA (Cr W.Web "near_sets" (AD 0)) (AD 1))))
noncomputable def Uw(W:Wd):List D->Sto->Res D:=Dg 2 (bB W)
noncomputable def PM(W:Wd):MS:=
  (Cu (Er (FE 1 (iR1 (AH (Cr W.Web "places" (AD 0)) Ay)) (tgN 0) Gy (Ib (Ev (m2 Em (Gu (AH (AD 0) Ay)) (BX 2 (Uw W) (AH (AD 1) (AH (AD 0) Ay)))))))))
noncomputable def Mw(W:Wd):List D->Sto->Res D:=Dg 1 (PM W)
noncomputable def RW(W:Wd):MS:=
  (BH (Cg 1 (mC (.int 0)))
  (BH (Ee (EI (AD 0)) (tgN 2)
  (UH 1 (λa b=>Cq a b) (m2 R7 (mC (.int 1)) (AD 2))))
  (Cu (AD 1))))
noncomputable def RN(W:Wd):List D->Sto->Res D:=Dg 3 (RW W)
noncomputable def RT(W:Wd):MS:=
  (BH (Cg 1 (Er (D5 Ay)))
  (BH (Cg 2 (AD 0))
  (BH (JQ (FM (AD 2)) (BH (FD (Np (AD 1) (m2 Z4 (cP (m2 VP (AD 2) (ee (AD 2)))) (mC (.int 1)))))
  (UH 2 (λa b=>Bn a b) (m2 Z4 (AD 2) (mC (.int 1))))) wN)
  (Cu (AD 1)))))
noncomputable def OJ(W:Wd):List D->Sto->Res D:=Dg 3 (RT W)
noncomputable def ZL(W:Wd)(l:List D->Sto->Res D):MS:=
  (BH (Cg 5 (Er (FE 1 (EI (m2 ixA (AD 0) (AD 3))) (tgN 0) (Ud (FM (m2 VP (m2 YW (AD 2) (AD 0)) (mC (.int 1)))) (mB (m2 (inA true) (AD 0) (AD 5)))) (AD 0))))
  (BH (Ee (EI (AD 5)) (tgN 6)
  (sIf (mB (m2 (inA true) (AD 6) (AD 2))) (BH (DE (AD 2) (AD 6) (AD 3))
  (Cu (mC (.bl true)))) sNx))
  (BH (Ee (EI (AD 5)) (tgN 6)
  (sIf (mB (m2 (inA true) (AD 6) (AD 4))) (BH (DE (AD 4) (AD 6) (mC (.bl true)))
  (sIf (FM (BX 5 l (AH (AD 0) (AH (AD 1) (AH (AD 2) (AH (m2 ixA (AD 2) (AD 6)) (AH (AD 4) Ay))))))) (BH (DE (AD 2) (AD 6) (AD 3))
  (Cu (mC (.bl true)))) sNx)) sNx))
  (Cu (mC (.bl false))))))
noncomputable def Gv(W:Wd):Nat->List D->Sto->Res D
 | 0=>λ_ _=>.bad
 | n+1=>Dg 7 (ZL W (Gv W n))
noncomputable def bD(W:Wd):MS:=
  (BH (Cg 3 JS)
  (BH (Ee (EI (AD 1)) (tgN 4)
  (sIf (FM (m2 VP (m2 YW (AD 2) (AD 4)) (mC (.int 1)))) (DE (AD 3) (AD 4) (AD 4)) sNx))
  (BH (Ee (EI (AD 1)) (tgN 4)
  (sIf (Ud (SR (FM (m2 VP (m2 YW (AD 2) (AD 4)) (mC (.int 1))))) (SR (FM (BX 5 (Gv W 9) (AH (AD 0) (AH (AD 2) (AH (AD 3) (AH (AD 4) (AH JS Ay))))))))) (Cu (mC (.bl false))) sNx))
  (Cu (mC (.bl true))))))
noncomputable def Xb(W:Wd):List D->Sto->Res D:=Dg 5 (bD W)
noncomputable def N0(W:Wd):MS:=
  (Cu (Ib (Er (FE 1 (EI (AD 0)) (tgN 0) Gy (Yz (mB (m2 (eqD false) (AD 0) (AD 2))) (AD 3) (AD 0))))))
noncomputable def Nv(W:Wd):List D->Sto->Res D:=Dg 3 (N0 W)
noncomputable def RS(W:Wd):MS:=
  (BH (Cg 2 (Er (D5 (AH (Gu Ay) Ay))))
  (BH (Ee (iR1 (AH (AD 1) Ay)) (tgN 3)
  (BH (Cg 4 (Er (D5 Ay)))
  (BH (Ee (EI (AD 2)) (tgN 5)
  (BH (Cg 6 (Yz (FM (AD 5)) (m2 Em (m2 ixA (AD 5) (ee (mC (.int 1)))) (mC (.int 1))) (mC (.int 0))))
  (Ee (iR2 (AH (AD 6) (AH (m2 Em (m2 Em (m2 Z4 (AD 0) (AD 1)) (AD 3)) (mC (.int 1))) Ay))) (tgN 7)
  (FD (Np (AD 4) (m2 Em (AD 5) (Gu (AH (AD 7) Ay))))))))
  (Cg 2 (AD 4)))))
  (Cu (AD 2))))
noncomputable def L6(W:Wd):List D->Sto->Res D:=Dg 8 (RS W)
noncomputable def Hy(W:Wd):MS:=
  (BH (Cg 2 JS)
  (BH (Ee (EI (AD 1)) (tgN 3)
  (BH (DE (AD 2) (AD 3) (mC (.bl true)))
  (Ee (EI (BX 2 (Uw W) (AH (AD 0) (AH (AD 3) Ay)))) (tgN 4)
  (DE (AD 2) (AD 4) (mC (.bl true))))))
  (BH (Ee (iR1 (AH (Cr W.Web "places" (AD 0)) Ay)) (tgN 3)
  (sIf (mB (m2 (inA true) (AD 3) (AD 2))) (Cu (AD 3)) sNx))
  (Cu (mC .non)))))
noncomputable def Ht(W:Wd):List D->Sto->Res D:=Dg 5 (Hy W)
noncomputable def M3(W:Wd):MS:=
  (BH (Ee (Hm (AD 1)) (Gq 2 (CO (tgN 3) (CO (tgN 4) G7)))
  (BH (Cg 5 (BX 2 (Uw W) (AH (AD 0) (AH (AD 4) Ay))))
  (Ee (EI (Sx (AD 1) (NF (m2 Em (AD 3) (mC (.int 1)))) P8)) (tgN 6)
  (sIf (mB (m2 (eqD false) (m2 (inA false) (AD 6) (AD 5)) (AD 2))) (Cu (Gu (AH (AD 4) (AH (AD 6) Ay)))) sNx))))
  (Cu (mC .non)))
noncomputable def Ji(W:Wd):List D->Sto->Res D:=Dg 7 (M3 W)
noncomputable def M4(W:Wd):MS:=
  (Cu (BX 3 (Ji W) (AH (AD 0) (AH (AD 1) (AH (mC (.bl true)) Ay)))))
noncomputable def Mx(W:Wd):List D->Sto->Res D:=Dg 2 (M4 W)
noncomputable def N3(W:Wd):MS:=
  (Cu (BX 3 (Ji W) (AH (AD 0) (AH (AD 1) (AH (mC (.bl false)) Ay)))))
noncomputable def Nx(W:Wd):List D->Sto->Res D:=Dg 2 (N3 W)
noncomputable def RV(W:Wd):MS:=
  (Cu (Y0 (m2 gtD (J8 (AD 1)) (mC (.int 0))) (m2 (Uj false) (BX 2 (Nx W) (AH (AD 0) (AH (AD 1) Ay))) (mC .non))))
noncomputable def Jo(W:Wd):List D->Sto->Res D:=Dg 2 (RV W)
noncomputable def Ik(W:Wd):MS:=
  (BH (Cg 2 (mC (.int 1)))
  (BH (Ee (iR1 (AH (AD 1) Ay)) (tgN 3)
  (Cg 2 (m2 Nu (m2 XQ (AD 2) (m2 Z4 (AD 0) (AD 3))) (m2 Em (AD 3) (mC (.int 1))))))
  (Cu (AD 2))))
noncomputable def Ih(W:Wd):List D->Sto->Res D:=Dg 4 (Ik W)
noncomputable def PN(W:Wd):MS:=
  (BH (sIf (SR (mB (m3 leD leD (mC (.int 1)) (AD 1) (Cr W.Web "places" (AD 0))))) Q6 sNx)
  (Cu (BX 2 (Ih W) (AH (Cr W.Web "places" (AD 0)) (AH (AD 1) Ay)))))
noncomputable def PJ(W:Wd):List D->Sto->Res D:=Dg 2 (PN W)
noncomputable def N1(W:Wd):MS:=
  (BH (sIf (mB (m2 gtD (BX 2 (PJ W) (AH (AD 0) (AH (AD 1) Ay))) (mC (.int 400)))) Q6 sNx)
  (Cu (BX 2 (L6 W) (AH (Cr W.Web "places" (AD 0)) (AH (AD 1) Ay)))))
noncomputable def Kq(W:Wd):List D->Sto->Res D:=Dg 2 (N1 W)
noncomputable def FV(W:Wd):MS:=
  (BH (Cg 2 (m2 ixA (Cr W.Field "everything" (AD 0)) (AD 1)))
  (BH (Cg 3 (mC (.int 0)))
  (BH (Ee (EI (AD 2)) (tgN 4)
  (Ee (EI (m2 ixA (Cr W.Field "takes" (AD 0)) (AD 4))) (tgN 5)
  (sIf (mB (m2 (inA true) (AD 5) (AD 2))) (UH 3 (λa b=>Cq a b) (m2 R7 (mC (.int 1)) (m2 ixA (Cr W.Field "numbers" (AD 0)) (Ib (Ev (BX 3 (Nv W) (AH (AD 2) (AH (AD 4) (AH (AD 5) Ay))))))))) sNx)))
  (Cu (AD 3)))))
noncomputable def Di(W:Wd):List D->Sto->Res D:=Dg 6 (FV W)
noncomputable def FW(W:Wd):MS:=
  (BH (Cg 2 (m2 ixA (Cr W.Field "everything" (AD 0)) (AD 1)))
  (BH (Cg 3 (mC (.int 0)))
  (BH (Ee (Hm (Cr W.Field "place_bits" (AD 0))) (Gq 2 (CO (tgN 4) (CO (tgN 5) G7)))
  (sIf (FM (BX 3 (Xb W) (AH (Cr W.Field "takes" (AD 0)) (AH (AD 2) (AH (AD 5) Ay))))) (UH 3 (λa b=>Cq a b) (m2 R7 (mC (.int 1)) (AD 4))) sNx))
  (Cu (AD 3)))))
noncomputable def Dj(W:Wd):List D->Sto->Res D:=Dg 6 (FW W)
noncomputable def QU(W:Wd):MS:=
  (BH (Kk W.Field "everything" (AD 0) (BX 2 (Kq W) (AH (AD 1) (AH (AD 2) Ay))))
  (BH (Kk W.Field "kind" (AD 0) (AD 3))
  (BH (Kk W.Field "takes" (AD 0) (BX 1 (Mw W) (AH (AD 1) Ay)))
  (BH (Kk W.Field "numbers" (AD 0) RI)
  (BH (Kk W.Field "having" (AD 0) (Er (FE 1 (iR1 (AH (Cr W.Web "places" (AD 1)) Ay)) (tgN 0) Gy (mC (.int 0)))))
  (BH (Ee (Hm (Cr W.Field "everything" (AD 0))) (Gq 2 (CO (tgN 4) (CO (tgN 5) G7)))
  (BH (DE (Cr W.Field "numbers" (AD 0)) (AD 5) (AD 4))
  (Ee (EI (AD 5)) (tgN 6)
  (Yd (λa b=>Cq a b) (Cr W.Field "having" (AD 0)) (AD 6) (m2 R7 (mC (.int 1)) (AD 4))))))
  (BH (Kk W.Field "place_bits" (AD 0) (Er (FE 1 (EI (Cr W.Field "everything" (AD 0))) (tgN 0) Gy (BX 1 (RN W) (AH (AD 0) Ay)))))
  (Kk W.Field "known" (AD 0) JS))))))))
noncomputable def LR(W:Wd):List D->Sto->Res D:=Dg 7 (QU W)
noncomputable def LM(W:Wd)(ds:List D)(S:Sto)(k:Key):Int:=match ds,k with
 | .ref q :: _,.inl n=>lmI (if t5 "kind" q S=some ("one" : Str)then Di W [.ref q,.int n] S else Dj W [.ref q,.int n] S)
 | _,_=>0
noncomputable def GY(W:Wd):List D->Sto->Res D:=nQ "known" (LM W) (LR W)
noncomputable def LY(W:Wd):MS:=
  (BH (Cg 2 (m2 ixA (Cr W.Field "everything" (AD 0)) (AD 1)))
  (Cu (Er (FE 1 (iR1 (AH (J8 (Cr W.Field "takes" (AD 0))) Ay)) (tgN 0) (mB (m2 (inA true) (AD 0) (AD 3))) (AD 0)))))
noncomputable def LQ(W:Wd):List D->Sto->Res D:=Dg 3 (LY W)
noncomputable def KS(W:Wd):MS:=
  (BH (sIf (mB (m2 (inA true) (AD 1) (Cr W.Field "known" (AD 0)))) (DE (Cr W.Field "known" (AD 0)) (AD 1) (Yz (mB (m2 (eqD false) (Cr W.Field "kind" (AD 0)) (mC (.str "one")))) (No W.Field "linked_by_one" 2 (Di W) (AD 0) (AH (AD 1) Ay)) (No W.Field "linked_by_all" 2 (Dj W) (AD 0) (AH (AD 1) Ay)))) sNx)
  (Cu (m2 ixA (Cr W.Field "known" (AD 0)) (AD 1))))
noncomputable def JT(W:Wd):List D->Sto->Res D:=Dg 2 (KS W)
noncomputable def Hw(W:Wd):List D->Sto->Res D:=oy "known" (JT W)
noncomputable def KU(W:Wd):MS:=
  (Cu (m2 VP (No W.Field "linked" 2 (Hw W) (AD 0) (AH (AD 1) Ay)) (m2 ixA (Cr W.Field "having" (AD 0)) (AD 2))))
noncomputable def KM(W:Wd):List D->Sto->Res D:=Dg 3 (KU W)
noncomputable def LW(W:Wd):MS:=
  (BH (Cg 2 JS)
  (BH (Ee (EI (BX 1 (OJ W) (AH (AD 1) Ay))) (tgN 3)
  (BH (Cg 4 (Er (FE 1 (EI (No W.Field "calls" 2 (LQ W) (AD 0) (AH (AD 3) Ay))) (tgN 0) (mB (m2 (eqD false) (m2 VP (No W.Field "behind" 3 (KM W) (AD 1) (AH (AD 4) (AH (AD 0) Ay))) (AD 2)) (mC (.int 0)))) (AD 0))))
  (sIf (FM (AD 4)) (DE (AD 2) (AD 3) (m2 ixA (AD 4) (mC (.int 0)))) sNx)))
  (Cu (AD 2))))
noncomputable def Iz(W:Wd):List D->Sto->Res D:=Dg 5 (LW W)
noncomputable def VD(W:Wd):MS:=
  (BH (Cg 1 JS)
  (BH (Cg 2 (m2 Z4 (m2 R7 (mC (.int 1)) (J8 (Cr W.Field "everything" (AD 0)))) (mC (.int 1))))
  (BH (Cg 3 (mC (.int 1)))
  (BH (Cg 4 (BX 2 (Iz W) (AH (AD 0) (AH (AD 2) Ay))))
  (BH (JQ (FM (AD 4)) (BH (BH (sFz 4) (Ee (cX (AD 4)) (tgN 5)
  (BH (DE (AD 1) (AD 5) (Gu (AH (AD 3) (AH (m2 ixA (AD 4) (AD 5)) Ay))))
  (UH 2 (λa b=>Ex a b) (m2 R7 (mC (.int 1)) (AD 5))))))
  (BH (UH 3 (λa b=>a+b) (mC (.int 1)))
  (Cg 4 (BX 2 (Iz W) (AH (AD 0) (AH (AD 2) Ay)))))) wN)
  (Cu (AD 1)))))))
noncomputable def QS(W:Wd):List D->Sto->Res D:=Dg 6 (VD W)
noncomputable def KP(W:Wd):MS:=
  (Cu (nS (Er (FE 1 (iR1 (AH (J8 (Cr W.Field "everything" (AD 0))) Ay)) (tgN 0) (mB (m2 (inA true) (AD 0) (AD 2))) (m2 R7 (mC (.int 1)) (AD 0))))))
noncomputable def KH(W:Wd):List D->Sto->Res D:=Dg 2 (KP W)
noncomputable def RU(W:Wd):MS:=
  (BH (Cg 3 (Oi W.Field 4 (GY W) (AH (AD 0) (AH (AD 1) (AH (AD 2) Ay)))))
  (Cu (Er (FE 1 (EI (BX 1 (OJ W) (AH (BX 2 (KH W) (AH (AD 3) (AH (BX 1 (QS W) (AH (AD 3) Ay)) Ay))) Ay))) (tgN 0) Gy (m2 ixA (Cr W.Field "everything" (AD 4)) (AD 0))))))
noncomputable def L7(W:Wd):List D->Sto->Res D:=Dg 4 (RU W)
noncomputable def Xm(W:Wd):MS:=
  (BH (Cg 3 (Oi W.Field 4 (GY W) (AH (AD 0) (AH (AD 1) (AH (AD 2) Ay)))))
  (BH (Cg 4 (BX 1 (QS W) (AH (AD 3) Ay)))
  (Cu (Er (FE 1 (EI (Ev (AD 4))) (tgN 0) Gy (m2 Em (Gu (AH (m2 ixA (Cr W.Field "everything" (AD 4)) (AD 0)) Ay)) (m2 ixA (AD 5) (AD 0))))))))
noncomputable def Xc(W:Wd):List D->Sto->Res D:=Dg 5 (Xm W)
noncomputable def KN(W:Wd):MS:=
  (sIf (mB (m2 gtD (Cr W.Web "places" (AD 0)) (mC (.int 12)))) Q6 sNx)
noncomputable def E6(W:Wd):List D->Sto->Res D:=Dg 1 (KN W)
noncomputable def KQ(W:Wd):MS:=
  (BH (FD (BX 1 (E6 W) (AH (AD 0) Ay)))
  (BH (Ee (iR2 (AH (mC (.int 1)) (AH (Cr W.Web "places" (AD 0)) Ay))) (tgN 1)
  (Ee (EI (BX 2 (L6 W) (AH (Cr W.Web "places" (AD 0)) (AH (AD 1) Ay)))) (tgN 2)
  (sIf (mB (m2 (Uj false) (BX 2 (Ht W) (AH (AD 0) (AH (AD 2) Ay))) (mC .non))) (Cu (AD 2)) sNx)))
  (Cu (Yy (AH (Cr W.Web "places" (AD 0)) Ay)))))
noncomputable def KI(W:Wd):List D->Sto->Res D:=Dg 3 (KQ W)
noncomputable def M2(W:Wd):MS:=
  (BH (FD (BX 1 (E6 W) (AH (AD 0) Ay)))
  (BH (Ee (iRD (AH (Cr W.Web "places" (AD 0)) (AH (mC (.int 1)) (AH (ee (mC (.int 1))) Ay)))) (tgN 1)
  (Ee (EI (BX 2 (L6 W) (AH (Cr W.Web "places" (AD 0)) (AH (AD 1) Ay)))) (tgN 2)
  (sIf (mB (m2 (Uj false) (BX 2 (Mx W) (AH (AD 0) (AH (AD 2) Ay))) (mC .non))) (Cu (AD 2)) sNx)))
  (Cu (Gu (AH (mC (.int 0)) Ay)))))
noncomputable def FI(W:Wd):List D->Sto->Res D:=Dg 3 (M2 W)
noncomputable def M5(W:Wd):MS:=
  (BH (Cg 4 (Er (D5 Ay)))
  (BH (Ee (Hm (AD 1)) (Gq 2 (CO (tgN 5) (CO (tgN 6) G7)))
  (BH (Cg 7 (m2 Em (AD 6) (Gu (AH (AD 2) Ay))))
  (sIf (FM (BX 2 (Jo W) (AH (AD 0) (AH (AD 7) Ay)))) (FD (Np (AD 4) (m2 Em (m2 Em (LK (AD 1) P8 (NF (AD 5))) (Er (D5 (AH (AD 7) Ay)))) (LK (AD 1) (NF (m2 Em (AD 5) (mC (.int 1)))) P8)))) sNx)))
  (BH (sIf (mB (m2 ltD (J8 (AD 1)) (AD 3))) (FD (Np (AD 4) (m2 Em (AD 1) (Er (D5 (AH (Gu (AH (AD 2) Ay)) Ay)))))) sNx)
  (Cu (AD 4)))))
noncomputable def Hu(W:Wd):List D->Sto->Res D:=Dg 8 (M5 W)
noncomputable def DF(W:Wd)(l:List D->Sto->Res D):MS:=
  (BH (sIf (mB (m2 (eqD false) (AD 2) (Cr W.Web "places" (AD 0)))) (Cu (AD 1)) sNx)
  (BH (Ee (EI (BX 4 (Hu W) (AH (AD 0) (AH (AD 1) (AH (AD 2) (AH (AD 3) Ay)))))) (tgN 4)
  (BH (Cg 5 (BX 4 l (AH (AD 0) (AH (AD 4) (AH (m2 Em (AD 2) (mC (.int 1))) (AH (AD 3) Ay))))))
  (sIf (mB (m2 (Uj true) (AD 5) (mC .non))) (Cu (AD 5)) sNx)))
  (Cu (mC .non))))
noncomputable def Bz(W:Wd):Nat->List D->Sto->Res D
 | 0=>λ_ _=>.bad
 | n+1=>Dg 6 (DF W (Bz W n))
noncomputable def GF(W:Wd):MS:=
  (BH (FD (BX 1 (E6 W) (AH (AD 0) Ay)))
  (BH (Ee (iR2 (AH (J8 (BX 1 (FI W) (AH (AD 0) Ay))) (AH (Cr W.Web "places" (AD 0)) Ay))) (tgN 1)
  (BH (Cg 2 (BX 4 (Bz W 9) (AH (AD 0) (AH (Er (D5 Ay)) (AH (mC (.int 0)) (AH (AD 1) Ay))))))
  (sIf (mB (m2 (Uj true) (AD 2) (mC .non))) (Cu (AD 2)) sNx)))
  (Cu (Er (FE 1 (iR1 (AH (Cr W.Web "places" (AD 0)) Ay)) (tgN 0) Gy (Gu (AH (AD 0) Ay)))))))
noncomputable def KJ(W:Wd):List D->Sto->Res D:=Dg 3 (GF W)
noncomputable def GD(W:Wd):MS:=
  (sIf (mB (m2 gtD (Cr W.Web "places" (AD 0)) (mC (.int 8)))) Q6 sNx)
noncomputable def GC(W:Wd):List D->Sto->Res D:=Dg 1 (GD W)
noncomputable def KO(W:Wd):MS:=
  (BH (Ee (iR2 (AH (mC (.int 1)) (AH (Cr W.Web "places" (AD 0)) Ay))) (tgN 2)
  (sIf (FM (BX 3 (L7 W) (AH (AD 0) (AH (AD 2) (AH (AD 1) Ay))))) (Cu (AD 2)) sNx))
  (Cu (Cr W.Web "places" (AD 0))))
noncomputable def Hs(W:Wd):List D->Sto->Res D:=Dg 3 (KO W)
noncomputable def bC(W:Wd):MS:=
  (BH (FD (BX 1 (GC W) (AH (AD 0) Ay)))
  (BH (Cg 1 (BX 2 (Hs W) (AH (AD 0) (AH (mC (.str "all")) Ay))))
  (BH (Cg 2 (BX 2 (Hs W) (AH (AD 0) (AH (mC (.str "one")) Ay))))
  (Cu (Gu (AH (J8 (BX 1 (KI W) (AH (AD 0) Ay))) (AH (AD 1) (AH (J8 (BX 1 (FI W) (AH (AD 0) Ay))) (AH (AD 2) (AH (J8 (BX 1 (KJ W) (AH (AD 0) Ay))) Ay))))))))))
noncomputable def Xa(W:Wd):List D->Sto->Res D:=Dg 3 (bC W)
noncomputable def KR(W:Wd):MS:=
  (BH (sIf (mB (m2 ltD (AD 1) (J8 (AD 0)))) (Cu (m2 ixA (AD 0) (AD 1))) sNx)
  (Cu (mC (.int 0))))
noncomputable def E7(W:Wd):List D->Sto->Res D:=Dg 2 (KR W)
noncomputable def Il(W:Wd):MS:=
  (BH (Cg 2 (BX 2 (E7 W) (AH (AD 0) (AH (mC (.int 0)) Ay))))
  (BH (Cg 3 (m2 Em (mC (.int 1)) (m2 QA (AD 2) (AD 1))))
  (BH (Cg 4 (Er (D5 Ay)))
  (BH (Cg 5 (BX 2 (E7 W) (AH (AD 0) (AH (mC (.int 1)) Ay))))
  (BH (Cg 6 (nU (AD 5)))
  (BH (Ee (EI (LK (AD 0) (NF (mC (.int 2))) (NF (mC (.int 12))))) (tgN 7)
  (Cg 5 (m2 Em (m2 XQ (AD 5) (mC (.int 3))) (m2 Nu (AD 7) (mC (.int 2))))))
  (BH (Cg 5 (m2 QA (m2 XQ (m2 QA (AD 5) (mC (.int 1000000007))) (mC (.int 48271))) (mC (.int 998244353))))
  (BH (Cg 8 (m2 QA (m2 Nu (AD 2) (AD 1)) (mC (.int 3))))
  (BH (Ee (iR2 (AH (mC (.int 1)) (AH (AD 3) Ay))) (tgN 9)
  (Ee (iR1 (AH (AD 9) Ay)) (tgN 10)
  (BH (Cg 5 (m2 Em (m2 Em (m2 Em (m2 QA (m2 XQ (AD 5) (AD 5)) (mC (.int 1000000007))) (m2 XQ (mC (.int 12)) (AD 9))) (AD 10)) (mC (.int 1))))
  (BH (Cg 11 (m2 leD (m2 QA (m2 Nu (AD 5) (mC (.int 7))) (mC (.int 4))) (AD 8)))
  (BH (sIf (mB (m2 (eqD false) (m2 QA (m2 Nu (m2 Nu (AD 2) (AD 1)) (mC (.int 3))) (mC (.int 2))) (mC (.int 1)))) (BH (Cg 11 (m2 (eqD false) (m2 QA (AD 6) (mC (.int 2))) (mC (.int 1))))
  (Cg 6 (m2 Nu (AD 6) (mC (.int 2))))) sNx)
  (sIf (FM (AD 11)) (FD (Np (AD 4) (Gu (AH (AD 10) (AH (AD 9) Ay))))) sNx))))))
  (Cu (Gu (AH (AD 3) (AH (AD 4) Ay)))))))))))))
noncomputable def Ii(W:Wd):List D->Sto->Res D:=Dg 12 (Il W)
noncomputable def N4(W:Wd):MS:=
  (Cu (Ib (Ev (Er (FE 1 (EI (AD 1)) (tgN 0) Gy (m2 ixA (AD 1) (AD 0)))))))
noncomputable def Kr(W:Wd):List D->Sto->Res D:=Dg 2 (N4 W)
noncomputable def LX(W:Wd):MS:=
  (BH (Cg 4 RI)
  (BH (Ee (EI (BX 3 (Xc W) (AH (AD 0) (AH (AD 1) (AH (AD 2) Ay))))) (Gq 3 (CO (tgN 5) (CO (tgN 6) (CO (tgN 7) G7))))
  (DE (AD 4) (BX 2 (Kr W) (AH (AD 3) (AH (AD 5) Ay))) (AD 6)))
  (Cu (AD 4))))
noncomputable def JA(W:Wd):List D->Sto->Res D:=Dg 8 (LX W)
noncomputable def kX(W:Wd):MS:=
  (BH (dz (BX 2 (Ii W) (AH (AD 0) (AH (m2 Em (mC (.int 5)) (nT (m2 (eqD false) (m2 QA (BX 2 (E7 W) (AH (AD 0) (AH (mC (.int 2)) Ay))) (mC (.int 4))) (mC (.int 1))))) Ay))) (Gq 2 (CO (tgN 1) (CO (tgN 2) G7))))
  (BH (Cg 3 (Er (D5 Ay)))
  (BH (Ee (iR1 (AH (AD 1) Ay)) (tgN 4)
  (FD (jM (AD 3) (m2 QA (BX 2 (E7 W) (AH (AD 0) (AH (m2 Em (mC (.int 3)) (AD 4)) Ay))) (m2 Em (AD 4) (mC (.int 1)))) (AD 4))))
  (BH (Cg 5 (Oi W.Web 3 (KL W) (AH (AD 1) (AH (AD 2) Ay))))
  (BH (Cg 6 (Oi W.Web 3 (KL W) (AH (AD 1) (AH (Er (FE 2 (EI (AD 2)) (Gq 2 (CO (tgN 0) (CO (tgN 1) G7))) Gy (Gu (AH (m2 ixA (AD 5) (AD 0)) (AH (m2 ixA (AD 5) (AD 1)) Ay))))) Ay))))
  (BH (Cg 7 (Er (Sy (AH (AD 1) Ay))))
  (BH (sIf (mB (m2 (eqD true) (BX 1 (Xa W) (AH (AD 5) Ay)) (BX 1 (Xa W) (AH (AD 6) Ay)))) (Cu (mC (.bl false))) sNx)
  (BH (Ee (iR2 (AH (mC (.int 1)) (AH (m2 Em (AD 1) (mC (.int 1))) Ay))) (tgN 8)
  (Ee (EI (Er (D5 (AH (mC (.str "one")) (AH (mC (.str "all")) Ay))))) (tgN 9)
  (BH (Cg 10 (Ev (Er (FE 1 (EI (BX 3 (L7 W) (AH (AD 5) (AH (AD 8) (AH (AD 9) Ay))))) (tgN 0) Gy (BX 2 (Kr W) (AH (AD 4) (AH (AD 0) Ay)))))))
  (BH (sIf (mB (m2 (eqD true) (AD 10) (BX 3 (L7 W) (AH (AD 6) (AH (AD 8) (AH (AD 9) Ay)))))) (Cu (mC (.bl false))) sNx)
  (sIf (mB (m2 jG (BX 4 (JA W) (AH (AD 5) (AH (AD 8) (AH (AD 9) (AH (AD 3) Ay))))) (BX 4 (JA W) (AH (AD 6) (AH (AD 8) (AH (AD 9) (AH (AD 7) Ay))))))) (Cu (mC (.bl false))) sNx)))))
  (Cu (mC (.bl true)))))))))))
noncomputable def cc(W:Wd):List D->Sto->Res D:=Dg 11 (kX W)
set_option genInjectivity false in
structure Txt(K:AI)(mg:Str->Option AK)(W:Wd) where
 d_checked_ties:Dfn K mg "checked_ties" "checked_ties" J3 ["places", "ties"]
 d_near_sets_of:Dfn K mg "near_sets_of" "near_sets_of" Jx ["places", "ties"]
 d_Web_init:Mtd K "__init__" "Web.__init__" O1 ["self", "places", "ties"]
 d_refuse_no_place:Dfn K mg "refuse_no_place" "refuse_no_place" HR ["web", "place"]
 d_near:Dfn K mg "near" "near" aF ["web", "place"]
 d_takes_of:Dfn K mg "takes_of" "takes_of" Oz ["web"]
 d_bits_of:Dfn K mg "bits_of" "bits_of" Q5 ["some"]
 d_members:Dfn K mg "members" "members" Q2 ["bits"]
 d_settle:Dfn K mg "settle" "settle" UF ["takes", "bits", "holders", "guard", "seen"]
 d_fits:Dfn K mg "fits" "fits" aH ["takes", "guards", "bits"]
 d_with_step:Dfn K mg "with_step" "with_step" Nb ["standing", "guard", "place"]
 d_sets_of:Dfn K mg "sets_of" "sets_of" Q0 ["places", "size"]
 d_first_unwatched:Dfn K mg "first_unwatched" "first_unwatched" HS ["web", "some"]
 d_first_pair:Dfn K mg "first_pair" "first_pair" Mc ["web", "some", "wanted"]
 d_first_near:Dfn K mg "first_near" "first_near" Md ["web", "some"]
 d_first_far:Dfn K mg "first_far" "first_far" Nd ["web", "some"]
 d_is_club:Dfn K mg "is_club" "is_club" Q4 ["web", "some"]
 d_ways_to_choose:Dfn K mg "ways_to_choose" "ways_to_choose" IU ["places", "size"]
 d_how_many:Dfn K mg "how_many" "how_many" O0 ["web", "guards"]
 d_standings:Dfn K mg "standings" "standings" Nc ["web", "guards"]
 d_Field_linked_by_one:Mtd K "linked_by_one" "Field.linked_by_one" FT ["self", "number"]
 d_Field_linked_by_all:Mtd K "linked_by_all" "Field.linked_by_all" FU ["self", "number"]
 d_Field_init:Mtd K "__init__" "Field.__init__" Mf ["self", "web", "guards", "kind"]
 d_Field_calls:Mtd K "calls" "Field.calls" LF ["self", "number"]
 d_Field_linked:Mtd K "linked" "Field.linked" J5 ["self", "number"]
 d_Field_behind:Mtd K "behind" "Field.behind" J6 ["self", "number", "call"]
 d_falling_now:Dfn K mg "falling_now" "falling_now" LC ["field", "left"]
 d_fallen:Dfn K mg "fallen" "fallen" UG ["field"]
 d_lasting_bits:Dfn K mg "lasting_bits" "lasting_bits" Jz ["field", "gone"]
 d_lasting:Dfn K mg "lasting" "lasting" Q3 ["web", "guards", "kind"]
 d_falls:Dfn K mg "falls" "falls" XA ["web", "guards", "kind"]
 d_refuse_large:Dfn K mg "refuse_large" "refuse_large" Jv ["web"]
 d_fewest_watch:Dfn K mg "fewest_watch" "fewest_watch" J1 ["web"]
 d_most_apart:Dfn K mg "most_apart" "most_apart" Mb ["web"]
 d_clubs_with:Dfn K mg "clubs_with" "clubs_with" Me ["web", "clubs", "place", "most"]
 d_parting_from:Dfn K mg "parting_from" "parting_from" Jw ["web", "clubs", "place", "most"]
 d_fewest_clubs:Dfn K mg "fewest_clubs" "fewest_clubs" J2 ["web"]
 d_refuse_many_places:Dfn K mg "refuse_many_places" "refuse_many_places" Ft ["web"]
 d_least_guards:Dfn K mg "least_guards" "least_guards" Jy ["web", "kind"]
 d_five:Dfn K mg "five" "five" aG ["web"]
 d__law_cell_at:Dfn K mg "_law_cell_at" "_law_cell_at" J4 ["script", "k"]
 d__law_small_web:Dfn K mg "_law_small_web" "_law_small_web" IV ["script", "most"]
 d__law_anew:Dfn K mg "_law_anew" "_law_anew" Nf ["called", "standing"]
 d__law_rounds:Dfn K mg "_law_rounds" "_law_rounds" LD ["web", "guards", "kind", "called"]
 d_law:Dfn K mg "law" "law" bw ["script"]
 c_Web:Own K mg "Web" W.Web d_Web_init.f
 n_Web_places:FX K W.Web "places"
 n_Web_ties:FX K W.Web "ties"
 n_Web_near_sets:FX K W.Web "near_sets"
 c_Field:Own K mg "Field" W.Field d_Field_init.f
 n_Field_everything:FX K W.Field "everything"
 n_Field_kind:FX K W.Field "kind"
 n_Field_takes:FX K W.Field "takes"
 n_Field_numbers:FX K W.Field "numbers"
 n_Field_having:FX K W.Field "having"
 n_Field_place_bits:FX K W.Field "place_bits"
 n_Field_known:FX K W.Field "known"
 m_Field_linked_by_one:Xr K W.Field "linked_by_one" d_Field_linked_by_one.f
 m_Field_linked_by_all:Xr K W.Field "linked_by_all" d_Field_linked_by_all.f
 m_Field_calls:Xr K W.Field "calls" d_Field_calls.f
 m_Field_linked:Xr K W.Field "linked" d_Field_linked.f
 m_Field_behind:Xr K W.Field "behind" d_Field_behind.f
 b_abs:mg "abs" = none
 b_enumerate:mg "enumerate" = none
 b_int:mg "int" = none
 b_len:mg "len" = none
 b_list:mg "list" = none
 b_max:mg "max" = none
 b_min:mg "min" = none
 b_range:mg "range" = none
 b_sorted:mg "sorted" = none
 b_sum:mg "sum" = none
 b_tuple:mg "tuple" = none
 g_MOST_PLACES:∃tk,mg "MOST_PLACES" = some (.int 60 tk)
 g_MOST_STANDINGS:∃tk,mg "MOST_STANDINGS" = some (.int 400 tk)
 g_MOST_PLACES_TRIED:∃tk,mg "MOST_PLACES_TRIED" = some (.int 12 tk)
 g_MOST_PLACES_GUARDED:∃tk,mg "MOST_PLACES_GUARDED" = some (.int 8 tk)
section
variable{P:Bw}{w:CV}{K:AI}{mg:Str->Option AK}{base:DO}{W:Wd}
theorem SF:BV ["places", "ties", "found", "one", "other", "tie"] ["places", "ties"] (A0 J3):=Ef
theorem SN(T:Txt K mg W):Cp P w K mg base (CXG P w) 1 T.d_checked_ties.f T.d_checked_ties.fd ["places", "ties"] (spM K 2 (Hv W)):=by
 refine BL (k:=0) T.d_checked_ties.F SF rfl λ_ _ _ _ _ _ o l m=>?_
 exact(AU (CW 2 m Ut)
  (AU (Ca (good_none rfl).own rfl (DL (AA (pv 1))) (Mv rfl (DX (Bx 3 m) (DX (Bx 4 m) Jh)))
  (AU (CW 5 m (G3 (AF (n9 rfl rfl T.b_min (AF (AA (pv 3)) (AF (AA (pv 4)) Ak))) (AF (oA rfl rfl T.b_max (AF (AA (pv 3)) (AF (AA (pv 4)) Ak))) Ak))))
  (AU (D4 (EO (P7 l) (FF l (AA (pv 5)) ge_int) (FF l (AA (pv 5)) ge_int) (Dy _)) (AY Hn) CH)
  (AU (D4 (tQ (ww (EO cH (FF l (AA (pv 5)) ge_int) ge_int (Dy _)) (tP (EO wH (FF l (AA (pv 5)) ge_int) (AA (pv 0)) (Dy _))))) (AY Hn) CH)
  (AU (D4 (wz l (AA (pv 5)) (AA (pv 2))) (AY Hn) CH)
  (AY (G2 (Aq (CA (by decide:1<=64) _) l) (AA (pv 2)) (AA (pv 5)) KD rfl)))))))
  (AY (Bg (KC rfl T.b_tuple (Ie rfl rfl T.b_sorted (AA (pv 2))))))))
theorem SA:BV ["places", "ties", "rows", "one", "other"] ["places", "ties"] (A0 Jx):=Ef
theorem SJ(T:Txt K mg W):Cp P w K mg base (CXG P w) 1 T.d_near_sets_of.f T.d_near_sets_of.fd ["places", "ties"] (spM K 2 (Hr W)):=by
 refine BL (k:=0) T.d_near_sets_of.F SA rfl λ_ _ _ _ _ _ o m l=>?_
 exact(AU (XY (i:=2) (own:=["place"]) (N':=["place", "·1", "·2", "·3", "·4", "·5"]) rfl rfl l rfl (by first | exact Ra rfl | exact RZ rfl) (Ew (by kernel_rfl)) (E5 rfl T.b_range (AF (AA (pv 0)) Ak)) (λ_ _ _ _ _ _=>(Bx 0 (by decide +kernel:(["place", "·1", "·2", "·3", "·4", "·5"]:List Str).Nodup))) (λ_ _ _ _ _ _=>FO) (λ_ _ _ _ _ _=>(D6 (KA Ak))))
  (AU (Ca (good_none rfl).own rfl (DL (AA (pv 1))) (Mv rfl (DX (Bx 3 l) (DX (Bx 4 l) Jh)))
  (AU (GV (Ig (FF m (AA (pv 2)) (AA (pv 3))) (AA (pv 4))))
  (AY (GV (Ig (FF m (AA (pv 2)) (AA (pv 4))) (AA (pv 3)))))))
  (AY (Bg (KC rfl T.b_tuple (D6 (GX (own:=["row"]) (N':=["row", "·1", "·2", "·3", "·4", "·5"]) rfl (Ew (by kernel_rfl)) (DL (AA (pv 2))) (λ_ _ _ _ _ _=>(Bx 0 (by decide +kernel:(["row", "·1", "·2", "·3", "·4", "·5"]:List Str).Nodup))) (λ_ _ _ _ _ _=>FO) (λ_ _ _ _ _ _=>(KC rfl T.b_tuple (Ie rfl rfl T.b_sorted (AA (pv 0))))))))))))
theorem Yb:BV ["self", "places", "ties"] ["self", "places", "ties"] (A0 O1):=Ef
theorem Rp(T:Txt K mg W):Cp P w K mg base (CXG P w) 2 T.d_Web_init.f T.d_Web_init.fd ["self", "places", "ties"] (spM K 3 (KL W)):=by
 refine BL (k:=1) T.d_Web_init.F Yb rfl λ_ _ _ _ _ _ l m o=>?_
 exact(AU (D4 (Um (Uo WG WG ge_int (AA (pv 1)) (QQ rfl T.g_MOST_PLACES.choose_spec))) (AY Hn) CH)
  (AU (LO T.c_Web.cl T.n_Web_places (AA (pv 0)) (AA (pv 1)) rfl)
  (AU (LO T.c_Web.cl T.n_Web_ties (AA (pv 0)) (gcl T.d_checked_ties (SN T) l (AF (AA (pv 1)) (AF (AA (pv 2)) Ak))) rfl)
  (AY (LO T.c_Web.cl T.n_Web_near_sets (AA (pv 0)) (gcl T.d_near_sets_of (SJ T) l (AF (AA (pv 1)) (AF (CK T.c_Web.cl T.n_Web_ties (AA (pv 0)) rfl) Ak))) rfl)))))
theorem Ox:BV ["web", "place"] ["web", "place"] (A0 HR):=Ef
theorem O5(T:Txt K mg W):Cp P w K mg base (CXG P w) 1 T.d_refuse_no_place.f T.d_refuse_no_place.fd ["web", "place"] (spM K 2 (Hq W)):=by
 refine BL (k:=0) T.d_refuse_no_place.F Ox rfl λ_ _ _ _ _ _ l m o=>?_
 exact(AY (D4 (Um (Uo WG cH ge_int (AA (pv 1)) (CK T.c_Web.cl T.n_Web_places (AA (pv 0)) rfl))) (AY Hn) CH))
theorem mG:BV ["web", "place"] ["web", "place"] (A0 aF):=Ef
theorem XM(T:Txt K mg W):Cp P w K mg base (CXG P w) 2 T.d_near.f T.d_near.fd ["web", "place"] (spM K 2 (Uw W)):=by
 refine BL (k:=1) T.d_near.F mG rfl λ_ _ _ _ _ _ l m o=>?_
 exact(AU (GV (gcl T.d_refuse_no_place (O5 T) l (AF (AA (pv 0)) (AF (AA (pv 1)) Ak))))
  (AY (Bg (FF m (CK T.c_Web.cl T.n_Web_near_sets (AA (pv 0)) rfl) (AA (pv 1))))))
theorem YZ:BV ["web"] ["web"] (A0 Oz):=Ef
theorem Yr(T:Txt K mg W):Cp P w K mg base (CXG P w) 3 T.d_takes_of.f T.d_takes_of.fd ["web"] (spM K 1 (Mw W)):=by
 refine BL (k:=2) T.d_takes_of.F YZ rfl λ_ _ _ _ _ _ l m o=>?_
 exact(AY (Bg (D6 (GX (own:=["place"]) (N':=["place", "web"]) rfl (Ew (by kernel_rfl)) (E5 rfl T.b_range (AF (CK T.c_Web.cl T.n_Web_places (AA (pv 0)) rfl) Ak)) (λ_ _ _ _ _ _=>(Bx 0 (by decide +kernel:(["place", "web"]:List Str).Nodup))) (λ_ _ _ _ _ _=>FO) (λ_ _ _ _ _ _=>(KC rfl T.b_tuple (Ie rfl rfl T.b_sorted (BO EN (G3 (AF (AA (pv 0)) Ak)) (gcl T.d_near (XM T) l (AF (AA (pv 1)) (AF (AA (pv 0)) Ak)))))))))))
theorem aE:BV ["some", "bits", "place"] ["some"] (A0 Q5):=Ef
theorem aN(T:Txt K mg W):Cp P w K mg base (CXG P w) 1 T.d_bits_of.f T.d_bits_of.fd ["some"] (spM K 1 (RN W)):=by
 refine BL (k:=0) T.d_bits_of.F aE rfl λ_ _ _ _ _ _ m o l=>?_
 exact(AU (CW 1 l ge_int)
  (AU (Ca (good_none rfl).own rfl (DL (AA (pv 0))) (Bx 2 l)
  (AY (WQ 1 l cW (BO O9 ge_int (AA (pv 2))))))
  (AY (Bg (AA (pv 1))))))
theorem aB:BV ["bits", "told", "left"] ["bits"] (A0 Q2):=Ef
theorem US(T:Txt K mg W):Cp P w K mg base (CXG P w) 1 T.d_members.f T.d_members.fd ["bits"] (spM K 1 (OJ W)):=by
 refine BL (k:=0) T.d_members.F aB rfl λ_ _ _ _ _ _ m o l=>?_
 exact(AU (CW 1 l (D6 (KA Ak)))
  (AU (CW 2 l (AA (pv 0)))
  (AU (Y8 wN (good_none rfl).own (E4 (AA (pv 2))) (AU (GV (Ig (AA (pv 1)) (BO UW (oE (BO RE (AA (pv 2)) (ao (AA (pv 2))))) ge_int)))
  (AY (WQ 2 l tK (BO UW (AA (pv 2)) ge_int)))))
  (AY (Bg (AA (pv 1)))))))
theorem du:BV ["takes", "bits", "holders", "guard", "seen", "wanted", "place"] ["takes", "bits", "holders", "guard", "seen"] (A0 UF):=Ef
theorem WE(T:Txt K mg W):∀n:Nat,Cp P w K mg base (CXG P w) (0+n) T.d_settle.f T.d_settle.fd ["takes", "bits", "holders", "guard", "seen"] (spM K 5 (Gv W n))
 | 0=>jv
 | n+1=>by
  refine BL (k:=0+n) T.d_settle.F du rfl λ_ _ _ _ _ _ s l o=>?_
  exact(AU (XY (i:=5) (own:=["place"]) (N':=["place", "·1", "bits", "·3", "·4", "seen", "·6", "·7"]) rfl rfl o rfl (by first | exact Ra rfl | exact RZ rfl) (Ew (by kernel_rfl)) (DL (FF l (AA (pv 0)) (AA (pv 3)))) (λ_ _ _ _ _ _=>(Bx 0 (by decide +kernel:(["place", "·1", "bits", "·3", "·4", "seen", "·6", "·7"]:List Str).Nodup))) (λ_ _ _ _ _ _=>(QM (tQ (jj (E4 (BO RE (BO aO (AA (pv 2)) (AA (pv 0))) ge_int)) (cY (JJ l (AA (pv 0)) (AA (pv 5)))))))) (λ_ _ _ _ _ _=>(AA (pv 0))))
  (AU (Ca (good_none rfl).own rfl (DL (AA (pv 5))) (Bx 6 o)
  (AY (D4 (JJ l (AA (pv 6)) (AA (pv 2))) (AU (G2 (Aq (CA (by decide:1<=64) _) l) (AA (pv 2)) (AA (pv 6)) (AA (pv 3)) rfl)
  (AY (Bg KD))) CH)))
  (AU (Ca (good_none rfl).own rfl (DL (AA (pv 5))) (Bx 6 o)
  (AY (D4 (JJ l (AA (pv 6)) (AA (pv 4))) (AU (G2 (Aq (CA (by decide:1<=64) _) l) (AA (pv 4)) (AA (pv 6)) KD rfl)
  (AY (D4 (E4 (OI (WE T n) (good_none rfl).pass (s.mono (AM _)) rfl T.d_settle.m T.d_settle.kp T.d_settle.b (AF (AA (pv 0)) (AF (AA (pv 1)) (AF (AA (pv 2)) (AF (FF l (AA (pv 2)) (AA (pv 6))) (AF (AA (pv 4)) Ak))))))) (AU (G2 (Aq (CA (by decide:1<=64) _) l) (AA (pv 2)) (AA (pv 6)) (AA (pv 3)) rfl)
  (AY (Bg KD))) CH))) CH)))
  (AY (Bg KD)))))
theorem mI:BV ["takes", "guards", "bits", "holders", "guard"] ["takes", "guards", "bits"] (A0 aH):=Ef
theorem nH(T:Txt K mg W):Cp P w K mg base (CXG P w) 11 T.d_fits.f T.d_fits.fd ["takes", "guards", "bits"] (spM K 3 (Xb W)):=by
 refine BL (k:=10) T.d_fits.F mI rfl λ_ _ _ _ _ _ o s l=>?_
 exact(AU (CW 3 l L5)
  (AU (Ca (good_none rfl).own rfl (DL (AA (pv 1))) (Bx 4 l)
  (AY (D4 (E4 (BO RE (BO aO (AA (pv 2)) (AA (pv 4))) ge_int)) (AY (G2 (Aq (CA (by decide:1<=64) _) s) (AA (pv 3)) (AA (pv 4)) (AA (pv 4)) rfl)) CH)))
  (AU (Ca (good_none rfl).own rfl (DL (AA (pv 1))) (Bx 4 l)
  (AY (D4 (tQ (jj (Um (E4 (BO RE (BO aO (AA (pv 2)) (AA (pv 4))) ge_int))) (cY (Um (E4 (OI (WE T 9) (good_none rfl).pass (o.mono (by decide)) rfl T.d_settle.m T.d_settle.kp T.d_settle.b (AF (AA (pv 0)) (AF (AA (pv 2)) (AF (AA (pv 3)) (AF (AA (pv 4)) (AF L5 Ak))))))))))) (AY (Bg KD)) CH)))
  (AY (Bg KD)))))
theorem W6:BV ["standing", "guard", "place"] ["standing", "guard", "place"] (A0 Nb):=Ef
theorem XI(T:Txt K mg W):Cp P w K mg base (CXG P w) 1 T.d_with_step.f T.d_with_step.fd ["standing", "guard", "place"] (spM K 3 (Nv W)):=by
 refine BL (k:=0) T.d_with_step.F W6 rfl λ_ _ _ _ _ _ m l o=>?_
 exact(AY (Bg (KC rfl T.b_tuple (D6 (GX (own:=["other"]) (N':=["other", "·1", "guard", "place"]) rfl (Ew (by kernel_rfl)) (DL (AA (pv 0))) (λ_ _ _ _ _ _=>(Bx 0 (by decide +kernel:(["other", "·1", "guard", "place"]:List Str).Nodup))) (λ_ _ _ _ _ _=>FO) (λ_ _ _ _ _ _=>(Us (EO (P7 l) (AA (pv 0)) (AA (pv 2)) (Dy _)) (AA (pv 3)) (AA (pv 0)))))))))
theorem aA:BV ["places", "size", "told", "step", "longer", "some", "least", "place"] ["places", "size"] (A0 Q0):=Ef
theorem O4(T:Txt K mg W):Cp P w K mg base (CXG P w) 1 T.d_sets_of.f T.d_sets_of.fd ["places", "size"] (spM K 2 (L6 W)):=by
 refine BL (k:=0) T.d_sets_of.F aA rfl λ_ _ _ _ _ _ o m l=>?_
 exact(AU (CW 2 l (D6 (KA (AF (G3 Ak) Ak))))
  (AU (Ca (good_none rfl).own rfl (E5 rfl T.b_range (AF (AA (pv 1)) Ak)) (Bx 3 l)
  (AU (CW 4 l (D6 (KA Ak)))
  (AU (Ca (good_none rfl).own rfl (DL (AA (pv 2))) (Bx 5 l)
  (AU (CW 6 l (Us (E4 (AA (pv 5))) (BO EN (FF m (AA (pv 5)) (ao ge_int)) ge_int) ge_int))
  (AY (Ca (good_none rfl).own rfl (Jn rfl T.b_range (AF (AA (pv 6)) (AF (BO EN (BO EN (BO UW (AA (pv 0)) (AA (pv 1))) (AA (pv 3))) ge_int) Ak))) (Bx 7 l)
  (AY (GV (Ig (AA (pv 4)) (BO EN (AA (pv 5)) (G3 (AF (AA (pv 7)) Ak))))))))))
  (AY (CW 2 l (AA (pv 4)))))))
  (AY (Bg (AA (pv 2))))))
theorem Oy:BV ["web", "some", "watched", "place", "beside"] ["web", "some"] (A0 HS):=Ef
theorem O8(T:Txt K mg W):Cp P w K mg base (CXG P w) 3 T.d_first_unwatched.f T.d_first_unwatched.fd ["web", "some"] (spM K 2 (Ht W)):=by
 refine BL (k:=2) T.d_first_unwatched.F Oy rfl λ_ _ _ _ _ _ o m l=>?_
 exact(AU (CW 2 l L5)
  (AU (Ca (good_none rfl).own rfl (DL (AA (pv 1))) (Bx 3 l)
  (AU (G2 (Aq (CA (by decide:1<=64) _) m) (AA (pv 2)) (AA (pv 3)) KD rfl)
  (AY (Ca (good_none rfl).own rfl (DL (gcl T.d_near (XM T) o (AF (AA (pv 0)) (AF (AA (pv 3)) Ak)))) (Bx 4 l)
  (AY (G2 (Aq (CA (by decide:1<=64) _) m) (AA (pv 2)) (AA (pv 4)) KD rfl))))))
  (AU (Ca (good_none rfl).own rfl (E5 rfl T.b_range (AF (CK T.c_Web.cl T.n_Web_places (AA (pv 0)) rfl) Ak)) (Bx 3 l)
  (AY (D4 (JJ m (AA (pv 3)) (AA (pv 2))) (AY (Bg (AA (pv 3)))) CH)))
  (AY (Bg Nr)))))
theorem Vl:BV ["web", "some", "wanted", "number", "one", "beside", "other"] ["web", "some", "wanted"] (A0 Mc):=Ef
theorem Og(T:Txt K mg W):Cp P w K mg base (CXG P w) 3 T.d_first_pair.f T.d_first_pair.fd ["web", "some", "wanted"] (spM K 3 (Ji W)):=by
 refine BL (k:=2) T.d_first_pair.F Vl rfl λ_ _ _ _ _ _ o m l=>?_
 exact(AU (Ca (good_none rfl).own rfl (S9 rfl T.b_enumerate (AA (pv 1))) (Mv rfl (DX (Bx 3 l) (DX (Bx 4 l) Jh)))
  (AU (CW 5 l (gcl T.d_near (XM T) o (AF (AA (pv 0)) (AF (AA (pv 4)) Ak))))
  (AY (Ca (good_none rfl).own rfl (DL (fH (AA (pv 1)) (QK (BO EN (AA (pv 3)) ge_int)) XZ)) (Bx 6 l)
  (AY (D4 (EO (P7 m) (xA m (AA (pv 6)) (AA (pv 5))) (AA (pv 2)) (Dy _)) (AY (Bg (G3 (AF (AA (pv 4)) (AF (AA (pv 6)) Ak))))) CH))))))
  (AY (Bg Nr)))
theorem Vm:BV ["web", "some"] ["web", "some"] (A0 Md):=Ef
theorem Vq(T:Txt K mg W):Cp P w K mg base (CXG P w) 4 T.d_first_near.f T.d_first_near.fd ["web", "some"] (spM K 2 (Mx W)):=by
 refine BL (k:=3) T.d_first_near.F Vm rfl λ_ _ _ _ _ _ l m o=>?_
 exact(AY (Bg (gcl T.d_first_pair (Og T) l (AF (AA (pv 0)) (AF (AA (pv 1)) (AF KD Ak))))))
theorem W8:BV ["web", "some"] ["web", "some"] (A0 Nd):=Ef
theorem XN(T:Txt K mg W):Cp P w K mg base (CXG P w) 4 T.d_first_far.f T.d_first_far.fd ["web", "some"] (spM K 2 (Nx W)):=by
 refine BL (k:=3) T.d_first_far.F W8 rfl λ_ _ _ _ _ _ l m o=>?_
 exact(AY (Bg (gcl T.d_first_pair (Og T) l (AF (AA (pv 0)) (AF (AA (pv 1)) (AF KD Ak))))))
theorem aD:BV ["web", "some"] ["web", "some"] (A0 Q4):=Ef
theorem aM(T:Txt K mg W):Cp P w K mg base (CXG P w) 5 T.d_is_club.f T.d_is_club.fd ["web", "some"] (spM K 2 (Jo W)):=by
 refine BL (k:=4) T.d_is_club.F aD rfl λ_ _ _ _ _ _ l m o=>?_
 exact(AY (Bg (L2.tt (RL cI (LP rfl T.b_len (AA (pv 1))) ge_int (Dy _)) (tj (RL aP (gcl T.d_first_far (XN T) l (AF (AA (pv 0)) (AF (AA (pv 1)) Ak))) Nr (Dy _))))))
theorem Py:BV ["places", "size", "ways", "step"] ["places", "size"] (A0 IU):=Ef
theorem P4(T:Txt K mg W):Cp P w K mg base (CXG P w) 1 T.d_ways_to_choose.f T.d_ways_to_choose.fd ["places", "size"] (spM K 2 (Ih W)):=by
 refine BL (k:=0) T.d_ways_to_choose.F Py rfl λ_ _ _ _ _ _ m o l=>?_
 exact(AU (CW 2 l ge_int)
  (AU (Ca (good_none rfl).own rfl (E5 rfl T.b_range (AF (AA (pv 1)) Ak)) (Bx 3 l)
  (AY (CW 2 l (BO Mr (BO UX (AA (pv 2)) (BO UW (AA (pv 0)) (AA (pv 3)))) (BO EN (AA (pv 3)) ge_int)))))
  (AY (Bg (AA (pv 2))))))
theorem Ya:BV ["web", "guards"] ["web", "guards"] (A0 O0):=Ef
theorem Ys(T:Txt K mg W):Cp P w K mg base (CXG P w) 2 T.d_how_many.f T.d_how_many.fd ["web", "guards"] (spM K 2 (PJ W)):=by
 refine BL (k:=1) T.d_how_many.F Ya rfl λ_ _ _ _ _ _ l m o=>?_
 exact(AU (D4 (Um (Uo WG WG ge_int (AA (pv 1)) (CK T.c_Web.cl T.n_Web_places (AA (pv 0)) rfl))) (AY Hn) CH)
  (AY (Bg (gcl T.d_ways_to_choose (P4 T) l (AF (CK T.c_Web.cl T.n_Web_places (AA (pv 0)) rfl) (AF (AA (pv 1)) Ak))))))
theorem W7:BV ["web", "guards"] ["web", "guards"] (A0 Nc):=Ef
theorem XJ(T:Txt K mg W):Cp P w K mg base (CXG P w) 3 T.d_standings.f T.d_standings.fd ["web", "guards"] (spM K 2 (Kq W)):=by
 refine BL (k:=2) T.d_standings.F W7 rfl λ_ _ _ _ _ _ l m o=>?_
 exact(AU (D4 (EO cI (gcl T.d_how_many (Ys T) l (AF (AA (pv 0)) (AF (AA (pv 1)) Ak))) (QQ rfl T.g_MOST_STANDINGS.choose_spec) (Dy _)) (AY Hn) CH)
  (AY (Bg (gcl T.d_sets_of (O4 T) l (AF (CK T.c_Web.cl T.n_Web_places (AA (pv 0)) rfl) (AF (AA (pv 1)) Ak))))))
theorem MZ:BV ["self", "number", "standing", "told", "guard", "place"] ["self", "number"] (A0 FT):=Ef
theorem Mp(T:Txt K mg W):Cp P w K mg base (CXG P w) 2 T.d_Field_linked_by_one.f T.d_Field_linked_by_one.fd ["self", "number"] (spM K 2 (Di W)):=by
 refine BL (k:=1) T.d_Field_linked_by_one.F MZ rfl λ_ _ _ _ _ _ o m l=>?_
 exact(AU (CW 2 l (FF m (CK T.c_Field.cl T.n_Field_everything (AA (pv 0)) rfl) (AA (pv 1))))
  (AU (CW 3 l ge_int)
  (AU (Ca (good_none rfl).own rfl (DL (AA (pv 2))) (Bx 4 l)
  (AY (Ca (good_none rfl).own rfl (DL (FF m (CK T.c_Field.cl T.n_Field_takes (AA (pv 0)) rfl) (AA (pv 4)))) (Bx 5 l)
  (AY (D4 (JJ m (AA (pv 5)) (AA (pv 2))) (AY (WQ 3 l cW (BO O9 ge_int (FF m (CK T.c_Field.cl T.n_Field_numbers (AA (pv 0)) rfl) (KC rfl T.b_tuple (Ie rfl rfl T.b_sorted (gcl T.d_with_step (XI T) o (AF (AA (pv 2)) (AF (AA (pv 4)) (AF (AA (pv 5)) Ak)))))))))) CH)))))
  (AY (Bg (AA (pv 3)))))))
theorem Ma:BV ["self", "number", "standing", "told", "other", "bits"] ["self", "number"] (A0 FU):=Ef
theorem Mq(T:Txt K mg W):Cp P w K mg base (CXG P w) 12 T.d_Field_linked_by_all.f T.d_Field_linked_by_all.fd ["self", "number"] (spM K 2 (Dj W)):=by
 refine BL (k:=11) T.d_Field_linked_by_all.F Ma rfl λ_ _ _ _ _ _ m o l=>?_
 exact(AU (CW 2 l (FF o (CK T.c_Field.cl T.n_Field_everything (AA (pv 0)) rfl) (AA (pv 1))))
  (AU (CW 3 l ge_int)
  (AU (Ca (good_none rfl).own rfl (S9 rfl T.b_enumerate (CK T.c_Field.cl T.n_Field_place_bits (AA (pv 0)) rfl)) (Mv rfl (DX (Bx 4 l) (DX (Bx 5 l) Jh)))
  (AY (D4 (E4 (gcl T.d_fits (nH T) m (AF (CK T.c_Field.cl T.n_Field_takes (AA (pv 0)) rfl) (AF (AA (pv 2)) (AF (AA (pv 5)) Ak))))) (AY (WQ 3 l cW (BO O9 ge_int (AA (pv 4))))) CH)))
  (AY (Bg (AA (pv 3)))))))
theorem Vo:BV ["self", "web", "guards", "kind", "number", "standing", "place"] ["self", "web", "guards", "kind"] (A0 Mf):=Ef
theorem UV(T:Txt K mg W):Cp P w K mg base (CXG P w) 13 T.d_Field_init.f T.d_Field_init.fd ["self", "web", "guards", "kind"] (spM K 4 (LR W)):=by
 refine BL (k:=12) T.d_Field_init.F Vo rfl λ_ _ _ _ _ _ l o m=>?_
 exact(AU (LO T.c_Field.cl T.n_Field_everything (AA (pv 0)) (gcl T.d_standings (XJ T) l (AF (AA (pv 1)) (AF (AA (pv 2)) Ak))) rfl)
  (AU (LO T.c_Field.cl T.n_Field_kind (AA (pv 0)) (AA (pv 3)) rfl)
  (AU (LO T.c_Field.cl T.n_Field_takes (AA (pv 0)) (gcl T.d_takes_of (Yr T) l (AF (AA (pv 1)) Ak)) rfl)
  (AU (LO T.c_Field.cl T.n_Field_numbers (AA (pv 0)) Ut rfl)
  (AU (LO T.c_Field.cl T.n_Field_having (AA (pv 0)) (D6 (GX (own:=["place"]) (N':=["place", "·1", "·2", "·3", "·4", "·5", "·6", "·7"]) rfl (Ew (by kernel_rfl)) (E5 rfl T.b_range (AF (CK T.c_Web.cl T.n_Web_places (AA (pv 1)) rfl) Ak)) (λ_ _ _ _ _ _=>(Bx 0 (by decide +kernel:(["place", "·1", "·2", "·3", "·4", "·5", "·6", "·7"]:List Str).Nodup))) (λ_ _ _ _ _ _=>FO) (λ_ _ _ _ _ _=>ge_int))) rfl)
  (AU (Ca (good_none rfl).own rfl (S9 rfl T.b_enumerate (CK T.c_Field.cl T.n_Field_everything (AA (pv 0)) rfl)) (Mv rfl (DX (Bx 4 m) (DX (Bx 5 m) Jh)))
  (AU (G2 (Aq (CA (by decide:1<=64) _) o) (CK T.c_Field.cl T.n_Field_numbers (AA (pv 0)) rfl) (AA (pv 5)) (AA (pv 4)) rfl)
  (AY (Ca (good_none rfl).own rfl (DL (AA (pv 5))) (Bx 6 m)
  (AY (nq (CK T.c_Field.cl T.n_Field_having (AA (pv 0)) rfl) (AA (pv 6)) (BO O9 ge_int (AA (pv 4))) cW))))))
  (AU (LO T.c_Field.cl T.n_Field_place_bits (AA (pv 0)) (D6 (GX (own:=["standing"]) (N':=["standing", "·1", "·2", "·3", "·4", "·5", "·6", "·7"]) rfl (Ew (by kernel_rfl)) (DL (CK T.c_Field.cl T.n_Field_everything (AA (pv 0)) rfl)) (λ_ _ _ _ _ _=>(Bx 0 (by decide +kernel:(["standing", "·1", "·2", "·3", "·4", "·5", "·6", "·7"]:List Str).Nodup))) (λ_ _ _ _ _ _=>FO) (λ_ _ _ _ _ _=>(gcl T.d_bits_of (aN T) l (AF (AA (pv 0)) Ak))))) rfl)
  (AY (LO T.c_Field.cl T.n_Field_known (AA (pv 0)) L5 rfl)))))))))
theorem Oh(T:Txt K mg W):Cp P w K mg base (CXG P w) 13 T.d_Field_init.f T.d_Field_init.fd ["self", "web", "guards", "kind"] (spM K 4 (GY W)):=oI (UV T)
theorem UE:BV ["self", "number", "standing"] ["self", "number"] (A0 LF):=Ef
theorem UT(T:Txt K mg W):Cp P w K mg base (CXG P w) 1 T.d_Field_calls.f T.d_Field_calls.fd ["self", "number"] (spM K 2 (LQ W)):=by
 refine BL (k:=0) T.d_Field_calls.F UE rfl λ_ _ _ _ _ _ o l m=>?_
 exact(AU (CW 2 m (FF l (CK T.c_Field.cl T.n_Field_everything (AA (pv 0)) rfl) (AA (pv 1))))
  (AY (Bg (D6 (GX (own:=["place"]) (N':=["place", "·1", "·2", "standing"]) rfl (Ew (by kernel_rfl)) (E5 rfl T.b_range (AF (LP rfl T.b_len (CK T.c_Field.cl T.n_Field_takes (AA (pv 0)) rfl)) Ak)) (λ_ _ _ _ _ _=>(Bx 0 (by decide +kernel:(["place", "·1", "·2", "standing"]:List Str).Nodup))) (λ_ _ _ _ _ _=>(QM (JJ l (AA (pv 0)) (AA (pv 3))))) (λ_ _ _ _ _ _=>(AA (pv 0))))))))
theorem SH:BV ["self", "number"] ["self", "number"] (A0 J5):=Ef
theorem RC(T:Txt K mg W):Cp P w K mg base (CXG P w) 13 T.d_Field_linked.f T.d_Field_linked.fd ["self", "number"] (spM K 2 (JT W)):=by
 refine BL (k:=12) T.d_Field_linked.F SH rfl λ_ _ _ _ _ _ m l o=>?_
 exact(AU (D4 (JJ l (AA (pv 1)) (CK T.c_Field.cl T.n_Field_known (AA (pv 0)) rfl)) (AY (G2 (Aq (CA (by decide:1<=64) _) l) (CK T.c_Field.cl T.n_Field_known (AA (pv 0)) rfl) (AA (pv 1)) (Us (EO (P7 l) (CK T.c_Field.cl T.n_Field_kind (AA (pv 0)) rfl) Uq (Dy _)) (QP (AA (pv 0)) T.c_Field.cl T.m_Field_linked_by_one (Mp T) (good_none rfl).pass (m.mono (by decide)) T.d_Field_linked_by_one.b (AF (AA (pv 1)) Ak)) (QP (AA (pv 0)) T.c_Field.cl T.m_Field_linked_by_all (Mq T) (good_none rfl).pass (m.mono (by decide)) T.d_Field_linked_by_all.b (AF (AA (pv 1)) Ak))) rfl)) CH)
  (AY (Bg (FF l (CK T.c_Field.cl T.n_Field_known (AA (pv 0)) rfl) (AA (pv 1))))))
theorem SO(T:Txt K mg W):Cp P w K mg base (CXG P w) 13 T.d_Field_linked.f T.d_Field_linked.fd ["self", "number"] (spM K 2 (Hw W)):=t4 (RC T)
theorem SI:BV ["self", "number", "call"] ["self", "number", "call"] (A0 J6):=Ef
theorem SQ(T:Txt K mg W):Cp P w K mg base (CXG P w) 14 T.d_Field_behind.f T.d_Field_behind.fd ["self", "number", "call"] (spM K 3 (KM W)):=by
 refine BL (k:=13) T.d_Field_behind.F SI rfl λ_ _ _ _ _ _ l m o=>?_
 exact(AY (Bg (BO RE (QP (AA (pv 0)) T.c_Field.cl T.m_Field_linked (SO T) (good_none rfl).pass (l.mono (by decide)) T.d_Field_linked.b (AF (AA (pv 1)) Ak)) (FF m (CK T.c_Field.cl T.n_Field_having (AA (pv 0)) rfl) (AA (pv 2))))))
theorem UC:BV ["field", "left", "told", "number", "lost"] ["field", "left"] (A0 LC):=Ef
theorem Nk(T:Txt K mg W):Cp P w K mg base (CXG P w) 15 T.d_falling_now.f T.d_falling_now.fd ["field", "left"] (spM K 2 (Iz W)):=by
 refine BL (k:=14) T.d_falling_now.F UC rfl λ_ _ _ _ _ _ l m o=>?_
 exact(AU (CW 2 o L5)
  (AU (Ca (good_none rfl).own rfl (DL (gcl T.d_members (US T) l (AF (AA (pv 1)) Ak))) (Bx 3 o)
  (AU (XY (i:=4) (own:=["call"]) (N':=["call", "field", "left", "·3", "number", "·5"]) rfl rfl o rfl (by first | exact Ra rfl | exact RZ rfl) (Ew (by kernel_rfl)) (DL (QP (AA (pv 0)) T.c_Field.cl T.m_Field_calls (UT T) (good_none rfl).pass (l.mono (by decide)) T.d_Field_calls.b (AF (AA (pv 3)) Ak))) (λ_ _ _ _ _ _=>(Bx 0 (by decide +kernel:(["call", "field", "left", "·3", "number", "·5"]:List Str).Nodup))) (λ_ _ _ _ _ _=>(QM (EO (P7 m) (BO RE (QP (AA (pv 1)) T.c_Field.cl T.m_Field_behind (SQ T) (good_none rfl).pass (l.mono (by decide)) T.d_Field_behind.b (AF (AA (pv 4)) (AF (AA (pv 0)) Ak))) (AA (pv 2))) ge_int (Dy _)))) (λ_ _ _ _ _ _=>(AA (pv 0))))
  (AY (D4 (E4 (AA (pv 4))) (AY (G2 (Aq (CA (by decide:1<=64) _) m) (AA (pv 2)) (AA (pv 3)) (FF m (AA (pv 4)) ge_int) rfl)) CH))))
  (AY (Bg (AA (pv 2))))))
theorem dv:BV ["field", "told", "left", "stage", "falling", "number"] ["field"] (A0 UG):=Ef
theorem WF(T:Txt K mg W):Cp P w K mg base (CXG P w) 16 T.d_fallen.f T.d_fallen.fd ["field"] (spM K 1 (QS W)):=by
 refine BL (k:=15) T.d_fallen.F dv rfl λ_ _ _ _ _ _ m o l=>?_
 exact(AU (CW 1 l L5)
  (AU (CW 2 l (BO UW (BO O9 ge_int (LP rfl T.b_len (CK T.c_Field.cl T.n_Field_everything (AA (pv 0)) rfl))) ge_int))
  (AU (CW 3 l ge_int)
  (AU (CW 4 l (gcl T.d_falling_now (Nk T) m (AF (AA (pv 0)) (AF (AA (pv 2)) Ak))))
  (AU (Y8 wN (good_none rfl).own (E4 (AA (pv 4))) (AU (w6 (i:=4) (Ca (good_none rfl).own rfl (nw (AA (pv 4))) (Bx 5 l)
  (AU (G2 (Aq (CA (by decide:1<=64) _) o) (AA (pv 1)) (AA (pv 5)) (G3 (AF (AA (pv 3)) (AF (FF o (AA (pv 4)) (AA (pv 5))) Ak))) rfl)
  (AY (WQ 2 l tJ (BO O9 ge_int (AA (pv 5))))))))
  (AU (WQ 3 l tL ge_int)
  (AY (CW 4 l (gcl T.d_falling_now (Nk T) m (AF (AA (pv 0)) (AF (AA (pv 2)) Ak))))))))
  (AY (Bg (AA (pv 1)))))))))
theorem SC:BV ["field", "gone"] ["field", "gone"] (A0 Jz):=Ef
theorem SK(T:Txt K mg W):Cp P w K mg base (CXG P w) 1 T.d_lasting_bits.f T.d_lasting_bits.fd ["field", "gone"] (spM K 2 (KH W)):=by
 refine BL (k:=0) T.d_lasting_bits.F SC rfl λ_ _ _ _ _ _ m l o=>?_
 exact(AY (Bg (tf rfl rfl T.b_sum (D6 (GX (own:=["number"]) (N':=["number", "·1", "gone"]) rfl (Ew (by kernel_rfl)) (E5 rfl T.b_range (AF (LP rfl T.b_len (CK T.c_Field.cl T.n_Field_everything (AA (pv 0)) rfl)) Ak)) (λ_ _ _ _ _ _=>(Bx 0 (by decide +kernel:(["number", "·1", "gone"]:List Str).Nodup))) (λ_ _ _ _ _ _=>(QM (JJ l (AA (pv 0)) (AA (pv 2))))) (λ_ _ _ _ _ _=>(BO O9 ge_int (AA (pv 0)))))))))
theorem aC:BV ["web", "guards", "kind", "field"] ["web", "guards", "kind"] (A0 Q3):=Ef
theorem O7(T:Txt K mg W):Cp P w K mg base (CXG P w) 17 T.d_lasting.f T.d_lasting.fd ["web", "guards", "kind"] (spM K 3 (L7 W)):=by
 refine BL (k:=16) T.d_lasting.F aC rfl λ_ _ _ _ _ _ l o s=>?_
 exact(AU (CW 3 s (TB T.c_Field.mk' (Oh T) (good_none rfl).pass (l.mono (by decide)) rfl T.c_Field.m T.d_Field_init.b (AF (AA (pv 0)) (AF (AA (pv 1)) (AF (AA (pv 2)) Ak)))))
  (AY (Bg (D6 (GX (own:=["number"]) (N':=["number", "·1", "·2", "·3", "field"]) rfl (Ew (by kernel_rfl)) (DL (gcl T.d_members (US T) l (AF (gcl T.d_lasting_bits (SK T) l (AF (AA (pv 3)) (AF (gcl T.d_fallen (WF T) l (AF (AA (pv 3)) Ak)) Ak))) Ak))) (λ_ _ _ _ _ _=>(Bx 0 (by decide +kernel:(["number", "·1", "·2", "·3", "field"]:List Str).Nodup))) (λ_ _ _ _ _ _=>FO) (λ_ _ _ _ _ _=>(FF o (CK T.c_Field.cl T.n_Field_everything (AA (pv 4)) rfl) (AA (pv 0)))))))))
theorem iO:BV ["web", "guards", "kind", "field", "gone"] ["web", "guards", "kind"] (A0 XA):=Ef
theorem i9(T:Txt K mg W):Cp P w K mg base (CXG P w) 17 T.d_falls.f T.d_falls.fd ["web", "guards", "kind"] (spM K 3 (Xc W)):=by
 refine BL (k:=16) T.d_falls.F iO rfl λ_ _ _ _ _ _ l o s=>?_
 exact(AU (CW 3 s (TB T.c_Field.mk' (Oh T) (good_none rfl).pass (l.mono (by decide)) rfl T.c_Field.m T.d_Field_init.b (AF (AA (pv 0)) (AF (AA (pv 1)) (AF (AA (pv 2)) Ak)))))
  (AU (CW 4 s (gcl T.d_fallen (WF T) l (AF (AA (pv 3)) Ak)))
  (AY (Bg (D6 (GX (own:=["number"]) (N':=["number", "·1", "·2", "·3", "field", "gone"]) rfl (Ew (by kernel_rfl)) (DL (Ie rfl rfl T.b_sorted (AA (pv 4)))) (λ_ _ _ _ _ _=>(Bx 0 (by decide +kernel:(["number", "·1", "·2", "·3", "field", "gone"]:List Str).Nodup))) (λ_ _ _ _ _ _=>FO) (λ_ _ _ _ _ _=>(BO EN (G3 (AF (FF o (CK T.c_Field.cl T.n_Field_everything (AA (pv 4)) rfl) (AA (pv 0))) Ak)) (FF o (AA (pv 5)) (AA (pv 0)))))))))))
theorem R8:BV ["web"] ["web"] (A0 Jv):=Ef
theorem JR(T:Txt K mg W):Cp P w K mg base (CXG P w) 1 T.d_refuse_large.f T.d_refuse_large.fd ["web"] (spM K 1 (E6 W)):=by
 refine BL (k:=0) T.d_refuse_large.F R8 rfl λ_ _ _ _ _ _ l m o=>?_
 exact(AY (D4 (EO cI (CK T.c_Web.cl T.n_Web_places (AA (pv 0)) rfl) (QQ rfl T.g_MOST_PLACES_TRIED.choose_spec) (Dy _)) (AY Hn) CH))
theorem SD:BV ["web", "size", "some"] ["web"] (A0 J1):=Ef
theorem SL(T:Txt K mg W):Cp P w K mg base (CXG P w) 4 T.d_fewest_watch.f T.d_fewest_watch.fd ["web"] (spM K 1 (KI W)):=by
 refine BL (k:=3) T.d_fewest_watch.F SD rfl λ_ _ _ _ _ _ l o m=>?_
 exact(AU (GV (gcl T.d_refuse_large (JR T) l (AF (AA (pv 0)) Ak)))
  (AU (Ca (good_none rfl).own rfl (Jn rfl T.b_range (AF ge_int (AF (CK T.c_Web.cl T.n_Web_places (AA (pv 0)) rfl) Ak))) (Bx 1 m)
  (AY (Ca (good_none rfl).own rfl (DL (gcl T.d_sets_of (O4 T) l (AF (CK T.c_Web.cl T.n_Web_places (AA (pv 0)) rfl) (AF (AA (pv 1)) Ak)))) (Bx 2 m)
  (AY (D4 (EO aP (gcl T.d_first_unwatched (O8 T) l (AF (AA (pv 0)) (AF (AA (pv 2)) Ak))) Nr (Dy _)) (AY (Bg (AA (pv 2)))) CH)))))
  (AY (Bg (jn rfl rfl T.b_tuple rfl T.b_range (AF (CK T.c_Web.cl T.n_Web_places (AA (pv 0)) rfl) Ak))))))
theorem Vk:BV ["web", "size", "some"] ["web"] (A0 Mb):=Ef
theorem Of(T:Txt K mg W):Cp P w K mg base (CXG P w) 5 T.d_most_apart.f T.d_most_apart.fd ["web"] (spM K 1 (FI W)):=by
 refine BL (k:=4) T.d_most_apart.F Vk rfl λ_ _ _ _ _ _ l o m=>?_
 exact(AU (GV (gcl T.d_refuse_large (JR T) l (AF (AA (pv 0)) Ak)))
  (AU (Ca (good_none rfl).own rfl (fG rfl T.b_range (AF (CK T.c_Web.cl T.n_Web_places (AA (pv 0)) rfl) (AF ge_int (AF (ao ge_int) Ak)))) (Bx 1 m)
  (AY (Ca (good_none rfl).own rfl (DL (gcl T.d_sets_of (O4 T) l (AF (CK T.c_Web.cl T.n_Web_places (AA (pv 0)) rfl) (AF (AA (pv 1)) Ak)))) (Bx 2 m)
  (AY (D4 (EO aP (gcl T.d_first_near (Vq T) l (AF (AA (pv 0)) (AF (AA (pv 2)) Ak))) Nr (Dy _)) (AY (Bg (AA (pv 2)))) CH)))))
  (AY (Bg (G3 (AF ge_int Ak))))))
theorem Vn:BV ["web", "clubs", "place", "most", "told", "number", "club", "joined"] ["web", "clubs", "place", "most"] (A0 Me):=Ef
theorem Vr(T:Txt K mg W):Cp P w K mg base (CXG P w) 6 T.d_clubs_with.f T.d_clubs_with.fd ["web", "clubs", "place", "most"] (spM K 4 (Hu W)):=by
 refine BL (k:=5) T.d_clubs_with.F Vn rfl λ_ _ _ _ _ _ m o l=>?_
 exact(AU (CW 4 l (D6 (KA Ak)))
  (AU (Ca (good_none rfl).own rfl (S9 rfl T.b_enumerate (AA (pv 1))) (Mv rfl (DX (Bx 5 l) (DX (Bx 6 l) Jh)))
  (AU (CW 7 l (BO EN (AA (pv 6)) (G3 (AF (AA (pv 2)) Ak))))
  (AY (D4 (E4 (gcl T.d_is_club (aM T) m (AF (AA (pv 0)) (AF (AA (pv 7)) Ak)))) (AY (GV (Ig (AA (pv 4)) (BO EN (BO EN (Ur (AA (pv 1)) XZ (QK (AA (pv 5)))) (D6 (KA (AF (AA (pv 7)) Ak)))) (Ur (AA (pv 1)) (QK (BO EN (AA (pv 5)) ge_int)) XZ))))) CH))))
  (AU (D4 (EO cH (LP rfl T.b_len (AA (pv 1))) (AA (pv 3)) (Dy _)) (AY (GV (Ig (AA (pv 4)) (BO EN (AA (pv 1)) (D6 (KA (AF (G3 (AF (AA (pv 2)) Ak)) Ak))))))) CH)
  (AY (Bg (AA (pv 4)))))))
theorem R9:BV ["web", "clubs", "place", "most", "tried", "parting"] ["web", "clubs", "place", "most"] (A0 Jw):=Ef
theorem ND(T:Txt K mg W):∀n:Nat,Cp P w K mg base (CXG P w) (6+n) T.d_parting_from.f T.d_parting_from.fd ["web", "clubs", "place", "most"] (spM K 4 (Bz W n))
 | 0=>jv
 | n+1=>by
  refine BL (k:=6+n) T.d_parting_from.F R9 rfl λ_ _ _ _ _ _ l s o=>?_
  exact(AU (D4 (EO (P7 s) (AA (pv 2)) (CK T.c_Web.cl T.n_Web_places (AA (pv 0)) rfl) (Dy _)) (AY (Bg (AA (pv 1)))) CH)
  (AU (Ca (good_none rfl).own rfl (DL (OI (Vr T) (good_none rfl).pass (l.mono (Aj (show 6<=6 by decide) (Nat.le_add_right _ _))) rfl T.d_clubs_with.m T.d_clubs_with.kp T.d_clubs_with.b (AF (AA (pv 0)) (AF (AA (pv 1)) (AF (AA (pv 2)) (AF (AA (pv 3)) Ak)))))) (Bx 4 o)
  (AU (CW 5 o (OI (ND T n) (good_none rfl).pass (l.mono (AM _)) rfl T.d_parting_from.m T.d_parting_from.kp T.d_parting_from.b (AF (AA (pv 0)) (AF (AA (pv 4)) (AF (BO EN (AA (pv 2)) ge_int) (AF (AA (pv 3)) Ak))))))
  (AY (D4 (EO cG (AA (pv 5)) Nr (Dy _)) (AY (Bg (AA (pv 5)))) CH))))
  (AY (Bg Nr))))
theorem SE:BV ["web", "most", "parting"] ["web"] (A0 J2):=Ef
theorem SM(T:Txt K mg W):Cp P w K mg base (CXG P w) 17 T.d_fewest_clubs.f T.d_fewest_clubs.fd ["web"] (spM K 1 (KJ W)):=by
 refine BL (k:=16) T.d_fewest_clubs.F SE rfl λ_ _ _ _ _ _ l s o=>?_
 exact(AU (GV (gcl T.d_refuse_large (JR T) l (AF (AA (pv 0)) Ak)))
  (AU (Ca (good_none rfl).own rfl (Jn rfl T.b_range (AF (LP rfl T.b_len (gcl T.d_most_apart (Of T) l (AF (AA (pv 0)) Ak))) (AF (CK T.c_Web.cl T.n_Web_places (AA (pv 0)) rfl) Ak))) (Bx 1 o)
  (AU (CW 2 o (OI (ND T 9) (good_none rfl).pass (l.mono (by decide)) rfl T.d_parting_from.m T.d_parting_from.kp T.d_parting_from.b (AF (AA (pv 0)) (AF (D6 (KA Ak)) (AF ge_int (AF (AA (pv 1)) Ak))))))
  (AY (D4 (EO cG (AA (pv 2)) Nr (Dy _)) (AY (Bg (AA (pv 2)))) CH))))
  (AY (Bg (D6 (GX (own:=["place"]) (N':=["place", "·1", "·2", "·3"]) rfl (Ew (by kernel_rfl)) (E5 rfl T.b_range (AF (CK T.c_Web.cl T.n_Web_places (AA (pv 0)) rfl) Ak)) (λ_ _ _ _ _ _=>(Bx 0 (by decide +kernel:(["place", "·1", "·2", "·3"]:List Str).Nodup))) (λ_ _ _ _ _ _=>FO) (λ_ _ _ _ _ _=>(G3 (AF (AA (pv 0)) Ak)))))))))
theorem NJ:BV ["web"] ["web"] (A0 Ft):=Ef
theorem NM(T:Txt K mg W):Cp P w K mg base (CXG P w) 1 T.d_refuse_many_places.f T.d_refuse_many_places.fd ["web"] (spM K 1 (GC W)):=by
 refine BL (k:=0) T.d_refuse_many_places.F NJ rfl λ_ _ _ _ _ _ l m o=>?_
 exact(AY (D4 (EO cI (CK T.c_Web.cl T.n_Web_places (AA (pv 0)) rfl) (QQ rfl T.g_MOST_PLACES_GUARDED.choose_spec) (Dy _)) (AY Hn) CH))
theorem SB:BV ["web", "kind", "guards"] ["web", "kind"] (A0 Jy):=Ef
theorem NE(T:Txt K mg W):Cp P w K mg base (CXG P w) 18 T.d_least_guards.f T.d_least_guards.fd ["web", "kind"] (spM K 2 (Hs W)):=by
 refine BL (k:=17) T.d_least_guards.F SB rfl λ_ _ _ _ _ _ l o m=>?_
 exact(AU (Ca (good_none rfl).own rfl (Jn rfl T.b_range (AF ge_int (AF (CK T.c_Web.cl T.n_Web_places (AA (pv 0)) rfl) Ak))) (Bx 2 m)
  (AY (D4 (E4 (gcl T.d_lasting (O7 T) l (AF (AA (pv 0)) (AF (AA (pv 2)) (AF (AA (pv 1)) Ak))))) (AY (Bg (AA (pv 2)))) CH)))
  (AY (Bg (CK T.c_Web.cl T.n_Web_places (AA (pv 0)) rfl))))
theorem mH:BV ["web", "of_all", "of_one"] ["web"] (A0 aG):=Ef
theorem cF(T:Txt K mg W):Cp P w K mg base (CXG P w) 19 T.d_five.f T.d_five.fd ["web"] (spM K 1 (Xa W)):=by
 refine BL (k:=18) T.d_five.F mH rfl λ_ _ _ _ _ _ l o m=>?_
 exact(AU (GV (gcl T.d_refuse_many_places (NM T) l (AF (AA (pv 0)) Ak)))
  (AU (CW 1 m (gcl T.d_least_guards (NE T) l (AF (AA (pv 0)) (AF Uq Ak))))
  (AU (CW 2 m (gcl T.d_least_guards (NE T) l (AF (AA (pv 0)) (AF Uq Ak))))
  (AY (Bg (G3 (AF (LP rfl T.b_len (gcl T.d_fewest_watch (SL T) l (AF (AA (pv 0)) Ak))) (AF (AA (pv 1)) (AF (LP rfl T.b_len (gcl T.d_most_apart (Of T) l (AF (AA (pv 0)) Ak))) (AF (AA (pv 2)) (AF (LP rfl T.b_len (gcl T.d_fewest_clubs (SM T) l (AF (AA (pv 0)) Ak))) Ak)))))))))))
theorem SG:BV ["script", "k"] ["script", "k"] (A0 J4):=Ef
theorem G1(T:Txt K mg W):Cp P w K mg base (CXG P w) 1 T.d__law_cell_at.f T.d__law_cell_at.fd ["script", "k"] (spM K 2 (E7 W)):=by
 refine BL (k:=0) T.d__law_cell_at.F SG rfl λ_ _ _ _ _ _ m l o=>?_
 exact(AU (D4 (EO cH (AA (pv 1)) (LP rfl T.b_len (AA (pv 0))) (Dy _)) (AY (Bg (FF l (AA (pv 0)) (AA (pv 1))))) CH)
  (AY (Bg ge_int)))
theorem Pz:BV ["script", "most", "head", "places", "pairs", "bits", "digits", "cell", "dense", "other", "one", "there"] ["script", "most"] (A0 IV):=Ef
theorem P5(T:Txt K mg W):Cp P w K mg base (CXG P w) 2 T.d__law_small_web.f T.d__law_small_web.fd ["script", "most"] (spM K 2 (Ii W)):=by
 refine BL (k:=1) T.d__law_small_web.F Pz rfl λ_ _ _ _ _ _ m o l=>?_
 exact(AU (CW 2 l (gcl T.d__law_cell_at (G1 T) m (AF (AA (pv 0)) (AF ge_int Ak))))
  (AU (CW 3 l (BO EN ge_int (BO LJ (AA (pv 2)) (AA (pv 1)))))
  (AU (CW 4 l (D6 (KA Ak)))
  (AU (CW 5 l (gcl T.d__law_cell_at (G1 T) m (AF (AA (pv 0)) (AF ge_int Ak))))
  (AU (CW 6 l (tu rfl T.b_abs (AA (pv 5))))
  (AU (Ca (good_none rfl).own rfl (DL (Ur (AA (pv 0)) (QK ge_int) (QK ge_int))) (Bx 7 l)
  (AY (CW 5 l (BO EN (BO UX (AA (pv 5)) ge_int) (BO Mr (AA (pv 7)) ge_int)))))
  (AU (CW 5 l (BO LJ (BO UX (BO LJ (AA (pv 5)) ge_int) ge_int) ge_int))
  (AU (CW 8 l (BO LJ (BO Mr (AA (pv 2)) (AA (pv 1))) ge_int))
  (AU (Ca (good_none rfl).own rfl (Jn rfl T.b_range (AF ge_int (AF (AA (pv 3)) Ak))) (Bx 9 l)
  (AY (Ca (good_none rfl).own rfl (E5 rfl T.b_range (AF (AA (pv 9)) Ak)) (Bx 10 l)
  (AU (CW 5 l (BO EN (BO EN (BO EN (BO LJ (BO UX (AA (pv 5)) (AA (pv 5))) ge_int) (BO UX ge_int (AA (pv 9)))) (AA (pv 10))) ge_int))
  (AU (CW 11 l (RL WG (BO LJ (BO Mr (AA (pv 5)) ge_int) ge_int) (AA (pv 8)) (Dy _)))
  (AU (D4 (EO (P7 o) (BO LJ (BO Mr (BO Mr (AA (pv 2)) (AA (pv 1))) ge_int) ge_int) ge_int (Dy _)) (AU (CW 11 l (RL (P7 o) (BO LJ (AA (pv 6)) ge_int) ge_int (Dy _)))
  (AY (CW 6 l (BO Mr (AA (pv 6)) ge_int)))) CH)
  (AY (D4 (E4 (AA (pv 11))) (AY (GV (Ig (AA (pv 4)) (G3 (AF (AA (pv 10)) (AF (AA (pv 9)) Ak)))))) CH))))))))
  (AY (Bg (G3 (AF (AA (pv 3)) (AF (AA (pv 4)) Ak))))))))))))))
theorem W9:BV ["called", "standing"] ["called", "standing"] (A0 Nf):=Ef
theorem P6(T:Txt K mg W):Cp P w K mg base (CXG P w) 1 T.d__law_anew.f T.d__law_anew.fd ["called", "standing"] (spM K 2 (Kr W)):=by
 refine BL (k:=0) T.d__law_anew.F W9 rfl λ_ _ _ _ _ _ m l o=>?_
 exact(AY (Bg (KC rfl T.b_tuple (Ie rfl rfl T.b_sorted (D6 (GX (own:=["place"]) (N':=["place", "called", "·2"]) rfl (Ew (by kernel_rfl)) (DL (AA (pv 1))) (λ_ _ _ _ _ _=>(Bx 0 (by decide +kernel:(["place", "called", "·2"]:List Str).Nodup))) (λ_ _ _ _ _ _=>FO) (λ_ _ _ _ _ _=>(FF l (AA (pv 1)) (AA (pv 0))))))))))
theorem UD:BV ["web", "guards", "kind", "called", "rounds", "standing", "number", "call"] ["web", "guards", "kind", "called"] (A0 LD):=Ef
theorem Nl(T:Txt K mg W):Cp P w K mg base (CXG P w) 18 T.d__law_rounds.f T.d__law_rounds.fd ["web", "guards", "kind", "called"] (spM K 4 (JA W)):=by
 refine BL (k:=17) T.d__law_rounds.F UD rfl λ_ _ _ _ _ _ m o l=>?_
 exact(AU (CW 4 l Ut)
  (AU (Ca (good_none rfl).own rfl (DL (gcl T.d_falls (i9 T) m (AF (AA (pv 0)) (AF (AA (pv 1)) (AF (AA (pv 2)) Ak))))) (Mv rfl (DX (Bx 5 l) (DX (Bx 6 l) (DX (Bx 7 l) Jh))))
  (AY (G2 (Aq (CA (by decide:1<=64) _) o) (AA (pv 4)) (gcl T.d__law_anew (P6 T) m (AF (AA (pv 3)) (AF (AA (pv 5)) Ak))) (AA (pv 6)) rfl)))
  (AY (Bg (AA (pv 4))))))
theorem rM:BV ["script", "places", "pairs", "called", "place", "web", "other", "same", "guards", "kind", "mine"] ["script"] (A0 bw):=Ef
theorem sW(T:Txt K mg W):Cp P w K mg base (CXG P w) 20 T.d_law.f T.d_law.fd ["script"] (spM K 1 (cc W)):=by
 refine BL (k:=19) T.d_law.F rM rfl λ_ _ _ _ _ _ l s o=>?_
 exact(AU (tV (gcl T.d__law_small_web (P5 T) l (AF (AA (pv 0)) (AF (BO EN ge_int (oB rfl T.b_int (RL (P7 s) (BO LJ (gcl T.d__law_cell_at (G1 T) l (AF (AA (pv 0)) (AF ge_int Ak))) ge_int) ge_int (Dy _)))) Ak))) (Mv rfl (DX (Bx 1 o) (DX (Bx 2 o) Jh))))
  (AU (CW 3 o (D6 (KA Ak)))
  (AU (Ca (good_none rfl).own rfl (E5 rfl T.b_range (AF (AA (pv 1)) Ak)) (Bx 4 o)
  (AY (GV (tp (AA (pv 3)) (BO LJ (gcl T.d__law_cell_at (G1 T) l (AF (AA (pv 0)) (AF (BO EN ge_int (AA (pv 4))) Ak))) (BO EN (AA (pv 4)) ge_int)) (AA (pv 4))))))
  (AU (CW 5 o (TB T.c_Web.mk' (Rp T) (good_none rfl).pass (l.mono (by decide)) rfl T.c_Web.m T.d_Web_init.b (AF (AA (pv 1)) (AF (AA (pv 2)) Ak))))
  (AU (CW 6 o (TB T.c_Web.mk' (Rp T) (good_none rfl).pass (l.mono (by decide)) rfl T.c_Web.m T.d_Web_init.b (AF (AA (pv 1)) (AF (D6 (GX (own:=["one", "two"]) (N':=["one", "two", "·2", "·3", "·4", "called", "·6", "·7", "·8", "·9", "·10", "·11", "·12"]) rfl (Ew (by kernel_rfl)) (DL (AA (pv 2))) (λ_ _ _ _ _ _=>(Mv rfl (DX (Bx 0 (by decide +kernel:(["one", "two", "·2", "·3", "·4", "called", "·6", "·7", "·8", "·9", "·10", "·11", "·12"]:List Str).Nodup)) (DX (Bx 1 (by decide +kernel:(["one", "two", "·2", "·3", "·4", "called", "·6", "·7", "·8", "·9", "·10", "·11", "·12"]:List Str).Nodup)) Jh)))) (λ_ _ _ _ _ _=>FO) (λ_ _ _ _ _ _=>(G3 (AF (FF s (AA (pv 5)) (AA (pv 0))) (AF (FF s (AA (pv 5)) (AA (pv 1))) Ak)))))) Ak))))
  (AU (CW 7 o (D6 (fF rfl rfl T.b_list rfl T.b_range (AF (AA (pv 1)) Ak))))
  (AU (D4 (EO (pd s) (gcl T.d_five (cF T) l (AF (AA (pv 5)) Ak)) (gcl T.d_five (cF T) l (AF (AA (pv 6)) Ak)) (Dy _)) (AY (Bg KD)) CH)
  (AU (Ca (good_none rfl).own rfl (Jn rfl T.b_range (AF ge_int (AF (BO EN (AA (pv 1)) ge_int) Ak))) (Bx 8 o)
  (AY (Ca (good_none rfl).own rfl (DL (D6 (KA (AF Uq (AF Uq Ak))))) (Bx 9 o)
  (AU (CW 10 o (Ie rfl rfl T.b_sorted (D6 (GX (own:=["standing"]) (N':=["standing", "·1", "·2", "·3", "called", "·5", "·6", "·7", "·8", "·9", "·10", "·11"]) rfl (Ew (by kernel_rfl)) (DL (gcl T.d_lasting (O7 T) l (AF (AA (pv 5)) (AF (AA (pv 8)) (AF (AA (pv 9)) Ak))))) (λ_ _ _ _ _ _=>(Bx 0 (by decide +kernel:(["standing", "·1", "·2", "·3", "called", "·5", "·6", "·7", "·8", "·9", "·10", "·11"]:List Str).Nodup))) (λ_ _ _ _ _ _=>FO) (λ_ _ _ _ _ _=>(gcl T.d__law_anew (P6 T) l (AF (AA (pv 4)) (AF (AA (pv 0)) Ak))))))))
  (AU (D4 (EO (pd s) (AA (pv 10)) (gcl T.d_lasting (O7 T) l (AF (AA (pv 6)) (AF (AA (pv 8)) (AF (AA (pv 9)) Ak)))) (Dy _)) (AY (Bg KD)) CH)
  (AY (D4 (EO (sX s) (gcl T.d__law_rounds (Nl T) l (AF (AA (pv 5)) (AF (AA (pv 8)) (AF (AA (pv 9)) (AF (AA (pv 3)) Ak))))) (gcl T.d__law_rounds (Nl T) l (AF (AA (pv 6)) (AF (AA (pv 8)) (AF (AA (pv 9)) (AF (AA (pv 7)) Ak))))) (Dy _)) (AY (Bg KD)) CH)))))))
  (AY (Bg KD))))))))))
end
open PySem L2
open Srt (ltL)
noncomputable def pairD(x:Int×Int):D:=.tup [.int x.1,.int x.2]
noncomputable def nrm(x:Int×Int):Int×Int:=(if x.2 < x.1 then x.2 else x.1,if x.2 > x.1 then x.2 else x.1)
noncomputable def XB(x:Int×Int):ZLi:=[x.1,x.2]
noncomputable def QH(x:Int×Int):List Key:=[.inl x.1,.inl x.2]
theorem Y6(h:QH x=QH y):x=y:=by
 unfold QH at h;simp at h;exact pH h.1 h.2
theorem PF:∀ns:ZLi,J9 (ns.map D.int)=some ns
 | []=>rfl
 | n :: ns=>by
  rw[Az];unfold J9;rw[PF ns];rfl
theorem UI:∀l:List ZLi,(∀r∈l,r≠[])->Oe (l.map OQ)=some l
 | [],_=>rfl
 | [] :: l,h=>zX rfl (h [] AZ)
 | (n :: o) :: l,h=>by
  rw[Az];unfold OQ Oe;rw[PF,show Re (λr:ZLi=>D.tup (r.map D.int)) l=l.map OQ from rfl,UI l λr m=>h r (AV _ m)]
theorem Z7(l:List ZLi)(h:∀r∈l,r≠[])(m:l.length < 64):Jt (l.map OQ)=some ((Lv l).map OQ):=by
 unfold Jt;rw[qX (by rw[AC];exact m)]
 cases l with
 | nil=>simp[J9,Lv]
 | cons r l=>
  have:J9 ((r :: l).map OQ)=none:=rfl;rw[this,UI _ h]
theorem Z8(ns:ZLi)(l:ns.length < 64):Jt (ns.map D.int)=some ((Be ns).map D.int):=by
 unfold Jt;rw[qX (by rw[AC];exact l)];rw[PF]
noncomputable def Nm(ps:List ZPi):List (List Key×D):=ps.map λx=>(QH (nrm x),.bl true)
theorem jJ(ps:List ZPi)(x:Int×Int):(An (Nm ps) (QH (nrm x))).isSome=decide (nrm x∈ps.map nrm):=by
 unfold An Nm
 induction ps with
 | nil=>rfl
 | cons y ps l=>
  rw[Az,CD]
  by_cases e:QH (nrm y)=QH (nrm x)
  ·rw[wX e]
   simp[Y6 e]
  ·rw[wY e]
   have m:nrm x≠nrm y:=λz=>e (by rw[z])
   simp only[Az,Af,m,false_or];exact l
theorem jI(ps:List ZPi)(x:Int×Int)(h:nrm x∉ps.map nrm):CJ (Nm ps) (QH (nrm x)) (.bl true)=Nm (ps++[x]):=by
 unfold CJ;rw[qY]
 ·simp[Nm]
 ·intro z
  obtain⟨y,l,e⟩:=FC.mp z;obtain⟨a,m,rfl⟩:=Ai.mp l;exact h (by rw[<-Y6 (of_decide_eq_true e)];exact C9 m)
theorem wf(h:S[n]?=some (.dT l))(neg:Bool):inA neg (pairD x) (.ref n) S=.ok (.bl (if neg then !(An l (QH x)).isSome else(An l (QH x)).isSome)) S:=by
 show LI (inD neg (pairD x) (.ref n) S) (OT neg (pairD x) (.ref n) S)=_
 have e:inD neg (pairD x) (.ref n) S=.bad:=by
  unfold inD HQ;dsimp only;rw[h]
 have m:OU (.ref n) (pairD x) S=some (An l (QH x)):=by
  unfold OU pairD;dsimp only;rw[h];rfl
 rw[e];show OT neg (pairD x) (.ref n) S=_;unfold OT;rw[m]
theorem kD(m:mv e S=.ok v S)(ho:mo e S=.ok (.ref d) S)(hi:mi e S=.ok (pairD x) S)(h:S[d]?=some (.dT l))(o:l.length < sizeLine) :
  DE mo mi mv e S=.ok (.nx e) (S.set d (.dT (CJ l (QH x) v))):=by
 unfold DE;rw[m];dsimp only[Res.lift];rw[ho];dsimp only[Res.lift];rw[hi];dsimp only[Res.lift]
 have:SW (.ref d) (pairD x) v S=some (S.set d (.dT (CJ l (QH x) v))):=by
  unfold SW pairD;dsimp only;rw[h];show(if l.length < sizeLine then some (S.set d (.dT (CJ l (QH x) v)))else none)=_;rw[qX o]
 rw[this]
theorem ix0(x:Int×Int)(S:Sto):ixA (pairD x) (.int 0) S=.ok (.int x.1) S:=rfl
theorem ix1(x:Int×Int)(S:Sto):ixA (pairD x) (.int 1) S=.ok (.int x.2) S:=rfl
noncomputable def Fit(p:Int)(x:Int×Int):Prop:=(nrm x).1≠(nrm x).2/\0<=(nrm x).1/\(nrm x).2 < p
noncomputable abbrev uN(W:Wd):MS:=BH (Cg 5 (Gu (AH (mQ WJ (AH (AD 3) (AH (AD 4) Ay))) (AH (mQ WM (AH (AD 3) (AH (AD 4) Ay))) Ay))))
  (BH (sIf (mB (m2 (eqD false) (m2 ixA (AD 5) (mC (.int 0))) (m2 ixA (AD 5) (mC (.int 1))))) Q6 sNx)
  (BH (sIf (mOr (mB (m2 ltD (m2 ixA (AD 5) (mC (.int 0))) (mC (.int 0)))) (mB (m2 geD (m2 ixA (AD 5) (mC (.int 1))) (AD 0)))) Q6 sNx)
  (BH (sIf (mB (m2 (inA false) (AD 5) (AD 2))) Q6 sNx)
  (DE (AD 2) (AD 5) (mC (.bl true))))))
theorem XO(h:t e S=.ok false S):sIf t a sNx e S=.ok (.nx e) S:=(Ge (a:=a) (b:=sNx) h).trans rfl
theorem iA(l:S[n]?=some (.dT (Nm ps)))(o:ps.length<=100000)(s:Fit p x)(m:nrm x∉ps.map nrm) :
  uN W [sI p,some t,sR n,sI x.1,sI x.2,z5] S=oN [sI p,some t,sR n,sI x.1,sI x.2,some (pairD (nrm x))] (S.set n (.dT (Nm (ps++[x])))):=by
 have A:Cg 5 (Gu (AH (mQ WJ (AH (AD 3) (AH (AD 4) Ay))) (AH (mQ WM (AH (AD 3) (AH (AD 4) Ay))) Ay))) [sI p,some t,sR n,sI x.1,sI x.2,z5] S =
   oN [sI p,some t,sR n,sI x.1,sI x.2,some (pairD (nrm x))] S:=
  Ju (i:=5) (Ot (ds:=[.int (nrm x).1,.int (nrm x).2]) (CL (vq (ds:=[.int x.1,.int x.2]) (S1:=S) rfl rfl) (CL (vq (ds:=[.int x.1,.int x.2]) (S1:=S) rfl rfl) rfl)) (by simp))
 obtain⟨B,C,E⟩:=s;refine(Bp A).trans ((Bp (XO (SZ (Dz (Dz rfl rfl (ix0 _ _)) (Dz rfl rfl (ix1 _ _)) (au (wY B)))))).trans ((Bp (XO ((sJ (SZ (Dz (Dz rfl rfl (ix0 _ _)) rfl (jP (wY (by lia)))))).trans (SZ (Dz (Dz rfl rfl (ix1 _ _)) rfl (tw (wY (by lia)))))))).trans ((Bp (XO (SZ (Dz rfl rfl ?_)))).trans ?_)))
 ·rw[wf l,jJ,wY m]
  rfl
 ·rw[kD (x:=nrm x) rfl rfl rfl l (by unfold Nm;rw[AC];exact Aq o (by decide)),jI _ _ m]
theorem fA(h:m e S=.ok d S1)(l:Ec d S1=some xs):EI m e S=.ok (Ec d) S1:=by
 unfold EI;rw[h];dsimp only[Res.bind];rw[l]
noncomputable def GJ(p:Int)(ps:List ZPi):Prop:=(∀x∈ps,Fit p x)/\(ps.map nrm).Nodup
theorem GJ.snoc:GJ p (ps++[x])↔GJ p ps/\Fit p x/\nrm x∉ps.map nrm:=by
 unfold GJ;rw[Ba,Dd]
 constructor
 ·rintro⟨m,o,A,s⟩
  exact⟨⟨λy l=>m y (by simp[l]),o⟩,m x (by simp),λz=>s _ z _ (by simp) rfl⟩
 ·rintro⟨⟨m,o⟩,A,s⟩
  refine⟨λy l=>?_,o,by simp,λa B b hb e=>?_⟩
  ·rcases Ag.mp l with l | l
   ·exact m y l
   ·rw[AG.mp l];exact A
  ·simp at hb
   subst hb;subst e;exact s B
theorem GJ.take(h:GJ p ps)(i:Nat):GJ p (ps.take i):=by
 refine⟨λx l=>h.1 x (bQ l),?_⟩;rw[Xw];exact h.2.sublist (gM _ _)
theorem take_snoc{m:Type}{l:List m}{i:Nat}{x:m}(h:l[i]?=some x):l.take (i+1)=l.take i++[x]:=by
 rw[Lm,h];rfl
theorem Xi(W:Wd){p:Int}{d:D}{S:Sto}{ps:List ZPi}(C:∀l,Keeps S l->Ec d l=some (ps.map pairD))(J:ps.length<=31)(G:GJ p ps) :
  ∃o s z5,Ee (EI (AD 1)) (Gq 2 (CO (tgN 3) (CO (tgN 4) G7))) (uN W) [sI p,some d,sR S.length,none,none,none] (S++[.dT []])=oN [sI p,some d,sR S.length,o,s,z5] (S++[.dT (Nm ps)]):=by
 rw[Ho (fA (m:=AD 1) (d:=d) (S1:=S++[.dT []]) rfl (C _ (Keeps.app _ _)))]
 obtain⟨f,l,h,o,s,z5,rfl,rfl⟩:=KF (v:=Ec d) (g:=Gq 2 (CO (tgN 3) (CO (tgN 4) G7))) (b:=uN W) (xs:=ps.map pairD) (e:=[sI p,some d,sR S.length,none,none,none]) (S:=S++[.dT []]) (λi e l=>(∃o s z5,e=[sI p,some d,sR S.length,o,s,z5])/\l=S++[.dT (Nm (ps.take i))]) (λf l=>∃o s z5,f=.nx [sI p,some d,sR S.length,o,s,z5]/\l=S++[.dT (Nm ps)]) ⟨⟨none,none,none,rfl⟩,by simp[Nm]⟩ (by rintro i e l ⟨_,rfl⟩;exact C _ (Keeps.app _ _))
  (by
   rintro i y e l A ⟨⟨o,s,z5,rfl⟩,rfl⟩;rw[Ad]at A
   cases B:ps[i]? with
   | none=>rw[B]at A;cases A
   | some x=>
    rw[B]at A;cases A;have L:=(AE.mp B).1;have E:=G.take (i+1);rw[take_snoc B]at E;obtain⟨_,H,I⟩:=GJ.snoc.mp E;refine⟨[sI p,some d,sR S.length,sI x.1,sI x.2,z5],_,rfl,_,_,iA (W:=W) (p:=p) (t:=d) (z5:=z5) (x:=x) (DR S (.dT (Nm (ps.take i)))) (by rw[Dt];lia) H I,⟨_,_,_,rfl⟩,?_⟩;rw[take_snoc B]
    simp)
  (by
   rintro e l ⟨⟨o,s,z5,rfl⟩,rfl⟩;rw[AC,Gk]
   exact⟨_,_,_,rfl,rfl⟩)
 exact⟨o,s,z5,h⟩
noncomputable def MX(ps:List ZPi):List ZLi:=Lv (ps.map λx=>XB (nrm x))
theorem Xj(W:Wd){p:Int}{d:D}{S:Sto}{ps:List ZPi}(l:∀S',Keeps S S'->Ec d S'=some (ps.map pairD))(o:ps.length<=31)(s:GJ p ps) :
  ∃S',Hv W [.int p,d] S=.ok (.tup ((MX ps).map OQ)) S'/\Keeps S S':=by
 obtain⟨A,B,C,E⟩:=Xi W l o s
 ·have G:LN (.ref S.length) (S++[.dT (Nm ps)])=some ((ps.map λx=>XB (nrm x)).map OQ):=by
   unfold LN;dsimp only;rw[DR];dsimp only;unfold Nm;rw[BB,BB];rfl
  have H:=Jm (m:=AD 2) (e:=[sI p,some d,sR S.length,A,B,C]) (S:=S++[.dT (Nm ps)]) rfl G (Z7 _ (by intro r I;obtain⟨x,_,rfl⟩:=Ai.mp I;simp[XB]) (by rw[AC];lia));refine⟨S++[.dT (Nm ps)]++[.lst ((MX ps).map OQ)],HU ?_,(Keeps.app S _).trans (Keeps.app _ _)⟩;refine Ip (Bp (e:=[sI p,some d,none,none,none,none]) (e1:=[sI p,some d,sR S.length,none,none,none]) (S:=S) (S1:=S++[.dT []]) rfl) ?_;refine Ip (Bp E) ?_;exact LG (Pu H (JF (DR _ _)))
open PySem L2
noncomputable def DW(ts:List ZPi)(x:Nat):ZLi:=ts.flatMap λt=>(if t.1=(x:Int)then[t.2]else[])++(if t.2=(x:Int)then[t.1]else[])
theorem Yv(ts:List ZPi)(t:Int×Int)(x:Nat):DW (ts++[t]) x=DW ts x++((if t.1=(x:Int)then[t.2]else[])++(if t.2=(x:Int)then[t.1]else[])):=by
 unfold DW;rw[PY];simp
noncomputable def HV(p:Nat)(F:Nat->ZLi):Sto:=(BJ p).map λx=>Ob.lst ((F x).map D.int)
noncomputable def Fu(k p:Nat):List D:=(BJ p).map λx=>D.ref (k+x)
noncomputable def stN(S:Sto)(p:Nat)(F:Nat->ZLi):Sto:=S++HV p F++[.lst (Fu S.length p)]
theorem J7(p:Nat)(F:Nat->ZLi):(HV p F).length=p:=by simp[HV]
theorem W3(S:Sto)(p:Nat)(F:Nat->ZLi):(stN S p F).length=S.length+p+1:=by simp[stN,J7];lia
theorem Qx(S:Sto)(p:Nat)(F:Nat->ZLi):Keeps S (stN S p F):=(Keeps.app S _).trans (Keeps.app _ _)
theorem NY(S:Sto)(p:Nat)(F:Nat->ZLi):(stN S p F)[S.length+p]?=some (.lst (Fu S.length p)):=by
 have:S.length+p=(S++HV p F).length:=by simp[J7]
 unfold stN;rw[this];exact DR _ _
theorem MY(S:Sto)(F:Nat->ZLi)(h:a < p):(stN S p F)[S.length+a]?=some (.lst ((F a).map D.int)):=by
 unfold stN;rw[CT,Bd (by lia),Av (by rw[J7];lia),show S.length+a - S.length=a by lia];unfold HV;rw[Ad,CP h];rfl
theorem bv(S:Sto)(F:Nat->ZLi)(ys:ZLi)(h:a < p):(stN S p F).set (S.length+a) (.lst (ys.map D.int))=stN S p (λx=>if x=a then ys else F x):=by
 apply IH
 intro j
 by_cases e:S.length+a=j
 ·subst e
  rw[As (by rw[W3];lia),MY _ _ h,qX rfl]
 ·rw[Ae e]
  by_cases l:j < S.length
  ·rw[(Qx S p F).2 j l,(Qx S p _).2 j l]
  by_cases m:j - S.length < p
  ·have o:j=S.length+(j - S.length):=by lia
   rw[o,MY S F m,MY S _ m,qY (by lia)]
  by_cases s:j=S.length+p
  ·subst s
   rw[NY,NY]
  ·rw[Bs (by rw[W3];lia),Bs (by rw[W3];lia)]
theorem cU(F:Nat->ZLi)(h:a < p):ixA (.ref (S.length+p)) (.int a) (stN S p F)=.ok (.ref (S.length+a)) (stN S p F):=by
 show LI (ixD _ _ _) _=_;have l:HQ (.ref (S.length+p)) (stN S p F)=some (Fu S.length p):=JF (NY S p F)
 have m:atI (Fu S.length p) (a:Int)=some (.ref (S.length+a)):=by
  unfold atI ixN;rw[show(Fu S.length p).length=p by simp[Fu],qX (by lia),qX (by lia)];simp only[AJ,At];unfold Fu;rw[Ad,CP h];rfl
 have:ixD (.ref (S.length+p)) (.int a) (stN S p F)=.ok (.ref (S.length+a)) (stN S p F):=by
  unfold ixD;rw[l];dsimp only;rw[m]
 rw[this];rfl
theorem iG(S:Sto):∀p:Nat,S++HV (p+1) (λ_=>[])=S++HV p (λ_=>[])++[.lst []]:=λp=>by
 unfold HV;rw[HD,Ba,CT];rfl
theorem eB(E:p<=60)(C:mp e S=.ok (.int p) S) :
  FE 1 (iR1 (AH mp Ay)) (tgN 0) Gy (Er (D5 Ay)) e S=.ok (Fu S.length p) (S++HV p λ_=>[]):=by
 have s:iR1 (AH mp Ay) e S=.ok (FZ (Ez 0 p)) S:=by
  have:=ai (ml:=AH mp Ay) (e:=e) (S:=S) (S1:=S) (j:=p) (CL C rfl) (by lia) (by lia);simpa using this
 obtain⟨r,S1,A,o,⟨z,_⟩,rfl,rfl⟩:=Xe (v:=FZ (Ez 0 p)) (g:=tgN 0) (c:=Gy) (m:=Er (D5 Ay)) (xs:=Ez 0 p) (e:=none :: e) (S:=S)
  (λi o B l=>(∃z,o=z :: e)/\B=S++HV i (λ_=>[])/\l=Fu S.length i)
  ⟨⟨none,rfl⟩,by simp[HV],rfl⟩ (λ_ _ _ _ _=>rfl)
  (by
   rintro i d o B l hd ⟨⟨z,rfl⟩,rfl,rfl⟩;obtain⟨s,rfl⟩:=Yj hd;refine⟨by simp[Fu];exact Aq (m:=60) (by lia) (by decide),some (.int (0+i)) :: e,_,rfl,true,_,rfl,.inl ⟨rfl,.ref (S++HV i λ_=>[]).length,_,rfl,⟨_,rfl⟩,(iG S i).symm,?_⟩⟩;unfold Fu;rw[HD,Ba,AQ,J7]
   rfl)
 rw[WC]at A;exact(TD s).trans A
noncomputable abbrev cw:MS:=BH (FD (Np (m2 ixA (AD 2) (AD 3)) (AD 4))) (FD (Np (m2 ixA (AD 2) (AD 4)) (AD 3)))
noncomputable def In(p:Nat)(t:Int×Int):Prop:=0<=t.1/\t.1 < p/\0<=t.2/\t.2 < p/\t.1≠t.2
theorem eA(l:In p t)(I:∀x,(F x).length < 200000) :
  cw [some d0,some d1,sR (S.length+p),sI t.1,sI t.2] (stN S p F)=.ok (.nx [some d0,some d1,sR (S.length+p),sI t.1,sI t.2])
   (stN S p λx=>F x++((if t.1=(x:Int)then[t.2]else[])++(if t.2=(x:Int)then[t.1]else[]))):=by
 obtain⟨a,s⟩:∃a:Nat,t.1=a:=⟨t.1.toNat,by have:=l.1;lia⟩
 obtain⟨b,hb⟩:∃b:Nat,t.2=b:=⟨t.2.toNat,by have:=l.2.2.1;lia⟩
 obtain⟨_,A,_,N,J⟩:=l
 have m:a≠b:=λe=>J (by rw[s,hb,e])
 rw[s,hb]
 have B:∀x,((F x).map D.int).length < sizeLine:=λx=>by rw[AC];exact u0 (I x) (by decide)
 have C:=VN (mo:=m2 ixA (AD 2) (AD 3)) (ma:=AD 4) (e:=[some d0,some d1,sR (S.length+p),sI a,sI b]) (S:=stN S p F) (S1:=stN S p F) (S2:=stN S p F) (n:=S.length+a) (y:=.int b) (Dz rfl rfl (cU F (by lia))) (MY S F (by lia)) rfl (MY S F (by lia)) (B a);rw[show(F a).map D.int++[D.int b]=(F a++[(b:Int)]).map D.int by simp,bv S F _ (by lia)]at C
 have E:(stN S p λx=>if x=a then F a++[(b:Int)]else F x)[S.length+b]?=some (.lst ((F b).map D.int)):=by
  rw[MY S _ (by lia),qY (Ck m)]
 have G:=VN (mo:=m2 ixA (AD 2) (AD 4)) (ma:=AD 3) (e:=[some d0,some d1,sR (S.length+p),sI a,sI b]) (S:=stN S p λx=>if x=a then F a++[(b:Int)]else F x) (S1:=stN S p λx=>if x=a then F a++[(b:Int)]else F x) (S2:=stN S p λx=>if x=a then F a++[(b:Int)]else F x) (n:=S.length+b) (y:=.int a) (Dz rfl rfl (cU _ (by lia))) E rfl E (B b);rw[show(F b).map D.int++[D.int a]=(F b++[(a:Int)]).map D.int by simp,bv S _ _ (by lia)]at G;unfold cw;rw[Bp (Ks C),Ks G]
 congr 2
 funext x
 by_cases o:x=b
 ·subst o
  have:¬((a:Int)=(x:Int)):=by lia
  simp[this]
 ·by_cases H:x=a
  ·subst H
   have:¬((b:Int)=(x:Int)):=by lia
   simp[o,this]
  ·have L:¬((a:Int)=(x:Int)):=by lia
   have A:¬((b:Int)=(x:Int)):=by lia
   simp[o,H,L,A]
theorem Uc(ts:List ZPi)(x:Nat):(DW ts x).length<=2 * ts.length:=by
 unfold DW
 induction ts with
 | nil=>simp
 | cons t ts l=>
  rw[Ln,AQ,BC]
  have:((if t.1=(x:Int)then[t.2]else[])++(if t.2=(x:Int)then[t.1]else[])).length<=2:=by split <;> split <;> simp
  lia
noncomputable def Qz(p:Nat)(ts:List ZPi):List D:=(BJ p).map λx=>.tup ((Be (DW ts x)).map D.int)
theorem nL(W:Wd)(J:p<=60)(L:∀t∈ts,In p t)(N:ts.length<=31)(S:Sto) :
  ∃S',Hr W [.int p,.tup (ts.map pairD)] S=.ok (.tup (Qz p ts)) S'/\Keeps S S':=by
 have G:=Ju (i:=2) (RG (eB J (mp:=AD 0) (e:=[sI p,some (.tup (ts.map pairD)),none,none,none]) (S:=S) rfl));have O:(S++HV p λ_=>[])++[.lst (Fu S.length p)]=stN S p (DW []):=rfl
 have P:(S++HV p λ_=>[]).length=S.length+p:=by simp[J7]
 rw[O,P]at G
 obtain⟨f,S1,Q,⟨l,o,rfl⟩,rfl⟩:=KF (v:=FZ (ts.map pairD)) (g:=Gq 2 (CO (tgN 3) (CO (tgN 4) G7))) (b:=cw) (xs:=ts.map pairD) (e:=[sI p,some (.tup (ts.map pairD)),sR (S.length+p),none,none]) (S:=stN S p (DW []))
  (λi e S'=>(∃l o,e=[sI p,some (.tup (ts.map pairD)),sR (S.length+p),l,o])/\S'=stN S p (DW (ts.take i)))
  (λf S'=>(∃l o,f=.nx [sI p,some (.tup (ts.map pairD)),sR (S.length+p),l,o])/\S'=stN S p (DW ts))
  ⟨⟨none,none,rfl⟩,rfl⟩ (λ_ _ _ _=>rfl)
  (by
   rintro i y e S' A ⟨⟨l,o,rfl⟩,rfl⟩;rw[Ad]at A
   cases B:ts[i]? with
   | none=>rw[B]at A;cases A
   | some t=>
    rw[B]at A;cases A;refine⟨[sI p,some (.tup (ts.map pairD)),sR (S.length+p),sI t.1,sI t.2],_,rfl,_,_,eA (L t (Al B)) (λx=>?_),⟨_,_,rfl⟩,?_⟩
    ·have:=Uc (ts.take i) x
     rw[Dt]at this;exact Aq (Aj this (Nat.mul_le_mul_left 2 (Aj (TQ _ _) N))) (by decide)
    ·rw[take_snoc B,show DW (ts.take i++[t])=_ from funext λx=>Yv _ _ x])
  (by
   rintro e S' ⟨⟨l,o,rfl⟩,rfl⟩;rw[AC,Gk]
   exact⟨⟨_,_,rfl⟩,rfl⟩)
 have R:=(Ho (g:=Gq 2 (CO (tgN 3) (CO (tgN 4) G7))) (b:=cw) (Ul (m:=AD 1) (e:=[sI p,some (.tup (ts.map pairD)),sR (S.length+p),none,none]) (S:=stN S p (DW [])) (S1:=stN S p (DW [])) (xs:=ts.map pairD) rfl)).trans Q
 obtain⟨r,T,U,C,⟨z,_⟩,K,rfl⟩:=Xe (v:=Ec (.ref (S.length+p))) (g:=tgN 0) (c:=Gy) (m:=Ib (Ev (AD 0))) (xs:=Fu S.length p) (e:=[none,sI p,some (.tup (ts.map pairD)),sR (S.length+p),l,o]) (S:=stN S p (DW ts))
  (λi C S' s=>(∃z,C=[z,sI p,some (.tup (ts.map pairD)),sR (S.length+p),l,o])/\Keeps (stN S p (DW ts)) S'/\s=(BJ i).map λx=>.tup ((Be (DW ts x)).map D.int))
  ⟨⟨none,rfl⟩,.refl _,rfl⟩ (λi C S' s h=>Dr (h.2.1.at (NY S p _)))
  (by
   rintro i d C S' s hd ⟨⟨z,rfl⟩,K,rfl⟩
   have H:i < p:=by
    have:=(AE.mp hd).1;simpa[Fu]using this
   unfold Fu at hd;rw[Ad,CP H]at hd;cases hd;have E:LN (.ref (S.length+i)) S'=some ((DW ts i).map D.int):=PD (K.at (MY S _ H));have X:=Jm (m:=AD 0) (e:=[sR (S.length+i),sI p,some (.tup (ts.map pairD)),sR (S.length+p),l,o]) (S:=S') (S1:=S') rfl E (Z8 _ (by have:=Uc ts i;lia));refine⟨by simp;exact Aq (m:=60) (by lia) (by decide),[sR (S.length+i),sI p,some (.tup (ts.map pairD)),sR (S.length+p),l,o],_,rfl,true,_,rfl,.inl ⟨rfl,_,_,Pu X (JF (DR _ _)),⟨_,rfl⟩,K.trans (Keeps.app _ _),?_⟩⟩;rw[HD,Ba]
   rfl)
 have I:=(TD (n:=1) (g:=tgN 0) (c:=Gy) (m:=Ib (Ev (AD 0))) (L3 (m:=AD 2) (e:=[sI p,some (.tup (ts.map pairD)),sR (S.length+p),l,o]) (S:=stN S p (DW ts)) (S1:=stN S p (DW ts)) rfl (NY S p _))).trans U;rw[show(Fu S.length p).length=p by simp[Fu]]at I;refine⟨T++[.lst (Qz p ts)],HU ?_,((Qx S p _).trans K).trans (Keeps.app _ _)⟩;unfold N2;refine Ip (Bp G) ?_;refine Ip (Bp R) ?_;exact LG (Pu (RG I) (JF (DR _ _)))
open PySem L2
open Srt (ltL)
noncomputable def toP(r:ZLi):Int×Int:=(r.getD 0 0,r.getD 1 0)
noncomputable def ID(ps:List ZPi):List ZPi:=(MX ps).map toP
theorem Tx(h:r∈MX ps):∃x∈ps,r=XB (nrm x):=by
 have:=(IT _).mem_iff.mp h;obtain⟨x,l,rfl⟩:=Ai.mp this;exact⟨x,l,rfl⟩
theorem dZ(ps:List ZPi):(ID ps).map XB=MX ps:=by
 unfold ID;rw[BB]
 conv=>rhs;rw[<-OX (MX ps)]
 refine DA λr l=>?_
 obtain⟨x,_,rfl⟩:=Tx l;rfl
theorem Z1(ps:List ZPi):(MX ps).map OQ=(ID ps).map pairD:=by
 rw[<-dZ,BB];rfl
theorem hW(h:t∈ID ps):∃x∈ps,t=nrm x:=by
 obtain⟨r,l,rfl⟩:=Ai.mp h;obtain⟨x,m,rfl⟩:=Tx l;exact⟨x,m,rfl⟩
theorem Qw(ps:List ZPi):(ID ps).Perm (ps.map nrm):=by
 unfold ID MX;have:=(IT (ps.map λx=>XB (nrm x))).map toP;refine this.trans ?_;rw[BB];exact List.Perm.of_eq rfl
theorem sZ(x:Int×Int):(nrm x).1<=(nrm x).2:=by
 unfold nrm;dsimp only
 split <;> split <;> lia
theorem Fit.in{p:Nat}{x:Int×Int}(h:Fit p x):In p (nrm x):=by
 obtain⟨l,m,o⟩:=h;have:=sZ x;exact⟨m,by lia,by lia,o,l⟩
theorem wM:¬(("places" : Str) = "ties"):=by decide +kernel
theorem wO:¬(("places" : Str) = "near_sets"):=by decide +kernel
theorem wL:¬(("ties" : Str) = "near_sets"):=by decide +kernel
theorem put2(a b:D):Kf "ties" b [(("places" : Str),a)]=([("places",a),("ties",b)]:List (Str×D)):=by
 show(if ("places" : Str) = "ties" then _ else _)=_;rw[qY wM];rfl
theorem put3(a b c:D):Kf "near_sets" c [(("places" : Str),a),("ties",b)]=([("places",a),("ties",b),("near_sets",c)]:List (Str×D)):=by
 show(if ("places" : Str) = "near_sets" then _ else _)=_;rw[qY wO]
 have:Kf "near_sets" c [(("ties" : Str),b)]=([("ties",b),("near_sets",c)]:List (Str×D)):=by
  show(if ("ties" : Str) = "near_sets" then _ else _)=_;rw[qY wL];rfl
 rw[this]
theorem wW(a b c:D):([("places",a),("ties",b),("near_sets",c)]:List (Str×D)).lookup ("places" : Str)=some a:=by
 rw[Bi,show(("places" : Str)=="places")=true by decide +kernel]
theorem wV(a b c:D):([("places",a),("ties",b),("near_sets",c)]:List (Str×D)).lookup ("near_sets" : Str)=some c:=by
 rw[Bi,show(("near_sets" : Str)=="places")=false by decide +kernel];dsimp only;rw[Bi,show(("near_sets" : Str)=="ties")=false by decide +kernel];dsimp only;rw[Bi,show(("near_sets" : Str)=="near_sets")=true by decide +kernel]
theorem ss(a b:D):([("places",a),("ties",b)]:List (Str×D)).lookup ("ties" : Str)=some b:=by
 rw[Bi,show(("ties" : Str)=="places")=false by decide +kernel];dsimp only;rw[Bi,show(("ties" : Str)=="ties")=true by decide +kernel]
open PySem L2 L4
noncomputable def CQ(W:Wd)(w:Nat×List ZPi):Ob:=.ins W.Web [("places",.int w.1),("ties",.tup (w.2.map pairD)),("near_sets",.tup (Qz w.1 w.2))]
noncomputable def RH(p:Nat)(ts:List ZPi):List ZLi:=(BJ p).map λx=>Be (DW ts x)
theorem jF(p:Nat)(ts:List ZPi):D.tup (Qz p ts)=eT (eT D.int) (RH p ts):=by
 unfold Qz RH eT;rw[BB];rfl
open Classical in
noncomputable def dL(x:Int)(l:List ZPi):Option (Nat×List ZPi):=if 1<=x/\x<=60/\GJ x l/\l.length<=31 then some (x.toNat,ID l)else none
section
variable{W:Wd}{A:List Sl}{a b m:ME}{p:Option (Nat×List ZPi)}
theorem bi{l:Type}{f:Str}{enc:l->D}{g:Nat×List ZPi->l}(h:VE A m (rO (CQ W)) p)(o:∀w,([("places",D.int w.1),("ties",.tup (w.2.map pairD)),("near_sets",.tup (Qz w.1 w.2))]:List (Str×D)).lookup f=some (enc (g w))):VE A (Cr W.Web f m) (rV enc) (p.bind λw=>some (g w)):=λv s B e F S C=>by
 obtain⟨w,E,G⟩:=BA s;cases G;obtain⟨d,H,I,J,n,rfl,L⟩:=h w E B e F S C;exact⟨_,H,KG I L (o w),J,rfl⟩
theorem DZ(h:VE A m (rO (CQ W)) p):VE A (Cr W.Web "places" m) (rV D.int) (p.bind λw=>some (w.1:Int)):=bi h λw=>wW _ _ _
theorem lP(h:VE A m (rO (CQ W)) p):VE A (Cr W.Web "near_sets" m) (rV (eT (eT D.int))) (p.bind λw=>some (RH w.1 w.2)):=bi h λw=>by rw[<-jF];exact wV _ _ _
theorem qU(W:Wd){p:Nat}(h1:1<=p)(T:p<=60){d:D}{S:Sto}{ps:List ZPi}(U:∀l,Keeps S l->Ec d l=some (ps.map pairD))(N:ps.length<=31)(O:GJ p ps){e:Lo}{ml:ML}{S0:Sto}(X:ml e S0=.ok [.int p,d] S) :
  ∃l,Oi W.Web 3 (KL W) ml e S0=.ok (.ref S.length) l/\Keeps S l/\l[S.length]?=some (CQ W (p,ID ps)):=by
 have Y:SR (mB (m3 leD leD (mC (.int 1)) (AD 1) (mC (.int 60)))) [sR S.length,sI p,some d] (S++[.ins W.Web []])=.ok false (S++[.ins W.Web []]):=
  PB (b:=true) (SZ (p0 (S3:=S++[.ins W.Web []]) rfl rfl (jT (wX (by lia))) rfl (jT (wX (by lia)))))
 have Z:(S++[Ob.ins W.Web []])[S.length]?=some (.ins W.Web []):=DR _ _;have e1:=Sn (C:=W.Web) (f:="places") (mo:=AD 0) (mv:=AD 1) (e:=[sR S.length,sI p,some d]) (S:=S++[.ins W.Web []]) (v:=.int p) rfl rfl Z (by decide);have s:Keeps S ((S++[Ob.ins W.Web []]).set S.length (.ins W.Web (Kf "places" (.int p) []))):=(Keeps.app S _).set (AM _) _;generalize B:(S++[Ob.ins W.Web []]).set S.length (.ins W.Web (Kf "places" (.int p) []))=S1 at e1 s
 have P:S1[S.length]?=some (.ins W.Web [("places",.int p)]):=by rw[<-B];exact As (by simp)
 obtain⟨E,Q,K2⟩:=Xj W (p:=p) (d:=d) (S:=S1) (ps:=ps) (λl k=>U l (s.trans k)) N O;rw[Z1]at Q;have G:=Sn (C:=W.Web) (f:="ties") (mo:=AD 0) (mv:=BX 2 (Hv W) (AH (AD 1) (AH (AD 2) Ay))) (e:=[sR S.length,sI p,some d]) (S:=S1) ((Ga rfl rfl).trans Q) rfl (K2.at P) (by simp);have H:Keeps S (E.set S.length (.ins W.Web (Kf "ties" (.tup ((ID ps).map pairD)) [("places",.int p)]))):=(s.trans K2).set (AM _) _;rw[put2]at G H;have zN:S.length < E.length:=(AE.mp (K2.at P)).1;generalize I:E.set S.length (.ins W.Web [("places",.int p),("ties",.tup ((ID ps).map pairD))])=S3 at G H
 have J:S3[S.length]?=some (.ins W.Web [("places",.int p),("ties",.tup ((ID ps).map pairD))]):=by rw[<-I];exact As zN
 obtain⟨S4,c4,L⟩:=nL W T (ts:=ID ps) (λt ht=>by
  obtain⟨x,hx,rfl⟩:=hW ht
  exact(O.1 x hx).in) (by rw[(Qw ps).length_eq,AC];exact N) S3
 have R:=Sn (C:=W.Web) (f:="near_sets") (mo:=AD 0) (mv:=BX 2 (Hr W) (AH (AD 1) (AH (Cr W.Web "ties" (AD 0)) Ay))) (e:=[sR S.length,sI p,some d]) (S:=S3)
  ((Ga (CL (S1:=S3) rfl (CL (KG rfl J (ss _ _)) rfl)) rfl).trans c4) rfl (L.at J) (by simp)
 have o:S.length < S4.length:=(AE.mp (L.at J)).1;rw[put3]at R;refine⟨_,cO X rfl (aI (e:=[sR S.length,sI p,some d]) ?_),(H.trans L).set (AM _) _,As o⟩;unfold VJ;refine Ip (Bp (e:=[sR S.length,sI p,some d]) (e1:=[sR S.length,sI p,some d]) (S1:=S++[.ins W.Web []]) (Ip (Ge Y) rfl)) ?_;rw[Bp e1,Bp G];exact R
theorem gk{C:Option Int}{pl:Option (List ZPi)}(I:VE A a (rV D.int) C)(hb:VE A b (rO (oL (eP D.int D.int))) pl):VE A (Oi W.Web 3 (KL W) (AH a (AH b Ay))) (rN (CQ W)) (C.bind λx=>pl.bind λl=>dL x l):=λv s S0 e F S E=>by
 obtain⟨x,J,s⟩:=BA s;obtain⟨l,L,o⟩:=BA s;obtain⟨d1,N,O,B,rfl⟩:=I x J S0 e F S E;obtain⟨d2,P,Q,G,n,rfl,R⟩:=hb l L S0 e _ N (E.grow B);unfold dL at o;split at o
 ·rename_i T
  cases o;obtain⟨c1,c2,U,X⟩:=T;have H:((x.toNat:Nat):Int)=x:=Ax (by lia);obtain⟨Y,Z,h6,h7⟩:=qU W (p:=x.toNat) (d:=.ref n) (S:=P) (ps:=l) (by lia) (by lia) (λS' k=>Dr (k.at R)) X (by rw[H];exact U) (ml:=AH a (AH b Ay)) (e:=e) (S0:=S) (by rw[H];exact CL O (CL Q rfl));exact⟨_,Y,Z,(B.trans G).trans h6,_,rfl,(B.trans G).1,h7⟩
 ·cases o
end
noncomputable def K2(h s:Nat)(S l:Sto):Prop:=S.length<=l.length/\∀j,j < S.length->j≠h->j≠s->l[j]?=S[j]?
theorem K2.trans(a:K2 h s S S1)(b:K2 h s S1 S2):K2 h s S S2:=⟨Aj a.1 b.1,λj q l m=>(b.2 j (AX q a.1) l m).trans (a.2 j q l m)⟩
theorem K2.of{h s:Nat}{S S1:Sto}(a:Keeps S S1):K2 h s S S1:=⟨a.1,λj q _ _=>a.2 j q⟩
theorem K2.seth(a:K2 h s S S1)(o:Ob):K2 h s S (S1.set h o):=⟨by rw[EB];exact a.1,λj q l m=>by rw[Ae (Ck l)];exact a.2 j q l m⟩
theorem K2.sets(a:K2 h s S S1)(o:Ob):K2 h s S (S1.set s o):=⟨by rw[EB];exact a.1,λj q m l=>by rw[Ae (Ck l)];exact a.2 j q m l⟩
theorem K2.at(a:K2 h s S S1)(l:S[j]?=some o)(m:j≠h)(A:j≠s):S1[j]?=some o:=by rw[a.2 j (Bf l) m A];exact l
noncomputable def Tk(l:List ZLi)(g:Int):ZLi:=(atI l g).getD []
theorem uE{m}{enc}{l}{S}{n}(o:S[n]?=some (oDK enc l))(s:l.length < 1000000)(k:Int)(v:m):SW (.ref n) (.int k) (enc v) S=some (S.set n (oDK enc (CJ l k v))):=by
 unfold SW;dsimp only;rw[o];show(if (l.map _).length < sizeLine then some (S.set n (.dK (CJ (l.map λx=>(EA x.1,enc x.2)) (EA k) (enc v))))else none)=_;rw[qX (by rw[AC];exact eh s),UM S8];rfl
theorem TC{m:Type}{enc:m->D}{l:List (Int×m)}{mo mi mv:ME}{e:Lo}{S:Sto}{n:Nat}{k:Int}{v:m}(o:mv e S=.ok (enc v) S)(ho:mo e S=.ok (.ref n) S)(hi:mi e S=.ok (.int k) S)(s:S[n]?=some (oDK enc l))(A:l.length < 1000000):DE mo mi mv e S=.ok (.nx e) (S.set n (oDK enc (CJ l k v))):=by
 unfold DE;rw[o];dsimp only[Res.lift];rw[ho];dsimp only;rw[hi];dsimp only;rw[uE s A]
theorem Mi{m o:Type}[DecidableEq m]{l s:List (m×o)}{k:m}{v:o}(h:IX l k v=some s):l.length < 1000000/\s=CJ l k v:=by
 unfold IX at h;split at h
 ·rename_i c;cases h;exact⟨c,rfl⟩
 ·cases h
theorem dN(m:S[tN]?=some (oL (eT D.int) B))(s:S[hN]?=some (oDK D.int H))(A:S[sN]?=some (oDK D.bl Q))(C:hN≠sN) :
  ∃F,Vs [] [.z (oL (eT D.int) B),.v (D.int bits),.w 2 (oDK D.int H),.v (D.int g),.w 4 (oDK D.bl Q),.u,.u] [sR tN,sI bits,sR hN,sI g,sR sN,none,none] F S:=by
 have E:tN≠hN:=λc=>by rw[c,s]at m;cases m
 have G:tN≠sN:=λc=>by rw[c,A]at m;cases m
 refine⟨λn=>if n=hN then .ow 2 else if n=sN then .ow 4 else match S[n]? with | some o=>.fz o | none=>.no,⟨Do _,λj h=>(nomatch h)⟩,λn o q=>?_,λn i q=>?_,λn I=>?_,λi a l=>?_⟩
 ·split at q
  ·cases q
  ·split at q
   ·cases q
   ·cases w:S[n]? with
    | none=>rw[w]at q;cases q
    | some J=>rw[w]at q;cases q;rfl
 ·refine⟨Do _,?_⟩
  split at q
  ·rename_i c;rw[c];exact Bf s
  ·split at q
   ·rename_i c;rw[c];exact Bf A
   ·cases w:S[n]? with
    | none=>rw[w]at q;cases q
    | some J=>rw[w]at q;cases q
 ·show(if n=hN then Cel.ow 2 else if n=sN then .ow 4 else match S[n]? with | some o=>.fz o | none=>.no)=_
  rw[qY λc=>zX (Bf s) (by rw[<-c];lia),qY λc=>zX (Bf A) (by rw[<-c];lia),Bs I]
 ·match i,l with
  | 0,l=>cases l;exact⟨_,rfl,tN,rfl,by show(if tN=hN then Cel.ow 2 else if tN=sN then .ow 4 else match S[tN]? with | some o=>.fz o | none=>.no)=_;rw[qY E,qY G,m]⟩
  | 1,l=>cases l;exact⟨_,rfl,rfl⟩
  | 2,l=>cases l;exact⟨_,rfl,hN,rfl,qX rfl,s⟩
  | 3,l=>cases l;exact⟨_,rfl,rfl⟩
  | 4,l=>cases l;exact⟨_,rfl,sN,rfl,by show(if sN=hN then Cel.ow 2 else if sN=sN then .ow 4 else match S[sN]? with | some o=>.fz o | none=>.no)=_;rw[qY (Ck C),qX rfl],A⟩
  | 5,l=>cases l;exact⟨_,rfl,trivial⟩
  | 6,l=>cases l;exact⟨_,rfl,trivial⟩
  | i+7,l=>cases l
noncomputable abbrev pq:ME:=Er (FE 1 (EI (m2 ixA (AD 0) (AD 3))) (tgN 0) (Ud (FM (m2 VP (m2 YW (AD 2) (AD 0)) (mC (.int 1)))) (mB (m2 (inA true) (AD 0) (AD 5)))) (AD 0))
theorem lH{S:Sto}{tN hN B:Nat}{o:List ZLi}{bits g:Int}{H:HL}{Q:QL}(I:S[tN]?=some (oL (eT D.int) o))(J:S[hN]?=some (oDK D.int H))(L:S[B]?=some (oDK D.bl Q))(N:hN≠B)(G:0<=g/\g < o.length)(O:∀t∈o,t.length<=1000/\∀x∈t,0<=x) :
  ∃n s,pq [sR tN,sI bits,sR hN,sI g,sR B,none,none] S=.ok (.ref n) s/\Keeps S s/\S.length<=n/\s[n]?=some (oL D.int ((Tk o g).filter λx=>hb bits x&&!(An Q x).isSome)):=by
 obtain⟨F,V⟩:=dN (bits:=bits) (g:=g) I J L N;obtain⟨t,C,-⟩:=uO (l:=o) G.1 G.2;have P:=O t (oq C)
 have m:=Ey (FL (enc:=D.int) (eb:=D.int) (A:=[.z (oL (eT D.int) o),.v (D.int bits),.w 2 (oDK D.int H),.v (D.int g),.w 4 (oDK D.bl Q),.u,.u]) (VI.k (MU (JP (Bj (v:=o) (i:=0) rfl) (AT (v:=g) (i:=3) rfl))))
  (λx=>qo (bn (Sm (qe (AT (v:=bits) (i:=2) rfl) (AT (v:=x) (i:=0) rfl)) (Cv (v:=1) rfl))) (K9 (To (AT (v:=x) (i:=0) rfl) (MV (v:=Q) (i:=5) rfl)))) (λx=>AT (v:=x) (i:=0) rfl))
 simp only[AJ]at m;rw[C]at m;simp only[AJ]at m
 have R:Fg t (λx=>((lz bits x).bind λE=>some (Bn E 1)).bind (λx=>some (x != 0)) |>.bind λb=>if b=true then some (!(An Q x).isSome)else some false) (λx=>some x)=some (t.filter λx=>hb bits x&&!(An Q x).isSome):=PL (by lia) λx T=>by
  rw[show lz bits x=some (bits / 2 ^ x.toNat)from qX (P.2 x T)];show(if (Bn (bits / 2 ^ x.toNat) 1 != 0)=true then _ else _)=_;show(if hb bits x=true then _ else _)=_
  cases hb bits x <;> rfl
 obtain⟨d,s,U,X,n,rfl,Y,Z⟩:=m _ R [] _ F S V;refine⟨n,s,U,X,Y,?_⟩;unfold Tk;rw[C];exact Z
theorem oM{w:ZLi}{p:Int->Bool}{i:Nat}{x:Int}(h:∀j,j < i->∀y,w[j]?=some y->p y=false)(l:w[i]?=some x)(m:p x=true):w.find? p=some x:=by
 rw[List.find?_eq_some_iff_getElem];obtain⟨o,e⟩:=AE.mp l;refine⟨m,i,o,e,λj s=>?_⟩;rw[h j s _ (AO (by lia))];rfl
theorem oK{w:ZLi}{p:Int->Bool}(h:∀j,j < w.length->∀y,w[j]?=some y->p y=false):w.find? p=none:=by
 rw[FP];intro x o l;obtain⟨i,m,e⟩:=Bl o;rw[h i m x (by rw[AO m,e])]at l;cases l
noncomputable abbrev e7(tN:Nat)(bits:Int)(hN:Nat)(g:Int)(l:Nat)(z5 m:Option D):Lo:=[sR tN,sI bits,sR hN,sI g,sR l,z5,m]
noncomputable abbrev bS1:MS:=sIf (mB (m2 (inA true) (AD 6) (AD 2))) (BH (DE (AD 2) (AD 6) (AD 3)) (Cu (mC (.bl true)))) sNx
noncomputable abbrev bS2(l:List D->Sto->Res D):MS:=sIf (mB (m2 (inA true) (AD 6) (AD 4))) (BH (DE (AD 4) (AD 6) (mC (.bl true)))
  (sIf (FM (BX 5 l (AH (AD 0) (AH (AD 1) (AH (AD 2) (AH (m2 ixA (AD 2) (AD 6)) (AH (AD 4) Ay))))))) (BH (DE (AD 2) (AD 6) (AD 3)) (Cu (mC (.bl true)))) sNx)) sNx
theorem p8(m:S[n]?=some (oDK enc l))(x:Int):inA true (.int x) (.ref n) S=.ok (.bl (!(An l x).isSome)) S:=by
 rw[ax (mF m) (cq m x)];simp
theorem we(m:S[n]?=some (oDK enc l))(o:An l x=some v):ixA (.ref n) (.int x) S=.ok (enc v) S:=RQ (mF m) (by rw[cq m x,o];rfl)
theorem dq(W:Wd){o:List ZLi}{bits:Int}(hT:∀t∈o,t.length<=1000/\∀x∈t,0<=x):∀(n:Nat) (H:HL) (g:Int) (Q:QL) (z:Bool×HL×QL),Ir (Tk o) bits n H g Q=some z->0<=g/\g < o.length->(∀x a,An H x=some a->0<=a/\a < o.length)->(∀x a,An z.2.1 x=some a->0<=a/\a < o.length) /\
  ∀(S:Sto) (tN hN sN:Nat),S[tN]?=some (oL (eT D.int) o)->S[hN]?=some (oDK D.int H)->S[sN]?=some (oDK D.bl Q)->hN≠sN->∃S',Gv W n [.ref tN,.int bits,.ref hN,.int g,.ref sN] S=.ok (.bl z.1) S'/\S'[hN]?=some (oDK D.int z.2.1)/\S'[sN]?=some (oDK D.bl z.2.2)/\K2 hN sN S S':=by
 intro n
 induction n with
 | zero=>intro H g Q z A;cases A
 | succ n ih=>
  intro H g Q z A hg T;unfold Ir at A
  have zw:∀(H:HL) (x:Int),(∀x a,An H x=some a->0<=a/\a < o.length)->∀y a,An (CJ H x g) y=some a->0<=a/\a < o.length:=λH x T y a e=>by
   rw[DD]at e;split at e
   ·cases e;exact hg
   ·exact T y a e
  have lp:∀(r:ZLi) (s:HL) (l:QL),(∀x a,An s x=some a->0<=a/\a < o.length)->Oj (Ir (Tk o) bits n) g r s l=some z->∀x a,An z.2.1 x=some a->0<=a/\a < o.length:=by
   intro r
   induction r with
   | nil=>intro s l U e;cases e;exact U
   | cons x r X=>
    intro s l U e;unfold Oj at e;split at e
    ·exact X s l U e
    ·obtain⟨Q1,-,e⟩:=BA e
     obtain⟨N,e2,e⟩:=BA e;obtain⟨J,e3,e⟩:=BA e;have:=(ih s N Q1 J e3 (U x N e2) U).1;split at e
     ·obtain⟨H',E,e5⟩:=BA e
      cases e5;rw[(Mi E).2];exact zw _ x this
     ·exact X _ _ this e
  refine⟨?_,λS tN hN sN L hh hs Y=>?_⟩
  ·split at A
   ·obtain⟨H',E,e5⟩:=BA A
    cases e5;rw[(Mi E).2];exact zw _ _ T
   ·exact lp _ _ _ T A
  ·have t1:tN≠hN:=λc=>by rw[c,hh]at L;cases L
   have t2:tN≠sN:=λc=>by rw[c,hs]at L;cases L
   obtain⟨wN,S1,w1,w2,w3,O⟩:=lH (bits:=bits) L hh hs Y hg hT;generalize (Tk o g).filter (λx=>hb bits x&&!(An Q x).isSome)=w at A O
   have wh:wN≠hN:=λc=>zX (Bf hh) (by lia)
   have ws:wN≠sN:=λc=>zX (Bf hs) (by lia)
   have s5:Cg 5 pq (IS 7 [.ref tN,.int bits,.ref hN,.int g,.ref sN]) S=.ok (.nx (e7 tN bits hN g sN (some (.ref wN)) none)) S1:=Ju (i:=5) w1;have Ϧ:=w2.at hh;have zT:=w2.at hs;have ht1:=w2.at L;have k1:K2 hN sN S S1:=K2.of w2
   have it:∀m S',S'[wN]?=some (oL D.int w)->EI (AD 5) (e7 tN bits hN g sN (some (.ref wN)) m) S'=.ok (Ec (.ref wN)) S':=λm S' h=>L3 (n:=wN) rfl h
   obtain⟨f,S2,q1,q2⟩:=KF (v:=Ec (.ref wN)) (g:=tgN 6) (b:=bS1) (xs:=w.map D.int) (e:=e7 tN bits hN g sN (some (.ref wN)) none) (S:=S1)
    (λi e S'=>(∃m,e=e7 tN bits hN g sN (some (.ref wN)) m)/\S'=S1/\∀j,j < i->∀y,w[j]?=some y->(!(An H y).isSome)=false)
    (λf S'=>((∃m,f=.nx (e7 tN bits hN g sN (some (.ref wN)) m))/\S'=S1/\w.find? (λx=>!(An H x).isSome)=none)∨∃x,w.find? (λx=>!(An H x).isSome)=some x/\f=.rt (.bl true)/\S'=S1.set hN (oDK D.int (CJ H x g)))
    ⟨⟨none,rfl⟩,rfl,λj hj=>zX hj (Fh j)⟩ (by rintro i e S' ⟨_,rfl,_⟩;exact Dr O)
    (by
     rintro i d e S' hd ⟨⟨m,rfl⟩,rfl,Z⟩;rw[Ad]at hd
     cases I:w[i]? with
     | none=>rw[I]at hd;cases hd
     | some x=>
      rw[I]at hd;cases hd;refine⟨e7 tN bits hN g sN (some (.ref wN)) (some (.int x)),S',rfl,?_⟩;have C:mB (m2 (inA true) (AD 6) (AD 2)) (e7 tN bits hN g sN (some (.ref wN)) (some (.int x))) S'=.ok (!(An H x).isSome) S':=SZ (Dz rfl rfl (p8 Ϧ x))
      cases c:(An H x).isSome with
      | true=>
       rw[c]at C;refine⟨_,S',(Ge C).trans rfl,⟨_,rfl⟩,rfl,λj hj y hy=>?_⟩
       by_cases q:j=i
       ·subst q;rw[I]at hy;cases hy;rw[c];rfl
       ·exact Z j (by lia) y hy
      | false=>
       rw[c]at C;have P:w.find? (λx=>!(An H x).isSome)=some x:=oM Z I (by rw[c];rfl);rw[P]at A;obtain⟨H',E,e5⟩:=BA A;obtain⟨hl,-⟩:=Mi E;have dp:=TC (mo:=AD 2) (mi:=AD 6) (mv:=AD 3) (e:=e7 tN bits hN g sN (some (.ref wN)) (some (.int x))) (k:=x) (v:=g) rfl rfl rfl Ϧ hl
       exact⟨.rt (.bl true),_,(Ge C).trans ((qX rfl).trans ((Bp dp).trans rfl)),.inr ⟨x,P,rfl,rfl⟩⟩)
    (by
     rintro e S' ⟨⟨m,rfl⟩,rfl,Z⟩;rw[AC]at Z
     exact .inl ⟨⟨m,rfl⟩,rfl,oK Z⟩)
   have run:∀{S':Sto} {d:D},ZL W (Gv W n) (IS 7 [.ref tN,.int bits,.ref hN,.int g,.ref sN]) S=.ok (.rt d) S'->Gv W (n+1) [.ref tN,.int bits,.ref hN,.int g,.ref sN] S=.ok d S':=λh=>HU h
   rcases q2 with⟨⟨m,rfl⟩,rfl,P⟩ | ⟨x,P,rfl,rfl⟩
   ·rw[P]at A
    dsimp only at A
    obtain⟨f,S3,p1,p2⟩:=KF (v:=Ec (.ref wN)) (g:=tgN 6) (b:=bS2 (Gv W n)) (xs:=w.map D.int) (e:=e7 tN bits hN g sN (some (.ref wN)) m) (S:=S2)
     (λi e S'=>(∃m,e=e7 tN bits hN g sN (some (.ref wN)) m)/\S'[wN]?=some (oL D.int w)/\K2 hN sN S S'/\∃s l,S'[hN]?=some (oDK D.int s)/\S'[sN]?=some (oDK D.bl l)/\(∀x a,An s x=some a->0<=a/\a < o.length)/\Oj (Ir (Tk o) bits n) g (w.drop i) s l=some z)
     (λf S'=>K2 hN sN S S'/\S'[hN]?=some (oDK D.int z.2.1)/\S'[sN]?=some (oDK D.bl z.2.2)/\((f=.rt (.bl true)/\z.1=true)∨((∃m,f=.nx (e7 tN bits hN g sN (some (.ref wN)) m))/\z.1=false)))
     ⟨⟨m,rfl⟩,O,k1,H,Q,Ϧ,zT,T,A⟩ (by rintro i e S' ⟨_,h,_⟩;exact Dr h)
     (by
      rintro i d e S' hd ⟨⟨m,rfl⟩,a1,a2,s,l,a3,R,a5,B⟩;rw[Ad]at hd
      cases I:w[i]? with
      | none=>rw[I]at hd;cases hd
      | some x=>
       rw[I]at hd;cases hd;obtain⟨hi,ex⟩:=AE.mp I;rw[C0 hi,ex]at B;unfold Oj at B;refine⟨e7 tN bits hN g sN (some (.ref wN)) (some (.int x)),S',rfl,?_⟩;have C:mB (m2 (inA true) (AD 6) (AD 4)) (e7 tN bits hN g sN (some (.ref wN)) (some (.int x))) S'=.ok (!(An l x).isSome) S':=SZ (Dz rfl rfl (p8 R x))
       cases c:(An l x).isSome with
       | true=>
        rw[c]at C;rw[qX c]at B;exact⟨_,S',(Ge C).trans rfl,⟨_,rfl⟩,a1,a2,s,l,a3,R,a5,B⟩
       | false=>
        rw[c]at C;rw[qY (by rw[c];exact AN)]at B;obtain⟨Q1,b1,a7⟩:=BA B;obtain⟨N,b2,a8⟩:=BA a7;obtain⟨J,b3,a9⟩:=BA a8;obtain⟨hl,rfl⟩:=Mi b1
        clear B a7 a8
        have dp:=TC (enc:=D.bl) (mo:=AD 4) (mi:=AD 6) (mv:=mC (.bl true)) (e:=e7 tN bits hN g sN (some (.ref wN)) (some (.int x))) (k:=x) (v:=true) rfl rfl rfl R hl;have ϕ:=Bf R
        have c3:(S'.set sN (oDK D.bl (CJ l x true)))[hN]?=some (oDK D.int s):=by rw[Ae (Ck Y)];exact a3
        have c4:(S'.set sN (oDK D.bl (CJ l x true)))[sN]?=some (oDK D.bl (CJ l x true)):=As ϕ
        have c5:(S'.set sN (oDK D.bl (CJ l x true)))[tN]?=some (oL (eT D.int) o):=by rw[Ae (Ck t2)];exact a2.at L t1 t2
        have c1:(S'.set sN (oDK D.bl (CJ l x true)))[wN]?=some (oL D.int w):=by rw[Ae (Ck ws)];exact a1
        have c2:=a2.sets (oDK D.bl (CJ l x true));generalize S'.set sN (oDK D.bl (CJ l x true))=S4 at dp c1 c2 c3 c4 c5;obtain⟨r1,r2⟩:=ih s N (CJ l x true) J b3 (a5 x N b2) a5;obtain⟨S5,r3,r4,r5,r6⟩:=r2 S4 tN hN sN c5 c3 c4 Y;have arg:AH (AD 0) (AH (AD 1) (AH (AD 2) (AH (m2 ixA (AD 2) (AD 6)) (AH (AD 4) Ay)))) (e7 tN bits hN g sN (some (.ref wN)) (some (.int x))) S4=.ok [.ref tN,.int bits,.ref hN,.int N,.ref sN] S4:=CL rfl (CL rfl (CL rfl (CL (Dz (x:=.ref hN) (y:=.int x) rfl rfl (we c3 b2)) (CL rfl rfl))))
        have W':FM (BX 5 (Gv W n) (AH (AD 0) (AH (AD 1) (AH (AD 2) (AH (m2 ixA (AD 2) (AD 6)) (AH (AD 4) Ay)))))) (e7 tN bits hN g sN (some (.ref wN)) (some (.int x))) S4=.ok J.1 S5:=by
         unfold FM;rw[(Ga (n:=5) arg rfl).trans r3];rfl
        have d1:=r6.at c1 wh ws;have d2:=c2.trans r6
        cases G:J.1 with
        | true=>
         rw[G]at W';rw[qX G]at a9;obtain⟨H',E,e5⟩:=BA a9;obtain⟨zt,rfl⟩:=Mi E;cases e5;have dp2:=TC (mo:=AD 2) (mi:=AD 6) (mv:=AD 3) (e:=e7 tN bits hN g sN (some (.ref wN)) (some (.int x))) (k:=x) (v:=g) rfl rfl rfl r4 zt;refine⟨.rt (.bl true),_,(Ge C).trans ((qX rfl).trans ((Bp dp).trans ((Ge W').trans ((qX rfl).trans ((Bp dp2).trans rfl))))),d2.seth _,As (Bf r4),?_,.inl ⟨rfl,rfl⟩⟩;rw[Ae Y];exact r5
        | false=>
         rw[G]at W';rw[qY (by rw[G];exact AN)]at a9
         exact⟨_,S5,(Ge C).trans ((qX rfl).trans ((Bp dp).trans ((Ge W').trans rfl))),⟨_,rfl⟩,d1,d2,J.2.1,J.2.2,r4,r5,r1,a9⟩)
     (by
      rintro e S' ⟨⟨m,rfl⟩,a1,a2,s,l,a3,R,a5,B⟩;rw[AC,II (AM _)]at B;unfold Oj at B;cases B
      exact⟨a2,a3,R,.inr ⟨⟨m,rfl⟩,rfl⟩⟩)
    obtain⟨p3,p4,p5,p6⟩:=p2;have l1:=(Ho (g:=tgN 6) (b:=bS1) (it none S2 O)).trans q1;have l2:=(Ho (g:=tgN 6) (b:=bS2 (Gv W n)) (it m S2 O)).trans p1
    rcases p6 with⟨rfl,p6⟩ | ⟨⟨z7,rfl⟩,p6⟩
    ·rw[p6]
     exact⟨S3,run ((Bp s5).trans ((Bp l1).trans (Ow l2))),p4,p5,p3⟩
    ·rw[p6]
     exact⟨S3,run ((Bp s5).trans ((Bp l1).trans ((Bp l2).trans rfl))),p4,p5,p3⟩
   ·rw[P]at A
    obtain⟨H',E,e5⟩:=BA A;obtain⟨hl,rfl⟩:=Mi E;cases e5;have l1:=(Ho (g:=tgN 6) (b:=bS1) (it none S1 O)).trans q1;refine⟨_,run ((Bp s5).trans (Ow l1)),As (Bf Ϧ),?_,k1.seth _⟩;rw[Ae Y];exact zT
noncomputable abbrev e5(tN:Nat)(gs:ZLi)(bits:Int)(hN:Nat)(z:Option D):Lo:=[sR tN,some (eT D.int gs),sI bits,sR hN,z]
noncomputable abbrev sk:MT:=FM (m2 VP (m2 YW (AD 2) (AD 4)) (mC (.int 1)))
theorem vO(h:m e S=.ok (.bl b) S1):FM m e S=.ok b S1:=by
 unfold FM;rw[h];rfl
theorem vN(h:m e S=.ok (.int i) S1):FM m e S=.ok (i != 0) S1:=by
 unfold FM;rw[h];rfl
theorem kQ(h:0<=g):sk (e5 tN gs bits hN (some (.int g))) S=.ok (hb bits g) S:=by
 have l:m2 YW (AD 2) (AD 4) (e5 tN gs bits hN (some (.int g))) S=.ok (.int (bits / 2 ^ g.toNat)) S:=Dz rfl rfl (qX h);exact vN (Dz (f:=VP) (mb:=mC (.int 1)) (y:=.int 1) l rfl rfl)
noncomputable abbrev bF1:MS:=sIf sk (DE (AD 3) (AD 4) (AD 4)) sNx
noncomputable abbrev wS(W:Wd)(n:Nat):ME:=BX 5 (Gv W n) (AH (AD 0) (AH (AD 2) (AH (AD 3) (AH (AD 4) (AH JS Ay)))))
noncomputable abbrev bF2(W:Wd)(n:Nat):MS:=sIf (Ud (SR sk) (SR (FM (wS W n)))) (Cu (mC (.bl false))) sNx
theorem oJ(W:Wd)(hT:∀t∈G,t.length<=1000/\∀x∈t,0<=x)(T:∀g∈gs,0<=g/\g < G.length)(U:WR (Tk G) bits 9 gs=some b)(X:S[tN]?=some (oL (eT D.int) G)) :
  ∃S',Xb W [.ref tN,eT D.int gs,.int bits] S=.ok (.bl b) S'/\Keeps S S':=by
 unfold WR at U;obtain⟨J,hs,hr⟩:=BA U;have N:Cg 3 JS (IS 5 [.ref tN,eT D.int gs,.int bits]) S=.ok (.nx (e5 tN gs bits S.length none)) (S++[.dK []]):=rfl;have Y:(S++[Ob.dK []])[S.length]?=some (oDK D.int []):=DR _ _;have Z:=Keeps.app S [.dK []];have tl:=Bf X;generalize S++[Ob.dK []]=S0 at N Y Z
 obtain⟨f,S1,q1,⟨O,rfl⟩,q2,q3,q4⟩:=KF (v:=FZ (gs.map D.int)) (g:=tgN 4) (b:=bF1) (xs:=gs.map D.int) (e:=e5 tN gs bits S.length none) (S:=S0)
  (λi e S'=>(∃z,e=e5 tN gs bits S.length z)/\Keeps S S'/\∃m,S'[S.length]?=some (oDK D.int m)/\(∀x a,An m x=some a->0<=a/\a < G.length)/\T9 bits (gs.drop i) m=some J)
  (λf S'=>(∃z,f=.nx (e5 tN gs bits S.length z))/\Keeps S S'/\S'[S.length]?=some (oDK D.int J)/\∀x a,An J x=some a->0<=a/\a < G.length)
  ⟨⟨none,rfl⟩,Z,[],Y,λx a e=>(nomatch e),hs⟩ (λ_ _ _ _=>rfl)
  (by
   rintro i d e S' hd ⟨⟨z,rfl⟩,o,m,A,E,l⟩;rw[Ad]at hd
   cases C:gs[i]? with
   | none=>rw[C]at hd;cases hd
   | some g=>
    rw[C]at hd;cases hd;have s:=T g (Al C);obtain⟨P,ex⟩:=AE.mp C;rw[C0 P,ex]at l;unfold T9 at l;refine⟨e5 tN gs bits S.length (some (.int g)),S',rfl,?_⟩;have B:=kQ (tN:=tN) (hN:=S.length) (gs:=gs) (bits:=bits) (S:=S') s.1
    cases c:hb bits g with
    | true=>
     rw[c]at B;rw[qX c]at l;obtain⟨H',Q,H⟩:=BA l;obtain⟨hl,rfl⟩:=Mi Q;have dp:=TC (mo:=AD 3) (mi:=AD 4) (mv:=AD 4) (e:=e5 tN gs bits S.length (some (.int g))) (k:=g) (v:=g) rfl rfl rfl A hl;refine⟨_,_,(Ge B).trans ((qX rfl).trans dp),⟨_,rfl⟩,o.set (AM _) _,_,As (Bf A),λx a e=>?_,H⟩;rw[DD]at e;split at e
     ·cases e;exact s
     ·exact E x a e
    | false=>
     rw[c]at B;rw[qY (by rw[c];exact AN)]at l
     exact⟨_,S',(Ge B).trans rfl,⟨_,rfl⟩,o,m,A,E,l⟩)
  (by
   rintro e S' ⟨⟨z,rfl⟩,o,m,A,E,l⟩;rw[AC,II (AM _)]at l;cases l
   exact⟨⟨z,rfl⟩,o,A,E⟩)
 obtain⟨f,S2,p1,p2,p3⟩:=KF (v:=FZ (gs.map D.int)) (g:=tgN 4) (b:=bF2 W 9) (xs:=gs.map D.int) (e:=e5 tN gs bits S.length O) (S:=S1)
  (λi e S'=>(∃z,e=e5 tN gs bits S.length z)/\Keeps S S'/\∃m,S'[S.length]?=some (oDK D.int m)/\(∀x a,An m x=some a->0<=a/\a < G.length)/\UK (Tk G) bits 9 (gs.drop i) m=some b)
  (λf S'=>Keeps S S'/\((f=.rt (.bl false)/\b=false)∨((∃z,f=.nx (e5 tN gs bits S.length z))/\b=true)))
  ⟨⟨O,rfl⟩,q2,J,q3,q4,hr⟩ (λ_ _ _ _=>rfl)
  (by
   rintro i d e S' hd ⟨⟨z,rfl⟩,o,m,A,E,l⟩;rw[Ad]at hd
   cases C:gs[i]? with
   | none=>rw[C]at hd;cases hd
   | some g=>
    rw[C]at hd;cases hd;have s:=T g (Al C);obtain⟨P,ex⟩:=AE.mp C;rw[C0 P,ex]at l;unfold UK at l;refine⟨e5 tN gs bits S.length (some (.int g)),S',rfl,?_⟩;have B:=kQ (tN:=tN) (hN:=S.length) (gs:=gs) (bits:=bits) (S:=S') s.1
    cases c:hb bits g with
    | true=>
     rw[c]at B;rw[qX c]at l;exact⟨_,S',(Ge (c6 (PB B))).trans rfl,⟨_,rfl⟩,o,m,A,E,l⟩
    | false=>
     rw[c]at B;rw[qY (by rw[c];exact AN)]at l;obtain⟨w,Q,H⟩:=BA l
     clear l
     have hl:=Bf A;have b0:(S'++[Ob.dK []])[S'.length]?=some (oDK D.bl []):=DR _ _;have I:=Keeps.app S' [.dK []];have arg:AH (AD 0) (AH (AD 2) (AH (AD 3) (AH (AD 4) (AH JS Ay)))) (e5 tN gs bits S.length (some (.int g))) S'=.ok [.ref tN,.int bits,.ref S.length,.int g,.ref S'.length] (S'++[.dK []]):=rfl;generalize S'++[Ob.dK []]=S4 at b0 I arg;obtain⟨r1,r2⟩:=dq W (bits:=bits) hT 9 m g [] w Q s E;obtain⟨S5,r3,r4,r5,r6⟩:=r2 S4 tN S.length S'.length (I.at (o.at X)) (I.at A) b0 (by lia);have L:FM (wS W 9) (e5 tN gs bits S.length (some (.int g))) S'=.ok w.1 S5:=vO ((Ga (n:=5) arg rfl).trans r3)
     have kS:Keeps S S5:=⟨Aj (Aj o.1 I.1) r6.1,λj R=>by
      have h4:j < S4.length:=AX R (Aj o.1 I.1)
      rw[r6.2 j h4 (by lia) (by have:=o.1;lia),I.2 j (AX R o.1),o.2 j R]⟩
     cases hw:w.1 with
     | true=>
      rw[hw]at L;rw[qX hw]at H;exact⟨_,S5,(Ge ((Xo (PB B)).trans (PB L))).trans rfl,⟨_,rfl⟩,kS,w.2.1,r4,r1,H⟩
     | false=>
      rw[hw]at L;rw[qY (by rw[hw];exact AN)]at H;cases H
      exact⟨.rt (.bl false),S5,(Ge ((Xo (PB B)).trans (PB L))).trans rfl,kS,.inl ⟨rfl,rfl⟩⟩)
  (by
   rintro e S' ⟨⟨z,rfl⟩,o,m,A,E,l⟩;rw[AC,II (AM _)]at l;cases l
   exact⟨o,.inr ⟨⟨z,rfl⟩,rfl⟩⟩)
 have it:∀z S',EI (AD 1) (e5 tN gs bits S.length z) S'=.ok (FZ (gs.map D.int)) S':=λz S'=>Ul (xs:=gs.map D.int) rfl
 have l1:=(Ho (g:=tgN 4) (b:=bF1) (it none S0)).trans q1;have l2:=(Ho (g:=tgN 4) (b:=bF2 W 9) (it O S1)).trans p1;refine⟨S2,HU (n:=5) (mb:=bD W) ?_,p2⟩;unfold bD
 rcases p3 with⟨rfl,rfl⟩ | ⟨⟨z,rfl⟩,rfl⟩
 ·exact(Bp N).trans ((Bp l1).trans (Ow l2))
 ·exact(Bp N).trans ((Bp l1).trans ((Bp l2).trans rfl))
open Classical in
noncomputable def UR(l:List ZLi)(gs:ZLi)(bits:Int):Option Bool:=if (∀t∈l,t.length<=1000/\∀x∈t,0<=x)/\∀g∈gs,0<=g/\g < l.length then WR (Tk l) bits 9 gs else none
theorem qq(W:Wd)(m:List ZLi)(gs:ZLi)(bits:Int):VF (Xb W) [.z (oL (eT D.int) m),.v (eT D.int gs),.v (D.int bits)] (rV D.bl) (UR m gs bits):=λv l S s A=>by
 unfold UR at l;split at l
 ·rename_i o
  match s,A with
  | [d1,d2,d3],⟨⟨n,B,C⟩,E,G,_⟩=>
   cases B;cases E;cases G;obtain⟨H,I,J⟩:=oJ W o.1 o.2 l C;exact⟨_,H,I,J,rfl⟩
 ·cases l
noncomputable def HZ(l:ZLi)(m:Int):Option (Fw Int Unit):=
 BM (if (decide (m < (l.length:Int)))=true then(atI l m).bind λo=>some (.rt o)else some (.nx ())) λ_=>some (.rt (0:Int))
noncomputable def Cn(l:ZLi)(m:Int):Option Int:=Fi (HZ l m)
theorem HM(W:Wd)(l:ZLi)(m:Int):VF (E7 W) [.v (eF l),.v (D.int m)] (rV D.int) (Cn l m):=by
 refine EF (n:=2) (b:=KR W) (p:=HZ l m) (B:=λ_=>[]) ?_;show VS [.v (eF l),.v (D.int m)] _ _ _ _;unfold KR HZ;exact(BF (HI (B:=(λ(_:Unit)=>[.v (eF l),.v (D.int m)])) (K9 (vI (AT rfl) (lR (AT rfl)))) (DP (qh (AT rfl) (AT rfl))) (HH (.refl _))) (λ_=>(DP (Cv rfl))))
noncomputable def GR(E:ZLi)(G:Int):Option (Fw (Int×(List ZPi)) Unit):=
 BM ((Cn E (0:Int)).bind λx7=>some (.nx x7)) λH=>BM (((jH H G).bind λzj=>some ((1:Int)+zj)).bind λY'=>some (.nx Y')) λv8=>BM (((some []).bind NP).bind λzk=>some (.nx zk)) λI=>BM ((Cn E (1:Int)).bind λzO=>some (.nx zO)) λC=>BM (some (.nx (if C < 0 then -C else C))) λϗ=>BM (EQ (Ij E (some (2:Int)) (some (12:Int))) C λ(J:Int) L=>Eg (λN=>N) (some (.nx ((J * 3)+(L / 2))))) λyW=>BM (some (.nx (((yW % 1000000007) * 48271) % 998244353))) λyL=>BM (((WS H G).bind λO=>some (O % 3)).bind λP=>some (.nx P)) λϩ=>BM ((Yk (1:Int) v8).bind λm=>EQ m (yL,ϗ,I) λ(Q:Int×Int×(List ZPi)) R=>Eg (λS=>(S.1,S.2.1,S.2.2)) (((some R).bind Mg).bind λo=>EQ o (Q.1,Q.2.1,Q.2.2) λ(l:Int×Int×(List ZPi)) Ϛ=>BM ((((((eZ l.1 l.1).bind λT=>some (T % 1000000007)).bind λU=>(eZ (12:Int) R).bind λX=>some (U+X)).bind λY=>some (Y+Ϛ)).bind λZ=>some (Z+(1:Int))).bind λx71=>some (.nx x71)) λzy=>BM (some (.nx (decide (((zy / 7) % 4)<=ϩ)))) λv72=>BM (((((WS H G).bind λx82=>some (x82 / 3)).bind λx83=>some (x83 % 2)).bind λzV=>some (decide (zV=(1:Int)))).bind λx92=>if x92=true then BM (some (.nx (decide ((l.2.1 % 2)=(1:Int))))) λv84=>Eg (λv89=>(v84,v89)) (some (.nx (l.2.1 / 2)))else some (.nx (v72,l.2.1))) λs=>Eg (λA=>(zy,s.2,A)) (if s.1=true then Eg (λv95=>v95) ((bE l.2.2 (Ϛ,R)).bind λl97=>some (.nx l97))else some (.nx l.2.2)))) λB=>some (.rt (v8,B.2.2))
noncomputable def Ia(l:ZLi)(m:Int):Option (Int×(List ZPi)):=Fi (GR l m)
theorem Qu(W:Wd)(l:ZLi)(m:Int):VF (Ii W) [.v (eF l),.v (D.int m)] (rP D.int (oL (eP D.int D.int))) (Ia l m):=by
 refine EF (n:=12) (b:=Il W) (p:=GR l m) (B:=λ_=>[]) ?_;show VS [.v (eF l),.v (D.int m),.u,.u,.u,.u,.u,.u,.u,.u,.u,.u] _ _ _ _;unfold Il GR;exact(BF (Dx (Bb (C2 (AT rfl) (C2 (Cv rfl) Bk)) (λO=>HM W O.1 O.2.1) (λ_=>rfl) Dh)) (λo=>(BF (Dx (HK (Cv rfl) (gp (AT rfl) (AT rfl)))) (λs=>(BF (Iq (Ey (Lq Jr))) (λA=>(BF (Dx (Bb (C2 (AT rfl) (C2 (Cv rfl) Bk)) (λϪ=>HM W Ϫ.1 Ϫ.2.1) (λ_=>rfl) Dh)) (λU=>(BF (Dx (qm (AT rfl))) (λP=>(BF (Dq (s0:=U) (B:=(λ(H:Int)=>[.v (eF l),.v (D.int m),.v (D.int o),.v (D.int s),.w 4 ((oL (eP D.int D.int)) A),.v (D.int H),.v (D.int P),.u,.u,.u,.u,.u])) (K6 (lT (AT rfl) (Wu (Cv rfl)) (Wu (Cv rfl)))) DN (.refl _) (λX Y=>(Ct (Dx (HK (bf rfl (AT rfl)) (Pn rfl (AT rfl)))) (λZ=>(.same (.same (.same (.same (.same (.same (.same (.drop (.same (.same (.same (.same .nil)))))))))))))))) (λyW=>(BF (Dx (Kj rfl (bf rfl (Kj rfl (AT rfl))))) (λyL=>(BF (Dx (Kj rfl (Ww (AT rfl) (AT rfl)))) (λϩ=>(BF (Dq (s0:=(yL,P,A)) (B:=(λ(I:Int×Int×(List ZPi))=>[.v (eF l),.v (D.int m),.v (D.int o),.v (D.int s),.w 4 ((oL (eP D.int D.int)) I.2.2),.v (D.int I.1),.v (D.int I.2.1),.u,.v (D.int ϩ),.u,.u,.u])) (Lr (Cv rfl) (AT rfl)) DN (.refl _) (λJ L=>(Ct (Dq (s0:=(J.1,J.2.1,J.2.2)) (B:=(λ(N:Int×Int×(List ZPi))=>[.v (eF l),.v (D.int m),.v (D.int o),.v (D.int s),.w 4 ((oL (eP D.int D.int)) N.2.2),.v (D.int N.1),.v (D.int N.2.1),.u,.v (D.int ϩ),.v (D.int L),.u,.u])) (GN (AT rfl)) DN (.refl _) (λΒ Q=>(BF (Dx (HK (HK (HK (Kj rfl (Zp (AT rfl) (AT rfl))) (Zp (Cv rfl) (AT rfl))) (AT rfl)) (Cv rfl))) (λR=>(BF (Dx (vJ (Kj rfl (Pn rfl (AT rfl))) (AT rfl))) (λv72=>(BF (HI (B:=(λ(C:Bool×Int)=>[.v (eF l),.v (D.int m),.v (D.int o),.v (D.int s),.w 4 ((oL (eP D.int D.int)) Β.2.2),.v (D.int R),.v (D.int C.2),.u,.v (D.int ϩ),.v (D.int L),.v (D.int Q),.v (D.bl C.1)])) (K9 (Tn JB Ua (Kj rfl (Pn rfl (Ww (AT rfl) (AT rfl)))) (Cv rfl))) (BF (Dx (Tn JB Ua (Kj rfl (AT rfl)) (Cv rfl))) (λv84=>(Ct (Dx (Pn rfl (AT rfl))) (λv89=>(.refl _))))) (HH (.refl _))) (λE=>(Ct (HI (B:=(λ(G:(List ZPi))=>[.v (eF l),.v (D.int m),.v (D.int o),.v (D.int s),.w 4 ((oL (eP D.int D.int)) G),.v (D.int R),.v (D.int E.2),.u,.v (D.int ϩ),.v (D.int L),.v (D.int Q),.v (D.bl E.1)])) (gz (AT rfl)) (Ct (Zm rfl (Sj (AT rfl) (AT rfl)) rfl) (λv95=>(.refl _))) (HH (.refl _))) (λS=>(.same (.same (.same (.same (.same (.same (.same (.same (.same (.same (.drop (.drop .nil)))))))))))))))))))))) (λΑ=>(.same (.same (.same (.same (.same (.same (.same (.same (.same (.drop (.same (.same .nil)))))))))))))))) (λT=>(gf (AT rfl) rfl)))))))))))))))))))
noncomputable def Ko(o:ZLi)(s:ZLi):Option (Fw ZLi Unit):=
 ((Fg s (λl=>some true) (λl=>atI o l)).bind λm=>Om m (Be m)).bind λA=>some (.rt A)
noncomputable def HA(l:ZLi)(m:ZLi):Option ZLi:=Fi (Ko l m)
theorem Rj(W:Wd)(l:ZLi)(m:ZLi):VF (Kr W) [.z ((oL D.int) l),.v ((eT D.int) m)] (rV (eT D.int)) (HA l m):=by
 refine EF (n:=2) (b:=N4 W) (p:=Ko l m) (B:=λ_=>[]) ?_;show VS [.z ((oL D.int) l),.v ((eT D.int) m)] _ _ _ _;unfold N4 Ko;exact(DP (OB (Ki (gm (Ki (Ey (FL (VI.k (MU (AT rfl))) (λo=>Ja) (λo=>(JP (Bj rfl) (AT rfl))))))))))
noncomputable def Fe(m:(Nat×List ZPi))(l:Int):Option (Fw Unit Unit):=
 ((if decide ((0:Int)<=l)=true then some (decide (l < (m.1:Int)))else some false).bind λo=>some (!o)).bind λs=>if s=true then none else some (.nx ())
noncomputable def He(l:(Nat×List ZPi))(m:Int):Option Unit:=eV (Fe l m)
theorem Pp(W:Wd)(l:(Nat×List ZPi))(m:Int):VF (Hq W) [.z ((CQ W) l),.v (D.int m)] (rV eU) (He l m):=by
 refine Zn (n:=2) (b:=Hx W) (p:=Fe l m) (B:=λ_=>[.z ((CQ W) l),.v (D.int m)]) ?_;show VS [.z ((CQ W) l),.v (D.int m)] _ _ _ _;unfold Hx Fe;exact(HI (B:=(λ(_:Unit)=>[.z ((CQ W) l),.v (D.int m)])) (g7 (K9 (YG kL xO (Cv rfl) (AT rfl) (DZ (Bj rfl))))) TY (HH (.refl _)))
noncomputable def XD(l:(Nat×List ZPi))(m:Int):Option (Fw ZLi Unit):=
 BM ((He l m).bind λ_=>some (.nx ())) λ_=>(atI (RH l.1 l.2) m).bind λo=>some (.rt o)
noncomputable def RA(l:(Nat×List ZPi))(m:Int):Option ZLi:=Fi (XD l m)
theorem Zt(W:Wd)(l:(Nat×List ZPi))(m:Int):VF (Uw W) [.z ((CQ W) l),.v (D.int m)] (rV (eT D.int)) (RA l m):=by
 refine EF (n:=2) (b:=bB W) (p:=XD l m) (B:=λ_=>[]) ?_;show VS [.z ((CQ W) l),.v (D.int m)] _ _ _ _;unfold bB XD;exact(BF (Si (Bb (GP (Bj rfl) (C2 (AT rfl) Bk)) (λo=>Pp W o.1 o.2.1) (λ_=>rfl) Dh)) (λ_=>(DP (gr (lP (Bj rfl)) (AT rfl)))))
noncomputable def Mh(o:(Nat×List ZPi)):Option (Fw (List ZLi) Unit):=
 (((some (o.1:Int)).bind Mg).bind λl=>Fg l (λm=>some true) (λm=>(((some (m :: [])).bind NP).bind λA=>(RA o m).bind λB=>j4 A B).bind λs=>Om s (Be s))).bind λC=>some (.rt C)
noncomputable def Ml(l:(Nat×List ZPi)):Option (List ZLi):=Fi (Mh l)
theorem Zs(W:Wd)(l:(Nat×List ZPi)):VF (Mw W) [.z ((CQ W) l)] (rN (oL (eT D.int))) (Ml l):=by
 refine EF (n:=1) (b:=PM W) (p:=Mh l) (B:=λ_=>[]) ?_;show VS [.z ((CQ W) l)] _ _ _ _;unfold PM Mh;exact(Pk (Ey (FL (VI.k (GN (DZ (Bj rfl)))) (λo=>Ja) (λo=>(OB (Ki (V6 (bj (Tj (HJ (AT rfl) Jr)) (Bb (GP (Bj rfl) (C2 (AT rfl) Bk)) (λm=>Zt W m.1 m.2.1) (λ_=>rfl) Dh)))))))))
noncomputable def OF(m:ZLi):Option (Fw Int Unit):=
 BM (some (.nx (0:Int))) λo=>BM (EQ m o λ(s:Int) A=>Eg (λB=>B) ((Px (1:Int) A).bind λC=>some (.nx (Cq s C)))) λl=>some (.rt l)
noncomputable def G9(l:ZLi):Option Int:=Fi (OF l)
theorem dW(W:Wd)(l:ZLi):VF (RN W) [.v ((eT D.int) l)] (rV D.int) (G9 l):=by
 refine EF (n:=3) (b:=RW W) (p:=OF l) (B:=λ_=>[]) ?_;show VS [.v ((eT D.int) l),.u,.u] _ _ _ _;unfold RW OF;exact(BF (Dx (Cv rfl)) (λo=>(BF (Dq (s0:=o) (B:=(λ(m:Int)=>[.v ((eT D.int) l),.v (D.int m),.u])) (MU (AT rfl)) DN (.refl _) (λA C=>(Ct (Qp rfl (Qq (Cv rfl) (AT rfl))) (λE=>(.same (.same (.drop .nil))))))) (λs=>(DP (AT rfl))))))
noncomputable def OC(s:Int):Option (Fw ZLi Unit):=
 BM (((some []).bind NP).bind λA=>some (.nx A)) λB=>BM (some (.nx s)) λC=>BM (whF (λ(l:ZLi×Int)=>some (l.2 != 0)) (λ(l:ZLi×Int)=>BM ((bE l.1 ((D3 (Bn l.2 (-l.2)):Int) - (1:Int))).bind λm=>some (.nx m)) λE=>Eg (λo=>(E,o)) (some (.nx (Bn l.2 (l.2 - (1:Int)))))) wN (B,C)) λG=>some (.rt G.1)
noncomputable def Ly(l:Int):Option ZLi:=Fi (OC l)
theorem V8(W:Wd)(l:Int):VF (OJ W) [.v (D.int l)] (rN (oL D.int)) (Ly l):=by
 refine EF (n:=3) (b:=RT W) (p:=OC l) (B:=λ_=>[]) ?_;show VS [.v (D.int l),.u,.u] _ _ _ _;unfold RT OC;exact(BF (Iq (Ey (Lq Jr))) (λo=>(BF (Dx (AT rfl)) (λs=>(BF (YE (s0:=(o,s)) (B:=(λ(m:ZLi×Int)=>[.v (D.int l),.w 1 ((oL D.int) m.1),.v (D.int m.2)])) (.refl _) (λA=>(bn (AT rfl))) (λA=>(BF (Zm rfl (Tl (lU (Sm (AT rfl) (Zo (AT rfl)))) (Cv rfl)) rfl) (λE=>(Ct (Qp rfl (Tl (AT rfl) (Cv rfl))) (λC=>(.refl _))))))) (λG=>(Sg rfl)))))))
noncomputable def Km(m:ZLi)(o:Int)(s:Int):Option (Fw ZLi Unit):=
 (Fg m (λl=>some true) (λl=>if (decide (l=o))=true then some s else some l)).bind λA=>some (.rt A)
noncomputable def Kp(l:ZLi)(m:Int)(o:Int):Option ZLi:=Fi (Km l m o)
theorem YJ(W:Wd)(l:ZLi)(m:Int)(o:Int):VF (Nv W) [.v ((eT D.int) l),.v (D.int m),.v (D.int o)] (rV (eT D.int)) (Kp l m o):=by
 refine EF (n:=3) (b:=N0 W) (p:=Km l m o) (B:=λ_=>[]) ?_;show VS [.v ((eT D.int) l),.v (D.int m),.v (D.int o)] _ _ _ _;unfold N0 Km;exact(DP (OB (Ki (Ey (FL (VI.k (MU (AT rfl))) (λs=>Ja) (λs=>(Zq (K9 (Tn JB Ua (AT rfl) (AT rfl))) (AT rfl) (AT rfl) Dh)))))))
noncomputable def Q9(L:Int)(J:Int):Option (Fw (List ZLi) Unit):=
 BM (((((some []).bind NP).bind λN=>some (N :: [])).bind NP).bind λO=>some (.nx O)) λP=>BM (((some J).bind Mg).bind λl=>EQ l P λ(Q:(List ZLi)) R=>BM (((some []).bind NP).bind λS=>some (.nx S)) λT=>BM (EQ Q T λ(U:(List ZLi)) m=>BM ((if (!m.isEmpty)=true then(atI m (-(1:Int))).bind λX=>some (X+(1:Int))else some (0:Int)).bind λY=>some (.nx Y)) λo=>Eg (λZ=>Z) ((Yk o (((L - J)+R)+(1:Int))).bind λs=>EQ s U λ(A:(List ZLi)) B=>Eg (λC=>C) ((((some (B :: [])).bind NP).bind λϞ=>j4 m Ϟ).bind λE=>(bE A E).bind λG=>some (.nx G)))) λH=>Eg (λ_=>H) (some (.nx ()))) λI=>some (.rt I)
noncomputable def IZ(l:Int)(m:Int):Option (List ZLi):=Fi (Q9 l m)
theorem Qs(W:Wd)(l:Int)(m:Int):VF (L6 W) [.v (D.int l),.v (D.int m)] (rN (oL (eT D.int))) (IZ l m):=by
 refine EF (n:=8) (b:=RS W) (p:=Q9 l m) (B:=λ_=>[]) ?_;show VS [.v (D.int l),.v (D.int m),.u,.u,.u,.u,.u,.u] _ _ _ _;unfold RS Q9;exact(BF (MR (Ey (Lq (HJ (Tj Jr) Jr)))) (λH=>(BF (Dq (s0:=H) (B:=(λ(o:(List ZLi))=>[.v (D.int l),.v (D.int m),.y ((oL (eT D.int)) o),.u,.u,.u,.u,.u])) (GN (AT rfl)) DN (.refl _) (λE G=>(BF (Iq (Ey (Lq Jr))) (λI=>(BF (Dq (s0:=I) (B:=(λ(s:(List ZLi))=>[.v (D.int l),.v (D.int m),.y ((oL (eT D.int)) E),.v (D.int G),.w 4 ((oL (eT D.int)) s),.u,.u,.u])) (bZ rfl) DN (.refl _) (λJ L=>(BF (Dx (Zq (lW (AT rfl)) (HK (gr (AT rfl) (Zo (Cv rfl))) (Cv rfl)) (Cv rfl) Dh)) (λA=>(Ct (Dq (s0:=J) (B:=(λ(C:(List ZLi))=>[.v (D.int l),.v (D.int m),.y ((oL (eT D.int)) E),.v (D.int G),.w 4 ((oL (eT D.int)) C),.v ((eT D.int) L),.v (D.int A),.u])) (Lr (AT rfl) (HK (HK (Tl (AT rfl) (AT rfl)) (AT rfl)) (Cv rfl))) DN (.refl _) (λN O=>(Ct (Zm rfl (bj (AT rfl) (Tj (HJ (AT rfl) Jr))) rfl) (λP=>(.same (.same (.same (.same (.same (.same (.same (.drop .nil)))))))))))) (λS=>(.same (.same (.same (.same (.same (.drop (.drop (.same .nil)))))))))))))) (λQ=>(Ct (qW 4 rfl rfl (dO rfl)) (λ_=>(.same (.same (.same (.drop (.drop (.same (.same (.same .nil)))))))))))))))) (λR=>(lJ rfl)))))
noncomputable def IW(s:Int)(A:Int):Option (Fw Int Unit):=
 BM (some (.nx (1:Int))) λB=>BM (((some A).bind Mg).bind λl=>EQ l B λ(C:Int) o=>Eg (λE=>E) (((eZ C (s - o)).bind λG=>WS G (o+(1:Int))).bind λH=>some (.nx H))) λm=>some (.rt m)
noncomputable def Lx(l:Int)(m:Int):Option Int:=Fi (IW l m)
theorem Qr(W:Wd)(l:Int)(m:Int):VF (Ih W) [.v (D.int l),.v (D.int m)] (rV D.int) (Lx l m):=by
 refine EF (n:=4) (b:=Ik W) (p:=IW l m) (B:=λ_=>[]) ?_;show VS [.v (D.int l),.v (D.int m),.u,.u] _ _ _ _;unfold Ik IW;exact(BF (Dx (Cv rfl)) (λs=>(BF (Dq (s0:=s) (B:=(λ(o:Int)=>[.v (D.int l),.v (D.int m),.v (D.int o),.u])) (GN (AT rfl)) DN (.refl _) (λC E=>(Ct (Dx (Ww (Zp (AT rfl) (Tl (AT rfl) (AT rfl))) (HK (AT rfl) (Cv rfl)))) (λG=>(.same (.same (.same (.drop .nil)))))))) (λA=>(DP (AT rfl))))))
noncomputable def O2(m:(Nat×List ZPi))(l:Int):Option (Fw Int Unit):=
 BM (((if decide ((1:Int)<=l)=true then some (decide (l<=(m.1:Int)))else some false).bind λo=>some (!o)).bind λs=>if s=true then none else some (.nx ())) λ_=>(Lx (m.1:Int) l).bind λA=>some (.rt A)
noncomputable def UQ(l:(Nat×List ZPi))(m:Int):Option Int:=Fi (O2 l m)
theorem Zu(W:Wd)(l:(Nat×List ZPi))(m:Int):VF (PJ W) [.z ((CQ W) l),.v (D.int m)] (rV D.int) (UQ l m):=by
 refine EF (n:=2) (b:=PN W) (p:=O2 l m) (B:=λ_=>[]) ?_;show VS [.z ((CQ W) l),.v (D.int m)] _ _ _ _;unfold PN O2;exact(BF (HI (B:=(λ(_:Unit)=>[.z ((CQ W) l),.v (D.int m)])) (g7 (K9 (YG kL kL (Cv rfl) (AT rfl) (DZ (Bj rfl))))) TY (HH (.refl _))) (λ_=>(DP (Bb (C2 (DZ (Bj rfl)) (C2 (AT rfl) Bk)) (λo=>Qr W o.1 o.2.1) (λ_=>rfl) Dh))))
noncomputable def Ng(l:(Nat×List ZPi))(m:Int):Option (Fw (List ZLi) Unit):=
 BM (((UQ l m).bind λo=>some (decide ((400:Int) < o))).bind λs=>if s=true then none else some (.nx ())) λ_=>(IZ (l.1:Int) m).bind λA=>some (.rt A)
noncomputable def Fv(l:(Nat×List ZPi))(m:Int):Option (List ZLi):=Fi (Ng l m)
theorem YK(W:Wd)(l:(Nat×List ZPi))(m:Int):VF (Kq W) [.z ((CQ W) l),.v (D.int m)] (rN (oL (eT D.int))) (Fv l m):=by
 refine EF (n:=2) (b:=N1 W) (p:=Ng l m) (B:=λ_=>[]) ?_;show VS [.z ((CQ W) l),.v (D.int m)] _ _ _ _;unfold N1 Ng;exact(BF (HI (B:=(λ(_:Unit)=>[.z ((CQ W) l),.v (D.int m)])) (K9 (bg (Bb (GP (Bj rfl) (C2 (AT rfl) Bk)) (λo=>Zu W o.1 o.2.1) (λ_=>rfl) Dh) (Cv rfl))) TY (HH (.refl _))) (λ_=>(Pk (Bb (C2 (DZ (Bj rfl)) (C2 (AT rfl) Bk)) (λs=>Qs W s.1 s.2.1) (λ_=>rfl) JI))))
noncomputable def Ff(E:(Nat×List ZPi))(I:ZLi):Option (Fw (Option Int) Unit):=
 BM (some (.nx [])) λJ=>BM (EQ I J λ(L:(List (Int×Bool))) G=>BM ((IX L G true).bind λN=>some (.nx N)) λO=>Eg (λP=>P) ((RA E G).bind λl=>EQ l O λ(m:(List (Int×Bool))) Q=>Eg (λR=>R) ((IX m Q true).bind λo=>some (.nx o)))) λs=>BM (((some (E.1:Int)).bind Mg).bind λA=>EQ A () λ(_:Unit) H=>Eg (λ_=>()) (if (!(An s H).isSome)=true then((some H).bind λB=>some (some B)).bind λC=>some (.rt C)else some (.nx ()))) λ_=>some (.rt none)
noncomputable def Hi(l:(Nat×List ZPi))(m:ZLi):Option (Option Int):=Fi (Ff l m)
theorem Ps(W:Wd)(l:(Nat×List ZPi))(m:ZLi):VF (Ht W) [.z ((CQ W) l),.v ((eT D.int) m)] (rV (eO D.int)) (Hi l m):=by
 refine EF (n:=5) (b:=Hy W) (p:=Ff l m) (B:=λ_=>[]) ?_;show VS [.z ((CQ W) l),.v ((eT D.int) m),.u,.u,.u] _ _ _ _;unfold Hy Ff;exact(BF (Iq Tp) (λC=>(BF (Dq (s0:=C) (B:=(λ(A:(List (Int×Bool)))=>[.z ((CQ W) l),.v ((eT D.int) m),.w 2 ((oDK D.bl) A),.u,.u])) (MU (AT rfl)) DN (.refl _) (λL E=>(BF (Pl rfl (AT rfl) (Cv rfl) rfl) (λG=>(Ct (Dq (s0:=G) (B:=(λ(H:(List (Int×Bool)))=>[.z ((CQ W) l),.v ((eT D.int) m),.w 2 ((oDK D.bl) H),.v (D.int E),.u])) (MU (Bb (GP (Bj rfl) (C2 (AT rfl) Bk)) (λo=>Zt W o.1 o.2.1) (λ_=>rfl) Dh)) DN (.refl _) (λI N=>(Ct (Pl rfl (AT rfl) (Cv rfl) rfl) (λO=>(.same (.same (.same (.same (.drop .nil))))))))) (λP=>(.same (.same (.same (.drop (.same .nil))))))))))) (λs=>(BF (Dq (s0:=()) (B:=(λ(_:Unit)=>[.z ((CQ W) l),.v ((eT D.int) m),.w 2 ((oDK D.bl) s),.u,.u])) (GN (DZ (Bj rfl))) DN (.refl _) (λ_ J=>(Ct (HI (B:=(λ(_:Unit)=>[.z ((CQ W) l),.v ((eT D.int) m),.w 2 ((oDK D.bl) s),.v (D.int J),.u])) (K9 (To (AT rfl) (MV rfl))) (DP (ba (AT rfl))) (HH (.refl _))) (λ_=>(.same (.same (.same (.drop (.same .nil))))))))) (λ_=>(DP bd)))))))
noncomputable def Jd(B:(Nat×List ZPi))(s:ZLi)(C:Bool):Option (Fw (Option ZPi) Unit):=
 BM (EQ (DT s) () λ(_:Unit) l=>BM ((RA B l.2).bind λE=>some (.nx E)) λG=>Eg (λ_=>()) (EQ (Ij s (some (l.1+(1:Int))) none) () λ(_:Unit) A=>Eg (λ_=>()) (if (decide ((decide (A∈G))=C))=true then((some (l.2,A)).bind λm=>some (some m)).bind λo=>some (.rt o)else some (.nx ())))) λ_=>some (.rt none)
noncomputable def Jf(l:(Nat×List ZPi))(m:ZLi)(o:Bool):Option (Option ZPi):=Fi (Jd l m o)
theorem Pt(W:Wd)(l:(Nat×List ZPi))(m:ZLi)(o:Bool):VF (Ji W) [.z ((CQ W) l),.v ((eT D.int) m),.v (D.bl o)] (rV (eO (eP D.int D.int))) (Jf l m o):=by
 refine EF (n:=7) (b:=M3 W) (p:=Jd l m o) (B:=λ_=>[]) ?_;show VS [.z ((CQ W) l),.v ((eT D.int) m),.v (D.bl o),.u,.u,.u,.u] _ _ _ _;unfold M3 Jd;exact(BF (Dq (s0:=()) (B:=(λ(_:Unit)=>[.z ((CQ W) l),.v ((eT D.int) m),.v (D.bl o),.u,.u,.u,.u])) (gj (AT rfl)) bV (.refl _) (λ_ s=>(BF (Dx (Bb (GP (Bj rfl) (C2 (AT rfl) Bk)) (λA=>Zt W A.1 A.2.1) (λ_=>rfl) Dh)) (λC=>(Ct (Dq (s0:=()) (B:=(λ(_:Unit)=>[.z ((CQ W) l),.v ((eT D.int) m),.v (D.bl o),.v (D.int s.1),.v (D.int s.2),.v ((eT D.int) C),.u])) (MU (lS (AT rfl) (Wu (HK (AT rfl) (Cv rfl))) lM)) DN (.refl _) (λ_ E=>(Ct (HI (B:=(λ(_:Unit)=>[.z ((CQ W) l),.v ((eT D.int) m),.v (D.bl o),.v (D.int s.1),.v (D.int s.2),.v ((eT D.int) C),.v (D.int E)])) (K9 (Tn uC wK (qj JB (AT rfl) (AT rfl)) (AT rfl))) (DP (ba (Sj (AT rfl) (AT rfl)))) (HH (.refl _))) (λ_=>(.same (.same (.same (.same (.same (.same (.drop .nil))))))))))) (λ_=>(.same (.same (.same (.drop (.drop (.drop (.same .nil))))))))))))) (λ_=>(DP bd)))
noncomputable def Je(l:(Nat×List ZPi))(m:ZLi):Option (Fw (Option ZPi) Unit):=
 (Jf l m true).bind λo=>some (.rt o)
noncomputable def Jg(l:(Nat×List ZPi))(m:ZLi):Option (Option ZPi):=Fi (Je l m)
theorem Wy(W:Wd)(l:(Nat×List ZPi))(m:ZLi):VF (Mx W) [.z ((CQ W) l),.v ((eT D.int) m)] (rV (eO (eP D.int D.int))) (Jg l m):=by
 refine EF (n:=2) (b:=M4 W) (p:=Je l m) (B:=λ_=>[]) ?_;show VS [.z ((CQ W) l),.v ((eT D.int) m)] _ _ _ _;unfold M4 Je;exact(DP (Bb (GP (Bj rfl) (C2 (AT rfl) (C2 (Cv rfl) Bk))) (λo=>Pt W o.1 o.2.1 o.2.2.1) (λ_=>rfl) Dh))
noncomputable def Kn(l:(Nat×List ZPi))(m:ZLi):Option (Fw (Option ZPi) Unit):=
 (Jf l m false).bind λo=>some (.rt o)
noncomputable def Ni(l:(Nat×List ZPi))(m:ZLi):Option (Option ZPi):=Fi (Kn l m)
theorem YL(W:Wd)(l:(Nat×List ZPi))(m:ZLi):VF (Nx W) [.z ((CQ W) l),.v ((eT D.int) m)] (rV (eO (eP D.int D.int))) (Ni l m):=by
 refine EF (n:=2) (b:=N3 W) (p:=Kn l m) (B:=λ_=>[]) ?_;show VS [.z ((CQ W) l),.v ((eT D.int) m)] _ _ _ _;unfold N3 Kn;exact(DP (Bb (GP (Bj rfl) (C2 (AT rfl) (C2 (Cv rfl) Bk))) (λo=>Pt W o.1 o.2.1 o.2.2.1) (λ_=>rfl) Dh))
noncomputable def OE(m:(Nat×List ZPi))(l:ZLi):Option (Fw Bool Unit):=
 (if (decide ((0:Int) < (l.length:Int)))=true then(Ni m l).bind λo=>some o.isNone else some false).bind λs=>some (.rt s)
noncomputable def RB(l:(Nat×List ZPi))(m:ZLi):Option Bool:=Fi (OE l m)
theorem dU(W:Wd)(m:(Nat×List ZPi))(o:ZLi):VF (Jo W) [.z ((CQ W) m),.v ((eT D.int) o)] (rV D.bl) (RB m o):=by
 refine EF (n:=2) (b:=RV W) (p:=OE m o) (B:=λ_=>[]) ?_;show VS [.z ((CQ W) m),.v ((eT D.int) o)] _ _ _ _;unfold RV OE;exact(DP (lV (bg (Wv (AT rfl)) (Cv rfl)) (Zr cJ (Bb (GP (Bj rfl) (C2 (AT rfl) Bk)) (λl=>YL W l.1 l.2.1) (λ_=>rfl) Dh))))
structure Fp where
 ev:List ZLi
 kd:Str
 tk:List ZLi
 nu:List (ZLi×Int)
 hv:ZLi
 pb:ZLi
noncomputable abbrev fdF(a b c h k m:Nat)(kd:Str):List (Str×D):=[("everything",.ref a),("kind",.str kd),("takes",.ref b),("numbers",.ref c),("having",.ref h),("place_bits",.ref k),("known",.ref m)]
noncomputable def ZO(W:Wd)(f:Fp)(L:Nat->Option Ob)(q m:Nat):Prop:=∃a b c h k,L q=some (.ins W.Field (fdF a b c h k m f.kd))/\L a=some (oL (eT D.int) f.ev)/\L b=some (oL (eT D.int) f.tk)/\L c=some (oDR D.int f.nu)/\L h=some (oL D.int f.hv)/\L k=some (oL D.int f.pb)
noncomputable def Im(W:Wd)(f:Fp)(L:Nat->Option Ob)(d:D):Prop:=∃q m,d=.ref q/\ZO W f L q m
section
variable{W:Wd}{f:Fp}{P P':Pq}{C:Ab}{x:Str}{d:D}{o:Ob}
theorem AtO.of(h:∀L d,P L d->P' L d)(z:AtO P' C x o):AtO P C x o:=λL d q=>z L d (h L d q)
theorem AtN.of(h:∀L d,P L d->P' L d)(z:AtN P' C x):AtN P C x:=λL d q=>z L d (h L d q)
theorem oF:AtV (Im W f) W.Field "kind" (D.str f.kd):=λL d ⟨q,m,e,a,b,c,h,k,g,_⟩=>⟨q,_,e,g,rfl⟩
theorem Ix:AtO (Im W f) W.Field "everything" (oL (eT D.int) f.ev):=λL d ⟨q,m,e,a,b,c,h,k,g,l,_⟩=>⟨q,_,a,e,g,rfl,l⟩
theorem Uu:AtO (Im W f) W.Field "takes" (oL (eT D.int) f.tk):=λL d ⟨q,m,e,a,b,c,h,k,g,s,l,_⟩=>⟨q,_,b,e,g,rfl,l⟩
theorem ap:AtO (Im W f) W.Field "numbers" (oDR D.int f.nu):=λL d ⟨q,m,e,a,b,c,h,k,g,s,A,l,_⟩=>⟨q,_,c,e,g,rfl,l⟩
theorem fI:AtO (Im W f) W.Field "having" (oL D.int f.hv):=λL d ⟨q,m,e,a,b,c,h,k,g,s,A,B,l,_⟩=>⟨q,_,h,e,g,rfl,l⟩
theorem Vv:AtO (Im W f) W.Field "place_bits" (oL D.int f.pb):=λL d ⟨q,m,e,a,b,c,h,k,g,s,A,B,E,l⟩=>⟨q,_,k,e,g,rfl,l⟩
theorem jr(l:∀a b c h k m kd,(fdF a b c h k m kd).lookup x=none):AtN (Im W f) W.Field x:=λL d ⟨q,m,e,a,b,c,h,k,g,_⟩=>⟨q,_,e,g,l ..⟩
end
noncomputable def Iw(m:Fp)(o:Int):Option (Fw ZLi Unit):=
 BM ((atI m.ev o).bind λs=>some (.nx s)) λA=>(((some (m.tk.length:Int)).bind Mg).bind λB=>Fg B (λl=>some (!decide (l∈A))) (λl=>some l)).bind λC=>some (.rt C)
noncomputable def Gs(l:Fp)(m:Int):Option ZLi:=Fi (Iw l m)
theorem Vi(W:Wd)(l:Fp)(m:Int):VF (LQ W) [.q (Im W l),.v (D.int m)] (rN (oL D.int)) (Gs l m):=by
 refine EF (n:=3) (b:=LY W) (p:=Iw l m) (B:=λ_=>[]) ?_;show VS [.q (Im W l),.v (D.int m),.u] _ _ _ _;unfold LY Iw;exact(BF (Dx (JP (G0 Ix rfl) (AT rfl))) (λs=>(Pk (Ey (FL (VI.k (GN (Sk (G0 Uu rfl)))) (λo=>(K9 (be JB (AT rfl) (AT rfl)))) (λo=>(AT rfl)))))))
noncomputable def ET(m:Fp)(J:Int):Option (Fw Int Unit):=
 BM ((atI m.ev J).bind λL=>some (.nx L)) λo=>BM (some (.nx (0:Int))) λN=>BM (EQ o N λ(O:Int) G=>Eg (λs=>s) ((atI m.tk G).bind λP=>EQ P O λ(l:Int) H=>Eg (λA=>A) (if (!decide (H∈o))=true then Eg (λB=>B) (((((Kp o G H).bind λI=>Om I (Be I)).bind λQ=>An m.nu Q).bind λC=>Px (1:Int) C).bind λR=>some (.nx (Cq l R)))else some (.nx l)))) λE=>some (.rt E)
noncomputable def EV(l:Fp)(m:Int):Option Int:=Fi (ET l m)
theorem IK(W:Wd)(l:Fp)(m:Int):VF (Di W) [.q (Im W l),.v (D.int m)] (rV D.int) (EV l m):=by
 refine EF (n:=6) (b:=FV W) (p:=ET l m) (B:=λ_=>[]) ?_;show VS [.q (Im W l),.v (D.int m),.u,.u,.u,.u] _ _ _ _;unfold FV ET;exact(BF (Dx (JP (G0 Ix rfl) (AT rfl))) (λo=>(BF (Dx (Cv rfl)) (λG=>(BF (Dq (s0:=G) (B:=(λ(s:Int)=>[.q (Im W l),.v (D.int m),.v ((eT D.int) o),.v (D.int s),.u,.u])) (MU (AT rfl)) DN (.refl _) (λH E=>(Ct (Dq (s0:=H) (B:=(λ(A:Int)=>[.q (Im W l),.v (D.int m),.v ((eT D.int) o),.v (D.int A),.v (D.int E),.u])) (MU (JP (G0 Uu rfl) (AT rfl))) DN (.refl _) (λI J=>(Ct (HI (B:=(λ(C:Int)=>[.q (Im W l),.v (D.int m),.v ((eT D.int) o),.v (D.int C),.v (D.int E),.v (D.int J)])) (K9 (be JB (AT rfl) (AT rfl))) (Ct (Qp rfl (Qq (Cv rfl) (gv (G0 ap rfl) (OB (Ki (V6 (Bb (C2 (AT rfl) (C2 (AT rfl) (C2 (AT rfl) Bk))) (λϪ=>YJ W Ϫ.1 Ϫ.2.1 Ϫ.2.2.1) (λ_=>rfl) Dh))))))) (λL=>(.refl _))) (HH (.refl _))) (λN=>(.same (.same (.same (.same (.same (.drop .nil)))))))))) (λO=>(.same (.same (.same (.same (.drop (.same .nil)))))))))) (λP=>(DP (AT rfl))))))))
noncomputable def EU(l:Fp)(A:Int):Option (Fw Int Unit):=
 BM ((atI l.ev A).bind λB=>some (.nx B)) λC=>BM (some (.nx (0:Int))) λE=>BM (EQ (DT l.pb) E λ(o:Int) s=>Eg (λG=>G) ((UR l.tk C s.2).bind λH=>if H=true then Eg (λϫ=>ϫ) ((Px (1:Int) s.1).bind λI=>some (.nx (Cq o I)))else some (.nx o))) λm=>some (.rt m)
noncomputable def EX(l:Fp)(m:Int):Option Int:=Fi (EU l m)
theorem IL(W:Wd)(l:Fp)(m:Int):VF (Dj W) [.q (Im W l),.v (D.int m)] (rV D.int) (EX l m):=by
 refine EF (n:=6) (b:=FW W) (p:=EU l m) (B:=λ_=>[]) ?_;show VS [.q (Im W l),.v (D.int m),.u,.u,.u,.u] _ _ _ _;unfold FW EU;exact(BF (Dx (JP (G0 Ix rfl) (AT rfl))) (λA=>(BF (Dx (Cv rfl)) (λE=>(BF (Dq (s0:=E) (B:=(λ(o:Int)=>[.q (Im W l),.v (D.int m),.v ((eT D.int) A),.v (D.int o),.u,.u])) (lO Vv rfl) bV (.refl _) (λI C=>(Ct (HI (B:=(λ(G:Int)=>[.q (Im W l),.v (D.int m),.v ((eT D.int) A),.v (D.int G),.v (D.int C.1),.v (D.int C.2)])) (gz (Bb (GP (G0 Uu rfl) (C2 (AT rfl) (C2 (AT rfl) Bk))) (λs=>qq W s.1 s.2.1 s.2.2.1) (λ_=>rfl) Dh)) (Ct (Qp rfl (Qq (Cv rfl) (AT rfl))) (λϫ=>(.refl _))) (HH (.refl _))) (λJ=>(.same (.same (.same (.same (.drop (.drop .nil)))))))))) (λH=>(DP (AT rfl))))))))
noncomputable def Mm(f:Fp)(n:Int):Option Int:=if decide (f.kd = "one")=true then EV f n else EX f n
noncomputable def FJ(W:Wd)(f:Fp)(L:Nat->Option Ob)(d:D):Prop:=∃q m l,d=.ref q/\ZO W f L q m/\L m=some (.mem l)/\∀n z:Int,0<=n->n < 1000->Mm f n=some z->l (.inl n)=z
section
variable{W:Wd}{f:Fp}{x:Str}{L L':Nat->Option Ob}{qn m:Nat}
theorem FJ.q:∀L d,FJ W f L d->Im W f L d:=λL d ⟨q,m,l,e,h,_⟩=>⟨q,m,e,h⟩
theorem Iy:AtO (FJ W f) W.Field "everything" (oL (eT D.int) f.ev):=AtO.of FJ.q Ix
theorem fJ:AtO (FJ W f) W.Field "having" (oL D.int f.hv):=AtO.of FJ.q fI
theorem jt(l:∀a b c h k m kd,(fdF a b c h k m kd).lookup x=none):AtN (FJ W f) W.Field x:=AtN.of FJ.q (jr l)
theorem ZO.mono(h:∀n o,L n=some o->L' n=some o):ZO W f L qn m->ZO W f L' qn m:=λ⟨a,b,c,d,k,l,s,A,B,C,E⟩=>⟨a,b,c,d,k,h _ _ l,h _ _ s,h _ _ A,h _ _ B,h _ _ C,h _ _ E⟩
end
noncomputable abbrev aV(W:Wd):ME:=Yz (mB (m2 (eqD false) (Cr W.Field "kind" (AD 0)) (mC (.str "one")))) (No W.Field "linked_by_one" 2 (Di W) (AD 0) (AH (AD 1) Ay)) (No W.Field "linked_by_all" 2 (Dj W) (AD 0) (AH (AD 1) Ay))
theorem gq(W:Wd)(f:Fp)(n:Int):VE [.q (Im W f),.v (D.int n)] (aV W) (rV D.int) (Mm f n):=
 Zq (K9 (Tn oS sg (ql oF rfl) (Cv rfl)))
  (Pm (Pf:=Im W) (Pg:=Im W) (jr λ_ _ _ _ _ _ _=>rfl) (λ_ _ h=>h) rfl (C2 (AT rfl) Bk) (λz=>IK W f z.1) (λ_=>rfl) Dh)
  (Pm (Pf:=Im W) (Pg:=Im W) (jr λ_ _ _ _ _ _ _=>rfl) (λ_ _ h=>h) rfl (C2 (AT rfl) Bk) (λz=>IL W f z.1) (λ_=>rfl) Dh) Dh
noncomputable def F9(f:Fp)(n:Int):Option Int:=if 0<=n/\n < 1000 then Mm f n else none
theorem bo{o s:Type}[DecidableEq o]{l:List (o×s)}{k:o}{v:s}(h:An l k=some v):(k,v)∈l:=by
 unfold An at h
 cases m:l.find? λA=>decide (A.1=k)with
 | none=>rw[m]at h;cases h
 | some x=>
  rw[m]at h;cases h
  have B:x.1=k:=by have:=VV m;exact of_decide_eq_true this
  subst B;exact Lb m
theorem aX{W:Wd}{f:Fp}{n z:Int}{S:Sto}{q m:Nat}{lk:Key->Int}(hn0:0<=n)(hn1:n < 1000)(hz:Mm f n=some z)(hl:lk (.inl n)=z)(hC:ZO W f (λk=>S[k]?) q m)(hm:S[m]?=some (.mem lk)):qE (JT W) [.ref q,.int n] S m lk z:=by
 intro f' hk;obtain⟨a,b,c,h,k,g0,g1,g2,g3,g4,g5⟩:=hC
 have ne:∀j o,S[j]?=some o->o≠Ob.mem lk->j≠m:=λj o h1 h2 e=>by
  subst e;rw[hm]at h1;cases h1;exact h2 rfl
 have Χ:(S.set m (.dK f'))[m]?=some (.dK f'):=As (Bf hm)
 have Ϭ:∀j o,S[j]?=some o->o≠Ob.mem lk->(S.set m (.dK f'))[j]?=some o:=λj o h1 h2=>by rw[Ae (Ck (ne j o h1 h2))];exact h1
 have zU:=Ϭ q _ g0 (λz=>nomatch z);have C1:ZO W f (λk=>(S.set m (.dK f'))[k]?) q m:=⟨a,b,c,h,k,zU,Ϭ a _ g1 (λz=>nomatch z),Ϭ b _ g2 (λz=>nomatch z),Ϭ c _ g3 (λz=>nomatch z),Ϭ h _ g4 (λz=>nomatch z),Ϭ k _ g5 (λz=>nomatch z)⟩
 have st:∀j,j < S.length->j≠m->(S.set m (.dK f'))[j]?=S[j]?:=λj _ hj=>Ae (Ck hj)
 generalize hS1:S.set m (.dK f')=S1 at Χ zU C1 st
 have fk:∀S2:Sto,S2[q]?=some (.ins W.Field (fdF a b c h k m f.kd))->Cr W.Field "known" (AD 0) [sR q,sI n] S2=.ok (.ref m) S2:=λS2 h2=>KG (n:=q) (by rfl) h2 rfl
 have sq:∀(S2:Sto) l,S2[m]?=some (.dK l)->HQ (.ref m) S2=none:=λS2 l h2=>by unfold HQ;dsimp only;rw[h2];try rfl
 have dg:∀(S2:Sto) l,S2[m]?=some (.dK l)->OU (.ref m) (.int n) S2=some (An l (.inl n)):=λS2 l h2=>by unfold OU;dsimp only;rw[h2];try rfl
 have yA:mB (m2 (inA true) (AD 1) (Cr W.Field "known" (AD 0))) [sR q,sI n] S1=.ok (!(An f' (.inl n)).isSome) S1:=
  SZ (Dz (x:=.int n) (S1:=S1) (by rfl) (fk S1 zU) (ax (sq S1 f' Χ) (dg S1 f' Χ) true))
 cases hv:An f' (.inl n)with
 | some d=>
  have hd:d=.int z:=by rw[<-hl];exact(hk.2 _ (bo hv)).2
  subst hd;rw[hv]at yA;refine⟨S1,f',?_,Χ,hk,st⟩;refine _root_.M.HU ?_;unfold KS;refine Ip (Bp (e1:=[sR q,sI n]) (S1:=S1) (Ip (Ge yA) rfl)) ?_;exact LG (Dz (fk S1 zU) (y:=.int n) (by rfl) (RQ (sq S1 f' Χ) (by rw[dg S1 f' Χ,hv])))
 | none=>
  rw[hv]at yA;have hQ:NH S1 [.q (Im W f),.v (D.int n)] [.ref q,.int n]:=⟨λL hL=>⟨q,m,rfl,C1.mono hL⟩,rfl,trivial⟩;obtain⟨d,S2,hE,kS,rfl⟩:=gq W f n z hz S1 _ _ S1 (Vs.start (n:=2) hQ);have xy:=kS.at Χ;have hq2:=kS.at zU
  have hlen:f'.length < sizeLine:=by
   have h1:=Gh hk.1 (k:=XR) λx hx=>by
    obtain⟨y,hy,rfl⟩:=Ai.mp hx;exact(hk.2 y hy).1
   rw[AC]at h1
   have h2:XR.length=1000:=by unfold XR;rw[AC,D8]
   rw[h2]at h1;exact eh (Aq h1 (by decide))
  have nk:EA n∉f'.map (·.1):=λhx=>by
   have:=(DC f' (.inl n)).mpr hx;rw[hv]at this;cases this
  have pe:CJ f' (.inl n) (D.int z)=f'++[(.inl n,D.int z)]:=by
   unfold CJ;rw[qY];intro c;obtain⟨y,hy,h2⟩:=FC.mp c;exact nk (Ai.mpr ⟨y,hy,of_decide_eq_true h2⟩)
  have hk2:o0 lk (f'++[(.inl n,D.int z)]):=by
   refine⟨?_,λx hx=>?_⟩
   ·rw[Ba]
    exact Dd.mpr ⟨hk.1,(Bu.mpr ⟨Cw,EZ⟩),λx hx y hy=>by
     rw[AG.mp hy];intro e;subst e
     exact nk hx⟩
   ·rcases Ag.mp hx with h1 | h1
    ·exact hk.2 x h1
    ·rw[AG.mp h1]
     refine⟨?_,by rw[hl]⟩;unfold XR;exact Ai.mpr ⟨n.toNat,Ea.mpr (by lia),by show EA ((n.toNat:Nat):Int)=_;rw[Ax hn0]⟩
  have zw:DE (Cr W.Field "known" (AD 0)) (AD 1) (aV W) [sR q,sI n] S1=oN [sR q,sI n] (S2.set m (.dK (f'++[(.inl n,D.int z)]))):=by
   unfold DE;rw[show aV W [sR q,sI n] S1=.ok (.int z) S2 from hE];dsimp only[Res.lift];rw[fk S2 hq2];dsimp only;rw[show AD 1 [sR q,sI n] S2=.ok (.int n) S2 from rfl];dsimp only
   rw[show SW (.ref m) (.int n) (.int z) S2=some (S2.set m (.dK (f'++[(.inl n,D.int z)]))) by
    unfold SW;dsimp only;rw[xy];show(if f'.length < sizeLine then some (S2.set m (.dK (CJ f' (EA n) (D.int z))))else none)=_
    rw[qX hlen,pe]]
  have hm3:(S2.set m (.dK (f'++[(.inl n,D.int z)])))[m]?=some (.dK (f'++[(.inl n,D.int z)])):=As (Bf xy)
  have ϓ:(S2.set m (.dK (f'++[(.inl n,D.int z)])))[q]?=some (.ins W.Field (fdF a b c h k m f.kd)):=by
   rw[Ae]
   ·exact hq2
   ·intro e
    subst e;rw[Χ]at zU;cases zU
  have A':∀j,j < S.length->j≠m->(S2.set m (.dK (f'++[(.inl n,D.int z)])))[j]?=S[j]?:=λj hj yn=>by
   rw[Ae (Ck yn),kS.2 j (by rw[<-hS1,EB];exact hj)];exact st j hj yn
  refine⟨_,f'++[(.inl n,D.int z)],?_,hm3,hk2,A'⟩;refine HU ?_;unfold KS;refine Ip (Bp (e1:=[sR q,sI n]) (Ip (Ge yA) zw)) ?_;refine LG (Dz (fk _ ϓ) (y:=.int n) (by rfl) (RQ (sq _ _ hm3) ?_));rw[dg _ _ hm3,<-pe,DD,qX rfl]
theorem Tv(W:Wd)(f:Fp)(n:Int):VF (Hw W) [.q (FJ W f),.v (D.int n)] (rV D.int) (F9 f n):=λz l S E G=>by
 match E,G with
 | [d,x],⟨H,I,_⟩=>
  cases I
  obtain⟨q,m,O,rfl,B,C,A⟩:=H (λk=>S[k]?) λ_ _ h=>h
  unfold F9 at l;split at l
  ·rename_i s
   have o:=aX s.1 s.2 l (A n z s.1 s.2 l) B C;refine⟨.int z,S,?_,Keeps.refl S,rfl⟩;unfold Hw oy
   rw[show WL "known" [.ref q,.int n] S=some m by
    obtain⟨a,b,c,h,k,J,_⟩:=B;unfold WL;dsimp only;rw[show S[q]?=_ from J]
    rfl]
   dsimp only;rw[show S[m]?=_ from C];dsimp only;obtain⟨P,Q,L,_⟩:=o [] ⟨EZ,λ_ N=>nomatch N⟩;rw[L];dsimp only;rw[qX o]
  ·cases l
noncomputable def nuS(l:List (ZLi×Int))(x:Int×ZLi):List (ZLi×Int):=CJ l x.2 x.1
noncomputable def hvP(k:Int)(h:ZLi)(p:Int):ZLi:=h.set p.toNat (Cq (h.getD p.toNat 0) (1 * 2 ^ k.toNat))
noncomputable def hvS(h:ZLi)(x:Int×ZLi):ZLi:=x.2.foldl (hvP x.1) h
noncomputable def nuF(ev:List ZLi):List (ZLi×Int):=(DT ev).foldl nuS []
noncomputable def hv0(n:Nat):ZLi:=(DQ 0 n).map λ_=>0
noncomputable def hvF(n:Nat)(ev:List ZLi):ZLi:=(DT ev).foldl hvS (hv0 n)
noncomputable def Mn(w:Nat×List ZPi)(g:Int)(kd:Str):Option Fp:=
 (Fv w g).bind λl=>(Ml w).bind λm=>(Fg l (λ_=>some true) G9).bind λo=>
  if l.length<=1000/\w.1<=1000/\∀r∈l,∀x∈r,0<=x/\x < (w.1:Int)then some ⟨l,kd,m,nuF l,hvF w.1 l,o⟩else none
structure Fc(W:Wd)(S1:Sto)(fs:List (Str×D))(T:Sto):Prop where
 kp:Keeps S1 T
 at':T[S1.length]?=some (.ins W.Field fs)
section
variable{W:Wd}{S1 T T':Sto}{fs:List (Str×D)}{x:Str}{d:D}{e:Lo}{m:ME}{j:Nat}{o:Ob}
theorem Fc.put(h:Fc W S1 fs T)(k:Keeps T T'):Fc W S1 (Kf x d fs) (T'.set S1.length (.ins W.Field (Kf x d fs))):=⟨(h.kp.trans k).set (AM _) _,As (Bf (k.at h.at'))⟩
theorem Fc.set(h:Fc W S1 fs T)(l:S1.length < j):Fc W S1 fs (T.set j o):=⟨h.kp.set (Kd l) _,by rw[Ae (FS l)];exact h.at'⟩
theorem Fc.step(h:Fc W S1 fs T)(l:e[0]?=some (some (.ref S1.length)))(s:m e T=.ok d T')(k:Keeps T T')(A:fs.length < 1000):Kk W.Field x (AD 0) m e T=.ok (.nx e) (T'.set S1.length (.ins W.Field (Kf x d fs))):=Sn s (LA l) (k.at h.at') A
theorem Fd(h:T[j]?=some o)(l:q < j):(T.set q o')[j]?=some o:=by rw[Ae (BK l)];exact h
theorem Vs.all(h:∀(i:Nat) (a:Sl),A[i]?=some a->∃x,e[i]?=some x/\a.ok T (L8 T) T x):Vs T A e (L8 T) T:=by
 refine⟨Keeps.refl T,λn o q=>?_,λn i q=>?_,λn l=>by unfold L8;rw[Bs l],h⟩
 ·unfold L8 at q
  split at q
  ·rename_i B s;cases q;exact s
  ·cases q
 ·unfold L8 at q
  split at q <;> cases q
theorem bG(h:T[j]?=some o):L8 T j=.fz o:=by unfold L8;rw[h]
theorem oj(ho:mo e T=.ok (.ref n) T)(hi:mi e T=.ok (.int p) T)(A:mv e T=.ok (.int y) T)(B:T[n]?=some (.lst xs))(C:0<=p)(l:xs[p.toNat]?=some (.int z)):Yd g mo mi mv e T=.ok (.nx e) (T.set n (.lst (xs.set p.toNat (.int (g z y))))):=by
 have s:atL (.ref n) T=some (n,xs):=by unfold atL;dsimp only;rw[B]
 unfold Yd;rw[ho];dsimp only[Res.lift];rw[hi];dsimp only;rw[s];dsimp only;rw[qX C,l];dsimp only;rw[A];dsimp only;rw[s];dsimp only;rw[qX (AE.mp l).1]
end
theorem XW(k:Int):∀(r h:ZLi),(r.foldl (hvP k) h).length=h.length
 | [],h=>rfl
 | p :: r,h=>by
  show(r.foldl (hvP k) (hvP k h p)).length=_;rw[XW k r];exact EB
theorem jg:∀(l:List (Int×ZLi)) (h:ZLi),(l.foldl hvS h).length=h.length
 | [],h=>rfl
 | x :: l,h=>by
  show(l.foldl hvS (hvS h x)).length=_;rw[jg l];exact XW _ _ _
theorem jB:∀(l:List (Int×ZLi)) (h:List (ZLi×Int)),(l.foldl nuS h).length<=h.length+l.length
 | [],h=>AM _
 | x :: l,h=>by
  have m:=jB l (nuS h x)
  have o:(nuS h x).length<=h.length+1:=by
   unfold nuS CJ;split
   ·rw[AC];exact MB _
   ·rw[AQ];exact AM _
  show(l.foldl nuS (nuS h x)).length<=_;rw[BC]
  lia
theorem fO(ev:List l)(i:Nat):(DT ev)[i]?=(ev[i]?).map λr=>((i:Int),r):=by
 unfold DT;rw[Ad,JX]
 cases ev[i]? <;> simp
noncomputable abbrev eF7(q wn:Nat)(g:Int)(kd:Str)(a b c:Option D):Lo:=[sR q,sR wn,sI g,some (.str kd),a,b,c]
noncomputable abbrev nlA(W:Wd):MS:=Yd (λa b=>Cq a b) (Cr W.Field "having" (AD 0)) (AD 6) (m2 R7 (mC (.int 1)) (AD 4))
noncomputable abbrev nlB(W:Wd):MS:=BH (DE (Cr W.Field "numbers" (AD 0)) (AD 5) (AD 4)) (Ee (EI (AD 5)) (tgN 6) (nlA W))
noncomputable abbrev nlG:MG:=Gq 2 (CO (tgN 4) (CO (tgN 5) G7))
noncomputable abbrev eF8(q wn:Nat)(g:Int)(kd:Str)(i:Nat)(r:ZLi)(z:Option D):Lo:=eF7 q wn g kd (some (.int (i:Int))) (some (eT D.int r)) z
theorem Yt(W:Wd)(hF:Fc W S1 fs T)(fa:fs.lookup ("everything" : Str)=some (.ref a)) (fc:fs.lookup ("numbers" : Str)=some (.ref c)) (fh:fs.lookup ("having" : Str)=some (.ref h)) (ha:S1.length < a) (hac:a < c) (zA:c < h) (Ta:T[a]?=some (oL (eT D.int) ev)) (Tc:T[c]?=some (oDR D.int ([]:List (ZLi×Int)))) (Th:T[h]?=some (oL D.int (hv0 n))) (hev:ev.length<=1000) (hr:∀r∈ev,∀x∈r,0<=x/\x < (n:Int)) :
  ∃s e5 l B,Ee (Hm (Cr W.Field "everything" (AD 0))) nlG (nlB W) (eF7 S1.length wn g kd none none none) T=.ok (.nx (eF7 S1.length wn g kd s e5 l)) B /\
   Fc W S1 fs B/\B[c]?=some (oDR D.int (nuF ev))/\B[h]?=some (oL D.int (hvF n ev))/\∀j,j≠c->j≠h->B[j]?=T[j]?:=by
 have hi:Hm (Cr W.Field "everything" (AD 0)) (eF7 S1.length wn g kd none none none) T=.ok (NC (Ec (.ref a))) T:=by
  unfold Hm;rw[KG (C:=W.Field) (f:="everything") (m:=AD 0) (n:=S1.length) (by rfl) hF.at' fa];dsimp only[Res.bind];rw[Dr Ta]
 have E:(hv0 n).length=n:=by unfold hv0;rw[AC,Br]
 obtain⟨f,B,J,L⟩:=KF (v:=NC (Ec (.ref a))) (g:=nlG) (b:=nlB W) (xs:=(DT ev).map (eP D.int (eT D.int))) (e:=eF7 S1.length wn g kd none none none) (S:=T)
  (λi e S=>(∃s e5 l,e=eF7 S1.length wn g kd s e5 l)/\Fc W S1 fs S/\S[c]?=some (oDR D.int (((DT ev).take i).foldl nuS []))/\S[h]?=some (oL D.int (((DT ev).take i).foldl hvS (hv0 n)))/\∀j,j≠c->j≠h->S[j]?=T[j]?)
  (λf S=>∃s e5 l,f=.nx (eF7 S1.length wn g kd s e5 l)/\Fc W S1 fs S/\S[c]?=some (oDR D.int (nuF ev))/\S[h]?=some (oL D.int (hvF n ev))/\∀j,j≠c->j≠h->S[j]?=T[j]?)
  ⟨⟨_,_,_,rfl⟩,hF,Tc,Th,λ_ _ _=>rfl⟩
  (λi e S N=>by
   obtain⟨_,_,_,_,h5⟩:=N;unfold NC;rw[Dr (xs:=ev.map (eT D.int)) (show S[a]?=_ from(h5 a (by lia) (by lia)).trans Ta)]
   exact congrArg some (RP ev))
  (λi d e S hd N=>by
   obtain⟨⟨s,e5,l,rfl⟩,X,O,Y,So⟩:=N;rw[Ad]at hd;obtain⟨⟨k,r⟩,hx,rfl⟩:=Hz.mp hd;have Ρ:=hx;rw[fO]at Ρ;obtain⟨r0,zZ,hr2⟩:=Hz.mp Ρ;cases hr2;have hrm:r∈ev:=Al zZ;have zR:i < ev.length:=(AE.mp zZ).1
   have tk:(DT ev).take (i+1)=(DT ev).take i++[((i:Int),r)]:=by
    rw[Lm,hx];rfl
   refine⟨eF8 S1.length wn g kd i r l,S,rfl,?_⟩
   have P:DE (Cr W.Field "numbers" (AD 0)) (AD 5) (AD 4) (eF8 S1.length wn g kd i r l) S=.ok (.nx (eF8 S1.length wn g kd i r l)) (S.set c (oDR D.int (CJ (((DT ev).take i).foldl nuS []) r (i:Int)))):=by
    unfold DE;rw[show AD 4 (eF8 S1.length wn g kd i r l) S=.ok (.int (i:Int)) S from rfl];dsimp only[Res.lift];rw[KG (C:=W.Field) (f:="numbers") (m:=AD 0) (n:=S1.length) (by rfl) X.at' fc];dsimp only;rw[show AD 5 (eF8 S1.length wn g kd i r l) S=.ok (eT D.int r) S from rfl];dsimp only
    rw[kC (enc:=D.int) _ r (i:Int) S c O (by
     have:=jB ((DT ev).take i) [];rw[Dt]at this;show(((DT ev).take i).foldl nuS []).length < _;have h0:([]:List (ZLi×Int)).length=0:=rfl
     lia)]
   have Δ:Fc W S1 fs (S.set c (oDR D.int (CJ (((DT ev).take i).foldl nuS []) r (i:Int)))):=X.set (by lia);have G:(S.set c (oDR D.int (CJ (((DT ev).take i).foldl nuS []) r (i:Int))))[h]?=some (oL D.int (((DT ev).take i).foldl hvS (hv0 n))):=Fd Y zA;have Q:(S.set c (oDR D.int (CJ (((DT ev).take i).foldl nuS []) r (i:Int))))[c]?=some (oDR D.int (CJ (((DT ev).take i).foldl nuS []) r (i:Int))):=As (Bf O)
   have R:∀j,j≠c->j≠h->(S.set c (oDR D.int (CJ (((DT ev).take i).foldl nuS []) r (i:Int))))[j]?=T[j]?:=λj J L=>by rw[Ae (Ck J)];exact So j J L
   generalize S.set c (oDR D.int (CJ (((DT ev).take i).foldl nuS []) r (i:Int)))=Z at P Δ G Q R;generalize hH:((DT ev).take i).foldl hvS (hv0 n)=H at G
   have hHl:H.length=n:=by rw[<-hH,jg,E]
   obtain⟨f,S3,q1,q2⟩:=KF (v:=Ec (eT D.int r)) (g:=tgN 6) (b:=nlA W) (xs:=r.map D.int) (e:=eF8 S1.length wn g kd i r l) (S:=Z)
    (λj e S=>(∃z,e=eF8 S1.length wn g kd i r z)/\Fc W S1 fs S/\S[h]?=some (oL D.int ((r.take j).foldl (hvP (i:Int)) H))/\∀j,j≠h->S[j]?=Z[j]?)
    (λf S=>∃z,f=.nx (eF8 S1.length wn g kd i r z)/\Fc W S1 fs S/\S[h]?=some (oL D.int (r.foldl (hvP (i:Int)) H))/\∀j,j≠h->S[j]?=Z[j]?)
    ⟨⟨_,rfl⟩,Δ,G,λ_ _=>rfl⟩ (λ_ _ _ _=>rfl)
    (λj d e S hd hJ=>by
     obtain⟨⟨z,rfl⟩,A,o,I⟩:=hJ;rw[Ad]at hd;obtain⟨p,P,rfl⟩:=Hz.mp hd;have hpr:=hr r hrm p (Al P);refine⟨eF8 S1.length wn g kd i r (some (.int p)),S,rfl,?_⟩
     have hlp:p.toNat < ((r.take j).foldl (hvP (i:Int)) H).length:=by rw[XW,hHl];lia
     have hsh:m2 R7 (mC (.int 1)) (AD 4) (eF8 S1.length wn g kd i r (some (.int p))) S=.ok (.int (1 * 2 ^ (i:Int).toNat)) S:=by
      refine Dz (x:=.int 1) (y:=.int (i:Int)) rfl rfl ?_;unfold R7 L2.intOp;dsimp only;rw[qX (show ka 1 (i:Int)from⟨by lia,by lia,by decide⟩)]
     have ha:=oj (g:=λa b=>Cq a b) (mo:=Cr W.Field "having" (AD 0)) (mi:=AD 6) (p:=p) (z:=((r.take j).foldl (hvP (i:Int)) H).getD p.toNat 0) (KG (C:=W.Field) (f:="having") (m:=AD 0) (n:=S1.length) (e:=eF8 S1.length wn g kd i r (some (.int p))) (by rfl) A.at' fh) (by rfl) hsh o hpr.1 (by
      rw[Ad,BI,AO hlp]
      rfl)
     refine⟨_,_,ha,⟨_,rfl⟩,A.set (by lia),?_,λk hk=>by rw[Ae (Ck hk)];exact I k hk⟩;rw[As (Bf o),Lm,P];show some (Ob.lst _)=some (Ob.lst _);rw[show(some p).toList=[p]from rfl,IG,List.foldl_cons,V3];unfold hvP
     rw[List.map_set])
    (λe S hJ=>by
     obtain⟨⟨z,rfl⟩,A,o,I⟩:=hJ;rw[AC,Gk]at o
     exact⟨z,rfl,A,o,I⟩)
   obtain⟨z,rfl,hS4,Sh4,U⟩:=q2;refine⟨_,S3,(Bp P).trans (Ip (Ho (v:=Ec (eT D.int r)) (S1:=Z) (by rfl)) q1),⟨_,_,_,rfl⟩,hS4,?_,?_,λj J L=>(U j L).trans (R j J L)⟩
   ·rw[U c (by lia),Q,tk,IG]
    rfl
   ·rw[Sh4,tk,IG,hH]
    rfl)
  (λe S N=>by
   obtain⟨⟨s,e5,l,rfl⟩,X,O,Y,So⟩:=N;rw[AC,Gk]at O Y
   exact⟨s,e5,l,rfl,X,O,Y,So⟩)
 obtain⟨s,e5,l,rfl,h3⟩:=L;exact⟨s,e5,l,B,(Ho hi).trans J,h3⟩
noncomputable abbrev y1(a:Nat):List (Str×D):=Kf "everything" (.ref a) []
noncomputable abbrev y2(a:Nat)(kd:Str):List (Str×D):=Kf "kind" (.str kd) (y1 a)
noncomputable abbrev y3(a:Nat)(kd:Str)(b:Nat):List (Str×D):=Kf "takes" (.ref b) (y2 a kd)
noncomputable abbrev y4(a:Nat)(kd:Str)(b c:Nat):List (Str×D):=Kf "numbers" (.ref c) (y3 a kd b)
noncomputable abbrev y5(a:Nat)(kd:Str)(b c h:Nat):List (Str×D):=Kf "having" (.ref h) (y4 a kd b c)
noncomputable abbrev y6(a:Nat)(kd:Str)(b c h k:Nat):List (Str×D):=Kf "place_bits" (.ref k) (y5 a kd b c h)
noncomputable abbrev y7(a:Nat)(kd:Str)(b c h k m:Nat):List (Str×D):=Kf "known" (.ref m) (y6 a kd b c h k)
noncomputable abbrev eF9(S1:Sto)(wn:Nat)(g:Int)(kd:Str):Lo:=eF7 S1.length wn g kd none none none
theorem jx(W:Wd)(E:Mn w g kd=some f)(hw:S1[wn]?=some (CQ W w)) :
  ∃S,GY W [.ref S1.length,.ref wn,.int g,.str kd] (S1++[.ins W.Field []])=.ok .non S/\Keeps S1 S/\∀L:Nat->Option Ob,(∀n o,S1.length<=n->S[n]?=some o->L n=some o)->FJ W f L (.ref S1.length):=by
 unfold Mn at E;obtain⟨B,hev,E⟩:=BA E;obtain⟨T,htk,E⟩:=BA E;obtain⟨pb,hpb,E⟩:=BA E;split at E
 case isFalse=>cases E
 rename_i hg;obtain⟨hg1,Τ,hg3⟩:=hg;cases E;have F0:Fc W S1 [] (S1++[.ins W.Field []]):=⟨Keeps.app _ _,DR _ _⟩
 have l0:(S1++[Ob.ins W.Field []]).length=S1.length+1:=by rw[AQ];rfl
 generalize S1++[Ob.ins W.Field []]=T0 at F0 l0;obtain⟨d,U1,c1,k1,a,rfl,ha,hA⟩:=YK W w g B hev T0 [.ref wn,.int g] ⟨⟨wn,rfl,F0.kp.at hw⟩,rfl,trivial⟩;have m1:BX 2 (Kq W) (AH (AD 1) (AH (AD 2) Ay)) (eF9 S1 wn g kd) T0=.ok (.ref a) U1:=(Ga (ds:=[.ref wn,.int g]) (S1:=T0) rfl rfl).trans c1;have s1:=F0.step (x:="everything") (e:=eF9 S1 wn g kd) rfl m1 k1 (by decide);have F1:=F0.put (x:="everything") (d:=.ref a) k1
 have J:S1.length < a:=by lia
 have A1:(U1.set S1.length (.ins W.Field (y1 a)))[a]?=some (oL (eT D.int) B):=Fd hA J;generalize U1.set S1.length (.ins W.Field (y1 a))=T1 at s1 F1 A1;have s2:=F1.step (x:="kind") (m:=AD 3) (e:=eF9 S1 wn g kd) (d:=.str kd) rfl rfl (Keeps.refl T1) (Aq (AM 1) (by decide));have F2:=F1.put (x:="kind") (d:=.str kd) (Keeps.refl T1);have A2:(T1.set S1.length (.ins W.Field (y2 a kd)))[a]?=some (oL (eT D.int) B):=Fd A1 J;generalize T1.set S1.length (.ins W.Field (y2 a kd))=T2 at s2 F2 A2;obtain⟨d,U3,c3,k3,b,rfl,hb,hB⟩:=Zs W w T htk T2 [.ref wn] ⟨⟨wn,rfl,F2.kp.at hw⟩,trivial⟩;have ab:a < b:=AX (Bf A2) hb;have m3:BX 1 (Mw W) (AH (AD 1) Ay) (eF9 S1 wn g kd) T2=.ok (.ref b) U3:=(Ga (ds:=[.ref wn]) (S1:=T2) rfl rfl).trans c3;have s3:=F2.step (x:="takes") (e:=eF9 S1 wn g kd) rfl m3 k3 (Aq (AM 2) (by decide));have F3:=F2.put (x:="takes") (d:=.ref b) k3;have A3:(U3.set S1.length (.ins W.Field (y3 a kd b)))[a]?=some (oL (eT D.int) B):=Fd (k3.at A2) J;have B3:(U3.set S1.length (.ins W.Field (y3 a kd b)))[b]?=some (oL (eT D.int) T):=Fd hB (by lia);generalize U3.set S1.length (.ins W.Field (y3 a kd b))=G at s3 F3 A3 B3;have bc:b < G.length:=Bf B3;have m4:RI (eF9 S1 wn g kd) G=.ok (.ref G.length) (G++[oDR D.int ([]:List (ZLi×Int))]):=rfl;have U:=Keeps.app G [oDR D.int ([]:List (ZLi×Int))];have s4:=F3.step (x:="numbers") (e:=eF9 S1 wn g kd) rfl m4 U (Aq (AM 3) (by decide));have P:=F3.put (x:="numbers") (d:=.ref G.length) U;have C3:(G++[oDR D.int ([]:List (ZLi×Int))])[G.length]?=some (oDR D.int ([]:List (ZLi×Int))):=DR _ _;generalize hc:G.length=c at bc s4 P C3;generalize G++[oDR D.int ([]:List (ZLi×Int))]=U4 at U s4 P C3;have A4:=Fd (o':=.ins W.Field (y4 a kd b c)) (U.at A3) J;have B4:=Fd (o':=.ins W.Field (y4 a kd b c)) (U.at B3) (show S1.length < b by lia);have C4:=Fd (o':=.ins W.Field (y4 a kd b c)) C3 (show S1.length < c by lia);generalize U4.set S1.length (.ins W.Field (y4 a kd b c))=T4 at s4 P A4 B4 C4
 have v5:((((some w).bind λx2=>some (x2.1:Int)).bind Mg).bind λl=>Fg l (λ_=>some true) (λ_=>some (0:Int)))=some (hv0 w.1):=by
  show((Mg (w.1:Int)).bind λl=>Fg l (λ_=>some true) (λ_=>some (0:Int)))=_;rw[Kl (by lia) (by lia)];show Fg (DQ 0 (w.1:Int).toNat) _ _=_;rw[At,GZ (f:=λ_=>(0:Int)) (by rw[Br];lia) λ_ _=>rfl];rfl
 obtain⟨d,U5,m5,X,h,rfl,hh,hH⟩:=(Ey (FL (VI.k (GN (DZ (Bj (A:=[.u,.z (CQ W w),.u,.u,.u,.u,.u]) (i:=1) rfl)))) (λ_=>Ja) (λ_=>Cv (enc:=D.int) (v:=0) (d:=.int 0) rfl))) _ v5 T4 (eF9 S1 wn g kd) _ T4 (Vs.all λi x s=>by
  match i,s with
  | 0,s=>cases s;exact⟨_,rfl,trivial⟩
  | 1,s=>cases s;exact⟨_,rfl,wn,rfl,bG (P.kp.at hw)⟩
  | 2,s=>cases s;exact⟨_,rfl,trivial⟩
  | 3,s=>cases s;exact⟨_,rfl,trivial⟩
  | 4,s=>cases s;exact⟨_,rfl,trivial⟩
  | 5,s=>cases s;exact⟨_,rfl,trivial⟩
  | 6,s=>cases s;exact⟨_,rfl,trivial⟩
  | n+7,s=>cases s)
 have s5:=P.step (x:="having") (e:=eF9 S1 wn g kd) rfl m5 X (Aq (AM 4) (by decide));have F5:=P.put (x:="having") (d:=.ref h) X;have ch:c < h:=AX (Bf C4) hh;have A5:=Fd (o':=.ins W.Field (y5 a kd b c h)) (X.at A4) J;have B5:=Fd (o':=.ins W.Field (y5 a kd b c h)) (X.at B4) (show S1.length < b by lia);have C5:=Fd (o':=.ins W.Field (y5 a kd b c h)) (X.at C4) (show S1.length < c by lia);have H5:=Fd (o':=.ins W.Field (y5 a kd b c h)) hH (show S1.length < h by lia);generalize U5.set S1.length (.ins W.Field (y5 a kd b c h))=T5 at s5 F5 A5 B5 C5 H5;obtain⟨Y,e5,Z,T6,s6,F6,C6,H6,O6⟩:=Yt W (wn:=wn) (g:=g) (kd:=kd) (n:=w.1) F5 rfl rfl rfl J (by lia) ch A5 C5 H5 hg1 hg3;have A6:=(O6 a (by lia) (by lia)).trans A5;have B6:=(O6 b (by lia) (by lia)).trans B5;have v7:((some B).bind λl=>Fg l (λ_=>some true) (λx=>((some x).bind λx=>(some ()).bind λy=>some (x,y)).bind λz=>G9 z.1))=some pb:=hpb
 obtain⟨d,U7,m7,Q,k,rfl,hk,hK⟩:=(Ey (FL (VI.k (qc (A:=[.q (λL d=>∃q fs n,d=.ref q/\L q=some (.ins W.Field fs)/\fs.lookup ("everything" : Str)=some (.ref n)/\L n=some (oL (eT D.int) B)),.u,.u,.u,.u,.u,.u]) (i:=0) (l:=B) (enc:=eT D.int) (C:=W.Field) (x:="everything") (λL d h=>h) rfl)) (λ_=>Ja) (λx=>Bb (C2 (AT (i:=0) rfl) Bk) (λz=>dW W z.1) (λ_=>rfl) Dh))) _ v7 T6 (eF7 S1.length wn g kd Y e5 Z) _ T6 (Vs.all λi x s=>by
  match i,s with
  | 0,s=>cases s;exact⟨_,rfl,.ref S1.length,rfl,λL O=>⟨S1.length,_,a,rfl,O _ _ (bG F6.at'),rfl,O _ _ (bG A6)⟩⟩
  | 1,s=>cases s;exact⟨_,rfl,trivial⟩
  | 2,s=>cases s;exact⟨_,rfl,trivial⟩
  | 3,s=>cases s;exact⟨_,rfl,trivial⟩
  | 4,s=>cases s;exact⟨_,rfl,trivial⟩
  | 5,s=>cases s;exact⟨_,rfl,trivial⟩
  | 6,s=>cases s;exact⟨_,rfl,trivial⟩
  | n+7,s=>cases s)
 have s7:=F6.step (x:="place_bits") (e:=eF7 S1.length wn g kd Y e5 Z) rfl m7 Q (Aq (AM 5) (by decide));have F7:=F6.put (x:="place_bits") (d:=.ref k) Q;have yo:h < k:=AX (Bf H6) hk
 have cell:∀{j:Nat} {o:Ob},U7[j]?=some o->S1.length < j->(U7.set S1.length (.ins W.Field (y6 a kd b c h k)))[j]?=some o:=λI h2=>Fd I h2
 have A7:=cell (Q.at A6) J;have B7:=cell (Q.at B6) (by lia);have C7:=cell (Q.at C6) (by lia);have H7:=cell (Q.at H6) (by lia);have K7:=cell hK (by lia);generalize U7.set S1.length (.ins W.Field (y6 a kd b c h k))=H at s7 F7 A7 B7 C7 H7 K7
 clear cell
 have m8:JS (eF7 S1.length wn g kd Y e5 Z) H=.ok (.ref H.length) (H++[.dK []]):=rfl;have N:=Keeps.app H [Ob.dK []];have s8:=F7.step (x:="known") (e:=eF7 S1.length wn g kd Y e5 Z) rfl m8 N (Aq (AM 6) (by decide));have F8:=F7.put (x:="known") (d:=.ref H.length) N;have M7:(H++[Ob.dK []])[H.length]?=some (.dK []):=DR _ _;have km:k < H.length:=Bf K7;generalize H.length=m at s8 F8 M7 km;generalize H++[Ob.dK []]=U8 at N s8 F8 M7
 have cell:∀{j:Nat} {o:Ob},U8[j]?=some o->S1.length < j->(U8.set S1.length (.ins W.Field (y7 a kd b c h k m)))[j]?=some o:=λI h2=>Fd I h2
 have A8:=cell (N.at A7) J;have B8:=cell (N.at B7) (by lia);have C8:=cell (N.at C7) (by lia);have H8:=cell (N.at H7) (by lia);have K8:=cell (N.at K7) (by lia);have M8:=cell M7 (by lia);generalize U8.set S1.length (.ins W.Field (y7 a kd b c h k m))=T8 at s8 F8 A8 B8 C8 H8 K8 M8
 clear cell
 have Q8:T8[S1.length]?=some (.ins W.Field (fdF a b c h k m kd)):=F8.at'
 have run:LR W [.ref S1.length,.ref wn,.int g,.str kd] T0=.ok .non T8:=by
  refine aI (e:=eF7 S1.length wn g kd Y e5 Z) ?_;unfold QU;show(BH _ _) (eF9 S1 wn g kd) T0=_;rw[Bp s1,Bp s2,Bp s3,Bp s4,Bp s5,Bp s6,Bp s7];exact s8
 have C:ZO W ⟨B,kd,T,nuF B,hvF w.1 B,pb⟩ (λk=>T8[k]?) S1.length m:=⟨a,b,c,h,k,Q8,A8,B8,C8,H8,K8⟩
 have lkOk:∀n z:Int,0<=n->n < 1000->Mm ⟨B,kd,T,nuF B,hvF w.1 B,pb⟩ n=some z->LM W [.ref S1.length,.ref wn,.int g,.str kd] T8 (.inl n)=z:=λn z _ _ R=>by
  have hQ:NH T8 [.q (Im W ⟨B,kd,T,nuF B,hvF w.1 B,pb⟩),.v (D.int n)] [.ref S1.length,.int n]:=⟨λL O=>⟨_,m,rfl,C.mono O⟩,rfl,trivial⟩;unfold LM;dsimp only;rw[show t5 "kind" S1.length T8=some kd by unfold t5;rw[Q8];rfl];unfold Mm at R;dsimp only at R
  by_cases ck:kd = "one"
  ·rw[wX ck,qX rfl]at R
   obtain⟨d,S,I,_,rfl⟩:=IK W _ n z R T8 _ hQ;rw[qX (congrArg some ck),I];rfl
  ·rw[wY ck,qY AN]at R
   obtain⟨d,S,I,_,rfl⟩:=IL W _ n z R T8 _ hQ;rw[qY (λe=>ck (Bq e)),I];rfl
 refine⟨T8.set m (.mem (LM W [.ref S1.length,.ref wn,.int g,.str kd] T8)),?_,F8.kp.set (by lia) _,λL O=>⟨S1.length,m,_,rfl,?_,O m _ (by lia) (As (Bf M8)),lkOk⟩⟩
 ·unfold GY nQ
  rw[run];dsimp only
  rw[show WL "known" [.ref S1.length,.ref wn,.int g,.str kd] T8=some m by
   unfold WL;dsimp only;rw[Q8]
   rfl]
  dsimp only;rw[M8]
 ·have up:∀{j:Nat} {o:Ob},T8[j]?=some o->S1.length<=j->j < m->L j=some o:=λI h2 h3=>O _ _ h2 (by rw[Ae (FS h3)];exact I)
  exact⟨a,b,c,h,k,up Q8 (AM _) (by lia),up A8 (by lia) (by lia),up B8 (by lia) (by lia),up C8 (by lia) (by lia),up H8 (by lia) (by lia),up K8 (by lia) (by omega)⟩
theorem YH{W:Wd}{A:List Sl}{ml:ML}{p:Option ((Nat×List ZPi)×Int×Str×Unit)}(m:VA A ml p (λz=>[.z (CQ W z.1),.v (D.int z.2.1),.v (D.str z.2.2.1)])):VE A (Oi W.Field 4 (GY W) ml) (rQ (FJ W)) (p.bind λz=>Mn z.1 z.2.1 z.2.2.1):=λf s B e F S C=>by
 obtain⟨z,E,G⟩:=BA s;obtain⟨H,Z,I,l,J⟩:=m z E B e F S C
 match H,J with
 | [d1,d2,d3],⟨⟨wn,N,hw⟩,O,P,_⟩=>
  cases N;cases O;cases P;obtain⟨Q,R,T,U⟩:=jx W G hw;exact⟨_,Q,cO I rfl R,l.trans T,λL X=>U L λn o Y=>X n o (Aj l.1 Y)⟩
noncomputable def Ha(l:Fp)(m:Int)(o:Int):Option (Fw Int Unit):=
 ((F9 l (m,()).1).bind λs=>(atI l.hv o).bind λA=>some (Bn s A)).bind λB=>some (.rt B)
noncomputable def GB(l:Fp)(m:Int)(o:Int):Option Int:=Fi (Ha l m o)
theorem Tw(W:Wd)(l:Fp)(m:Int)(o:Int):VF (KM W) [.q (FJ W l),.v (D.int m),.v (D.int o)] (rV D.int) (GB l m o):=by
 refine EF (n:=3) (b:=KU W) (p:=Ha l m o) (B:=λ_=>[]) ?_;show VS [.q (FJ W l),.v (D.int m),.v (D.int o)] _ _ _ _;unfold KU Ha;exact(DP (Sm (Pm (Pf:=FJ W) (Pg:=FJ W) (jt λ_ _ _ _ _ _ _=>rfl) (λ_ _ h=>h) rfl (C2 (AT rfl) Bk) (λs=>Tv W l s.1) (λ_=>rfl) Dh) (JP (G0 fJ rfl) (AT rfl))))
noncomputable def Iu(I:Fp)(J:Int):Option (Fw (List ZPi) Unit):=
 BM (some (.nx [])) λO=>BM ((Ly J).bind λm=>EQ m O λ(L:(List ZPi)) o=>BM (((Gs I (o,()).1).bind λs=>Fg s (λA=>(((some (o,(A,()))).bind λl=>GB I l.1 l.2.1).bind λP=>some (Bn P J)).bind λQ=>some (decide (Q=(0:Int)))) (λA=>some A)).bind λB=>some (.nx B)) λN=>Eg (λC=>C) (if (!N.isEmpty)=true then Eg (λE=>E) ((atI N (0:Int)).bind λR=>(IX L o R).bind λG=>some (.nx G))else some (.nx L))) λH=>some (.rt H)
noncomputable def Ep(l:Fp)(m:Int):Option (List ZPi):=Fi (Iu l m)
theorem OZ(W:Wd)(l:Fp)(m:Int):VF (Iz W) [.q (FJ W l),.v (D.int m)] (rN (oDK D.int)) (Ep l m):=by
 refine EF (n:=5) (b:=LW W) (p:=Iu l m) (B:=λ_=>[]) ?_;show VS [.q (FJ W l),.v (D.int m),.u,.u,.u] _ _ _ _;unfold LW Iu;exact(BF (Iq Tp) (λE=>(BF (Dq (s0:=E) (B:=(λ(s:(List ZPi))=>[.q (FJ W l),.v (D.int m),.w 2 ((oDK D.int) s),.u,.u])) (K6 (Bb (C2 (AT rfl) Bk) (λG=>V8 W G.1) (λ_=>rfl) JI)) DN (.refl _) (λP H=>(BF (MR (Ey (FL (VI.k (K6 (Pm (Pf:=FJ W) (Pg:=Im W) (jt λ_ _ _ _ _ _ _=>rfl) FJ.q rfl (C2 (AT rfl) Bk) (λA=>Vi W l A.1) (λ_=>rfl) JI))) (λI=>(K9 (Tn JB Ua (Sm (Pm (Pf:=FJ W) (Pg:=FJ W) (jt λ_ _ _ _ _ _ _=>rfl) (λ_ _ h=>h) rfl (C2 (AT rfl) (C2 (AT rfl) Bk)) (λo=>Tw W l o.1 o.2.1) (λ_=>rfl) Dh) (AT rfl)) (Cv rfl)))) (λI=>(AT rfl))))) (λJ=>(Ct (HI (B:=(λ(C:(List ZPi))=>[.q (FJ W l),.v (D.int m),.w 2 ((oDK D.int) C),.v (D.int H),.y ((oL D.int) J)])) (bm (Fb rfl)) (Ct (Pl rfl (AT rfl) (JP (Fb rfl) (Cv rfl)) rfl) (λL=>(.refl _))) (HH (.refl _))) (λN=>(.same (.same (.same (.drop (.drop .nil))))))))))) (λO=>(Sg rfl)))))
noncomputable def P1(m:Fp):Option (Fw (List (Int×ZPi)) Unit):=
 BM (some (.nx [])) λH=>BM (((Px (1:Int) (m.ev.length:Int)).bind λI=>some (I - (1:Int))).bind λJ=>some (.nx J)) λE=>BM (some (.nx (1:Int))) λo=>BM ((Ep m E).bind λL=>some (.nx L)) λs=>BM (whF (λ(l:(List (Int×ZPi))×Int×Int×(List ZPi))=>some (!l.2.2.2.isEmpty)) (λ(l:(List (Int×ZPi))×Int×Int×(List ZPi))=>BM (EQ (l.2.2.2.map (·.1)) (l.1,l.2.1) λ(G:(List (Int×ZPi))×Int) A=>BM (((An l.2.2.2 A).bind λN=>some (l.2.2.1,N)).bind λO=>(IX G.1 A O).bind λP=>some (.nx P)) λQ=>Eg (λR=>(Q,R)) ((Px (1:Int) A).bind λS=>some (.nx (Ex G.2 S)))) λB=>BM (some (.nx (l.2.2.1+(1:Int)))) λϭ=>Eg (λT=>(B.1,B.2,ϭ,T)) ((Ep m B.2).bind λC=>some (.nx C))) wN (H,E,o,s)) λU=>some (.rt U.1)
noncomputable def Nj(l:Fp):Option (List (Int×ZPi)):=Fi (P1 l)
theorem YM(W:Wd)(m:Fp):VF (QS W) [.q (FJ W m)] (rN (oDK (eP D.int D.int))) (Nj m):=by
 refine EF (n:=6) (b:=VD W) (p:=P1 m) (B:=λ_=>[]) ?_;show VS [.q (FJ W m),.u,.u,.u,.u,.u] _ _ _ _;unfold VD P1;exact(BF (Iq Tp) (λH=>(BF (Dx (Tl (Qq (Cv rfl) (Sk (G0 Iy rfl))) (Cv rfl))) (λI=>(BF (Dx (Cv rfl)) (λE=>(BF (Iq (Bb (g8 (Pf:=FJ W) (Pg:=FJ W) (λ_ _ h=>h) rfl (C2 (AT rfl) Bk)) (λo=>OZ W o.1 o.2.1) (λ_=>rfl) JI)) (λG=>(BF (YE (s0:=(H,I,E,G)) (B:=(λ(l:(List (Int×ZPi))×Int×Int×(List ZPi))=>[.q (FJ W m),.w 1 ((oDK (eP D.int D.int)) l.1),.v (D.int l.2.1),.v (D.int l.2.2.1),.w 4 ((oDK D.int) l.2.2.2),.u])) (.refl _) (λs=>(gy (MV rfl))) (λs=>(BF (vG 4 rfl rfl (Dq (s0:=(s.1,s.2.1)) (B:=(λ(A:(List (Int×ZPi))×Int)=>[.q (FJ W m),.w 1 ((oDK (eP D.int D.int)) A.1),.v (D.int A.2),.v (D.int s.2.2.1),.y ((oFK D.int) s.2.2.2),.u])) (qZ rfl) DN (.refl _) (λJ L=>(BF (Pl rfl (AT rfl) (Sj (AT rfl) (dS (Fb rfl) (AT rfl))) rfl) (λN=>(Ct (Qp rfl (Qq (Cv rfl) (AT rfl))) (λO=>(.same (.same (.same (.same (.same (.drop .nil))))))))))))) (λP=>(BF (Qp rfl (Cv rfl)) (λϭ=>(Ct (Iq (Bb (g8 (Pf:=FJ W) (Pg:=FJ W) (λ_ _ h=>h) rfl (C2 (AT rfl) Bk)) (λC=>OZ W C.1 C.2.1) (λ_=>rfl) JI)) (λQ=>(.refl _))))))))) (λR=>(Sg rfl)))))))))))
noncomputable def HX(m:Fp)(o:(List (Int×ZPi))):Option (Fw Int Unit):=
 ((((some (m.ev.length:Int)).bind Mg).bind λs=>Fg s (λl=>some (!(An o l).isSome)) (λl=>Px (1:Int) l)).bind λA=>some (W0 A)).bind λB=>some (.rt B)
noncomputable def Hh(l:Fp)(m:(List (Int×ZPi))):Option Int:=Fi (HX l m)
theorem Ts(W:Wd)(l:Fp)(m:(List (Int×ZPi))):VF (KH W) [.q (FJ W l),.z ((oDK (eP D.int D.int)) m)] (rV D.int) (Hh l m):=by
 refine EF (n:=2) (b:=KP W) (p:=HX l m) (B:=λ_=>[]) ?_;show VS [.q (FJ W l),.z ((oDK (eP D.int D.int)) m)] _ _ _ _;unfold KP HX;exact(DP (qd (Ki (Ey (FL (VI.k (GN (Sk (G0 Iy rfl)))) (λo=>(K9 (To (AT rfl) (Bj rfl)))) (λo=>(Qq (Cv rfl) (AT rfl))))))))
noncomputable def OD(G:(Nat×List ZPi))(H:Int)(I:Str):Option (Fw (List ZLi) Unit):=
 BM (((some (G,(H,(I,())))).bind λm=>Mn m.1 m.2.1 m.2.2.1).bind λJ=>some (.nx J)) λo=>(((((((Nj o).bind λs=>some (s,())).bind λL=>some (o,L)).bind λl=>Hh l.1 l.2.1).bind λN=>some (N,())).bind λA=>Ly A.1).bind λB=>Fg B (λE=>some true) (λE=>atI o.ev E)).bind λC=>some (.rt C)
noncomputable def G8(l:(Nat×List ZPi))(m:Int)(o:Str):Option (List ZLi):=Fi (OD l m o)
theorem Qt(W:Wd)(m:(Nat×List ZPi))(o:Int)(s:Str):VF (L7 W) [.z ((CQ W) m),.v (D.int o),.v (D.str s)] (rN (oL (eT D.int))) (G8 m o s):=by
 refine EF (n:=4) (b:=RU W) (p:=OD m o s) (B:=λ_=>[]) ?_;show VS [.z ((CQ W) m),.v (D.int o),.v (D.str s),.u] _ _ _ _;unfold RU OD;exact(BF (bW (YH (GP (Bj rfl) (C2 (AT rfl) (C2 (AT rfl) Bk))))) (λG=>(Pk (Ey (FL (VI.k (K6 (Bb (C2 (Bb (g8 (Pf:=FJ W) (Pg:=FJ W) (λ_ _ h=>h) rfl (GP (Ki (Bb (g8 (Pf:=FJ W) (Pg:=FJ W) (λ_ _ h=>h) rfl Bk) (λA=>YM W A.1) (λ_=>rfl) JI)) Bk)) (λl=>Ts W l.1 l.2.1) (λ_=>rfl) Dh) Bk) (λC=>V8 W C.1) (λ_=>rfl) JI))) (λE=>Ja) (λE=>(JP (G0 Iy rfl) (AT rfl))))))))
noncomputable def Ss(C:(Nat×List ZPi))(E:Int)(G:Str):Option (Fw (List (ZLi×Int×Int)) Unit):=
 BM (((some (C,(E,(G,())))).bind λm=>Mn m.1 m.2.1 m.2.2.1).bind λH=>some (.nx H)) λB=>BM ((Nj B).bind λo=>some (.nx o)) λl=>((Om l (Be (l.map (·.1)))).bind λs=>Fg s (λA=>some true) (λA=>(atI B.ev A).bind λI=>(An l A).bind λJ=>some (I,J))).bind λL=>some (.rt L)
noncomputable def Su(l:(Nat×List ZPi))(m:Int)(o:Str):Option (List (ZLi×Int×Int)):=Fi (Ss l m o)
theorem lX(W:Wd)(l:(Nat×List ZPi))(m:Int)(o:Str):VF (Xc W) [.z ((CQ W) l),.v (D.int m),.v (D.str o)] (rN (oL (eP3 (eT D.int) D.int D.int))) (Su l m o):=by
 refine EF (n:=5) (b:=Xm W) (p:=Ss l m o) (B:=λ_=>[]) ?_;show VS [.z ((CQ W) l),.v (D.int m),.v (D.str o),.u,.u] _ _ _ _;unfold Xm Ss;exact(BF (bW (YH (GP (Bj rfl) (C2 (AT rfl) (C2 (AT rfl) Bk))))) (λE=>(BF (MR (Bb (g8 (Pf:=FJ W) (Pg:=FJ W) (λ_ _ h=>h) rfl Bk) (λs=>YM W s.1) (λ_=>rfl) JI)) (λA=>(Pk (Ey (FL (VI.k (K6 (dR (Fb rfl)))) (λC=>Ja) (λC=>(gx (JP (G0 Iy rfl) (AT rfl)) (gw (Fb rfl) (AT rfl)))))))))))
noncomputable def HW(l:(Nat×List ZPi))(s:Str):Option (Fw Int Unit):=
 BM ((Yk (1:Int) (l.1:Int)).bind λm=>EQ m () λ(_:Unit) o=>Eg (λ_=>()) (((G8 l o s).bind λA=>some (!A.isEmpty)).bind λB=>if B=true then some (.rt o)else some (.nx ()))) λ_=>some (.rt (l.1:Int))
noncomputable def E1(l:(Nat×List ZPi))(m:Str):Option Int:=Fi (HW l m)
theorem NX(W:Wd)(m:(Nat×List ZPi))(o:Str):VF (Hs W) [.z ((CQ W) m),.v (D.str o)] (rV D.int) (E1 m o):=by
 refine EF (n:=3) (b:=KO W) (p:=HW m o) (B:=λ_=>[]) ?_;show VS [.z ((CQ W) m),.v (D.str o),.u] _ _ _ _;unfold KO HW;exact(BF (Dq (s0:=()) (B:=(λ(_:Unit)=>[.z ((CQ W) m),.v (D.str o),.u])) (Lr (Cv rfl) (DZ (Bj rfl))) DN (.refl _) (λ_ s=>(Ct (HI (B:=(λ(_:Unit)=>[.z ((CQ W) m),.v (D.str o),.v (D.int s)])) (bm (Ki (Bb (GP (Bj rfl) (C2 (AT rfl) (C2 (AT rfl) Bk))) (λl=>Qt W l.1 l.2.1 l.2.2.1) (λ_=>rfl) JI))) (DP (AT rfl)) (HH (.refl _))) (λ_=>(.same (.same (.drop .nil))))))) (λ_=>(DP (DZ (Bj rfl)))))
noncomputable def Ek(l:(Nat×List ZPi)):Option (Fw Unit Unit):=
 if (decide ((8:Int) < (l.1:Int)))=true then none else some (.nx ())
noncomputable def Fy(l:(Nat×List ZPi)):Option Unit:=eV (Ek l)
theorem NW(W:Wd)(l:(Nat×List ZPi)):VF (GC W) [.z ((CQ W) l)] (rV eU) (Fy l):=by
 refine Zn (n:=1) (b:=GD W) (p:=Ek l) (B:=λ_=>[.z ((CQ W) l)]) ?_;show VS [.z ((CQ W) l)] _ _ _ _;unfold GD Ek;exact(HI (B:=(λ(_:Unit)=>[.z ((CQ W) l)])) (K9 (bg (DZ (Bj rfl)) (Cv rfl))) TY (HH (.refl _)))
noncomputable def E0(l:(Nat×List ZPi)):Option (Fw Unit Unit):=
 if (decide ((12:Int) < (l.1:Int)))=true then none else some (.nx ())
noncomputable def EM(l:(Nat×List ZPi)):Option Unit:=eV (E0 l)
theorem Js(W:Wd)(l:(Nat×List ZPi)):VF (E6 W) [.z ((CQ W) l)] (rV eU) (EM l):=by
 refine Zn (n:=1) (b:=KN W) (p:=E0 l) (B:=λ_=>[.z ((CQ W) l)]) ?_;show VS [.z ((CQ W) l)] _ _ _ _;unfold KN E0;exact(HI (B:=(λ(_:Unit)=>[.z ((CQ W) l)])) (K9 (bg (DZ (Bj rfl)) (Cv rfl))) TY (HH (.refl _)))
noncomputable def HY(l:(Nat×List ZPi)):Option (Fw ZLi Unit):=
 BM ((EM l).bind λ_=>some (.nx ())) λ_=>BM ((Yk (1:Int) (l.1:Int)).bind λm=>EQ m () λ(_:Unit) C=>Eg (λ_=>()) ((IZ (l.1:Int) C).bind λo=>EQ o () λ(_:Unit) B=>Eg (λ_=>()) (((Hi l B).bind λE=>some E.isNone).bind λs=>if s=true then some (.rt B)else some (.nx ())))) λ_=>((some (l.1:Int)).bind Mg).bind λA=>some (.rt A)
noncomputable def Hj(l:(Nat×List ZPi)):Option ZLi:=Fi (HY l)
theorem Tt(W:Wd)(l:(Nat×List ZPi)):VF (KI W) [.z ((CQ W) l)] (rV (eT D.int)) (Hj l):=by
 refine EF (n:=3) (b:=KQ W) (p:=HY l) (B:=λ_=>[]) ?_;show VS [.z ((CQ W) l),.u,.u] _ _ _ _;unfold KQ HY;exact(BF (Si (Bb (GP (Bj rfl) Bk) (λA=>Js W A.1) (λ_=>rfl) Dh)) (λ_=>(BF (Dq (s0:=()) (B:=(λ(_:Unit)=>[.z ((CQ W) l),.u,.u])) (Lr (Cv rfl) (DZ (Bj rfl))) DN (.refl _) (λ_ o=>(Ct (Dq (s0:=()) (B:=(λ(_:Unit)=>[.z ((CQ W) l),.v (D.int o),.u])) (K6 (Bb (C2 (DZ (Bj rfl)) (C2 (AT rfl) Bk)) (λs=>Qs W s.1 s.2.1) (λ_=>rfl) JI)) DN (.refl _) (λ_ C=>(Ct (HI (B:=(λ(_:Unit)=>[.z ((CQ W) l),.v (D.int o),.v ((eT D.int) C)])) (K9 (Zr se (Bb (GP (Bj rfl) (C2 (AT rfl) Bk)) (λm=>Ps W m.1 m.2.1) (λ_=>rfl) Dh))) (DP (AT rfl)) (HH (.refl _))) (λ_=>(.same (.same (.drop .nil))))))) (λ_=>(.same (.drop (.same .nil))))))) (λ_=>(DP (gl (DZ (Bj rfl))))))))
noncomputable def Jc(l:(Nat×List ZPi)):Option (Fw ZLi Unit):=
 BM ((EM l).bind λ_=>some (.nx ())) λ_=>BM ((mK (l.1:Int) (1:Int) (-(1:Int))).bind λm=>EQ m () λ(_:Unit) B=>Eg (λ_=>()) ((IZ (l.1:Int) B).bind λo=>EQ o () λ(_:Unit) A=>Eg (λ_=>()) (((Jg l A).bind λC=>some C.isNone).bind λs=>if s=true then some (.rt A)else some (.nx ())))) λ_=>((some ((0:Int) :: [])).bind NP).bind λE=>some (.rt E)
noncomputable def Hg(l:(Nat×List ZPi)):Option ZLi:=Fi (Jc l)
theorem Pr(W:Wd)(l:(Nat×List ZPi)):VF (FI W) [.z ((CQ W) l)] (rV (eT D.int)) (Hg l):=by
 refine EF (n:=3) (b:=M2 W) (p:=Jc l) (B:=λ_=>[]) ?_;show VS [.z ((CQ W) l),.u,.u] _ _ _ _;unfold M2 Jc;exact(BF (Si (Bb (GP (Bj rfl) Bk) (λA=>Js W A.1) (λ_=>rfl) Dh)) (λ_=>(BF (Dq (s0:=()) (B:=(λ(_:Unit)=>[.z ((CQ W) l),.u,.u])) (dQ (DZ (Bj rfl)) (Cv rfl) (Zo (Cv rfl))) DN (.refl _) (λ_ o=>(Ct (Dq (s0:=()) (B:=(λ(_:Unit)=>[.z ((CQ W) l),.v (D.int o),.u])) (K6 (Bb (C2 (DZ (Bj rfl)) (C2 (AT rfl) Bk)) (λs=>Qs W s.1 s.2.1) (λ_=>rfl) JI)) DN (.refl _) (λ_ C=>(Ct (HI (B:=(λ(_:Unit)=>[.z ((CQ W) l),.v (D.int o),.v ((eT D.int) C)])) (K9 (Zr cJ (Bb (GP (Bj rfl) (C2 (AT rfl) Bk)) (λm=>Wy W m.1 m.2.1) (λ_=>rfl) Dh))) (DP (AT rfl)) (HH (.refl _))) (λ_=>(.same (.same (.drop .nil))))))) (λ_=>(.same (.drop (.same .nil))))))) (λ_=>(DP (Tj (HJ (Cv rfl) Jr)))))))
open PySem L2
theorem jC(h:x.1 < x.2):nrm x=x:=by
 unfold nrm;rw[qY (by lia),qX (by omega)]
theorem iK(h:l.Perm l'):Lv l=Lv l':=Qy ((IT l).trans (h.trans (IT l').symm)) (Pv l) (Pv l')
theorem lY(h:(ps.map nrm).Perm (qs.map nrm)):ID ps=ID qs:=by
 unfold ID MX;have:=h.map XB;rw[BB,BB]at this;rw[show(λx=>XB (nrm x))=XB∘nrm from rfl,iK this]
theorem GJ.of(h:(ps.map nrm).Perm (l.map nrm))(f:GJ p l):GJ p ps:=by
 refine⟨λx m=>?_,h.nodup_iff.mpr f.2⟩;obtain⟨y,o,e⟩:=Ai.mp (h.mem_iff.mp (C9 m));have:=f.1 y o;unfold Fit at this ⊢;rw[<-e];exact this
theorem iJ(h:l.Perm l'):Be l=Be l':=
 (((DK l).trans h).trans (DK l').symm).eq_of_pairwise (λa b _ _ m o=>pN m o) (NZ l) (NZ l')
noncomputable def nr(ts:List ZPi)(x:Nat):ZLi:=Be (DW ts x)
theorem UY:z∈nr ts x↔((x:Int),z)∈ts∨(z,(x:Int))∈ts:=by
 unfold nr;rw[(DK _).mem_iff];unfold DW;rw[FA]
 constructor
 ·rintro⟨t,l,h⟩
  rcases Ag.mp h with h | h
  ·split at h
   ·rename_i e
    rw[AG.mp h,<-e];exact .inl l
   ·cases h
  ·split at h
   ·rename_i e
    rw[AG.mp h,<-e];exact .inr l
   ·cases h
 ·rintro(h | h)
  ·exact⟨_,h,BP _ (by simp)⟩
  ·exact⟨_,h,BR _ (by simp)⟩
theorem nK{ts:List ZPi}{x y:Nat}:(y:Int)∈nr ts x↔(x:Int)∈nr ts y:=by
 rw[UY,UY];exact Or.comm
noncomputable def wQ(x:Nat):D:=.int x
theorem qu(h:m e S=.ok (.bl b) S1):FM m e S=.ok b S1:=by
 unfold FM;rw[h];rfl
theorem jK{C:Type}{f g:C->D}{l:List C}{v:RX}{m:ME}{e:Lo}{S:Sto}(G:v S=some (l.map f))(H:l.length<=1000000)(I:∀x∈l,m (some (f x) :: e) S=.ok (g x) S) :
  Gx v (tgN 0) Gy m (EE v S) 0 (none :: e) S []=.ok (l.map g) S:=by
 obtain⟨r,J,E,A,_,rfl,rfl⟩:=Xe (v:=v) (g:=tgN 0) (c:=Gy) (m:=m) (xs:=l.map f) (e:=none :: e) (S:=S)
  (λi A s o=>(∃z,A=z :: e)/\s=S/\o=(l.take i).map g) ⟨⟨none,rfl⟩,rfl,rfl⟩ (by rintro i A s o ⟨_,rfl,_⟩;exact G)
  (by
   rintro i d A s o hd ⟨⟨z,rfl⟩,rfl,rfl⟩;rw[Ad]at hd
   cases B:l[i]? with
   | none=>rw[B]at hd;cases hd
   | some x=>
    rw[B]at hd;cases hd;refine⟨?_,some (f x) :: e,s,rfl,true,s,rfl,.inl ⟨rfl,g x,s,I x (Al B),⟨_,rfl⟩,rfl,?_⟩⟩
    ·rw[AC,Dt]
     exact Aq (Aj (TQ _ _) H) (by decide)
    ·rw[take_snoc B,Ba]
     rfl)
 rw[AC,Gk]at E;exact E
theorem eD(n:Nat):Ez 0 n=(BJ n).map wQ:=by
 refine IH λi=>?_
 rw[Q7,Ad]
 by_cases h:i < n
 ·rw[qX h,CP h,Int.zero_add];rfl
 ·rw[qY h,Bs (by simpa using h)];rfl
open PySem L2 L4
theorem jE{o:Nat}{us:List ZPi}{g:Int}(l:0<=g)(m:g < o):atI (RH o us) g=some (nr us g.toNat):=by
 refine LZ l ?_;unfold RH;rw[Ad,CP (by lia)];rfl
theorem aQ{o:Nat}{us:List ZPi}{g:Int}(l:0<=g)(m:g < o):RA (o,us) g=some (nr us g.toNat):=by
 unfold RA XD He Fe;simp only[AJ];rw[wX l,qX rfl,wX m];simp only[AJ];show Fi (BM (((eV (some (Fw.nx ()))).bind λ_=>some (.nx ()))) λ_=>_)=_;simp only[Sv,AJ,CI];rw[jE l m];rfl
theorem BN:x∈Be l↔x∈l:=(DK l).mem_iff
theorem i7:∀n:Nat,n < 128->∀x:Nat,x < 7->Cq (n:Int) (1 * 2 ^ x)=((n ||| 2 ^ x:Nat):Int)/\(n ||| 2 ^ x) < 128/\∀y:Nat,y < 7->(n ||| 2 ^ x).testBit y=(n.testBit y||decide (x=y)):=by decide +kernel
theorem dm:∀x:Nat,x < 8->Px 1 (x:Int)=some (1 * 2 ^ x):=by decide +kernel
theorem uL(h:∀x∈l,0<=x/\x < 7):Ok (G9 l) λr=>∃n:Nat,r=n/\n < 128/\∀y:Nat,y < 7->(n.testBit y=true↔(y:Int)∈l):=by
 unfold G9 OF;simp only[AJ,CI];refine OkF.out (OkF.seq (OkF.for (λm (s:Int)=>∃n:Nat,s=n/\n < 128/\∀y:Nat,y < 7->(n.testBit y=true↔(y:Int)∈m)) ⟨0,rfl,by decide,λy _=>by simp⟩ ?_) ?_)
 ·rintro m x s A L ⟨n,rfl,B,C⟩
  obtain⟨N,O⟩:=h x A
  obtain⟨k,rfl⟩:∃k:Nat,x=k:=⟨x.toNat,by lia⟩
  rw[dm k (by lia)];obtain⟨E,G,H⟩:=i7 n B k (by lia);refine .nx ⟨n ||| 2 ^ k,E,G,λy o=>?_⟩;rw[H y o,HF,C y o,Ag,AG,decide_eq_true_eq];refine⟨λq=>q.elim .inl λq=>.inr (by rw[q]),λq=>q.elim .inl λq=>.inr (by lia)⟩
 ·rintro s ⟨n,rfl,I,J⟩
  exact .rt ⟨n,rfl,I,J⟩
noncomputable def Tg(us:List ZPi)(g:Int):ZLi:=Be ([g]++nr us g.toNat)
noncomputable def tkl(o:Nat)(us:List ZPi):List ZLi:=(DQ 0 o).map (Tg us)
theorem pS{o:Nat}{us:List ZPi}{g:Int}(l:0<=g)(m:g < o):atI (tkl o us) g=some (Tg us g):=by
 refine LZ l ?_;unfold tkl DQ;rw[Ad,Ad,CP (by lia)];show some (Tg us (0+(g.toNat:Int)))=_;rw[show(0:Int)+(g.toNat:Int)=g by lia]
theorem hX{o:Nat}{us:List ZPi}{g:Int}(l:0<=g)(m:g < o):Tk (tkl o us) g=Tg us g:=by
 unfold Tk;rw[pS l m];rfl
structure En(o:Nat)(us:List ZPi):Prop where
 sm:o < 8
 len:∀g:Int,0<=g->g < o->(nr us g.toNat).length<=6
 rg:∀g:Int,0<=g->g < o->∀x∈nr us g.toNat,0<=x/\x < o/\x≠g
 nd:∀g:Int,0<=g->g < o->(nr us g.toNat).Nodup
section
variable{o:Nat}{us:List ZPi}
theorem G5:x∈Tg us g↔x=g∨x∈nr us g.toNat:=by
 unfold Tg;rw[BN];simp
theorem En.tg(h:En o us){g:Int}(l:0<=g)(m:g < o):(Tg us g).length<=7/\(∀x∈Tg us g,0<=x/\x < o)/\(Tg us g).Pairwise (· < ·):=by
 refine⟨?_,λx s=>?_,?_⟩
 ·unfold Tg
  rw[(DK _).length_eq,AQ,Ac];have:=h.len g l m
  lia
 ·rcases G5.mp s with rfl | s
  ·exact⟨l,m⟩
  ·exact⟨(h.rg g l m x s).1,(h.rg g l m x s).2.1⟩
 ·have A:(Tg us g).Nodup:=by
   unfold Tg;rw[(DK _).nodup_iff];show(g :: nr us g.toNat).Nodup;rw[Bu];exact⟨λz=>(h.rg g l m g z).2.2 rfl,h.nd g l m⟩
  have:=(NZ ([g]++nr us g.toNat))
  exact(V4 this A).imp λ⟨a,b⟩=>by lia
theorem lc(h:En o us):Ml (o,us)=some (tkl o us):=by
 unfold Ml Mh;simp only[AJ];rw[Kl (by lia) (by have:=h.sm;lia),At];simp only[AJ]
 rw[GZ (f:=Tg us) (by rw[Br];have:=h.sm;lia) λx m=>by
  obtain⟨l,A⟩:=Bh.mp m;rw[aQ l (by lia),xF];simp only[AJ];have s:=h.len x l (by lia);rw[oQ (by rw[Ac];lia)];simp only[AJ];rw[QR (by rw[AQ,Ac];lia)]
  rfl]
 rfl
theorem TX(f:Int->Int):∀l:ZLi,l.zip (l.map f)=l.map λg=>(g,f g)
 | []=>rfl
 | x :: l=>by rw[Az,gB,TX f l];rfl
theorem bT{a b:ZLi}{x y z:Int}(B:b.Nodup)(C:(x,z)∈a.zip b)(E:(y,z)∈a.zip b):x=y:=by
 obtain⟨i,G,l⟩:=Bl C;obtain⟨j,H,m⟩:=Bl E;rw[Jl]at G H;rw[JK]at l m;have s:=(G6 l);have A:=(G6 m);have:i=j:=(Se B).mp (s.2.trans A.2.symm);subst this;exact s.1.symm.trans A.1
end
open PySem L2 L4
open Srt (ltL)
theorem QB:∀a:ZLi,ltL a a=false
 | []=>rfl
 | x :: a=>by unfold ltL;rw[qX rfl];exact QB a
section
variable{o:Nat}{us:List ZPi}
noncomputable def pB(us:List ZPi)(gs:ZLi)(c:Int)(r:ZLi):Prop:=r.length=gs.length/\r.Nodup/\(∀y∈gs.zip r,y.2∈Tg us y.1)/\c∈r
theorem pB.rg(h:En o us){gs r:ZLi}{c:Int}(s:∀g∈gs,0<=g/\g < o)(l:pB us gs c r):∀x∈r,0<=x/\x < o:=λx A=>by
 obtain⟨i,B,rfl⟩:=Bl A
 have C:i < gs.length:=by rw[<-l.1];exact B
 have m:(gs[i],r[i])∈gs.zip r:=by
  have:(gs.zip r)[i]'(by rw[Jl];lia)=(gs[i],r[i]):=JK;rw[<-this];exact Du _
 have:=s gs[i] (Du _);exact(h.tg this.1 this.2).2.1 _ (l.2.2.1 _ m)
end
theorem tO:∀n:Nat,n < 128->∀x:Nat,x < 7->hb (n:Int) (x:Int)=n.testBit x:=by decide +kernel
noncomputable abbrev bit(n:Nat)(x:Int):Prop:=n.testBit x.toNat=true
noncomputable def InS(us:List ZPi)(gs:ZLi)(P:Int->Prop)(r:ZLi):Prop:=r.length=gs.length/\r.Nodup/\(∀y∈gs.zip r,y.2∈Tg us y.1)/\∀x∈r,P x
section
variable{o:Nat}{us:List ZPi}{gs rest:ZLi}{P Q:Int->Prop}{g:Int}{n:Nat}
theorem InS.rg(h:En o us)(A:∀g∈gs,0<=g/\g < o)(l:InS us gs P r):∀x∈r,0<=x/\x < o:=λx B=>by
 obtain⟨i,C,rfl⟩:=Bl B;have E:=l.1
 have m:(gs[i]'(by lia),r[i])∈gs.zip r:=by
  have:(gs.zip r)[i]'(by rw[Jl];lia)=(gs[i]'(by lia),r[i]):=JK;rw[<-this];exact Du _
 have s:=A _ (Du (show i < gs.length by lia));exact(h.tg s.1 s.2).2.1 _ (l.2.2.1 _ m)
theorem InS.imp(l:InS us gs P r)(i:∀x∈r,P x->Q x):InS us gs Q r:=⟨l.1,l.2.1,l.2.2.1,λx m=>i x m (l.2.2.2 x m)⟩
theorem rL(h:En o us)(I:n < 128)(s:∀g∈rest,0<=g/\g < o)(J:rest.Nodup):Sdr (Tk (tkl o us)) (n:Int) rest↔∃r,InS us rest (bit n) r:=by
 have U:=h.sm
 have hw:∀g∈rest,∀x,x∈w0 (Tk (tkl o us)) (n:Int) g↔x∈Tg us g/\bit n x:=λg m x=>by
  unfold w0;rw[BE,hX (s g m).1 (s g m).2]
  refine and_congr_right λa=>?_
  have:=(h.tg (s g m).1 (s g m).2).2.1 x a
  obtain⟨k,rfl⟩:∃k:Nat,x=k:=⟨x.toNat,by lia⟩
  unfold bit;rw[tO n I k (by lia),At]
 constructor
 ·rintro⟨f,E,L⟩
  refine⟨rest.map f,AC _,?_,λy G=>?_,λx N=>?_⟩
  ·unfold Kg
   rw[Bc]
   exact J.imp_of_mem λ{a b} B C O e=>O (L a B b C e)
  ·rw[TX]at G
   obtain⟨g,m,rfl⟩:=Ai.mp G;exact((hw g m _).mp (E g m)).1
  ·obtain⟨g,m,rfl⟩:=Ai.mp N
   exact((hw g m _).mp (E g m)).2
 ·rintro⟨l,X,R,S,T⟩
  have ex:∀a:Int,∃z:Int,a∈rest->(a,z)∈rest.zip l:=λa=>by
   by_cases q:a∈rest
   ·obtain⟨i,Y,e⟩:=Bl q
    refine⟨l[i]'(by lia),λ_=>?_⟩
    have:(rest.zip l)[i]'(by rw[Jl];lia)=(a,l[i]'(by lia)):=by rw[JK,e]
    rw[<-this];exact Du _
   ·exact⟨0,λz=>zX z q⟩
  have A:=λa=>EK (ex a)
  refine⟨λa=>DJ (ex a),λg m=>(hw g m _).mpr ⟨S _ (A g m),T _ (Jk (A g m)).2⟩,λa B b C e=>?_⟩;have e:DJ (ex a)=DJ (ex b):=e;have H:=A a B;rw[e]at H;exact bT R H (A b C)
theorem t8(h:En o us)(E:n < 128)(m:∀g∈rest,0<=g/\g < o)(C:rest.Nodup):Ok (UR (tkl o us) rest (n:Int)) λb=>b=true↔∃r,InS us rest (bit n) r:=by
 have J:=h.sm
 have s:((tkl o us).length:Int)=o:=by unfold tkl;rw[AC,Br]
 have G:(∀t∈tkl o us,t.length<=1000/\∀x∈t,0<=x)/\∀g∈rest,0<=g/\g < ((tkl o us).length:Int):=by
  refine⟨λt B=>?_,λg l=>by rw[s];exact m g l⟩;obtain⟨g,l,rfl⟩:=Ai.mp B;obtain⟨H,L⟩:=Bh.mp l;have:=h.tg H (by lia);exact⟨by omega,λx A=>(this.2.1 x A).1⟩
 have fs:=fL (T:=Tk (tkl o us)) (bits:=(n:Int)) (U:=DQ 0 o) (Gd:=λg=>0<=g/\g < o) (n:=9) (gs:=rest) (λg l x A=>by
  rw[hX l.1 l.2]at A;have:=(h.tg l.1 l.2).2.1 x A
  exact Bh.mpr ⟨this.1,by lia⟩) (by rw[Br];lia) (by rw[Br];lia) (λg l=>⟨m g l,by rw[hX (m g l).1 (m g l).2];exact G5.mpr (.inl rfl)⟩) C
 have I:UR (tkl o us) rest (n:Int)=WR (Tk (tkl o us)) (n:Int) 9 rest:=qX G;rw[I]
 exact fs.imp λb hb=>hb.trans (rL h E m C)
end
open PySem L2 L4
theorem Xk(ns:ZLi)(k:Nat):Cn ns (k:Int)=some (ns.getD k 0):=by
 unfold Cn HZ
 by_cases c:k < ns.length
 ·rw[wX (show(k:Int) < (ns.length:Int) by lia),qX rfl,LZ (x:=ns[k]) (by lia) (by rw[At];exact AO c)]
  simp only[AJ,kU,XF];rw[BI,AO c];rfl
 ·rw[wY (show ¬(k:Int) < (ns.length:Int) by lia),qY AN]
  simp only[CI,XF];rw[BI,Bs (by lia)];rfl
theorem Rn[DecidableEq l](m:List (l×o))(k:l)(v:o):(CJ m k v).length<=m.length+1:=by
 unfold CJ;split
 ·rw[AC];lia
 ·rw[AQ];simp
noncomputable def prU(l:ZLi):List ZPi:=l.flatMap λy=>(DQ 0 y.toNat).map λx=>(x,y)
theorem mW:∀o:Nat,o < 8->(∀x∈prU (DQ 1 (o - 1)),0<=x.1/\x.1 < x.2/\x.2 < o)/\(prU (DQ 1 (o - 1))).Nodup/\(prU (DQ 1 (o - 1))).length<=21:=by decide +kernel
structure QW(o:Nat)(ts:List ZPi):Prop where
 rg:∀x∈ts,0<=x.1/\x.1 < x.2/\x.2 < o
 nd:ts.Nodup
 ln:ts.length<=21
theorem cK{x y:Int}(l:-2000000000 < x)(m:x < 2000000000):eZ x y=some (x * y):=qX (.inl ⟨R6 (by decide) l,R6 m (by decide)⟩)
theorem jy{x y:Int}(l:0 < y)(m:y < 1000):WS x y=some (x / y):=qX ⟨l,R6 m (by decide)⟩
theorem lr(ns:ZLi){m:Int}(Z:m=5∨m=6):Ok (Ia ns m) λv=>∃o:Nat,v.1=o/\1<=o/\o<=6/\QW o v.2:=by
 have A:0 < m:=by lia
 refine OkF.out ?_;unfold GR;rw[show Cn ns 0=some (ns.getD 0 0)from Xk ns 0,show Cn ns 1=some (ns.getD 1 0)from Xk ns 1];generalize ns.getD 0 0=h;generalize ns.getD 1 0=b;simp only[AJ,CI];rw[cL A];simp only[AJ,CI,t9];rw[jy A (by lia)];simp only[AJ]
 obtain⟨o,O⟩:∃o:Nat,(o:Int)=1+h % m:=⟨(1+h % m).toNat,Ax (by have:=Vf h (show m≠0 by lia);lia)⟩
 have h0:=Vf h (show m≠0 by lia);have h1:=gX h A;rw[<-O]
 refine OkF.seq (N:=λ_=>True) ((OkF.for (λ_ _=>True) trivial λl x s E H _=>.nx trivial).imp (λ_ h=>h) λ_ h=>h) λd _=>?_
 simp only[CI];rw[Sr (by lia) (by lia) (by lia) (by lia),show((o:Int) - 1).toNat=o - 1 by lia];simp only[AJ];refine OkF.seq (OkF.for (λl (s:Int×Int×List ZPi)=>(0<=s.1/\s.1<=1000000100)/\s.2.2.length<=6 * l.length/\s.2.2.Sublist (prU l)) ⟨⟨by dsimp only;lia,by dsimp only;lia⟩,AM _,List.nil_sublist _⟩ ?_) ?_
 ·rintro l x s E H ⟨hb,P,B⟩
  obtain⟨x0,x1⟩:=Bh.mp E;have Q:=H.length_le;rw[AQ,Ac,Br]at Q;rw[Kl (by lia) (by lia)];simp only[AJ];refine OkF.map (OkF.for (λG (t:Int×Int×List ZPi)=>(0<=t.1/\t.1<=1000000100)/\t.2.2.length<=6 * l.length+G.length/\t.2.2.Sublist (prU l++G.map λy=>(y,x))) ⟨hb,P,by rw[Ka,By];exact B⟩ ?_) ?_
  ·rintro G y t R S ⟨I,J,C⟩
   obtain⟨y0,y1⟩:=Bh.mp R;have T:=S.length_le;rw[AQ,Ac,Br]at T;rw[cK (by lia) (by lia),cK (by lia) (by lia)];simp only[AJ,CI]
   refine OkF.seq (N:=λ_=>True) (by split <;> exact .nx trivial) λz _=>?_
   have L:0<=t.1 * t.1 % 1000000007+12 * x+y+1/\t.1 * t.1 % 1000000007+12 * x+y+1<=1000000100:=by
    generalize t.1 * t.1=k
    lia
   cases z.1 with
   | true=>
    rw[qX rfl,cz (by lia)];refine .nx ⟨L,?_,?_⟩
    ·show(t.2.2++[(y,x)]).length<=_
     rw[AQ,AQ,Ac,Ac]
     lia
    ·show(t.2.2++[(y,x)]).Sublist _
     rw[Ba,<-CT];exact C.append (xq _)
   | false=>
    rw[qY AN];refine .nx ⟨L,?_,?_⟩
    ·show t.2.2.length<=_
     rw[AQ]
     lia
    ·show t.2.2.Sublist _
     rw[Ba,<-CT];exact C.trans (Xv _ _)
  ·rintro t ⟨I,J,C⟩
   rw[Br]at J;refine⟨I,?_,?_⟩
   ·show t.2.2.length<=_
    rw[AQ,Ac]
    lia
   ·show t.2.2.Sublist _
    unfold prU at C ⊢;rw[PY,Ln,List.flatMap_nil,By];exact C
 ·rintro s ⟨-,-,B⟩
  obtain⟨U,X,Y⟩:=mW o (by omega);exact .rt ⟨o,rfl,by lia,by lia,λx E=>U x (B.subset E),B.nodup X,Aj B.length_le Y⟩
theorem QW.nrm(h:QW o ts):ts.map nrm=ts:=by
 conv=>rhs;rw[<-OX ts]
 exact DA λx l=>jC (h.rg x l).2.1
theorem QW.fit(h:QW o ts):GJ o ts:=by
 refine⟨λx l=>?_,by rw[h.nrm];exact h.nd⟩;have:=h.rg x l;unfold Fit;rw[jC this.2.1];omega
theorem QW.mem(h:QW o ts):t∈ID ts↔t∈ts:=by
 rw[(Qw ts).mem_iff,h.nrm]
theorem Ub:z∈DW us x↔((x:Int),z)∈us∨(z,(x:Int))∈us:=by
 rw[<-UY];exact BN.symm
theorem WH:∀{us:List ZPi},us.Nodup->(∀t∈us,t.1 < t.2)->(DW us x).Nodup
 | [],_,_=>EZ
 | t :: us,h,l=>by
  have m:=WH (x:=x) (Bu.mp h).2 λs C=>l s (AV _ C)
  have B:=(Bu.mp h).1;have lt:=l t AZ
  have e:DW (t :: us) x=((if t.1=(x:Int)then[t.2]else[])++(if t.2=(x:Int)then[t.1]else[]))++DW us x:=by
   unfold DW;rw[Ln]
  rw[e]
  have lt':∀a b:Int,(a,b)∈us->a < b:=λa b E=>l _ (AV _ E)
  by_cases o:t.1=(x:Int)
  ·rw[qX o,qY (by lia),By]
   show(t.2 :: DW us x).Nodup;rw[Bu];refine⟨λz=>?_,m⟩
   rcases Ub.mp z with z | z
   ·rw[<-o]at z;exact B z
   ·have:=lt' _ _ z;lia
  ·rw[qY o,VU]
   by_cases A:t.2=(x:Int)
   ·rw[qX A]
    show(t.1 :: DW us x).Nodup;rw[Bu];refine⟨λz=>?_,m⟩
    rcases Ub.mp z with z | z
    ·have:=lt' _ _ z;lia
    ·rw[<-A]at z;exact B z
   ·rw[qY A];exact m
section
variable{o:Nat}{ts:List ZPi}
theorem QW.ties(h:QW o ts)(ho:o < 8):En o (ID ts):=by
 have rg:∀g:Int,0<=g->g < o->∀x∈nr (ID ts) g.toNat,0<=x/\x < o/\x≠g:=λg m s x l=>by
  rw[UY,h.mem,h.mem,Ax m]at l
  rcases l with l | l
  ·have:0<=g/\g < x/\x < o:=h.rg _ l;lia
  ·have:0<=x/\x < g/\g < o:=h.rg _ l;lia
 have A:∀g:Int,0<=g->g < o->(nr (ID ts) g.toNat).Nodup:=λg _ _=>by
  refine(DK _).nodup_iff.mpr (WH ?_ λt B=>?_)
  ·rw[(Qw ts).nodup_iff,h.nrm];exact h.nd
  ·exact(h.rg t (h.mem.mp B)).2.1
 refine⟨ho,λg m s=>?_,rg,A⟩;have C:(g :: nr (ID ts) g.toNat).Nodup:=Bu.mpr ⟨λz=>(rg g m s g z).2.2 rfl,A g m s⟩
 have:=Gh (k:=DQ 0 o) C λx l=>by
  rw[Bh]
  rcases Af.mp l with rfl | l
  ·lia
  ·have:=rg g m s x l;lia
 rw[Br,BC]at this
 lia
end
end M
namespace L4
theorem Zl{ρ l:Type}{c:l->Option Bool}{q:l->Option (Fw ρ l)}(I:l->Prop)(m:l->Nat)(h:∀s,I s->c s=some false∨(c s=some true/\∃s',q s=some (.nx s')/\I s'/\m s' < m s)) :
  ∀(n:Nat) (s:l),I s->m s < n->∃s',whF c q n s=some (.nx s')/\I s'/\c s'=some false
 | 0,s,_,A=>zX A (Fh _)
 | n+1,s,B,A=>by
  unfold whF
  rcases h s B with o | ⟨o,s',C,E,G⟩
  ·rw[o]
   exact⟨s,rfl,B,o⟩
  ·rw[o]
   simp only[AJ,if_true];rw[C];exact Zl I m h n s' E (by lia)
end L4
namespace M
open PySem L2 L4
theorem TF(a b:Nat):Bn (a:Int) (b:Int)=((a &&& b:Nat):Int):=by
 unfold Bn;rw[wX (K5 a),wX (K5 b)];rfl
theorem XG(a b:Nat):Cq (a:Int) (b:Int)=((a ||| b:Nat):Int):=by
 unfold Cq Bn gZ;rw[wY (show ¬0<=-(a:Int) - 1 by lia),wY (show ¬0<=-(b:Int) - 1 by lia)];show -(-((((-(-(a:Int) - 1) - 1).toNat ||| (-(-(b:Int) - 1) - 1).toNat:Nat):Nat):Int) - 1) - 1=_;rw[show(-(-(a:Int) - 1) - 1).toNat=a by lia,show(-(-(b:Int) - 1) - 1).toNat=b by lia]
 lia
theorem i6:∀a b:Nat,(a ||| b)=(a ^^^ b)+(a &&& b):=by
 intro a
 induction a using pJ with
 | ind a o=>
  intro b
  by_cases h:a=0
  ·subst h
   simp
  ·have e:=o (a / 2) (by lia) (b / 2)
   have s:=Nat.or_div_two (a:=a) (b:=b);have A:=Nat.xor_div_two (a:=a) (b:=b);have B:=Ve (a:=a) (b:=b);have l:(a ||| b) % 2=(a % 2 ||| b % 2):=Nat.or_mod_two_pow (a:=a) (b:=b) (n:=1);have m2:(a ^^^ b) % 2=(a % 2 ^^^ b % 2):=Nat.xor_mod_two_pow (a:=a) (b:=b) (n:=1);have m3:(a &&& b) % 2=(a % 2 &&& b % 2):=Pd (a:=a) (b:=b) (n:=1)
   rcases Kz a with m | m <;> rcases Kz b with hb | hb <;> rw[m,hb]at l m2 m3 <;> simp only[Nat.reduceOr,Nat.reduceXor,Nat.reduceAnd]at l m2 m3 <;> lia
theorem lE(a b:Nat):Ex (a:Int) (b:Int)=((a ^^^ b:Nat):Int):=by
 unfold Ex;rw[XG,TF,i6]
 lia
theorem nW:∀b:Nat,0 < b->∃i:Nat,b.testBit i=true/\(∀j,j < i->b.testBit j=false)/\b=(b &&& (b - 1))+2 ^ i/\∀j,(b &&& (b - 1)).testBit j=(b.testBit j&&!decide (i=j)):=by
 intro b
 induction b using pJ with
 | ind b m=>
  intro hb
  rcases Kz b with h | h
  ·obtain⟨i,o,s,B,A⟩:=m (b / 2) (by lia) (by lia)
   have d:=Ve (a:=b) (b:=b - 1);rw[show(b - 1) / 2=b / 2 - 1 by lia]at d;have m3:(b &&& (b - 1)) % 2=(b % 2 &&& (b - 1) % 2):=Pd (a:=b) (b:=b - 1) (n:=1);rw[h]at m3;simp at m3;refine⟨i+1,by rw[Gn];exact o,λj l=>?_,?_,λj=>?_⟩
   ·cases j with
    | zero=>rw[Gm];exact wY (by lia)
    | succ j=>rw[Gn];exact s j (by lia)
   ·rw[Zh];lia
   ·cases j with
    | zero=>
     rw[Gm,Gm,wY (show ¬(b &&& (b - 1)) % 2=1 by lia),wY (show ¬b % 2=1 by lia)];rfl
    | succ j=>
     rw[Gn,Gn,d,A j]
     congr 2
     exact decide_eq_decide.mpr (by lia)
  ·have d:=Ve (a:=b) (b:=b - 1)
   rw[show(b - 1) / 2=b / 2 by omega,Nat.and_self]at d;have m3:(b &&& (b - 1)) % 2=(b % 2 &&& (b - 1) % 2):=Pd (a:=b) (b:=b - 1) (n:=1);rw[h,show(b - 1) % 2=0 by lia]at m3;simp at m3;refine⟨0,by rw[Gm];exact wX h,λj l=>zX l (Fh _),by rw[Nat.pow_zero];lia,λj=>?_⟩
   cases j with
   | zero=>
    rw[Gm,Gm,wY (show ¬(b &&& (b - 1)) % 2=1 by lia),wX h];rfl
   | succ j=>
    rw[Gn,Gn,d];simp
theorem eY{b i:Nat}(h:b=(b &&& (b - 1))+2 ^ i)(hb:0 < b):Bn (b:Int) (-(b:Int))=((2 ^ i:Nat):Int):=by
 unfold Bn gZ;rw[wX (K5 b),wY (show ¬0<=-(b:Int) by lia)];show(b:Int) - ((((b:Int).toNat &&& (- -(b:Int) - 1).toNat:Nat)):Int)=_;rw[show(- -(b:Int) - 1).toNat=b - 1 by lia,At]
 lia
theorem kO(i:Nat):D3 ((2 ^ i:Nat):Int)=i+1:=by
 unfold D3;have h:(2 ^ i:Nat)≠0:=FS (pI i);rw[qY (by rw[beq_iff_eq];lia),Int.natAbs_natCast,Nat.log2_two_pow]
noncomputable def Bm(b:Nat)(l:ZLi):Prop:=l.Pairwise (· < ·)/\∀x:Int,x∈l↔0<=x/\b.testBit x.toNat=true
theorem WK{b N:Nat}(hb:b < 2 ^ N)(hN:N<=1000):Ok (Ly (b:Int)) (Bm b):=by
 unfold Ly OC;simp only[AJ,t9,CI]
 obtain⟨⟨t,l⟩,e,Q,A⟩:=Zl (ρ:=ZLi) (c:=λs:ZLi×Int=>some (s.2 != 0)) (q:=λs:ZLi×Int=>BM ((bE s.1 ((D3 (Bn s.2 (-s.2)):Int) - 1)).bind λl=>some (.nx l)) λv=>Eg (λw=>(v,w)) (some (.nx (Bn s.2 (s.2 - 1)))))
  (λs=>∃c:Nat,s.2=c/\s.1.Pairwise (· < ·)/\(∀x∈s.1,0<=x/\x < N/\b.testBit x.toNat=true/\∀j:Nat,c.testBit j=true->x < j)/\(∀j:Nat,b.testBit j=true->(j:Int)∈s.1∨c.testBit j=true)/\(∀j:Nat,c.testBit j=true->b.testBit j=true))
  (λs=>N - s.1.length) (by
   rintro s ⟨c,A,C,B,I,E⟩
   by_cases J:c=0
   ·left
    rw[A,J];rfl
   ·right
    obtain⟨i,G,R,S,H⟩:=nW c (by lia)
    have hi:i < N:=by
     have:=E i G
     refine k9 λL=>?_
     have T:b.testBit i=false:=Zg (AX hb (dG (by decide) L));rw[T]at this;cases this
    have P:s.1.length < N:=by
     have U:(s.1++[(i:Int)]).Nodup:=by
      refine Dd.mpr ⟨C.imp λh=>by lia,by simp,λx m y O=>?_⟩;rw[AG.mp O];have:=(B x m).2.2.2 i G
      lia
     have:=Gh (k:=DQ 0 N) U λx m=>by
      rw[Bh]
      rcases Ag.mp m with m | m
      ·have:=B x m;omega
      ·rw[AG.mp m];omega
     rw[Br,AQ,Ac]at this;exact this
    refine⟨by rw[A];exact congrArg some (bne_iff_ne.mpr (by lia)),(s.1++[(i:Int)],((c &&& (c - 1):Nat):Int)),?_,⟨_,rfl,?_,λx m=>?_,λj o=>?_,λj o=>?_⟩,?_⟩
    ·rw[A,eY S (by lia),kO,cz (by lia),show(c:Int) - 1=((c - 1:Nat):Int) by lia,TF]
     simp only[AJ,CI,nR];rw[show((i+1:Nat):Int) - 1=(i:Int) by lia]
    ·refine DS.mpr ⟨C,D7 _ _,λx m y O=>?_⟩
     rw[AG.mp O];exact(B x m).2.2.2 i G
    ·rcases Ag.mp m with m | m
     ·obtain⟨X,Y,Z,a4⟩:=B x m
      refine⟨X,Y,Z,λj o=>a4 j ?_⟩;rw[H j,CS]at o;exact o.1
     ·rw[AG.mp m]
      refine⟨by lia,by lia,by rw[At];exact E i G,λj o=>?_⟩;rw[H j,CS]at o
      have yn:i≠j:=by simpa using o.2
      have:¬j < i:=λz=>by rw[R j z]at o;exact zX o.1 AN
      lia
    ·rcases I j o with h | h
     ·exact .inl (BP _ h)
     ·by_cases e:i=j
      ·subst e;exact .inl (by simp)
      ·right
       rw[H j,h,wY e];rfl
    ·rw[H j,CS]at o
     exact E j o.1
    ·show N - (s.1++[(i:Int)]).length < N - s.1.length
     rw[AQ,Ac]
     omega) wN ([],(b:Int)) ⟨b,rfl,.nil,λ_ h=>(nomatch h),λj o=>.inr o,λ_ h=>h⟩ (by show N - 0 < wN;unfold wN;lia)
 refine⟨t,?_,?_⟩
 ·rw[e]
  rfl
 ·obtain⟨c,yC,C,B,I,E⟩:=Q
  have J:c=0:=by
   have A:=Bq A
   have:(c:Int)=0:=by rw[<-yC];simpa using A
   lia
  subst J;refine⟨C,λx=>⟨λm=>⟨(B x m).1,(B x m).2.2.1⟩,λ⟨x0,m⟩=>?_⟩⟩
  rcases I x.toNat m with h | h
  ·rwa [Ax x0]at h
  ·simp at h
open PySem L2 L4
open Srt (ltL)
theorem JH:∀{l k:ZLi},l.Pairwise (· < ·)->k.Pairwise (· < ·)->(∀x,x∈l↔x∈k)->l=k
 | [],[],_,_,_=>rfl
 | [],y :: k,_,_,h=>zX ((h y).mpr (AZ ..)) Cw
 | x :: l,[],_,_,h=>zX ((h x).mp (AZ ..)) Cw
 | x :: l,y :: k,A,B,h=>by
  have o:=HG.mp A;have s:=HG.mp B
  have e:x=y:=by
   rcases Af.mp ((h x).mp (AZ ..))with a | a
   ·exact a
   ·rcases Af.mp ((h y).mpr (AZ ..))with b | b
    ·exact b.symm
    ·have:=s.1 x a
     have:=o.1 y b
     lia
  subst e
  congr 1
  refine JH o.2 s.2 λz=>⟨λm=>?_,λm=>?_⟩
  ·rcases Af.mp ((h z).mp (AV _ m))with a | a
   ·have:=o.1 z m;lia
   ·exact a
  ·rcases Af.mp ((h z).mpr (AV _ m))with a | a
   ·have:=s.1 z m;lia
   ·exact a
noncomputable def Z3:ZLi->List ZLi
 | []=>[[]]
 | x :: l=>(Z3 l).map (x :: ·)++Z3 l
theorem Nt(P:Int->Bool):∀l:ZLi,l.filter P∈Z3 l
 | []=>by simp[Z3]
 | x :: l=>by
  unfold Z3;rw[List.filter_cons];split
  ·exact BP _ (Ai.mpr ⟨_,Nt P l,rfl⟩)
  ·exact BR _ (Nt P l)
noncomputable def sts(o g:Nat):List ZLi:=(IZ o g).getD []
noncomputable def Stg(o g:Nat)(r:ZLi):Prop:=r.length=g/\(∀x∈r,0<=x/\x < (o:Int))/\r.Pairwise (· < ·)
theorem rF:∀o:Nat,o < 8->∀g:Nat,g < 8->g<=o->1<=g->decide (Fv (o,[]) g=some (sts o g)/\sts o g≠[]/\(sts o g).length<=35)=true:=by decide +kernel
theorem Oc(o:Nat)(ho:o < 8)(g:Nat)(l:g < 8)(m:g<=o)(s:1<=g):Fv (o,[]) g=some (sts o g)/\sts o g≠[]/\(sts o g).length<=35:=of_decide_eq_true (rF o ho g l m s)
theorem rE:∀o:Nat,o < 8->∀g:Nat,g < 8->g<=o->1<=g->decide (∀r∈sts o g,r.length=g/\(∀x∈r,0<=x/\x < (o:Int))/\r.Pairwise (· < ·))=true:=by decide +kernel
theorem vb(o:Nat)(ho:o < 8)(g:Nat)(l:g < 8)(m:g<=o)(s:1<=g):∀r∈sts o g,r.length=g/\(∀x∈r,0<=x/\x < (o:Int))/\r.Pairwise (· < ·):=of_decide_eq_true (rE o ho g l m s)
theorem rC:∀o:Nat,o < 8->∀g:Nat,g < 8->g<=o->1<=g->decide ((sts o g).Pairwise (λa b=>ltL a b=true)/\∀l∈Z3 (DQ 0 o),l.length=g->l∈sts o g)=true:=by decide +kernel
theorem iF(o:Nat)(ho:o < 8)(g:Nat)(m:g < 8)(s:g<=o)(A:1<=g):(sts o g).Pairwise (λa b=>ltL a b=true)/\∀l∈Z3 (DQ 0 o),l.length=g->l∈sts o g:=of_decide_eq_true (rC o ho g m s A)
section
variable{o g:Nat}{us:List ZPi}{r:ZLi}
theorem df(ho:o < 8)(l:g<=o)(m:1<=g):Fv (o,us) g=some (sts o g):=(show Fv (o,us) g=Fv (o,[]) g from rfl).trans (Oc o ho g (by lia) l m).1
theorem Ds(ho:o < 8)(m:g<=o)(s:1<=g):r∈sts o g↔Stg o g r:=by
 have a:=vb o ho g (by lia) m s;have b:=(iF o ho g (by lia) m s).2;refine⟨a r,λ⟨l,q,p⟩=>?_⟩
 have e:r=(DQ 0 o).filter λx=>decide (x∈r):=JH p ((Jb 0 o).filter _) λx=>by
  rw[BE,Bh,decide_eq_true_eq];exact⟨λh=>⟨⟨(q x h).1,by have:=(q x h).2;lia⟩,h⟩,λh=>h.2⟩
 have:=b _ (Nt (λx=>decide (x∈r)) (DQ 0 o)) (by rw[<-e];exact l);rwa [<-e]at this
theorem Z5(ho:o < 8)(m:g<=o)(s:1<=g):(sts o g).Nodup:=by
 have a:=(iF o ho g (by lia) m s).1
 exact a.imp λ{a b} l e=>by
  subst e;rw[QB]at l;cases l
end
theorem WU(h:ev[i]?=some r):(DT ev).take (i+1)=(DT ev).take i++[((i:Int),r)]:=by
 rw[Lm]
 congr 1
 unfold DT;rw[Ad,JX,h];simp
theorem wI{ev:List ZLi}(B:ev.Nodup){i:Nat}{r:ZLi}(h:ev[i]?=some r):An (nuF ev) r=some (i:Int):=by
 have m:∀k:Nat,k<=ev.length->∀(j:Nat) (s:ZLi),j < k->ev[j]?=some s->An (((DT ev).take k).foldl nuS []) s=some (j:Int):=by
  intro k
  induction k with
  | zero=>intro _ j s o;exact zX o (Fh _)
  | succ k C=>
   intro H j s o l;have A:ev[k]?=some (ev[k]'(by lia)):=AO (by lia);rw[WU A,IG];show An (CJ _ _ _) s=_;rw[DD]
   by_cases e:j=k
   ·subst e
    rw[A]at l;cases l;rw[qX rfl]
   ·rw[qY,C (by lia) j s (by lia) l]
    intro c;obtain⟨E,G⟩:=AE.mp l;rw[<-G]at c;exact Dp.mp B j k E (by lia) (by lia) c
 have:=m ev.length (AM _) i r (AE.mp h).1 h;rwa [EJ (by unfold DT;simp)]at this
noncomputable def Hb(H:ZLi)(n:Nat)(P:Nat->Nat->Prop):Prop:=H.length=n/\∀p:Nat,p < n->∃h:Nat,H[p]?=some (h:Int)/\∀j,h.testBit j=true↔P p j
theorem jh{n k:Nat}:∀(r:ZLi) {H:ZLi} {P:Nat->Nat->Prop},(∀x∈r,0<=x/\x < (n:Int))->Hb H n P->Hb (r.foldl (hvP (k:Int)) H) n (λp j=>P p j∨((p:Int)∈r/\j=k))
 | [],H,P,_,h=>⟨h.1,λp l=>by
  obtain⟨b,A,m⟩:=h.2 p l
  exact⟨b,A,λj=>by rw[m];simp⟩⟩
 | x :: r,H,P,B,h=>by
  obtain⟨E,G⟩:=B x (AZ ..)
  have A:Hb (hvP (k:Int) H x) n (λp j=>P p j∨((p:Int)=x/\j=k)):=by
   refine⟨by unfold hvP;rw[EB];exact h.1,λp l=>?_⟩;obtain⟨b,o,s⟩:=h.2 p l;unfold hvP;rw[De]
   by_cases c:x.toNat=p
   ·rw[qX c,qX (by rw[h.1];lia)]
    refine⟨b ||| 2 ^ k,?_,λj=>?_⟩
    ·rw[BI,c,o,Rb,At,show(1:Int) * 2 ^ k=((2 ^ k:Nat):Int) by rw[xr];norm_cast,XG]
    ·rw[Wp,HF,s,KZ]
     rw[decide_eq_true_eq]
     have:(p:Int)=x:=by lia
     exact or_congr_right ⟨λe=>⟨this,e.symm⟩,λe=>e.2.symm⟩
   ·rw[qY c]
    refine⟨b,o,λj=>?_⟩;rw[s]
    have:¬(p:Int)=x:=by lia
    exact⟨.inl,λz=>z.elim id λz=>zX z.1 this⟩
  have m:=jh (k:=k) r (λy C=>B y (AV _ C)) A;refine⟨m.1,λp l=>?_⟩;obtain⟨b,o,s⟩:=m.2 p l;refine⟨b,o,λj=>(s j).trans ?_⟩;dsimp only;rw[Af]
  constructor
  ·rintro((a | ⟨a,e⟩) | ⟨a,e⟩)
   ·exact .inl a
   ·exact .inr ⟨.inl a,e⟩
   ·exact .inr ⟨.inr a,e⟩
  ·rintro(a | ⟨a | a,e⟩)
   ·exact .inl (.inl a)
   ·exact .inl (.inr ⟨a,e⟩)
   ·exact .inr ⟨a,e⟩
theorem wu{n:Nat}{ev:List ZLi}(G:∀r∈ev,∀x∈r,0<=x/\x < (n:Int)):Hb (hvF n ev) n (λp j=>∃r,ev[j]?=some r/\(p:Int)∈r):=by
 have o:∀k:Nat,k<=ev.length->Hb (((DT ev).take k).foldl hvS (hv0 n)) n (λp j=>j < k/\∃r,ev[j]?=some r/\(p:Int)∈r):=by
  intro k
  induction k with
  | zero=>
   intro _;refine⟨by unfold hv0;rw[pL,V3,AC,Br],λp l=>⟨0,?_,λj=>by simp⟩⟩;unfold hv0;rw[pL,V3,Ad,AO (by rw[Br];exact l)];rfl
  | succ k H=>
   intro J;have s:ev[k]?=some (ev[k]'(by lia)):=AO (by lia);rw[WU s,IG];have m:=jh (k:=k) ev[k] (G _ (Du _)) (H (by lia));refine⟨m.1,λp l=>?_⟩;obtain⟨b,A,B⟩:=m.2 p l;refine⟨b,A,λj=>(B j).trans ?_⟩
   constructor
   ·rintro(⟨a,q⟩ | ⟨a,rfl⟩)
    ·exact⟨by lia,q⟩
    ·exact⟨by lia,_,s,a⟩
   ·rintro⟨a,r,C,E⟩
    by_cases e:j=k
    ·subst e
     rw[s]at C;cases C;exact .inr ⟨E,rfl⟩
    ·exact .inl ⟨by lia,r,C,E⟩
 have:=o ev.length (AM _);rw[EJ (by unfold DT;simp)]at this;refine⟨this.1,λp l=>?_⟩;obtain⟨b,A,B⟩:=this.2 p l;refine⟨b,A,λj=>(B j).trans ?_⟩;exact⟨λh=>h.2,λ⟨r,m,I⟩=>⟨(AE.mp m).1,r,m,I⟩⟩
theorem HP(h:l.Nodup):(Be l).Pairwise (· < ·):=(V4 (NZ l) ((DK l).nodup_iff.mpr h)).imp λ⟨a,b⟩=>by lia
theorem YU(h:s.Pairwise (· < ·)):Be s=s:=JH (HP (h.imp λh=>by lia)) h λx=>BN
theorem Lu{s:ZLi}(h:s.Pairwise (· < ·)):s.Nodup:=h.imp λh=>by lia
noncomputable def wst(r:ZLi)(a b:Int):ZLi:=r.map λx=>if x=a then b else x
theorem vF(l:r.length<=1000)(a b:Int):Kp r a b=some (wst r a b):=by
 unfold Kp Km
 rw[GZ (f:=λx=>if x=a then b else x) (by lia) λx _=>by
  by_cases c:x=a
  ·rw[wX c,qX rfl,qX c]
  ·rw[wY c,qY AN,qY c]]
 rfl
theorem MQ(l:a∈r):x∈wst r a b↔x=b∨(x∈r/\x≠a):=by
 unfold wst;rw[Ai]
 constructor
 ·rintro⟨y,m,rfl⟩
  split
  ·exact .inl rfl
  ·rename_i c;exact .inr ⟨m,c⟩
 ·rintro(rfl | ⟨h,c⟩)
  ·exact⟨a,l,qX rfl⟩
  ·exact⟨x,h,qY c⟩
theorem gb(m:r.Nodup)(hb:b∉r):(wst r a b).Nodup:=by
 unfold wst Kg;rw[Bc]
 refine m.imp_of_mem λ{x y} o s l=>?_
 split <;> split
 ·rename_i c d;exact zX (c.trans d.symm) l
 ·intro e;exact hb (by rw[e];exact s)
 ·intro e;exact hb (by rw[<-e];exact o)
 ·exact l
structure Fk(o g:Nat)(us:List ZPi)(kd:Str)(f:Fp):Prop where
 ev:f.ev=sts o g
 kd:f.kd=kd
 tk:f.tk=tkl o us
 nu:f.nu=nuF (sts o g)
 hv:f.hv=hvF o (sts o g)
 pl:f.pb.length=(sts o g).length
 pb:∀(i:Nat) (r:ZLi),(sts o g)[i]?=some r->∃n:Nat,f.pb[i]?=some (n:Int)/\n < 128/\∀x:Int,0<=x->x < 7->(n.testBit x.toNat=true↔x∈r)
section
variable{o g:Nat}{us:List ZPi}{kd:Str}{f:Fp}{r r':ZLi}{i:Nat}
theorem oO(h:En o us)(s:g<=o)(A:1<=g):Ok (Mn (o,us) g kd) (Fk o g us kd):=by
 have B:=h.sm
 have hb:∀r∈sts o g,∃n:Nat,G9 r=some (n:Int)/\n < 128/\∀x:Int,0<=x->x < 7->(n.testBit x.toNat=true↔x∈r):=λr m=>by
  obtain⟨-,q,-⟩:=(Ds B s A).mp m
  obtain⟨v,e,n,rfl,C,E⟩:=uL (l:=r) λx G=>by have:=q x G;lia
  exact⟨n,e,C,λx H I=>by rw[E x.toNat (by lia),Ax H]⟩
 obtain⟨-,-,J⟩:=Oc o B g (by lia) s A;unfold Mn;rw[df B s A,lc h];simp only[AJ]
 rw[GZ (f:=λr=>(G9 r).getD 0) (by lia) λr m=>by
  obtain⟨n,e,-⟩:=hb r m;rw[e]
  rfl]
 simp only[AJ];rw[qX ⟨by lia,by show o<=1000;lia,λr m x G=>((Ds B s A).mp m).2.1 x G⟩];refine⟨_,rfl,rfl,rfl,rfl,rfl,rfl,AC _,λi r m=>?_⟩;obtain⟨n,e,C,E⟩:=hb r (Al m);refine⟨n,?_,C,E⟩;show((sts o g).map _)[i]?=_;rw[Ad,m];show some ((G9 r).getD 0)=_;rw[e];rfl
noncomputable def Lk1(us:List ZPi)(r r':ZLi):Prop:=∃a∈r,∃b∈Tg us a,b∉r/\Be (wst r a b)=r'
noncomputable def LkA(us:List ZPi)(r r':ZLi):Prop:=∃s,InS us r (·∈r') s
theorem bU(h:En o us){a b:Int}(A:Stg o g r)(m:a∈r)(hb:b∈Tg us a)(B:b∉r):Stg o g (Be (wst r a b)):=by
 obtain⟨l,q,p⟩:=A;have s:=q a m;have C:=(h.tg s.1 s.2).2.1 b hb;refine⟨by rw[(DK _).length_eq];unfold wst;rw[AC];exact l,λx E=>?_,HP (gb (Lu p) B)⟩
 rcases(MQ m).mp (BN.mp E)with rfl | ⟨h,_⟩
 ·exact C
 ·exact q x h
theorem VM(h:l[i]?=some x):atI l (i:Int)=some x:=LZ (by lia) (by rw[At];exact h)
theorem kP{b n:Nat}{P:Nat->Prop}(hb:∀j,b.testBit j=true↔P j)(j:Nat):(b ||| 2 ^ n).testBit j=true↔P j∨n=j:=by
 rw[Wp,HF,hb,KZ,decide_eq_true_eq]
theorem Pw{n:Nat}(h:n<=1000000):Px 1 (n:Int)=some ((2 ^ n:Nat):Int):=by
 unfold Px;rw[qX ⟨by lia,by lia,by decide⟩,At,xr]
 norm_cast
theorem wF(h:En o us)(E:g<=o)(G:1<=g)(F:Fk o g us kd f)(R:(sts o g)[i]?=some r):Ok (EV f i) λv=>∃l:Nat,v=l/\∀j,l.testBit j=true↔∃r',(sts o g)[j]?=some r'/\Lk1 us r r':=by
 have H:=h.sm;have I:=(Ds H E G).mp (Al R);obtain⟨-,-,hl⟩:=Oc o H g (by lia) E G;unfold EV ET;rw[F.ev,VM R];simp only[AJ,CI];refine OkF.out (OkF.seq (OkF.for (λm (s:Int)=>∃l:Nat,s=l/\∀j,l.testBit j=true↔∃r',(sts o g)[j]?=some r'/\∃a∈m,∃b∈Tg us a,b∉r/\Be (wst r a b)=r') ⟨0,rfl,λj=>by simp⟩ ?_) ?_)
 ·rintro m a s S hp ⟨l,rfl,A⟩
  have T:=I.2.1 a S;rw[F.tk,pS T.1 T.2];simp only[AJ];refine OkF.map (N:=λs:Int=>∃l:Nat,s=l/\∀j,l.testBit j=true↔∃r',(sts o g)[j]?=some r'/\((∃a∈m,∃b∈Tg us a,b∉r/\Be (wst r a b)=r')∨∃b∈Tg us a,b∉r/\Be (wst r a b)=r')) (OkF.for (λU (s:Int)=>∃l:Nat,s=l/\∀j,l.testBit j=true↔∃r',(sts o g)[j]?=some r'/\((∃a∈m,∃b∈Tg us a,b∉r/\Be (wst r a b)=r')∨∃b∈U,b∉r/\Be (wst r a b)=r')) ⟨l,rfl,λj=>by rw[A];simp⟩ ?_) ?_
  ·rintro U b s hb zq ⟨l,rfl,J⟩
   by_cases c:b∈r
   ·rw[wX c]
    refine .nx ⟨l,rfl,λj=>(J j).trans ⟨λ⟨r',e,z⟩=>⟨r',e,z.imp id λ⟨b,hb,z⟩=>⟨b,BP _ hb,z⟩⟩,λ⟨r',e,z⟩=>⟨r',e,z.imp id λ⟨L,O,z⟩=>?_⟩⟩⟩
    rcases Ag.mp O with q | q
    ·exact⟨L,q,z⟩
    ·rw[AG.mp q]at z
     exact zX c z.1
   ·rw[wY c]
    have hw:=bU h I S hb c;obtain⟨k,X,Y⟩:=Bl ((Ds H E G).mpr hw)
    have B:(sts o g)[k]?=some (Be (wst r a b)):=by rw[AO X,Y]
    simp only[Bool.not_false,if_true];rw[vF (by rw[I.1];lia)];simp only[AJ];rw[QR (by unfold wst;rw[AC,I.1];lia)];simp only[AJ];rw[F.nu,wI (Z5 H E G) B];simp only[AJ];rw[Pw (by lia)];simp only[AJ];rw[XG];refine .nx ⟨_,rfl,λj=>(kP J j).trans ⟨?_,?_⟩⟩
    ·rintro(⟨r',e,z⟩ | rfl)
     ·exact⟨r',e,z.imp id λ⟨b,hb,z⟩=>⟨b,BP _ hb,z⟩⟩
     ·exact⟨_,B,.inr ⟨b,by simp,c,rfl⟩⟩
    ·rintro⟨r',e,z | ⟨L,O,Z,P⟩⟩
     ·exact .inl ⟨r',e,.inl z⟩
     ·rcases Ag.mp O with q | q
      ·exact .inl ⟨r',e,.inr ⟨L,q,Z,P⟩⟩
      ·right
       rw[AG.mp q]at P;rw[<-P,<-B]at e;exact(gP X (Z5 H E G)).mp e.symm
  ·rintro s ⟨l,rfl,J⟩
   refine⟨l,rfl,λj=>(J j).trans ⟨λ⟨r',e,z⟩=>⟨r',e,?_⟩,λ⟨r',e,Q,C,z⟩=>⟨r',e,?_⟩⟩⟩
   ·rcases z with⟨Q,C,z⟩ | z
    ·exact⟨Q,BP _ C,z⟩
    ·exact⟨a,by simp,z⟩
   ·rcases Ag.mp C with q | q
    ·exact .inl ⟨Q,q,z⟩
    ·rw[AG.mp q]at z
     exact .inr z
 ·rintro s ⟨l,rfl,A⟩
  exact .rt ⟨l,rfl,A⟩
theorem WW{s:Type}{ev:List s}{l:List (Int×s)}{x:Int×s}(h:l++[x] <+: DT ev):∃r,ev[l.length]?=some r/\x=((l.length:Int),r):=by
 obtain⟨t,B⟩:=h
 have m:(DT ev)[l.length]?=some x:=by rw[<-B,CT];simp
 unfold DT at m;rw[Ad,JX]at m
 cases A:ev[l.length]? with
 | none=>rw[A]at m;cases m
 | some r=>rw[A]at m;exact⟨r,rfl,by have:=Bq m;rw[<-this];simp⟩
theorem xQ(h:En o us)(C:g<=o)(E:1<=g)(F:Fk o g us kd f)(L:(sts o g)[i]?=some r):Ok (EX f i) λv=>∃l:Nat,v=l/\∀j,l.testBit j=true↔∃r',(sts o g)[j]?=some r'/\LkA us r r':=by
 have G:=h.sm;have H:=(Ds G C E).mp (Al L);obtain⟨-,-,hl⟩:=Oc o G g (by lia) C E;unfold EX EU;rw[F.ev,VM L];simp only[AJ,CI];refine OkF.out (OkF.seq (OkF.for (λm (s:Int)=>∃l:Nat,s=l/\∀j,l.testBit j=true↔j < m.length/\∃r',(sts o g)[j]?=some r'/\LkA us r r') ⟨0,rfl,λj=>by simp⟩ ?_) ?_)
 ·rintro m x s N T ⟨l,rfl,A⟩
  obtain⟨n',O,rfl⟩:=WW T
  have U:m.length < (sts o g).length:=by rw[<-F.pl];exact(AE.mp O).1
  have B:(sts o g)[m.length]?=some ((sts o g)[m.length]):=AO U;generalize (sts o g)[m.length]=r' at B;have X:=(Ds G C E).mp (Al B);obtain⟨n,P,Y,Q⟩:=F.pb _ _ B;rw[O]at P;cases P;obtain⟨b,Z,hb⟩:=t8 h Y (rest:=r) H.2.1 (Lu H.2.2);rw[F.tk];dsimp only;rw[Z];simp only[AJ]
  have R:b=true↔LkA us r r':=by
   rw[hb]
   refine exists_congr λs=>⟨λq=>q.imp λx N=>?_,λq=>?_⟩
   ·intro z
    have:=InS.rg h H.2.1 q x N;exact(Q x this.1 (by lia)).mp z
   ·refine q.imp λx _ z=>?_
    have:=X.2.1 x z;exact(Q x this.1 (by lia)).mpr z
  have up:∀j,(j < (m++[((m.length:Int),(n:Int))]).length/\∃r',(sts o g)[j]?=some r'/\LkA us r r')↔(j < m.length/\∃r',(sts o g)[j]?=some r'/\LkA us r r')∨(m.length=j/\LkA us r r'):=λj=>by
   rw[AQ,Ac]
   constructor
   ·rintro⟨a,s,I,S⟩
    by_cases e:m.length=j
    ·subst e
     rw[B]at I;cases I;exact .inr ⟨rfl,S⟩
    ·exact .inl ⟨by lia,s,I,S⟩
   ·rintro(⟨a,q⟩ | ⟨rfl,q⟩)
    ·exact⟨by lia,q⟩
    ·exact⟨by lia,r',B,q⟩
  cases b with
  | true=>
   have J:=R.mp rfl;rw[qX rfl,Pw (by lia)];simp only[AJ];rw[XG];exact .nx ⟨_,rfl,λj=>(kP A j).trans (Iff.trans ⟨λz=>z.imp id λe=>⟨e,J⟩,λz=>z.imp id λe=>e.1⟩ (up j).symm)⟩
  | false=>
   have J:¬LkA us r r':=λz=>by cases R.mpr z
   exact .nx ⟨l,rfl,λj=>(A j).trans (Iff.trans ⟨.inl,λz=>z.elim id λe=>zX e.2 J⟩ (up j).symm)⟩
 ·rintro s ⟨l,rfl,A⟩
  refine .rt ⟨l,rfl,λj=>(A j).trans ⟨λz=>z.2,λ⟨r',e,z⟩=>⟨?_,r',e,z⟩⟩⟩;rw[show(DT f.pb).length=f.pb.length by unfold DT;simp,F.pl];exact(AE.mp e).1
noncomputable def Lk(kd:Str)(us:List ZPi)(r r':ZLi):Prop:=if kd = "one" then Lk1 us r r' else LkA us r r'
theorem jR(h:En o us)(m:g<=o)(s:1<=g)(F:Fk o g us kd f)(A:(sts o g)[i]?=some r):Ok (F9 f i) λv=>∃l:Nat,v=l/\∀j,l.testBit j=true↔∃r',(sts o g)[j]?=some r'/\Lk kd us r r':=by
 have B:=h.sm;obtain⟨-,-,C⟩:=Oc o B g (by lia) m s;have E:=(AE.mp A).1;unfold F9 Mm;rw[qX ⟨by lia,by lia⟩,F.kd]
 by_cases c:kd = "one"
 ·rw[wX c,qX rfl,show Lk kd us r=Lk1 us r from funext λ_=>qX c]
  exact wF h m s F A
 ·rw[wY c,qY AN,show Lk kd us r=LkA us r from funext λ_=>qY c]
  exact xQ h m s F A
theorem kW(h:En o us)(C:g<=o)(E:1<=g)(F:Fk o g us kd f)(s:(sts o g)[i]?=some r){c:Int}(G:0<=c/\c < o):Ok (GB f i c) λv=>∃l:Nat,v=l/\∀j,l.testBit j=true↔∃r',(sts o g)[j]?=some r'/\Lk kd us r r'/\c∈r':=by
 obtain⟨v,e,l,rfl,I⟩:=jR h C E F s
 obtain⟨-,J⟩:=wu (n:=o) (ev:=sts o g) λr s x L=>((Ds h.sm C E).mp s).2.1 x L
 obtain⟨b,N,O⟩:=J c.toNat (by lia);unfold GB Ha;dsimp only;rw[e,F.hv,LZ G.1 N];simp only[AJ];rw[TF];refine⟨_,rfl,_,rfl,λj=>?_⟩;rw[Vc,CS,I,O];dsimp only;rw[Ax G.1];exact⟨λ⟨⟨r',m,A⟩,P,H,B⟩=>by rw[m]at H;cases H;exact⟨r',m,A,B⟩,λ⟨r',m,A,B⟩=>⟨⟨r',m,A⟩,r',m,B⟩⟩
theorem oi(h:En o us)(F:Fk o g us kd f)(l:(sts o g)[i]?=some r):Gs f i=some ((DQ 0 o).filter λc=>!decide (c∈r)):=by
 have m:=h.sm;unfold Gs Iw;rw[F.ev,VM l,F.tk,show(tkl o us).length=o by unfold tkl;rw[AC,Br]];simp only[AJ,CI];rw[Kl (by lia) (by lia),At];simp only[AJ];rw[PL (P:=λc=>!decide (c∈r)) (by rw[Br];lia) λ_ _=>rfl];rfl
end
open PySem L2 L4
structure Dl(f:Fp)(N:Nat)(cl:Nat->ZLi)(B:Nat->Int->Nat->Prop):Prop where
 ln:f.ev.length=N
 sm:N<=400
 cs:∀n,n < N->Gs f n=some (cl n)/\(cl n).length<=1000/\(cl n).Pairwise (· < ·)
 bh:∀n,n < N->∀c∈cl n,Ok (GB f n c) λv=>∃l:Nat,v=l/\∀j,l.testBit j=true↔B n c j
 rg:∀n c j,B n c j->j < N
noncomputable abbrev TL:=List (Int×ZPi)
structure Fa(N:Nat)(cl:Nat->ZLi)(B:Nat->Int->Nat->Prop)(T:TL):Prop where
 nd:(T.map (·.1)).Nodup
 rg:∀n∈T.map (·.1),0<=n/\n < (N:Int)
 ok:∀(m:Nat) z,An T (m:Int)=some z->1<=z.1/\z.2∈cl m/\(∀j,B m z.2 j->∃y,An T (j:Int)=some y/\y.1 < z.1)/\(∀c∈cl m,c < z.2->∃j,B m c j/\∀y,An T (j:Int)=some y->z.1<=y.1)/\(2<=z.1->∀c∈cl m,∃j,B m c j/\∀y,An T (j:Int)=some y->z.1<=y.1+1)
 no:∀m:Nat,m < N->An T (m:Int)=none->∀c∈cl m,∃j,B m c j/\An T (j:Int)=none
 hi:∀(m:Nat) z,An T (m:Int)=some z->z.1<=N
section
variable{f:Fp}{N:Nat}{cl:Nat->ZLi}{B:Nat->Int->Nat->Prop}{b:Nat}
noncomputable def SY(B:Nat->Int->Nat->Prop)(b m:Nat)(c:Int):Prop:=∀j,B m c j->b.testBit j=false
noncomputable def Fst(cl:Nat->ZLi)(B:Nat->Int->Nat->Prop)(b m:Nat)(c:Int):Prop:=c∈cl m/\SY B b m c/\∀l∈cl m,l < c->¬SY B b m l
theorem UZ(h:¬SY B b m c):∃j,B m c j/\b.testBit j=true:=Jp λz=>h λj l=>by
 cases hb:b.testBit j with
 | false=>rfl
 | true=>exact zX ⟨j,l,hb⟩ z
theorem kZ:(a &&& b)=0↔∀j,a.testBit j=true->b.testBit j=false:=by
 constructor
 ·intro h j l
  have:xn (a &&& b) j=xn 0 j:=by rw[h]
  rw[Vc,l,Xz,kz]at this;exact this
 ·intro h
  refine Nat.eq_of_testBit_eq λj=>?_
  rw[Vc,kz]
  cases m:a.testBit j with
  | false=>rfl
  | true=>rw[h j m];rfl
noncomputable def FN(cl:Nat->ZLi)(B:Nat->Int->Nat->Prop)(b:Nat)(K:List ZPi):Prop:=(K.map (·.1)).Nodup/\(∀n∈K.map (·.1),0<=n/\b.testBit n.toNat=true)/\∀(m:Nat) c,An K (m:Int)=some c↔b.testBit m=true/\Fst cl B b m c
theorem bA(hb:b < 2 ^ N)(h:b.testBit i=true):i < N:=k9 λl=>by
 have m:b.testBit i=false:=Zg (AX hb (dG (by decide) l));rw[m]at h;cases h
theorem QF{l:Type}{K:List (Int×l)}(m:(K.map (·.1)).Nodup)(o:∀n∈K.map (·.1),0<=n/\n < (N:Int)):K.length<=N:=by
 have:=Gh (k:=DQ 0 N) m λx s=>by rw[Bh];have:=o x s;lia
 rwa [Br,AC]at this
open Classical in
theorem WT(D:Dl f N cl B)(hb:b < 2 ^ N):Ok (Ep f (b:Int)) (FN cl B b):=by
 obtain⟨l,e,lu,L⟩:=WK hb (by have:=D.sm;lia)
 have S:∀x∈l,0<=x/\x < (N:Int):=λx G=>by
  obtain⟨x0,G⟩:=(L x).mp G;have:=bA hb G
  lia
 unfold Ep Iu;rw[e];simp only[AJ,CI];refine OkF.out (OkF.seq (OkF.for (λpre (s:List ZPi)=>(s.map (·.1)).Nodup/\(∀n∈s.map (·.1),n∈pre)/\∀(m:Nat) c,An s (m:Int)=some c↔(m:Int)∈pre/\Fst cl B b m c) ⟨by simp,λ_ h=>h,λm c=>⟨λh=>(nomatch h),λh=>(nomatch h.1)⟩⟩ ?_) ?_)
 ·rintro pre x s G U ⟨C,E,O⟩
  obtain⟨x0,H⟩:=(L x).mp G
  obtain⟨m,rfl⟩:∃m:Nat,x=m:=⟨x.toNat,by lia⟩
  rw[At]at H;have X:=bA hb H;obtain⟨c1,c2,c3⟩:=D.cs m X
  have hxp:(m:Int)∉pre:=by
   have:=lu.sublist U.sublist;rw[DS]at this;intro z;have:=this.2.2 _ z _ (X6 _)
   lia
  rw[c1];simp only[AJ]
  rw[PL (P:=λc=>decide (SY B b m c)) (by lia) λc hc=>by
   obtain⟨v,e1,q,rfl,hq⟩:=D.bh m X c hc;rw[e1];simp only[AJ];rw[TF]
   congr 1
   refine decide_eq_decide.mpr ?_;rw[show((q &&& b:Nat):Int)=0↔(q &&& b)=0 by lia,kZ]
   exact forall_congr' λj=>imp_congr_left (hq j)]
  simp only[AJ,CI]
  have Q:∀c,c∈(cl m).filter (λc=>decide (SY B b m c))↔c∈cl m/\SY B b m c:=λc=>by rw[BE,decide_eq_true_eq]
  have Y:((cl m).filter λc=>decide (SY B b m c)).Pairwise (· < ·):=c3.filter _;generalize (cl m).filter (λc=>decide (SY B b m c))=o at Q Y
  cases o with
  | nil=>
   have nf:∀c,¬Fst cl B b m c:=λc ⟨I,J,_⟩=>nomatch (Q c).mpr ⟨I,J⟩
   refine .nx ⟨C,λn A=>BP _ (E n A),λk c=>(O k c).trans ⟨λ⟨a,q⟩=>⟨BP _ a,q⟩,λ⟨a,q⟩=>⟨?_,q⟩⟩⟩
   rcases Ag.mp a with a | a
   ·exact a
   ·have e:k=m:=by have:=AG.mp a;lia
    subst e;exact zX q (nf c)
  | cons c0 o=>
   have R:Fst cl B b m c0:=by
    obtain⟨I,J⟩:=(Q c0).mp (AZ ..);refine⟨I,J,λZ T h4 h5=>?_⟩
    rcases Af.mp ((Q Z).mpr ⟨T,h5⟩)with h | h
    ·lia
    ·have:=(HG.mp Y).1 Z h;lia
   have f1:∀c,Fst cl B b m c↔c=c0:=λc=>⟨by
    rintro ⟨I,J,T⟩
    rcases R5 c c0 with h | h | h
    ·exact zX J (R.2.2 c I h)
    ·exact h
    ·exact zX R.2.1 (T c0 R.1 h),λh=>by rw[h];exact R⟩
   have ϕ:s.length<=N:=QF C λn A=>S n ((Xv pre [(m:Int)]).trans U.sublist |>.subset (E n A))
   have hN:=D.sm;rw[show(!(c0 :: o).isEmpty)=true from rfl,qX rfl,show atI (c0 :: o) 0=some c0 from LZ (by decide) rfl];simp only[AJ];rw[show IX s (m:Int) c0=some (CJ s (m:Int) c0)from qX (by lia)];refine .nx ⟨?_,λn A=>?_,λk c=>?_⟩
   ·rw[Hk]
    split
    ·exact C
    ·rename_i hk
     exact Dd.mpr ⟨C,by simp,λy hy z hz=>by rw[AG.mp hz];intro e;subst e;exact hk hy⟩
   ·rw[Hk]at A
    split at A
    ·exact BP _ (E n A)
    ·rcases Ag.mp A with h | h
     ·exact BP _ (E n h)
     ·exact BR _ h
   ·rw[DD]
    by_cases e:(k:Int)=m
    ·have e':k=m:=by lia
     subst e';rw[qX rfl,f1];exact⟨λh=>⟨by simp,(Bq h).symm⟩,λh=>by rw[h.2]⟩
    ·rw[qY e,O]
     refine and_congr_left λ_=>⟨BP _,λh=>?_⟩
     rcases Ag.mp h with h | h
     ·exact h
     ·exact zX (AG.mp h) e
 ·rintro s ⟨C,E,O⟩
  refine .rt ⟨C,λn A=>(L n).mp (E n A),λm c=>(O m c).trans (and_congr_left λ_=>?_)⟩;rw[L];exact⟨λh=>by rw[At]at h;exact h.2,λh=>⟨by lia,by rw[At];exact h⟩⟩
structure Rnd(N:Nat)(cl:Nat->ZLi)(B:Nat->Int->Nat->Prop)(s:TL×Int×Int×List ZPi)(b:Nat):Prop where
 lf:s.2.1=b
 lt:b < 2 ^ N
 bt:∀j,b.testBit j=true↔j < N/\An s.1 (j:Int)=none
 st:1<=s.2.2.1
 nd:(s.1.map (·.1)).Nodup
 rg:∀n∈s.1.map (·.1),0<=n/\n < (N:Int)
 ok:∀(m:Nat) z,An s.1 (m:Int)=some z->z.1 < s.2.2.1/\1<=z.1/\z.2∈cl m/\(∀j,B m z.2 j->∃y,An s.1 (j:Int)=some y/\y.1 < z.1)/\(∀c∈cl m,c < z.2->∃j,B m c j/\∀y,An s.1 (j:Int)=some y->z.1<=y.1)/\(2<=z.1->∀c∈cl m,∃j,B m c j/\∀y,An s.1 (j:Int)=some y->z.1<=y.1+1)
 mn:2<=s.2.2.1->∀m:Nat,m < N->An s.1 (m:Int)=none->∀c∈cl m,∃j,B m c j/\∀y,An s.1 (j:Int)=some y->s.2.2.1<=y.1+1
 fn:FN cl B b s.2.2.2
 sl:s.2.2.1<=s.1.length+1
theorem Y3{l:ZLi}{P:Int->Prop}(h:∃c∈l,P c):∃c∈l,P c/\∀c'∈l,c' < c->¬P c':=by
 induction l with
 | nil=>obtain⟨c,h,_⟩:=h;cases h
 | cons x l I=>
  by_cases A:∃c∈l,P c
  ·obtain⟨c,C,s,G⟩:=I A
   by_cases H:P x/\x < c
   ·exact⟨x,AZ ..,H.1,λc' o E m=>by
     rcases Af.mp o with h | h
     ·lia
     ·exact G c' h (by lia) m⟩
   ·exact⟨c,AV _ C,s,λc' o E m=>by
     rcases Af.mp o with h | h
     ·exact H ⟨by rw[<-h];exact m,by omega⟩
     ·exact G c' h E m⟩
  ·obtain⟨c,C,s⟩:=h
   rcases Af.mp C with h | h
   ·subst h
    exact⟨c,AZ ..,s,λc' o E m=>by
     rcases Af.mp o with h | h
     ·omega
     ·exact A ⟨c',h,m⟩⟩
   ·exact zX ⟨c,h,s⟩ A
theorem mJ(D:Dl f N cl B)(h:Rnd N cl B s b)(yn:s.2.2.2≠[]) :
  ∃s' I,BM (EQ (s.2.2.2.map (·.1)) (s.1,s.2.1) λ(yS:TL×Int) S=>BM (((An s.2.2.2 S).bind λyX=>some (s.2.2.1,yX)).bind λΕ=>(IX yS.1 S Ε).bind λΓ=>some (.nx Γ)) λΨ=>Eg (λΩ=>(Ψ,Ω)) ((Px (1:Int) S).bind λΖ=>some (.nx (Ex yS.2 Ζ)))) (λzD=>BM (some (.nx (s.2.2.1+(1:Int)))) λϭ=>Eg (λyL=>(zD.1,zD.2,ϭ,yL)) ((Ep f zD.2).bind λx48=>some (.nx x48)))=some (.nx (ρ:=TL) s')/\Rnd N cl B s' I/\s.1.length < s'.1.length:=by
 obtain⟨T,left,L,K⟩:=s;obtain⟨lf,lt,U,st,nd,rg,ok,mn,fn,sl⟩:=h;dsimp only at lf U st nd rg ok mn fn yn sl ⊢;subst lf;have hN:=D.sm;obtain⟨k1,k2,k3⟩:=fn
 have kN:∀n∈K.map (·.1),0<=n/\n < (N:Int):=λn O=>by
  obtain⟨a,q⟩:=k2 n O;have:=bA lt q
  lia
 have kT:∀n∈K.map (·.1),An T n=none:=λn O=>by
  obtain⟨a,q⟩:=k2 n O;have:=((U _).mp q).2;rwa [Ax a]at this
 obtain⟨⟨G,X⟩,e,Y,Z,t3,I,rfl,b1,b2⟩:=cb (ρ:=TL) (l:=K.map (·.1)) (s0:=(T,(b:Int))) (q:=λ(yS:TL×Int) S=>BM (((An K S).bind λyX=>some (L,yX)).bind λΕ=>(IX yS.1 S Ε).bind λΓ=>some (.nx Γ)) λΨ=>Eg (λΩ=>(Ψ,Ω)) ((Px (1:Int) S).bind λΖ=>some (.nx (Ex yS.2 Ζ))))
  (λpre s=>(s.1.map (·.1)).Nodup/\(∀n∈s.1.map (·.1),0<=n/\n < (N:Int))/\(∀n,An s.1 n=if n∈pre then(An K n).map λc=>(L,c)else An T n)/\∃I:Nat,s.2=I/\I < 2 ^ N/\∀j:Nat,I.testBit j=true↔b.testBit j=true/\(j:Int)∉pre)
  ⟨nd,rg,λn=>by simp,b,rfl,lt,λj=>by simp⟩ (by
   rintro pre x ⟨G,X⟩ hx hp ⟨Y,Z,t3,I,rfl,b1,b2⟩;dsimp only at Y Z t3 ⊢;obtain⟨x0,xN⟩:=kN x hx;obtain⟨-,xb⟩:=k2 x hx
   have xp:x∉pre:=by
    have:=k1.sublist hp.sublist;unfold Kg at this;rw[DS]at this
    exact λz=>this.2.2 _ z _ (X6 _) rfl
   obtain⟨c,o⟩:=Ce.mp ((DC K x).mpr hx);have hl:=QF Y Z;rw[o];simp only[AJ];rw[show IX G x (L,c)=some (CJ G x (L,c))from qX (by lia)];simp only[AJ,CI];rw[show x=((x.toNat:Nat):Int) by lia,Pw (by lia)];simp only[AJ];rw[lE,<-show x=((x.toNat:Nat):Int) by lia];refine⟨_,rfl,?_,λn O=>?_,λn=>?_,_,rfl,Nat.xor_lt_two_pow b1 (Nat.pow_lt_pow_right (by decide) (by lia)),λj=>?_⟩
   ·rw[Hk]
    split
    ·exact Y
    ·rename_i hk
     exact Dd.mpr ⟨Y,by simp,λy E z A=>by rw[AG.mp A];intro e;subst e;exact hk E⟩
   ·rw[Hk]at O
    split at O
    ·exact Z n O
    ·rcases Ag.mp O with h | h
     ·exact Z n h
     ·rw[AG.mp h];exact⟨x0,xN⟩
   ·rw[DD]
    by_cases e:n=x
    ·subst e
     rw[qX rfl,qX (by simp),o];rfl
    ·rw[qY e,t3]
     have:n∈pre++[x]↔n∈pre:=by rw[Ag,AG];exact⟨λz=>z.elim id λz=>zX z e,.inl⟩
     simp only[this]
   ·rw[Nat.testBit_xor,KZ,bne_iff_ne,ne_eq,Ag,AG]
    have yc:=b2 j
    by_cases e:x.toNat=j
    ·subst e
     rw[wX rfl];have:I.testBit x.toNat=true:=(b2 _).mpr ⟨xb,by rw[Ax x0];exact xp⟩;rw[this];refine⟨λz=>zX rfl z,λz=>zX (.inr (by lia)) z.2⟩
    ·rw[wY e]
     have:¬(j:Int)=x:=by lia
     rw[Bool.not_eq_false,yc]
     exact and_congr_right λ_=>⟨λz q=>q.elim z this,λz q=>z (.inl q)⟩)
 rw[e];simp only[CI];dsimp only at Y Z t3;obtain⟨K',eK,hK⟩:=WT D b1;rw[eK]
 have tv:∀n,An G n=match An K n with | some c=>some (L,c) | none=>An T n:=λn=>by
  rw[t3]
  by_cases h:n∈K.map (·.1)
  ·rw[qX h]
   obtain⟨c,o⟩:=Ce.mp ((DC K n).mpr h);rw[o];rfl
  ·rw[qY h]
   cases o:An K n with
   | none=>rfl
   | some c=>exact zX ((DC K n).mp (by rw[o];rfl)) h
 have J:∀n z,An T n=some z->An G n=some z:=λn z A=>by
  rw[tv]
  cases o:An K n with
  | none=>exact A
  | some c=>
   have:=kT n ((DC K n).mp (by rw[o];rfl));rw[this]at A;cases A
 have zP:∀n z,An G n=some z->An T n=some z∨(An T n=none/\z.1=L):=λn z A=>by
  rw[tv]at A
  cases o:An K n with
  | none=>rw[o]at A;exact .inl A
  | some c=>
   rw[o]at A;cases A;exact .inr ⟨kT n ((DC K n).mp (by rw[o];rfl)),rfl⟩
 have bt':∀j,I.testBit j=true↔j < N/\An G (j:Int)=none:=λj=>by
  rw[b2,U,tv]
  constructor
  ·rintro⟨⟨H,C⟩,h3⟩
   refine⟨H,?_⟩
   cases o:An K (j:Int)with
   | none=>exact C
   | some c=>exact zX ((DC K _).mp (by rw[o];rfl)) h3
  ·rintro⟨H,C⟩
   cases o:An K (j:Int)with
   | none=>rw[o]at C;exact⟨⟨H,C⟩,λz=>by have:=(DC K _).mpr z;rw[o]at this;cases this⟩
   | some c=>rw[o]at C;cases C
 have up:∀(j:Nat) (r:Int),r<=L->(∀y,An T (j:Int)=some y->r<=y.1)->∀y,An G (j:Int)=some y->r<=y.1:=λj r hr h y E=>by
  rcases zP _ _ E with H | ⟨_,C⟩
  ·exact h y H
  ·lia
 have hlen:T.length < G.length:=by
  cases K with
  | nil=>exact zX rfl yn
  | cons x K=>
   have hx:=kT x.1 (AZ ..);have O:((x.1:Int) :: T.map (·.1)).Nodup:=Bu.mpr ⟨λz=>AN (by have:=(DC T _).mpr z;rw[hx]at this;exact this),nd⟩
   have:=Gh (k:=G.map (·.1)) O λy E=>by
    rw[<-DC]
    rcases Af.mp E with h | h
    ·subst h
     rw[tv];obtain⟨c,o⟩:=Ce.mp ((DC (x :: K) x.1).mpr (AZ ..));rw[o];rfl
    ·obtain⟨z,A⟩:=Ce.mp ((DC T y).mpr h)
     rw[J _ _ A];rfl
   rw[BC,AC,AC]at this
   lia
 refine⟨(G,(I:Int),L+1,K'),I,rfl,⟨rfl,b1,bt',by show 1<=L+1;lia,Y,Z,λm z A=>?_,λ_ m hm A c o=>?_,hK,by show L+1<=(G.length:Int)+1;lia⟩,hlen⟩
 ·dsimp only at A ⊢
  rcases zP _ _ A with H | ⟨H,C⟩
  ·obtain⟨o1,o2,o3,o4,o5,o6⟩:=ok m z H
   refine⟨by lia,o2,o3,λj hj=>?_,λc o ye=>?_,λC c o=>?_⟩
   ·obtain⟨y,y1,y2⟩:=o4 j hj
    exact⟨y,J _ _ y1,y2⟩
   ·obtain⟨j,Q,R⟩:=o5 c o ye
    exact⟨j,Q,up j z.1 (by lia) R⟩
   ·obtain⟨j,Q,R⟩:=o6 C c o
    refine⟨j,Q,λy E=>?_⟩;have:=up j (z.1 - 1) (by lia) (λy E=>by have:=R y E;lia) y E
    lia
  ·obtain⟨r,c⟩:=z
   have o:An K (m:Int)=some c:=by
    have:=tv (m:Int);rw[A]at this
    cases o:An K (m:Int)with
    | none=>rw[o,H]at this;cases this
    | some c'=>rw[o]at this;cases this;rfl
   dsimp only at C;subst C;obtain⟨f0,f1,f2,f3⟩:=(k3 m c).mp o;refine⟨by dsimp only;lia,st,f1,λj hj=>?_,λc' yC ye=>?_,λC c' yC=>?_⟩
   ·have hjN:=D.rg _ _ _ hj
    cases hv:An T (j:Int)with
    | none=>
     have:=(U j).mpr ⟨hjN,hv⟩;rw[f2 j hj]at this;cases this
    | some y=>exact⟨y,J _ _ hv,(ok j y hv).1⟩
   ·obtain⟨j,Q,R⟩:=UZ (f3 c' yC ye)
    refine⟨j,Q,λy E=>?_⟩
    rcases zP _ _ E with q | ⟨_,q⟩
    ·rw[((U j).mp R).2]at q;cases q
    ·dsimp only;lia
   ·obtain⟨j,Q,R⟩:=mn C m ((U m).mp f0).1 H c' yC
    refine⟨j,Q,λy E=>?_⟩
    rcases zP _ _ E with q | ⟨_,q⟩
    ·exact R y q
    ·dsimp only;lia
 ·dsimp only at A ⊢
  obtain⟨H,C⟩:=(b2 m).mp ((bt' m).mpr ⟨hm,A⟩)
  have nl:¬SY B b m c:=λhl=>by
   obtain⟨c0,q1,q2,q3⟩:=Y3 (P:=SY B b m) ⟨c,o,hl⟩;have:=(k3 m c0).mpr ⟨H,q1,q2,q3⟩;exact C ((DC K _).mp (by rw[this];rfl))
  obtain⟨j,Q,R⟩:=UZ nl;refine⟨j,Q,λy E=>?_⟩
  rcases zP _ _ E with q | ⟨_,q⟩
  ·rw[((U j).mp R).2]at q;cases q
  ·lia
theorem j3(D:Dl f N cl B):Ok (Nj f) (Fa N cl B):=by
 have hN:=D.sm;unfold Nj P1;rw[D.ln,Pw (by lia)];simp only[AJ,CI];have hp:0 < 2 ^ N:=pI N;rw[show((2 ^ N:Nat):Int) - 1=((2 ^ N - 1:Nat):Int) by omega]
 have lt:2 ^ N - 1 < 2 ^ N:=by omega
 obtain⟨K,R,S⟩:=WT D lt;rw[R];simp only[AJ,CI];have T:Rnd N cl B ([],((2 ^ N - 1:Nat):Int),1,K) (2 ^ N - 1):=⟨rfl,lt,λj=>by rw[Nat.testBit_two_pow_sub_one,decide_eq_true_eq];exact⟨λh=>⟨h,rfl⟩,λh=>h.1⟩,xt 1,EZ,λ_ h=>(nomatch h),λm z h=>(nomatch h),λh=>zX (show(2:Int)<=1 from h) (by decide),S,xt 1⟩
 obtain⟨l,e,⟨b,h⟩,C⟩:=Zl (ρ:=TL) (c:=λ(U:TL×Int×Int×(List ZPi))=>some (!U.2.2.2.isEmpty)) (q:=λ(s:TL×Int×Int×(List ZPi))=>BM (EQ (s.2.2.2.map (·.1)) (s.1,s.2.1) λ(J:TL×Int) E=>BM (((An s.2.2.2 E).bind λX=>some (s.2.2.1,X)).bind λY=>(IX J.1 E Y).bind λZ=>some (.nx Z)) λΨ=>Eg (λΩ=>(Ψ,Ω)) ((Px (1:Int) E).bind λΖ=>some (.nx (Ex J.2 Ζ)))) (λG=>BM (some (.nx (s.2.2.1+(1:Int)))) λϭ=>Eg (λyL=>(G.1,G.2,ϭ,yL)) ((Ep f G.2).bind λH=>some (.nx H)))) (λs=>∃b,Rnd N cl B s b) (λs=>N - s.1.length) (by
   rintro s ⟨b,h⟩
   cases o:s.2.2.2 with
   | nil=>left;rfl
   | cons x K=>
    right
    obtain⟨l,b',L,I,e3⟩:=mJ D h (by rw[o];exact λz=>nomatch z);rw[o]at L;refine⟨rfl,l,L,⟨b',I⟩,?_⟩;have:=QF I.nd I.rg;show N - l.1.length < N - s.1.length
    omega) wN _ ⟨_,T⟩ (by show N - 0 < wN;unfold wN;lia)
 simp only[CI]at e;rw[e];refine⟨l.1,rfl,?_⟩
 have o:l.2.2.2=[]:=by
  have:=Bq C
  cases o:l.2.2.2 with
  | nil=>rfl
  | cons x K=>rw[o]at this;cases this
 obtain⟨lf,lt,O,st,Q,rg,ok,mn,fn,sl⟩:=h;refine⟨Q,rg,λm z A=>(ok m z A).2,λm hm A c C=>?_,λm z A=>by have:=(ok m z A).1;have:=QF Q rg;lia⟩;have hb:=(O m).mpr ⟨hm,A⟩
 have nl:¬SY B b m c:=λhl=>by
  obtain⟨c0,q1,q2,q3⟩:=Y3 (P:=SY B b m) ⟨c,C,hl⟩;have:=(fn.2.2 m c0).mpr ⟨hb,q1,q2,q3⟩;rw[o]at this;cases this
 obtain⟨j,j1,j2⟩:=UZ nl;exact⟨j,j1,((O j).mp j2).2⟩
end
theorem de(l:ZLi)(x:Int):W0 (l++[x])=W0 l+x:=by
 rw[Wz,Wz,List.sum_append];simp
theorem ll(P:Int->Bool):∀n:Nat,∃b:Nat,W0 (((DQ 0 n).filter P).map λx=>((2 ^ x.toNat:Nat):Int))=b/\b < 2 ^ n/\∀j,b.testBit j=true↔j < n/\P (j:Int)=true:=by
 intro n
 induction n with
 | zero=>exact⟨0,rfl,by decide,λj=>by simp⟩
 | succ n A=>
  obtain⟨b,m,B,o⟩:=A
  have e:DQ 0 (n+1)=DQ 0 n++[(n:Int)]:=by
   unfold DQ;rw[HD,Ba];simp
  rw[e,ZA]
  by_cases l:P (n:Int)=true
  ·rw[qX l,Ba,List.map_singleton,de,m,At]
   refine⟨b+2 ^ n,by lia,by rw[Zh];lia,λj=>?_⟩;have s:=Nat.two_pow_add_eq_or_of_lt B 1;rw[Nat.mul_one]at s;rw[Nat.add_comm,s,Wp,KZ,HF,decide_eq_true_eq,o]
   constructor
   ·rintro(rfl | ⟨a,q⟩)
    ·exact⟨by lia,l⟩
    ·exact⟨by lia,q⟩
   ·rintro⟨a,q⟩
    by_cases e:n=j
    ·exact .inl e
    ·exact .inr ⟨by lia,q⟩
  ·rw[qY l]
   refine⟨b,m,by rw[Zh];lia,λj=>(o j).trans ⟨λ⟨a,q⟩=>⟨by lia,q⟩,λ⟨a,q⟩=>⟨?_,q⟩⟩⟩
   by_cases e:j=n
   ·subst e;exact zX q l
   ·lia
section
variable{f:Fp}{N:Nat}{cl:Nat->ZLi}{B:Nat->Int->Nat->Prop}{T:TL}
theorem ff(D:Dl f N cl B):∃b:Nat,Hh f T=some (b:Int)/\b < 2 ^ N/\∀j,b.testBit j=true↔j < N/\An T (j:Int)=none:=by
 have A:=D.sm;obtain⟨b,l,m,o⟩:=ll (λx=>!(An T x).isSome) N;refine⟨b,?_,m,λj=>(o j).trans (and_congr_right λ_=>by cases An T (j:Int) <;> simp)⟩;unfold Hh HX;rw[D.ln];simp only[AJ];rw[Kl (by lia) (by lia),At];simp only[AJ]
 rw[U6 (P:=λx=>!(An T x).isSome) (f:=λx=>((2 ^ x.toNat:Nat):Int)) (by rw[Br];lia) (λ_ _=>rfl) λx s _=>by
  obtain⟨C,E⟩:=Bh.mp s
  conv=>lhs;rw[show x=((x.toNat:Nat):Int) by lia]
  exact Pw (by lia)]
 simp only[AJ];rw[l];rfl
theorem nY(F:Fa N cl B T):Be (T.map (·.1))=(DQ 0 N).filter λn=>(An T n).isSome:=JH (HP F.nd) ((Jb 0 N).filter _) λx=>by
 rw[BN,BE,DC,Bh];exact⟨λh=>⟨by have:=F.rg x h;lia,h⟩,λh=>h.2⟩
end
noncomputable def evN(o g:Nat)(n:Int):ZLi:=(sts o g).getD n.toNat []
noncomputable def clS(o g:Nat)(n:Nat):ZLi:=(DQ 0 o).filter λc=>!decide (c∈evN o g n)
noncomputable def BS(o g:Nat)(us:List ZPi)(kd:Str)(n:Nat)(c:Int)(j:Nat):Prop:=∃r l,(sts o g)[n]?=some r/\(sts o g)[j]?=some l/\Lk kd us r l/\c∈l
section
variable{o g:Nat}{us:List ZPi}{kd:Str}{f:Fp}
theorem Mz{n:Nat}{r:ZLi}(h:(sts o g)[n]?=some r):evN o g n=r:=by
 unfold evN;rw[At,BI,h];rfl
theorem xI(h:En o us)(B:g<=o)(C:1<=g)(F:Fk o g us kd f):Dl f (sts o g).length (clS o g) (BS o g us kd):=by
 have I:=h.sm;obtain⟨-,-,E⟩:=Oc o I g (by lia) B C;refine⟨by rw[F.ev],by lia,λn A=>?_,λn A c G=>?_,λn c j ⟨r,s,_,e,_⟩=>(AE.mp e).1⟩
 ·have m:=AO A
  refine⟨?_,?_,(Jb 0 o).filter _⟩
  ·rw[oi h F m]
   unfold clS;rw[Mz m]
  ·have:=JD (λc=>!decide (c∈evN o g n)) (DQ 0 o)
   rw[Br]at this;unfold clS
   lia
 ·have m:=AO A
  unfold clS at G;obtain⟨J,-⟩:=BE.mp G;obtain⟨L,N⟩:=Bh.mp J
  refine(kW h B C F m (c:=c) ⟨L,by lia⟩).imp λv ⟨l,e,E⟩=>⟨l,e,λj=>(E j).trans ⟨λ⟨s,q⟩=>⟨_,s,m,q⟩,λ⟨r,s,H,q⟩=>?_⟩⟩
  rw[m]at H;cases H;exact⟨s,q⟩
end
section
variable{o g:Nat}{us:List ZPi}{kd:Str}{f:Fp}{T:TL}
theorem j8(h:En o us)(C:g<=o)(m:1<=g):∃T:TL,Fa (sts o g).length (clS o g) (BS o g us kd) T /\
  G8 (o,us) g kd=some (((DQ 0 (sts o g).length).filter λn=>!(An T n).isSome).map (evN o g)) /\
  Su (o,us) g kd=some (((DQ 0 (sts o g).length).filter λn=>(An T n).isSome).map λn=>(evN o g n,(An T n).getD (0,0))):=by
 have I:=h.sm;obtain⟨-,-,hl⟩:=Oc o I g (by lia) C m;obtain⟨f,E,F⟩:=oO (kd:=kd) h C m;have D:=xI h C m F;obtain⟨T,eT,B⟩:=j3 D
 have at':∀n∈DQ 0 (sts o g).length,atI f.ev n=some (evN o g n):=λn s=>by
  obtain⟨G,n1⟩:=Bh.mp s;have H:=AO (l:=sts o g) (i:=n.toNat) (by lia);rw[F.ev,LZ G H]
  congr 1
  have:=Mz H;rw[Ax G]at this;exact this.symm
 refine⟨T,B,?_,?_⟩
 ·obtain⟨b,J,L,N⟩:=ff (T:=T) D
  obtain⟨l,O,P,Q⟩:=WK L (by lia)
  have R:l=(DQ 0 (sts o g).length).filter λn=>!(An T n).isSome:=JH P ((Jb 0 _).filter _) λx=>by
   rw[Q,BE,Bh,N]
   constructor
   ·rintro⟨A,a,q⟩
    rw[Ax A]at q;exact⟨⟨A,by lia⟩,by rw[q];rfl⟩
   ·rintro⟨⟨A,a⟩,q⟩
    refine⟨A,by lia,?_⟩;rw[Ax A]
    cases S:An T x with
    | none=>rfl
    | some z=>rw[S]at q;cases q
  unfold G8 OD;simp only[AJ];rw[E];simp only[AJ,CI];rw[eT];simp only[AJ];rw[J];simp only[AJ];rw[O];simp only[AJ];rw[R,GZ (f:=evN o g) (by have:=JD (λn=>!(An T n).isSome) (DQ 0 (sts o g).length);rw[Br]at this;lia) λn s=>at' n (BE.mp s).1];rfl
 ·unfold Su Ss
  simp only[AJ];rw[E];simp only[AJ,CI];rw[eT];simp only[AJ,CI]
  have U:=Gh B.nd (k:=DQ 0 (sts o g).length) λx X=>Bh.mpr (by have:=B.rg x X;lia)
  rw[AC,Br]at U;rw[QR (by lia)];simp only[AJ]
  rw[nY B,GZ (f:=λn=>(evN o g n,(An T n).getD (0,0))) (by have:=JD (λn=>(An T n).isSome) (DQ 0 (sts o g).length);rw[Br]at this;lia) λn s=>by
   obtain⟨m,Y⟩:=BE.mp s;rw[at' n m];obtain⟨z,Z⟩:=Ce.mp Y;rw[Z]
   rfl]
  rfl
end
open PySem L2 L4
open Srt (ltL)
noncomputable def Ans(kd:Str)(us:List ZPi)(r:ZLi)(c:Int)(s:ZLi):Prop:=if kd = "one" then ∃a∈r,c∈nr us a.toNat/\s=wst r a c else pB us r c s
theorem W1{s r:ZLi}(m:s.Nodup)(h:∀x∈s,x∈r)(B:s.length=r.length):∀x∈r,x∈s:=λx o=>Jp λA=>by
 have:=Gh (k:=r) (Bu.mpr ⟨A,m⟩) λy l=>by
  rcases Af.mp l with rfl | l
  ·exact o
  ·exact h y l
 rw[BC]at this
 lia
section
variable{o g:Nat}{us:List ZPi}{kd:Str}{r r':ZLi}{c:Int}
theorem OL(h:En o us)(B:Stg o g r)(A:c∉r):(∃s,Ans kd us r c s/\Be s=r')↔Stg o g r'/\Lk kd us r r'/\c∈r':=by
 unfold Ans Lk
 by_cases k:kd = "one"
 ·simp only[qX k]
  constructor
  ·rintro⟨s,⟨a,l,L,rfl⟩,rfl⟩
   have hb:c∈Tg us a:=G5.mpr (.inr L);exact⟨bU h B l hb A,⟨a,l,c,hb,A,rfl⟩,BN.mpr ((MQ l).mpr (.inl rfl))⟩
  ·rintro⟨-,⟨a,l,b,hb,O,rfl⟩,C⟩
   have e:c=b:=by
    rcases(MQ l).mp (BN.mp C)with e | e
    ·exact e
    ·exact zX e.1 A
   subst e
   rcases G5.mp hb with e | e
   ·rw[e]at A;exact zX l A
   ·exact⟨_,⟨a,l,e,rfl⟩,rfl⟩
 ·simp only[qY k]
  constructor
  ·rintro⟨s,m,rfl⟩
   have rg:=pB.rg h B.2.1 m;refine⟨⟨by rw[(DK _).length_eq,m.1,B.1],λx E=>rg x (BN.mp E),HP m.2.1⟩,⟨s,m.1,m.2.1,m.2.2.1,λx E=>BN.mpr E⟩,BN.mpr m.2.2.2⟩
  ·rintro⟨H,⟨s,I,G,N,J⟩,C⟩
   have all:=W1 G J (by rw[I,B.1,H.1]);exact⟨s,⟨I,G,N,all c C⟩,JH (HP G) H.2.2 λx=>BN.trans ⟨J x,all x⟩⟩
end
section
variable{o g:Nat}{kd:Str}{T:TL}
theorem W2(ho:o < 8)(m:g<=o)(s:1<=g)(h:Stg o g r):∃n:Nat,(sts o g)[n]?=some r/\n < (sts o g).length:=by
 obtain⟨n,l,e⟩:=Bl ((Ds ho m s).mpr h);exact⟨n,by rw[AO l,e],l⟩
theorem bu{i j:Nat}{r:ZLi}(ho:o < 8)(l:g<=o)(m:1<=g)(hi:(sts o g)[i]?=some r)(s:(sts o g)[j]?=some r):i=j:=(gP (AE.mp hi).1 (Z5 ho l m)).mp (hi.trans s.symm)
theorem Xh(h:(sts o g)[n]?=some r):c∈clS o g n↔(0<=c/\c < (o:Int))/\c∉r:=by
 unfold clS;rw[BE,Bh,Mz h];simp
theorem kM(l:En o us)(C:g<=o)(E:1<=g)(A:(sts o g)[n]?=some r)(G:c∉r):BS o g us kd n c j↔∃s,Ans kd us r c s/\(sts o g)[j]?=some (Be s):=by
 have H:=(Ds l.sm C E).mp (Al A)
 constructor
 ·rintro⟨L,N,I,m,q⟩
  rw[A]at I;cases I;obtain⟨s,B,J⟩:=(OL (kd:=kd) l H G).mpr ⟨(Ds l.sm C E).mp (Al m),q⟩;exact⟨s,B,by rw[J];exact m⟩
 ·rintro⟨s,B,m⟩
  exact⟨r,_,A,m,((OL (kd:=kd) l H G).mp ⟨s,B,rfl⟩).2⟩
theorem jW(ho:o < 8)(H:g<=o)(I:1<=g):r∈((DQ 0 (sts o g).length).filter λn=>!(An T n).isSome).map (evN o g)↔∃n:Nat,(sts o g)[n]?=some r/\An T (n:Int)=none:=by
 rw[Ai]
 constructor
 ·rintro⟨x,E,rfl⟩
  obtain⟨G,s⟩:=BE.mp E;obtain⟨A,J⟩:=Bh.mp G;have B:=AO (l:=sts o g) (i:=x.toNat) (by lia);have:=Mz B;rw[Ax A]at this;refine⟨x.toNat,by rw[this];exact B,?_⟩;rw[Ax A]
  cases m:An T x with
  | none=>rfl
  | some z=>rw[m]at s;cases s
 ·rintro⟨n,C,m⟩
  exact⟨(n:Int),BE.mpr ⟨Bh.mpr ⟨by lia,by have:=(AE.mp C).1;lia⟩,by rw[m];rfl⟩,Mz C⟩
end
noncomputable def N7(o g:Nat)(us:List ZPi)(kd:Str)(P:ZLi->Prop):Prop:=∀r,P r->Stg o g r/\∀c:Int,0<=c->c < o->c∉r->∃s,Ans kd us r c s/\P (Be s)
noncomputable def La(o g:Nat)(T:TL)(r:ZLi):Prop:=∃n:Nat,(sts o g)[n]?=some r/\An T (n:Int)=none
section
variable{o g:Nat}{us:List ZPi}{kd:Str}{T:TL}{P:ZLi->Prop}
theorem en(A:En o us)(B:g<=o)(C:1<=g)(F:Fa (sts o g).length (clS o g) (BS o g us kd) T):N7 o g us kd (La o g T):=by
 rintro r ⟨n,l,G⟩
 refine⟨(Ds A.sm B C).mp (Al l),λc H I E=>?_⟩;obtain⟨j,J,m⟩:=F.no n (AE.mp l).1 G c ((Xh l).mpr ⟨⟨H,I⟩,E⟩);obtain⟨s,L,N⟩:=(kM A B C l E).mp J;exact⟨s,L,j,N,m⟩
theorem fU(A:En o us)(B:g<=o)(C:1<=g)(F:Fa (sts o g).length (clS o g) (BS o g us kd) T)(E:N7 o g us kd P)(m:P r):La o g T r:=by
 have G:∀(k:Nat) (r:ZLi) (n:Nat) (z:Int×Int),P r->(sts o g)[n]?=some r->An T (n:Int)=some z->z.1.toNat<=k->False:=by
  intro k
  induction k with
  | zero=>
   intro r n z _ _ H Q;have:=(F.ok n z H).1
   lia
  | succ k R=>
   intro r n z m l H Q;obtain⟨Z,S,U,-⟩:=F.ok n z H;obtain⟨I,J⟩:=(Xh l).mp S;obtain⟨s,X,L⟩:=(E r m).2 z.2 I.1 I.2 J;obtain⟨j,N,-⟩:=W2 A.sm B C (E _ L).1;obtain⟨y,Y,ye⟩:=U j ((kM A B C l J).mpr ⟨s,X,N⟩);exact R _ j y L N Y (by lia)
 obtain⟨n,l,-⟩:=W2 A.sm B C (E r m).1
 cases O:An T (n:Int)with
 | none=>exact⟨n,l,O⟩
 | some z=>exact(G _ r n z m l O (AM _)).elim
theorem xM:∀(k:Nat) (r r':ZLi) (f:Int->Int) (x:Int),r.length=k->r.Nodup->r'.Nodup->r.length=r'.length->(∀a∈r,f a∈r')->(∀a∈r,∀b∈r,f a=f b->a=b)->x∉r ->
  ∃z,z∉r'/\z∈x :: r/\∃F:Int->Int,(∀a∈x :: r,(F a=a∨(a∈r/\F a=f a))/\F a∈z :: r')/\∀a∈x :: r,∀b∈x :: r,F a=F b->a=b:=by
 intro k
 induction k with
 | zero=>
  intro r r' f x H _ _ I _ _ _;have e:r=[]:=JY H;have X:r'=[]:=JY (by rw[<-I];exact H);subst e X;exact⟨x,by simp,by simp,λa=>a,λa B=>⟨.inl rfl,B⟩,λ_ _ _ _ h=>h⟩
 | succ k Y=>
  intro r r' f x H J N I C G L
  by_cases s:x∈r'
  ·have Z:(r.map f).Nodup:=by
    unfold Kg;rw[Bc]
    exact J.imp_of_mem λ{a b} B hb ne e=>ne (G a B b hb e)
   obtain⟨a,B,fa⟩:=Ai.mp (W1 Z (λy l=>by obtain⟨b,hb,rfl⟩:=Ai.mp l;exact C b hb) (by rw[AC];exact I) x s)
   have O:(r.filter λy=>decide (y≠a)).length=k:=by
    have:=J.erase_eq_filter a;have E:=MC B;rw[this]at E
    have e:(λy:Int=>y != a)=λy=>decide (y≠a):=by funext y;by_cases q:y=a <;> simp[q]
    rw[e]at E
    lia
   have l2:(r'.filter λy=>decide (y≠x)).length=k:=by
    have:=N.erase_eq_filter x;have E:=MC s;rw[this]at E
    have e:(λy:Int=>y != x)=λy=>decide (y≠x):=by funext y;by_cases q:y=x <;> simp[q]
    rw[e]at E
    lia
   have A:∀y,y∈r.filter (λy=>decide (y≠a))↔y∈r/\y≠a:=λy=>by rw[BE,decide_eq_true_eq]
   have m2:∀y,y∈r'.filter (λy=>decide (y≠x))↔y∈r'/\y≠x:=λy=>by rw[BE,decide_eq_true_eq]
   obtain⟨z,z1,z2,F,Q,F2⟩:=Y _ _ f a O (J.filter _) (N.filter _) (O.trans l2.symm)
    (λb hb=>(m2 _).mpr ⟨C b ((A b).mp hb).1,λe=>((A b).mp hb).2 (G b ((A b).mp hb).1 a B (e.trans fa.symm))⟩)
    (λb hb c hc=>G b ((A b).mp hb).1 c ((A c).mp hc).1) (λh=>((A a).mp h).2 rfl)
   have R:z∈r:=by
    rcases Af.mp z2 with h | h
    ·rw[h];exact B
    ·exact((A z).mp h).1
   have S:z≠x:=λe=>L (by rw[<-e];exact R)
   have inA:∀y∈r,y∈a :: r.filter (λy=>decide (y≠a)):=λy l=>by
    by_cases q:y=a
    ·rw[q];exact AZ ..
    ·exact AV _ ((A y).mpr ⟨l,q⟩)
   have nx:∀y∈r,y≠x:=λy l e=>L (by rw[<-e];exact l)
   have U:∀y∈r,F y≠x:=λy l e=>by
    rcases Af.mp (Q y (inA y l)).2 with h | h
    ·exact S (h.symm.trans e)
    ·exact((m2 _).mp h).2 e
   refine⟨z,λh=>z1 ((m2 z).mpr ⟨h,S⟩),AV _ R,λy=>if y=x then x else F y,λy l=>?_,λy l w hw e=>?_⟩
   ·dsimp only
    rcases Af.mp l with h | h
    ·rw[qX h]
     exact⟨.inl h.symm,AV _ s⟩
    ·rw[qY (nx y h)]
     obtain⟨q1,q2⟩:=Q y (inA y h);refine⟨q1.imp id λq=>⟨h,q.2⟩,?_⟩
     rcases Af.mp q2 with q | q
     ·rw[q];exact AZ ..
     ·exact AV _ ((m2 _).mp q).1
   ·dsimp only at e
    rcases Af.mp l with h | h <;> rcases Af.mp hw with m | m
    ·rw[h,m]
    ·rw[qX h,qY (nx w m)]at e
     exact zX e.symm (U w m)
    ·rw[qY (nx y h),qX m]at e
     exact zX e (U y h)
    ·rw[qY (nx y h),qY (nx w m)]at e
     exact F2 y (inA y h) w (inA w m) e
  ·have nx:∀y∈r,y≠x:=λy l e=>L (by rw[<-e];exact l)
   refine⟨x,s,AZ ..,λy=>if y=x then x else f y,λy l=>?_,λy l w hw e=>?_⟩
   ·dsimp only
    rcases Af.mp l with h | h
    ·rw[qX h]
     exact⟨.inl h.symm,AZ ..⟩
    ·rw[qY (nx y h)]
     exact⟨.inr ⟨h,rfl⟩,AV _ (C y h)⟩
   ·dsimp only at e
    rcases Af.mp l with h | h <;> rcases Af.mp hw with m | m
    ·rw[h,m]
    ·rw[qX h,qY (nx w m)]at e
     exact zX (C w m) (by rw[<-e];exact s)
    ·rw[qY (nx y h),qX m]at e
     exact zX (C y h) (by rw[e];exact s)
    ·rw[qY (nx y h),qY (nx w m)]at e
     exact G y h w m e
theorem Sz(E:r.Nodup):LkA us r r'↔∃f:Int->Int,(∀a∈r,f a∈Tg us a/\f a∈r')/\∀a∈r,∀b∈r,f a=f b->a=b:=by
 constructor
 ·rintro⟨l,O,G,H,I⟩
  have ex:∀a:Int,∃z:Int,a∈r->(a,z)∈r.zip l:=λa=>by
   by_cases q:a∈r
   ·obtain⟨i,Q,e⟩:=Bl q
    refine⟨l[i]'(by lia),λ_=>?_⟩
    have:(r.zip l)[i]'(by rw[Jl];lia)=(a,l[i]'(by lia)):=by rw[JK,e]
    rw[<-this];exact Du _
   ·exact⟨0,λz=>zX z q⟩
  have s:=λa=>EK (ex a)
  refine⟨λa=>DJ (ex a),λa m=>⟨H _ (s a m),I _ (Jk (s a m)).2⟩,λa m b hb e=>?_⟩;have e:DJ (ex a)=DJ (ex b):=e;have A:=s a m;rw[e]at A;exact bT G A (s b hb)
 ·rintro⟨f,B,J⟩
  refine⟨r.map f,AC _,?_,λy C=>?_,λx L=>?_⟩
  ·unfold Kg
   rw[Bc]
   exact E.imp_of_mem λ{a b} m hb N e=>N (J a m b hb e)
  ·rw[TX]at C
   obtain⟨a,m,rfl⟩:=Ai.mp C;exact(B a m).1
  ·obtain⟨a,m,rfl⟩:=Ai.mp L
   exact(B a m).2
theorem YR(l:Stg o g r)(m:0<=x/\x < (o:Int))(s:x∉r):Stg o (g+1) (Be (x :: r)):=by
 refine⟨by rw[(DK _).length_eq,BC,l.1],λy A=>?_,HP (Bu.mpr ⟨s,Lu l.2.2⟩)⟩
 rcases Af.mp (BN.mp A)with h | h
 ·rw[h];exact m
 ·exact l.2.1 y h
theorem grow(X:En o us)(hP:N7 o g us kd P):N7 o (g+1) us kd (λR=>∃r x,P r/\(0<=x/\x < (o:Int))/\x∉r/\R=Be (x :: r)):=by
 rintro R ⟨r,x,hr,L,I,rfl⟩;obtain⟨A,hA⟩:=hP r hr;have J:=YR A L I;refine⟨J,λc c0 c1 N=>?_⟩
 have m:∀y,y∈Be (x :: r)↔y=x∨y∈r:=λy=>by rw[BN,Af]
 have cx:c≠x:=λe=>N ((m c).mpr (.inl e))
 have O:c∉r:=λe=>N ((m c).mpr (.inr e))
 obtain⟨s,hs,Y⟩:=hA c c0 c1 O;obtain⟨C,B,Q⟩:=(OL (kd:=kd) X A O).mp ⟨s,hs,rfl⟩;generalize Be s=r' at Y C B Q
 have fin:∀z,(0<=z/\z < (o:Int))->z∉r'->Lk kd us (Be (x :: r)) (Be (z :: r'))->∃s,Ans kd us (Be (x :: r)) c s/\∃r x,P r/\(0<=x/\x < (o:Int))/\x∉r/\Be s=Be (x :: r):=λz Z E hl=>by
  obtain⟨S,h1,G⟩:=(OL (kd:=kd) X J N).mpr ⟨YR C Z E,hl,BN.mpr (AV _ Q)⟩;exact⟨S,h1,r',z,Y,Z,E,G⟩
 unfold Lk at B fin
 by_cases k:kd = "one"
 ·simp only[qX k]at B fin
  obtain⟨a,l,b,hb,ϡ,e⟩:=B
  have U:b≠x:=λe2=>by
   have:c∈wst r a b:=BN.mp (by rw[e];exact Q)
   rcases(MQ l).mp this with h | h
   ·exact cx (h.trans e2)
   ·exact O h.1
  have H:x∉r':=λh=>by
   rw[<-e]at h
   rcases(MQ l).mp (BN.mp h)with h | h
   ·exact U h.symm
   ·exact I h.1
  refine fin x L H ⟨a,(m a).mpr (.inr l),b,hb,λh=>((m b).mp h).elim U ϡ,?_⟩;have aR:=(m a).mpr (.inr l)
  have bR:b∉Be (x :: r):=λh=>((m b).mp h).elim U ϡ
  refine JH (HP (gb (Lu J.2.2) bR)) (HP (Bu.mpr ⟨H,Lu C.2.2⟩)) λy=>?_
  rw[BN,BN,MQ aR,m,Af,<-e,BN,MQ l]
  have xa:x≠a:=λe=>I (by rw[e];exact l)
  constructor
  ·rintro(h | ⟨h | h,G⟩)
   ·exact .inr (.inl h)
   ·exact .inl h
   ·exact .inr (.inr ⟨h,G⟩)
  ·rintro(h | h | ⟨h,G⟩)
   ·exact .inr ⟨.inl h,by rw[h];exact xa⟩
   ·exact .inl h
   ·exact .inr ⟨.inr h,G⟩
 ·simp only[qY k]at B fin
  obtain⟨f,f1,f2⟩:=(Sz (Lu A.2.2)).mp B;obtain⟨z,z1,z2,F,F1,F2⟩:=xM _ r r' f x rfl (Lu A.2.2) (Lu C.2.2) (by rw[A.1,C.1]) (λa l=>(f1 a l).2) f2 I;refine fin z ?_ z1 ((Sz (Lu J.2.2)).mpr ⟨F,λa l=>?_,λa l b hb=>F2 a (BN.mp l) b (BN.mp hb)⟩)
  ·rcases Af.mp z2 with h | h
   ·rw[h];exact L
   ·exact A.2.1 z h
  ·obtain⟨w1,w2⟩:=F1 a (BN.mp l)
   refine⟨?_,BN.mpr w2⟩
   rcases w1 with h | ⟨h,e⟩
   ·rw[h];exact G5.mpr (.inl rfl)
   ·rw[e];exact(f1 a h).1
end
open PySem L2 L4
structure St(p:Nat)(s:ZLi):Prop where
 up:s.Pairwise (· < ·)
 at':∀x∈s,0<=x/\x < (p:Int)
section
variable{ts:List ZPi}
noncomputable def okJ(ts:List ZPi)(c:ZLi)(x:Nat):Bool:=c.all λy=>decide (y∈nr ts x)
noncomputable def P2(l:List ZLi)(k:Nat)(c:ZLi):List ZLi:=l.take k++[c]++l.drop (k+1)
noncomputable def grw(ts:List ZPi)(most:Nat)(x:Nat)(l:List ZLi):List (List ZLi):=
 ((BJ l.length).filterMap λk=>if okJ ts (l.getD k []) x then some (P2 l k (l.getD k []++[(x:Int)]))else none)++(if l.length < most then[l++[[(x:Int)]]]else[])
noncomputable def lv(ts:List ZPi)(most:Nat):Nat->Nat->List ZLi->List (List ZLi)
 | 0,_,l=>[l]
 | n+1,x,l=>(grw ts most x l).flatMap (lv ts most n (x+1))
theorem Mu{most x:Nat}{l ds:List ZLi}:ds∈grw ts most x l↔(∃k c,l[k]?=some c/\okJ ts c x=true/\ds=P2 l k (c++[(x:Int)]))∨l.length < most/\ds=l++[[(x:Int)]]:=by
 unfold grw;rw[Ag,QZ]
 constructor
 ·rintro(⟨k,m,h⟩ | h)
  ·have m:=Ea.mp m
   rw[BI,AO m]at h;split at h
   ·rename_i s
    cases h;exact .inl ⟨k,l[k],AO m,s,rfl⟩
   ·cases h
  ·split at h
   ·rename_i A
    exact .inr ⟨A,AG.mp h⟩
   ·cases h
 ·rintro(⟨k,c,o,B,rfl⟩ | ⟨o,rfl⟩)
  ·refine .inl ⟨k,Ea.mpr (AE.mp o).1,?_⟩
   rw[BI,o];exact qX B
  ·rw[qX o]
   exact .inr (AG.mpr rfl)
theorem XS{most:Nat}:∀(n x:Nat) (l:List ZLi),lv ts most (n+1) x l=(lv ts most n x l).flatMap (grw ts most (x+n))
 | 0,x,l=>by
  show(grw ts most x l).flatMap (λl=>[l])=[l].flatMap (grw ts most (x+0));simp
 | n+1,x,l=>by
  show(grw ts most x l).flatMap (lv ts most (n+1) (x+1))=((grw ts most x l).flatMap (lv ts most n (x+1))).flatMap (grw ts most (x+(n+1)));rw[List.flatMap_assoc]
  congr 1
  funext m
  rw[XS n (x+1) m,show x+1+n=x+(n+1) by lia]
structure Cl(ts:List ZPi)(x:Nat)(c:ZLi):Prop where
 ne:c≠[]
 st:St x c
 near:∀y∈c,∀z∈c,y≠z->z∈nr ts y.toNat
structure Row(ts:List ZPi)(most x:Nat)(cs:List ZLi):Prop where
 cl:∀c∈cs,Cl ts x c
 all:cs.flatten.Perm ((BJ x).map λy:Nat=>(y:Int))
 few:cs.length<=most
theorem St.snoc{x:Nat}{c:ZLi}(h:St x c):St (x+1) (c++[(x:Int)]):=⟨DS.mpr ⟨h.up,D7 _ _,λa l b hb=>by rw[AG.mp hb];exact(h.at' a l).2⟩,λa l=>by
 rcases Ag.mp l with l | l
 ·have:=h.at' a l;lia
 ·rw[AG.mp l];lia⟩
theorem St.next{x:Nat}{c:ZLi}(h:St x c):St (x+1) c:=⟨h.up,λa l=>by have:=h.at' a l;lia⟩
theorem Sw{x:Nat}{y:Int}(l:0<=y):y∈nr ts x↔(x:Int)∈nr ts y.toNat:=by
 obtain⟨n,rfl⟩:∃n:Nat,y=n:=⟨y.toNat,by lia⟩
 exact nK
theorem Cl.snoc{x:Nat}{c:ZLi}(h:Cl ts x c)(ho:okJ ts c x=true):Cl ts (x+1) (c++[(x:Int)]):=by
 have s:∀y∈c,y∈nr ts x:=λy m=>of_decide_eq_true (ES.mp ho y m)
 refine⟨by simp,h.st.snoc,λy m z l o=>?_⟩
 rcases Ag.mp m with m | m
 ·rcases Ag.mp l with l | l
  ·exact h.near y m z l o
  ·rw[AG.mp l]
   exact(Sw (h.st.at' y m).1).mp (s y m)
 ·rw[AG.mp m]at o ⊢
  rcases Ag.mp l with l | l
  ·exact s z l
  ·exact zX (AG.mp l).symm o
theorem Cl.next{x:Nat}{c:ZLi}(h:Cl ts x c):Cl ts (x+1) c:=⟨h.ne,h.st.next,h.near⟩
theorem UL(x:Nat):((BJ (x+1)).map λy:Nat=>(y:Int))=((BJ x).map λy:Nat=>(y:Int))++[(x:Int)]:=by
 rw[HD,Ba];rfl
theorem YT{l:List ZLi}{k:Nat}{c:ZLi}(h:l[k]?=some c):l=l.take k++[c]++l.drop (k+1):=by
 obtain⟨m,e⟩:=AE.mp h;have:=JC k l;rw[C0 m,e]at this;simpa using this.symm
theorem UN{l:List ZLi}{k:Nat}{c d:ZLi}(h:l[k]?=some c):(P2 l k d).length=l.length:=by
 conv=>rhs;rw[YT h]
 unfold P2;simp
theorem Row.grw{most x:Nat}{o ds:List ZLi}(h:Row ts most x o)(hd:ds∈M.grw ts most x o):Row ts most (x+1) ds:=by
 rcases Mu.mp hd with⟨k,c,l,s,rfl⟩ | ⟨H,rfl⟩
 ·have A:=h.cl c (Al l)
  have B:=YT l;refine⟨λd hd=>?_,?_,by rw[UN l];exact h.few⟩
  ·unfold P2 at hd
   rcases Ag.mp hd with hd | hd
   ·rcases Ag.mp hd with hd | hd
    ·exact(h.cl d (bQ hd)).next
    ·rw[AG.mp hd];exact A.snoc s
   ·exact(h.cl d (List.mem_of_mem_drop hd)).next
  ·rw[UL]
   refine List.Perm.trans ?_ (h.all.append_right _)
   conv=>rhs;rw[B]
   unfold P2;simp only[dI,List.flatten_cons,List.flatten_nil,By,CT];exact MM _ (MM _ Zj)
 ·refine⟨λd hd=>?_,?_,by rw[AQ,Ac];lia⟩
  ·rcases Ag.mp hd with hd | hd
   ·exact(h.cl d hd).next
   ·rw[AG.mp hd]
    exact⟨by simp,⟨D7 _ _,λa C=>by rw[AG.mp C];lia⟩,λy E z G m=>zX ((AG.mp E).trans (AG.mp G).symm) m⟩
  ·rw[UL,dI]
   simpa using h.all.append_right [(x:Int)]
theorem Row.lv{most:Nat}:∀(n x:Nat) {l ds:List ZLi},Row ts most x l->ds∈M.lv ts most n x l->Row ts most (x+n) ds
 | 0,x,l,ds,h,hd=>by rw[AG.mp hd];exact h
 | n+1,x,l,ds,h,hd=>by
  obtain⟨s,m,o⟩:=FA.mp hd;have:=Row.lv n (x+1) (h.grw m) o;rw[show x+1+n=x+(n+1) by lia]at this;exact this
theorem Row.nil(ts:List ZPi)(most:Nat):Row ts most 0 []:=⟨λ_ h=>zX h Cw,.refl _,Do _⟩
theorem nv{most x:Nat}{l ds:List ZLi}(h:ds∈grw ts most x l):l.length<=ds.length:=by
 rcases Mu.mp h with⟨k,c,m,_,rfl⟩ | ⟨_,rfl⟩
 ·rw[UN m];exact AM _
 ·rw[AQ];lia
theorem jO{most:Nat}:∀(n x:Nat) {l ds:List ZLi},ds∈lv ts most n x l->l.length<=ds.length
 | 0,_,l,ds,h=>by rw[AG.mp h];exact AM _
 | n+1,x,l,ds,h=>by
  obtain⟨s,m,o⟩:=FA.mp h;exact Aj (nv m) (jO n (x+1) o)
theorem Y1{most:Nat}:∀(n x:Nat) {l ds:List ZLi},ds∈lv ts most n x l->ds∈lv ts ds.length n x l
 | 0,_,l,ds,h=>h
 | n+1,x,l,ds,h=>by
  obtain⟨s,m,o⟩:=FA.mp h;refine FA.mpr ⟨s,?_,Y1 n (x+1) o⟩;have A:=jO n (x+1) o
  rcases Mu.mp m with m | ⟨_,rfl⟩
  ·exact Mu.mpr (.inl m)
  ·rw[AQ,Ac]at A
   exact Mu.mpr (.inr ⟨by lia,rfl⟩)
noncomputable def Cov(o:Nat)(ts:List ZPi)(m:Nat):Prop:=∃f:Nat->Nat,(∀x,x < o->f x < m)/\∀x y:Nat,x < o->y < o->x≠y->f x=f y->(y:Int)∈nr ts x
theorem sr{o m:Nat}{ds:List ZLi}(h:ds∈lv ts m o 0 []):Cov o ts m:=by
 have R:=Row.lv o 0 (Row.nil ts m) h;rw[IQ]at R
 have A:∀x,x < o->ds.findIdx (λc=>decide ((x:Int)∈c)) < ds.length:=λx l=>by
  have:(x:Int)∈ds.flatten:=R.all.mem_iff.mpr (Ai.mpr ⟨x,Ea.mpr l,rfl⟩);obtain⟨c,G,B⟩:=List.mem_flatten.mp this;exact List.findIdx_lt_length_of_exists ⟨c,G,wX B⟩
 have s:∀x,x < o->∃c,ds[ds.findIdx (λc=>decide ((x:Int)∈c))]?=some c/\(x:Int)∈c:=λx l=>⟨_,AO (A x l),of_decide_eq_true (List.findIdx_getElem (p:=λc=>decide ((x:Int)∈c)) (w:=A x l))⟩
 refine⟨λx=>ds.findIdx (λc=>decide ((x:Int)∈c)),λx l=>AX (A x l) R.few,λx y l B J e=>?_⟩;have e:ds.findIdx (λc=>decide ((x:Int)∈c))=ds.findIdx (λc=>decide ((y:Int)∈c)):=e;obtain⟨c,C,H⟩:=s x l;obtain⟨d,E,I⟩:=s y B;rw[<-e,C]at E;cases E;have:=(R.cl c (Al C)).near x H y I (by lia);rwa [At]at this
theorem iZ{l:List ZLi}{k:Nat}(m:k < l.length)(d:ZLi):P2 l k d=l.set k d:=by
 unfold P2;rw[List.set_eq_take_append_cons_drop,qX m,CT];rfl
theorem kG{o m:Nat}(Z:Cov o ts m):lv ts m o 0 []≠[]:=by
 obtain⟨f,f1,f2⟩:=Z
 have N:∀x:Nat,x<=o->∃(s:List ZLi) (A:List Nat),s∈lv ts m x 0 []/\A.length=s.length/\A.Nodup/\(∀(k:Nat) c a,s[k]?=some c->A[k]?=some a->∀y∈c,∃n:Nat,y=(n:Int)/\n < x/\f n=a)/\∀a∈A,a < m:=by
  intro x
  induction x with
  | zero=>exact λ_=>⟨[],[],AG.mpr rfl,rfl,EZ,λk c a h=>by simp at h,λa h=>zX h Cw⟩
  | succ x ih=>
   intro hx;obtain⟨s,A,I,S,T,J,U⟩:=ih (by lia)
   by_cases c:f x∈A
   ·obtain⟨k,hk,e⟩:=Bl c
    have G:k < s.length:=by lia
    have O:A[k]?=some (f x):=by rw[AO hk,e]
    refine⟨P2 s k (s[k]++[(x:Int)]),A,?_,by rw[UN (AO G),S],T,λj c a B l y C=>?_,U⟩
    ·rw[XS,IQ]
     refine FA.mpr ⟨s,I,Mu.mpr (.inl ⟨k,s[k],AO G,ES.mpr λy C=>wX ?_,rfl⟩)⟩;obtain⟨n,rfl,P,E⟩:=J k _ _ (AO G) O y C;exact f2 x n (by lia) (by lia) (by lia) E.symm
    ·rw[iZ G,De]at B
     by_cases L:k=j
     ·subst L
      rw[qX rfl,qX G]at B;cases B;rw[O]at l;cases l
      rcases Ag.mp C with C | C
      ·obtain⟨n,H,P,E⟩:=J k _ _ (AO G) O y C
       exact⟨n,H,by lia,E⟩
      ·exact⟨x,AG.mp C,by lia,rfl⟩
     ·rw[qY L]at B
      obtain⟨n,H,P,E⟩:=J j c a B l y C;exact⟨n,H,by lia,E⟩
   ·have X:(A++[f x]).Nodup:=Dd.mpr ⟨T,by simp,λa l b hb e=>by rw[AG.mp hb]at e;rw[e]at l;exact c l⟩
    have Y:∀a∈A++[f x],a < m:=λa l=>by
     rcases Ag.mp l with l | l
     ·exact U a l
     ·rw[AG.mp l];exact f1 x (by lia)
    have Q:=Gh (k:=BJ m) X λa l=>Ea.mpr (Y a l)
    rw[AQ,Ac,D8]at Q;refine⟨s++[[(x:Int)]],A++[f x],?_,by rw[AQ,AQ,S];rfl,X,λj c a B l y C=>?_,Y⟩
    ·rw[XS,IQ]
     exact FA.mpr ⟨s,I,Mu.mpr (.inr ⟨by lia,rfl⟩)⟩
    ·by_cases L:j < s.length
     ·rw[Av L]at B
      rw[Av (by lia)]at l;obtain⟨n,H,P,E⟩:=J j c a B l y C;exact⟨n,H,by lia,E⟩
     ·rw[Bd (by lia)]at B l
      have R:j - s.length=0:=by
       have:=(AE.mp B).1;rw[Ac]at this
       lia
      rw[R]at B;rw[show j - A.length=0 by lia]at l;cases B;cases l;exact⟨x,AG.mp C,by lia,rfl⟩
 obtain⟨s,_,I,_⟩:=N o (AM _);exact QY I
theorem kF{o m m':Nat}(l:Cov o ts m)(h:m<=m'):Cov o ts m':=by
 obtain⟨f,s,A⟩:=l;exact⟨f,λx B=>AX (s x B) h,A⟩
theorem oY{o m k:Nat}{s:ZLi}(B:Cov o ts m)(l:Stg o k s)(hi:s.Pairwise λa b=>b∉nr ts a.toNat):k<=m:=by
 obtain⟨f,C,E⟩:=B
 have G:(s.map λy=>f y.toNat).Nodup:=Bc.mpr ((l.2.2.and hi).imp_of_mem λ{a b} A hb h e=>by
  obtain⟨J,L⟩:=l.2.1 a A;obtain⟨H,N⟩:=l.2.1 b hb;have:=E a.toNat b.toNat (by lia) (by lia) (by have:=h.1;lia) e;rw[Ax H]at this
  exact h.2 this)
 have:=Gh (k:=BJ m) G λa A=>by
  obtain⟨y,I,rfl⟩:=Ai.mp A;obtain⟨O,y1⟩:=l.2.1 y I;exact Ea.mpr (C _ (by lia))
 rwa [AC,l.1,D8]at this
noncomputable def fcl(o:Nat)(ts:List ZPi)(a:Nat):List ZLi:=match(Gc a (o - a)).find? λm=>!(lv ts m o 0 []).isEmpty with
 | some m=>(lv ts m o 0 []).headD []
 | none=>(BJ o).map λx:Nat=>[(x:Int)]
theorem xG{o a:Nat}(H:∀m,Cov o ts m->a<=m):∀m,Cov o ts m↔(fcl o ts a).length<=m:=by
 unfold fcl
 cases G:(Gc a (o - a)).find? λm=>!(lv ts m o 0 []).isEmpty with
 | none=>
  intro m;show _↔((BJ o).map λx:Nat=>[(x:Int)]).length<=m;rw[AC,D8];refine⟨λA=>Jp λJ=>?_,λh=>⟨λx=>x,λx Q=>by lia,λx y _ _ B e=>zX e B⟩⟩;have:=FP.mp G m (Rc.mpr ⟨H m A,by have:=H m A;lia⟩);have B:=kG A
  cases l:lv ts m o 0 []with
  | nil=>exact B l
  | cons _ _=>rw[l]at this;exact this rfl
 | some C=>
  intro m;show _↔((lv ts C o 0 []).headD []).length<=m;have L:=VV G
  cases l:lv ts C o 0 []with
  | nil=>rw[l]at L;cases L
  | cons N r=>
   show _↔N.length<=m
   have hd:N∈lv ts C o 0 []:=by rw[l];exact AZ
   have R:=Row.lv o 0 (Row.nil ts C) hd;refine⟨λA=>?_,λh=>kF (sr (Y1 o 0 hd)) h⟩
   rcases Zi m C with lt | ge
   ·exfalso
    obtain⟨as,bs,e,P⟩:=(TU.mp G).2
    have J:m∈as:=by
     have ge:=H m A;have I:=Lb G;rw[Rc]at I;have E:m∈Gc a (o - a):=Rc.mpr ⟨ge,by lia⟩;rw[e]at E
     rcases Ag.mp E with q | q
     ·exact q
     ·exfalso
      have O:=List.pairwise_lt_range' (s:=a) (n:=o - a);rw[e]at O;have:=(DS.mp O).2.1
      rcases Af.mp q with q | q
      ·lia
      ·have:=(HG.mp this).1 m q
       lia
    have:=P m J;have B:=kG A
    cases l:lv ts m o 0 []with
    | nil=>exact B l
    | cons _ _=>rw[l]at this;cases this
   ·exact Aj R.few ge
end
section
variable{o:Nat}{us:List ZPi}
theorem xD{r:ZLi}(I:∀x∈r,0<=x/\x < (o:Int))(T:r.length<=1000)(w:Bool):Ok (Jf (o,us) r w) λv=>v.isNone=true↔r.Pairwise λa b=>decide (b∈nr us a.toNat)≠w:=by
 refine OkF.out ?_;unfold Jd;refine OkF.seq (OkF.for (λl (_:Unit)=>∀i (m:i < r.length),i < l.length->∀y∈r.drop (i+1),decide (y∈nr us r[i].toNat)≠w) (λi _ h=>zX h (Fh _)) ?_) ?_
 ·intro l x _ U J B
  obtain⟨z,E,rfl⟩:=WW J;obtain⟨L,G⟩:=AE.mp E;obtain⟨O,P⟩:=I z (Al E);dsimp only;rw[aQ O P];simp only[AJ,CI];rw[show((l.length:Int)+1)=((l.length+1:Nat):Int) by lia,ZG r (by lia)];refine OkF.map (OkF.for (λH (_:Unit)=>∀y∈H,decide (y∈nr us z.toNat)≠w) (λy h=>zX h Cw) ?_) ?_
  ·intro H y _ A X C
   by_cases c:decide (y∈nr us z.toNat)=w
   ·rw[wX c,qX rfl]
    refine OkF.map (N:=λ_=>False) (.rt ⟨λq=>(by cases q),λq=>?_⟩) λ_ h=>h.elim
    exfalso
    rw[<-JC l.length r,C0 L]at q;have:=(HG.mp (DS.mp q).2.1).1 y A;rw[G]at this;exact this c
   ·rw[wY c,qY AN]
    refine OkF.map (N:=λ_=>True) (.nx trivial) λ_ _=>λv s=>?_
    rcases Ag.mp s with s | s
    ·exact C v s
    ·rw[AG.mp s];exact c
  ·intro _ Q i m R y A
   rw[AQ,Ac]at R
   by_cases e:i=l.length
   ·subst e
    rw[G];exact Q y A
   ·exact B i m (by lia) y A
 ·intro _ B
  refine .rt ⟨λ_=>Dp.mpr λi j m Y S=>B i m ?_ _ ?_,λ_=>rfl⟩
  ·rw[show(DT r).length=r.length by unfold DT;simp];exact m
  ·rw[List.mem_iff_getElem]
   exact⟨j - (i+1),by rw[FB];lia,by rw[List.getElem_drop];congr 1;lia⟩
theorem uK{x:Nat}{c:ZLi}(m:Cl us x c)(J:x < o)(L:c.length<=100):RB (o,us) (c++[(x:Int)])=some (okJ us c x):=by
 have s:∀y∈c++[(x:Int)],0<=y/\y < (o:Int):=λy l=>by
  rcases Ag.mp l with l | l
  ·have:=m.st.at' y l;lia
  ·rw[AG.mp l];lia
 obtain⟨v,A,B⟩:=xD (us:=us) s (by rw[AQ,Ac];lia) false;unfold RB OE Ni Kn;rw[wX (show(0:Int) < ((c++[(x:Int)]).length:Int) by rw[AQ,Ac];lia),qX rfl,A];show some v.isNone=_
 congr 1
 rw[NV,B];unfold okJ;rw[ES,DS]
 constructor
 ·rintro⟨-,-,C⟩ y l
  have:=C y l (x:Int) (AG.mpr rfl)
  have E:(x:Int)∈nr us y.toNat:=by simpa using this
  exact wX ((Sw (m.st.at' y l).1).mpr E)
 ·intro h
  refine⟨m.st.up.imp_of_mem λ{a b} G hb H=>?_,D7 _ _,λy l z I=>?_⟩
  ·have:=m.near a G b hb (by lia)
   simpa using this
  ·rw[AG.mp I]
   have:=(Sw (m.st.at' y l).1).mp (of_decide_eq_true (h y l));simpa using this
end
noncomputable def CZ(c:ZLi):D:=.tup (c.map D.int)
theorem tM{t:MT}{a b:MS}{e:Lo}{S S0 S1:Sto}{d:D}(h:t e S=.ok true S0)(l:a e S0=.ok (.rt d) S1):BH (sIf t a sNx) b e S=.ok (.rt d) S1:=Ow ((Ge h).trans ((qX rfl).trans l))
theorem np{t:MT}{a b:MS}{e:Lo}{S S0:Sto}(h:t e S=.ok false S0):BH (sIf t a sNx) b e S=b e S0:=Bp (e1:=e) ((Ge h).trans ((qY AN).trans rfl))
section
variable{W:Wd}{S S':Sto}{q p x:Nat}{ts:List ZPi}
noncomputable abbrev WbA(W:Wd)(S:Sto)(q p:Nat)(ts:List ZPi):Prop:=S[q]?=some (CQ W (p,ts))
theorem wpl{e:Lo}{S0:Sto}{m:ME}(h:WbA W S q p ts)(l:m e S0=.ok (.ref q) S):Cr W.Web "places" m e S0=.ok (.int p) S:=KG l h rfl
theorem St.len{y:ZLi}(l:St p y):y.length<=p:=by
 have:=Gh (k:=DQ 0 p) (l.up.imp λ{a b} h=>by lia) λx m=>Bh.mpr (by have:=l.at' x m;lia)
 rwa [Br]at this
theorem og{c:ZLi}(hw:WbA W S q p ts)(l:Cl ts x c)(m:x < p)(A:p<=60):∃S',Jo W [.ref q,CZ (c++[(x:Int)])] S=.ok (.bl (okJ ts c x)) S'/\Keeps S S':=by
 obtain⟨d,S',o,s,rfl⟩:=dU W (p,ts) (c++[(x:Int)]) _ (uK l m (by have:=l.st.len;lia)) S [.ref q,CZ (c++[(x:Int)])] ⟨⟨q,rfl,hw⟩,rfl,trivial⟩;exact⟨S',o,s⟩
inductive Rws(S:Sto):List Nat->List (List ZLi)->Prop
 | nil:Rws S [] []
 | cons {r:Nat} {ds:List ZLi} {rs:List Nat} {zo:List (List ZLi)}:S[r]?=some (.lst (ds.map CZ))->Rws S rs zo->Rws S (r :: rs) (ds :: zo)
theorem Rws.mono{l:List Nat}{zo:List (List ZLi)}(h:Rws S l zo)(k:∀r∈l,∀o,S[r]?=some o->S'[r]?=some o):Rws S' l zo:=by
 induction h with
 | nil=>exact .nil
 | cons m _ s=>exact .cons (k _ AZ _ m) (s λr A=>k r (AV _ A))
theorem Rws.snoc{l:List Nat}{m:List (List ZLi)}{r:Nat}{ds:List ZLi}(h:Rws S l m)(o:S[r]?=some (.lst (ds.map CZ))):Rws S (l++[r]) (m++[ds]):=by
 induction h with
 | nil=>exact .cons o .nil
 | cons s _ A=>exact .cons s A
theorem Rws.len{l:List Nat}{m:List (List ZLi)}(h:Rws S l m):l.length=m.length:=by
 induction h with
 | nil=>rfl
 | cons _ _ o=>rw[BC,BC,o]
theorem Rws.get{m:List Nat}{o:List (List ZLi)}(h:Rws S m o):∀{i r:Nat},m[i]?=some r->∃ds,o[i]?=some ds/\S[r]?=some (.lst (ds.map CZ)):=by
 induction h with
 | nil=>intro i r l;cases l
 | cons s _ A=>
  intro i r l
  cases i with
  | zero=>cases l;exact⟨_,rfl,s⟩
  | succ i=>exact A l
theorem fC{o s:Type}{f:o->List s}{l:List o}{i:Nat}{a:o}{e:s}(h:l[i]?=some a)(B:∀x∈l.take i,f x=[])(m:(f a).head?=some e):(l.flatMap f).head?=some e:=by
 obtain⟨C,E⟩:=AE.mp h;rw[<-JC i l,C0 C,E,PY,X7.mpr B,VU,Ln]
 cases A:f a with
 | nil=>rw[A]at m;cases m
 | cons b r=>rw[A]at m;exact m
noncomputable abbrev sj:ME:=m2 Em (m2 Em (LK (AD 1) P8 (NF (AD 5))) (Er (D5 (AH (AD 7) Ay)))) (LK (AD 1) (NF (m2 Em (AD 5) (mC (.int 1)))) P8)
theorem put_ok{S:Sto}{n k:Nat}{l:List ZLi}{c d:ZLi}{d0 d2 d3 d4 d6:D}(G:S[n]?=some (.lst (l.map CZ)))(O:l[k]?=some c)(U:l.length<=60) :
  ∃r S',sj [some d0,sR n,some d2,some d3,some d4,sI k,some d6,some (CZ d)] S=.ok (.ref r) S'/\Keeps S S'/\S.length<=r/\S'[r]?=some (.lst ((P2 l k d).map CZ)):=by
 have X:=(AE.mp O).1
 have H:LK (AD 1) P8 (NF (AD 5)) [some d0,sR n,some d2,some d3,some d4,sI k,some d6,some (CZ d)] S=.ok (.ref S.length) (S++[.lst ((l.take k).map CZ)]):=by
  show okR (Ov (.ref n) none (some (k:Int)) S)=_;rw[WB G,ZE,uJ l (by lia)];rfl
 have A:Keeps S (S++[.lst ((l.take k).map CZ)]):=Keeps.app _ _;have I:=A.at G;have J:=DR S (.lst ((l.take k).map CZ))
 have P:S.length<=(S++[Ob.lst ((l.take k).map CZ)]).length:=by simp
 generalize S++[Ob.lst ((l.take k).map CZ)]=o at H A I J P;have Q:Er (D5 (AH (AD 7) Ay)) [some d0,sR n,some d2,some d3,some d4,sI k,some d6,some (CZ d)] o=.ok (.ref o.length) (o++[.lst [CZ d]]):=RG (Y2 (ds:=[CZ d]) rfl (by simp));have B:=VQ ((Keeps.app o [.lst [CZ d]]).at J) (DR o (.lst [CZ d])) (by rw[AC,Dt];simp;lia);have C:Keeps o (o++[.lst [CZ d]]++[.lst ((l.take k).map CZ++[CZ d])]):=(Keeps.app _ _).trans (Keeps.app _ _);have L:=C.at I;have E:=DR (o++[.lst [CZ d]]) (.lst ((l.take k).map CZ++[CZ d]))
 have R:S.length<=(o++[Ob.lst [CZ d]]++[Ob.lst ((l.take k).map CZ++[CZ d])]).length:=by simp;lia
 generalize o++[Ob.lst [CZ d]]++[Ob.lst ((l.take k).map CZ++[CZ d])]=s at B C L E R;generalize (o++[Ob.lst [CZ d]]).length=m at B E
 have T:LK (AD 1) (NF (m2 Em (AD 5) (mC (.int 1)))) P8 [some d0,sR n,some d2,some d3,some d4,sI k,some d6,some (CZ d)] s=.ok (.ref s.length) (s++[.lst ((l.drop (k+1)).map CZ)]):=by
  show okR (Ov (.ref n) (some ((k:Int)+1)) none s)=_;rw[WB L,show((k:Int)+1)=((k+1:Nat):Int) by lia,ZE,ZG l (by lia)];rfl
 have N:=VQ ((Keeps.app s [.lst ((l.drop (k+1)).map CZ)]).at E) (DR s (.lst ((l.drop (k+1)).map CZ))) (by simp;lia)
 have e5:(l.take k).map CZ++[CZ d]++(l.drop (k+1)).map CZ=(P2 l k d).map CZ:=by unfold P2;simp
 rw[e5]at N;exact⟨_,_,Dz (Dz H Q B) T N,(A.trans C).trans ((Keeps.app s _).trans (Keeps.app _ _)),by simp;lia,DR _ _⟩
noncomputable def QI(ts:List ZPi)(x:Nat)(l:List ZLi)(k:Nat):Option (List ZLi):=if okJ ts (l.getD k []) x then some (P2 l k (l.getD k []++[(x:Int)]))else none
theorem WO(ts:List ZPi)(x:Nat)(l:List ZLi)(i:Nat):(BJ (i+1)).filterMap (QI ts x l)=(BJ i).filterMap (QI ts x l)++(QI ts x l i).toList:=by
 rw[HD,List.filterMap_append]
 congr 1
theorem lG{n:Nat}{most:Int}{l:List ZLi}(hw:WbA W S q p ts)(hc:∀c∈l,Cl ts x c)(hx:x < p)(hp:p<=60)(hl:l.length<=60)(Q:S[n]?=some (.lst (l.map CZ))){mo:Nat}(hm:most=mo) :
  ∃t S' s,Hu W [.ref q,.ref n,.int x,.int most] S=.ok (.ref t) S'/\Keeps S S'/\S'[t]?=some (.lst (s.map D.ref))/\Rws S' s (grw ts mo x l)/\∀r∈s,S.length < r:=by
 subst hm
 have E:∀i,((BJ i).filterMap (QI ts x l)).length<=i:=λi=>Aj (List.length_filterMap_le _ _) (by simp)
 obtain⟨f,S1,h1,⟨B,C,A,s,rfl,R,T,Y,Z⟩⟩:=KF (v:=NC (Ec (.ref n))) (g:=Gq 2 (CO (tgN 5) (CO (tgN 6) G7))) (b:=BH (Cg 7 (m2 Em (AD 6) (Gu (AH (AD 2) Ay)))) (sIf (FM (BX 2 (Jo W) (AH (AD 0) (AH (AD 7) Ay)))) (FD (Np (AD 4) sj)) sNx)) (xs:=LS (l.map CZ)) (e:=[sR q,sR n,sI x,sI mo,sR S.length,none,none,none]) (S:=S++[.lst []])
  (λi e S'=>∃B C A s,e=[sR q,sR n,sI x,sI mo,sR S.length,B,C,A]/\Keeps S S'/\S'[S.length]?=some (.lst (s.map D.ref))/\(∀r∈s,S.length < r)/\Rws S' s ((BJ i).filterMap (QI ts x l)))
  (λf S'=>∃B C A s,f=.nx [sR q,sR n,sI x,sI mo,sR S.length,B,C,A]/\Keeps S S'/\S'[S.length]?=some (.lst (s.map D.ref))/\(∀r∈s,S.length < r)/\Rws S' s ((BJ l.length).filterMap (QI ts x l)))
  ⟨none,none,none,[],rfl,Keeps.app _ _,DR _ _,λ_ h=>zX h Cw,.nil⟩
  (by
   rintro i e S' ⟨_,_,_,_,_,K,_⟩;show(Ec (.ref n) S').map LS=_;rw[Dr (K.at Q)]
   rfl)
  (by
   rintro i d e S' hd ⟨B,C,A,s,rfl,K,t,L,w⟩;rw[PK,Ad]at hd
   cases J:l[i]? with
   | none=>rw[J]at hd;cases hd
   | some c=>
    rw[J]at hd;cases hd;have ϱ:=hc c (Al J);have hi:=(AE.mp J).1;have hw':=(K.at hw);have zu:=ϱ.st.len;refine⟨[sR q,sR n,sI x,sI mo,sR S.length,sI i,some (CZ c),A],S',rfl,?_⟩
    have s7:Cg 7 (m2 Em (AD 6) (Gu (AH (AD 2) Ay))) [sR q,sR n,sI x,sI mo,sR S.length,sI i,some (CZ c),A] S'=.ok (.nx [sR q,sR n,sI x,sI mo,sR S.length,sI i,some (CZ c),some (CZ (c++[(x:Int)]))]) S':=by
     refine Ju (i:=7) ((Dz (S1:=S') (x:=CZ c) rfl (Ot (ds:=[.int x]) rfl (by simp)) (bp (S:=S') (xs:=c.map D.int) (ys:=[.int x]) (by rw[AC];exact Aj (show c.length+1<=1000 by lia) (by decide)))).trans ?_);unfold CZ;rw[Ba];rfl
    obtain⟨Sc,ec,G⟩:=og hw' ϱ hx hp;have U:=Ge (a:=FD (Np (AD 4) sj)) (b:=sNx) (qu (m:=BX 2 (Jo W) (AH (AD 0) (AH (AD 7) Ay))) (e:=[sR q,sR n,sI x,sI mo,sR S.length,sI i,some (CZ c),some (CZ (c++[(x:Int)]))]) ((Ga (ds:=[.ref q,CZ (c++[(x:Int)])]) (S1:=S') rfl rfl).trans ec))
    have eF:QI ts x l i=if okJ ts c x then some (P2 l i (c++[(x:Int)]))else none:=by
     unfold QI;rw[BI,J];rfl
    cases ho:okJ ts c x with
    | false=>
     rw[ho]at U eF;refine⟨_,_,(Bp s7).trans (U.trans rfl),_,_,_,s,rfl,K.trans G,G.at t,L,?_⟩;rw[WO,eF]
     simpa using w.mono λr _ o h=>G.at h
    | true=>
     rw[ho]at U eF;obtain⟨r,S2,N,K2,p3,O⟩:=put_ok (d0:=.ref q) (d2:=.int x) (d3:=.int mo) (d4:=.ref S.length) (d6:=CZ c) (d:=c++[(x:Int)]) (G.at (K.at Q)) J hl;have tc:=G.at t;have P:=K2.at tc;have ye:S.length < Sc.length:=(AE.mp tc).1;have zN:S.length < S2.length:=(AE.mp P).1;have a2:=VN (mo:=AD 4) (e:=[sR q,sR n,sI x,sI mo,sR S.length,sI i,some (CZ c),some (CZ (c++[(x:Int)]))]) rfl tc N P (by rw[AC,w.len];exact Aq (Aj (E i) (show i<=100 by lia)) (by decide));refine⟨_,_,(Bp s7).trans (U.trans ((qX rfl).trans (Ks a2))),_,_,_,s++[r],rfl,(K.trans (G.trans K2)).set (AM _) _,?_,?_,?_⟩
     ·rw[As zN,Ba]
      rfl
     ·intro H I
      rcases Ag.mp I with h | h
      ·exact L H h
      ·rw[AG.mp h];lia
     ·rw[WO,eF]
      refine Rws.snoc (w.mono λH I o yZ=>?_) ?_
      ·rw[Ae (by have:=L H I;lia)]
       exact K2.at (G.at yZ)
      ·rw[Ae (by lia)]
       exact O)
  (by
   rintro e S' ⟨B,C,A,s,rfl,K,t,L,w⟩;rw[aw,AC]at w
   exact⟨_,_,_,s,rfl,K,t,L,w⟩)
 have hw1:=R.at hw;have n1:=R.at Q;have ye:S.length < S1.length:=(AE.mp T).1
 have hi:Hm (AD 1) [sR q,sR n,sI x,sI mo,sR S.length,none,none,none] (S++[.lst []])=.ok (NC (Ec (.ref n))) (S++[.lst []]):=by
  unfold Hm;show(match Ec (.ref n) (S++[Ob.lst []])with | some _=>Res.ok (NC (Ec (.ref n))) (S++[Ob.lst []]) | none=>.bad)=_;rw[Dr ((Keeps.app S [.lst []]).at Q)]
 have eg:grw ts mo x l=(BJ l.length).filterMap (QI ts x l)++(if l.length < mo then[l++[[(x:Int)]]]else[]):=rfl
 have tl:mB (m2 ltD (J8 (AD 1)) (AD 3)) [sR q,sR n,sI x,sI mo,sR S.length,B,C,A] S1=.ok (decide (l.length < mo)) S1:=by
  refine SZ (Dz (Uf (d:=.ref n) rfl (JF n1)) rfl (jP ?_));rw[AC];exact decide_eq_decide.mpr (by lia)
 have X:=Ge (a:=FD (Np (AD 4) (m2 Em (AD 1) (Er (D5 (AH (Gu (AH (AD 2) Ay)) Ay)))))) (b:=sNx) tl
 have go:∀(S2:Sto),sIf (mB (m2 ltD (J8 (AD 1)) (AD 3))) (FD (Np (AD 4) (m2 Em (AD 1) (Er (D5 (AH (Gu (AH (AD 2) Ay)) Ay)))))) sNx [sR q,sR n,sI x,sI mo,sR S.length,B,C,A] S1=oN [sR q,sR n,sI x,sI mo,sR S.length,B,C,A] S2->Hu W [.ref q,.ref n,.int x,.int mo] S=.ok (.ref S.length) S2:=λS2 h=>by
  refine HU (n:=8) (mb:=M5 W) ?_;unfold M5;exact(Bp (e1:=[sR q,sR n,sI x,sI mo,sR S.length,none,none,none]) (S1:=S++[.lst []]) rfl).trans ((Bp ((Ho hi).trans h1)).trans ((Bp h).trans rfl))
 by_cases c:l.length < mo
 ·rw[wX c]at X
  have b2:Er (D5 (AH (Gu (AH (AD 2) Ay)) Ay)) [sR q,sR n,sI x,sI mo,sR S.length,B,C,A] S1=.ok (.ref S1.length) (S1++[.lst [CZ [(x:Int)]]]):=RG (Y2 (ds:=[CZ [(x:Int)]]) (CL (Ot (ds:=[.int x]) rfl (by simp)) rfl) (by simp));have b3:=VQ ((Keeps.app S1 [.lst [CZ [(x:Int)]]]).at n1) (DR S1 (.lst [CZ [(x:Int)]])) (by rw[AC];simp;lia)
  have e3:l.map CZ++[CZ [(x:Int)]]=(l++[[(x:Int)]]).map CZ:=by simp
  rw[e3]at b3;have N:=Dz (f:=Em) (ma:=AD 1) (x:=.ref n) (e:=[sR q,sR n,sI x,sI mo,sR S.length,B,C,A]) (S1:=S1) rfl b2 b3;have K2:Keeps S1 (S1++[.lst [CZ [(x:Int)]]]++[.lst ((l++[[(x:Int)]]).map CZ)]):=(Keeps.app _ _).trans (Keeps.app _ _);have O:=DR (S1++[.lst [CZ [(x:Int)]]]) (.lst ((l++[[(x:Int)]]).map CZ))
  have p3:S1.length<=(S1++[Ob.lst [CZ [(x:Int)]]]).length:=by simp
  generalize S1++[Ob.lst [CZ [(x:Int)]]]++[Ob.lst ((l++[[(x:Int)]]).map CZ)]=S2 at N K2 O;generalize (S1++[Ob.lst [CZ [(x:Int)]]]).length=r at N p3 O;have P:=K2.at T;have zN:S.length < S2.length:=(AE.mp P).1;have a2:=VN (mo:=AD 4) (e:=[sR q,sR n,sI x,sI mo,sR S.length,B,C,A]) rfl T N P (by rw[AC,Z.len];exact Aq (Aj (E _) (show l.length<=100 by lia)) (by decide));refine⟨_,_,s++[r],go _ (X.trans ((qX rfl).trans (Ks a2))),(R.trans K2).set (AM _) _,?_,?_,λH I=>?_⟩
  ·rw[As zN,Ba]
   rfl
  ·rw[eg,qX c]
   refine Rws.snoc (Z.mono λH I o yZ=>?_) ?_
   ·rw[Ae (by have:=Y H I;lia)]
    exact K2.at yZ
   ·rw[Ae (by lia)]
    exact O
  ·rcases Ag.mp I with h | h
   ·exact Y H h
   ·rw[AG.mp h];lia
 ·rw[wY c]at X
  refine⟨_,S1,s,go _ (X.trans rfl),R,T,?_,Y⟩;rw[eg,qY c,By];exact Z
noncomputable abbrev qB(l:List D->Sto->Res D):MS:=BH (Cg 5 (BX 4 l (AH (AD 0) (AH (AD 4) (AH (m2 Em (AD 2) (mC (.int 1))) (AH (AD 3) Ay)))))) (sIf (mB (m2 (Uj true) (AD 5) (mC .non))) (Cu (AD 5)) sNx)
theorem cE(W:Wd){q p mo:Nat}{ts:List ZPi}(Y:p<=60)(C:mo<=60)(B:Nat):∀(n s x:Nat) {S:Sto} {r:Nat} {o:List ZLi},n < s->x+n=p->WbA W S q p ts->Row ts mo x o->S[r]?=some (.lst (o.map CZ))->B<=r->B<=S.length ->
  ∃d S',Bz W s [.ref q,.ref r,.int x,.int mo] S=.ok d S'/\Keeps S S'/\((d=.non/\lv ts mo n x o=[])∨∃r' ds,d=.ref r'/\(lv ts mo n x o).head?=some ds/\S'[r']?=some (.lst (ds.map CZ))/\B<=r')
 | _,0,_,_,_,_,h,_,_,_,_,_,_=>zX h (Fh _)
 | 0,f+1,x,S,r,o,_,hx,hw,I,N,hb,O=>by
  refine⟨.ref r,S,?_,Keeps.refl _,.inr ⟨r,o,rfl,rfl,N,hb⟩⟩;show Dg 6 (DF W (Bz W f)) [.ref q,.ref r,.int x,.int mo] S=_;refine HU (n:=6) (mb:=DF W (Bz W f)) ?_;unfold DF;exact tM (t:=mB (m2 (eqD false) (AD 2) (Cr W.Web "places" (AD 0)))) (SZ (Dz rfl (wpl hw rfl) (au (wX (by lia))))) rfl
 | n+1,f+1,x,S,r,o,hf,hx,hw,I,N,hb,O=>by
  obtain⟨t,S1,Z,c1,J,t1,w1,v1⟩:=lG (most:=mo) hw I.cl (show x < p by lia) Y (Aj I.few C) N (mo:=mo) rfl;have P:=J.at hw
  obtain⟨Q,S2,h2,K2,R2⟩:=KF (v:=Ec (.ref t)) (g:=tgN 4) (b:=qB (Bz W f)) (xs:=Z.map D.ref) (e:=[sR q,sR r,sI x,sI mo,none,none]) (S:=S1)
   (λi e S'=>Keeps S1 S'/\(∃R E,e=[sR q,sR r,sI x,sI mo,R,E])/\∀ds∈(grw ts mo x o).take i,lv ts mo n (x+1) ds=[])
   (λQ S'=>Keeps S1 S'/\(((∃e,Q=.nx e)/\lv ts mo (n+1) x o=[])∨∃r' ds,Q=.rt (.ref r')/\(lv ts mo (n+1) x o).head?=some ds/\S'[r']?=some (.lst (ds.map CZ))/\B<=r'))
   ⟨Keeps.refl _,⟨none,none,rfl⟩,λds h=>by simp at h⟩ (by rintro i e S' ⟨K,_⟩;exact Dr (K.at t1))
   (by
    rintro i d e S' hd ⟨K,⟨R,E,rfl⟩,G⟩;rw[Ad]at hd
    cases L:Z[i]? with
    | none=>rw[L]at hd;cases hd
    | some A=>
     rw[L]at hd;cases hd;obtain⟨ds,T,g2⟩:=w1.get L;have V':=I.grw (Al T);obtain⟨d,S3,c3,K3,h3⟩:=cE W Y C B n f (x+1) (show n < f by lia) (by lia) (K.at P) V' (K.at g2) (by have:=v1 A (Al L);lia) (by have:=K.1;have:=J.1;lia);have s5:Cg 5 (BX 4 (Bz W f) (AH (AD 0) (AH (AD 4) (AH (m2 Em (AD 2) (mC (.int 1))) (AH (AD 3) Ay))))) [sR q,sR r,sI x,sI mo,sR A,E] S'=oN [sR q,sR r,sI x,sI mo,sR A,some d] S3:=Ju (i:=5) ((Ga (ds:=[.ref q,.ref A,.int ((x+1:Nat):Int),.int mo]) (S1:=S') rfl rfl).trans c3);refine⟨[sR q,sR r,sI x,sI mo,sR A,E],S',rfl,?_⟩
     rcases h3 with⟨rfl,H⟩ | ⟨r',U,rfl,H,X,yc⟩
     ·refine⟨.nx [sR q,sR r,sI x,sI mo,sR A,yN],S3,(Bp s5).trans rfl,K.trans K3,⟨_,_,rfl⟩,λU l=>?_⟩
      rw[take_snoc T]at l
      rcases Ag.mp l with l | l
      ·exact G U l
      ·rw[AG.mp l];exact H
     ·exact⟨.rt (.ref r'),S3,(Bp s5).trans rfl,K.trans K3,.inr ⟨r',U,rfl,fC T G H,X,yc⟩⟩)
   (by
    rintro e S' ⟨K,⟨R,E,rfl⟩,G⟩;rw[AC,w1.len,Gk]at G
    refine⟨K,.inl ⟨⟨_,rfl⟩,X7.mpr G⟩⟩)
  have i1:∀b:MS,BH (sIf (mB (m2 (eqD false) (AD 2) (Cr W.Web "places" (AD 0)))) (Cu (AD 1)) sNx) b [sR q,sR r,sI x,sI mo,none,none] S=b [sR q,sR r,sI x,sI mo,none,none] S:=λb=>np (SZ (Dz rfl (wpl hw rfl) (au (wY (by lia)))))
  have hi:=Ho (g:=tgN 4) (b:=qB (Bz W f)) (L3 (m:=BX 4 (Hu W) (AH (AD 0) (AH (AD 1) (AH (AD 2) (AH (AD 3) Ay))))) (e:=[sR q,sR r,sI x,sI mo,none,none]) ((Ga (ds:=[.ref q,.ref r,.int x,.int mo]) (S1:=S) rfl rfl).trans c1) t1)
  rcases R2 with⟨⟨e,rfl⟩,H⟩ | ⟨r',ds,rfl,hd,X⟩
  ·refine⟨.non,S2,?_,J.trans K2,.inl ⟨rfl,H⟩⟩
   show Dg 6 (DF W (Bz W f)) [.ref q,.ref r,.int x,.int mo] S=_;refine HU (n:=6) (mb:=DF W (Bz W f)) ?_;unfold DF;exact(i1 _).trans ((Bp (hi.trans h2)).trans rfl)
  ·refine⟨.ref r',S2,?_,J.trans K2,.inr ⟨r',ds,rfl,hd,X⟩⟩
   show Dg 6 (DF W (Bz W f)) [.ref q,.ref r,.int x,.int mo] S=_;refine HU (n:=6) (mb:=DF W (Bz W f)) ?_;unfold DF;exact(i1 _).trans (Ow (hi.trans h2))
end
noncomputable def E2(w:Nat×List ZPi):Option (List ZLi):=if w.1<=8 then(Hg w).bind λa=>if a.length<=60 then some (fcl w.1 w.2 a.length)else none else none
noncomputable abbrev xP(W:Wd):MS:=BH (Cg 2 (BX 4 (Bz W 9) (AH (AD 0) (AH (Er (D5 Ay)) (AH (mC (.int 0)) (AH (AD 1) Ay)))))) (sIf (mB (m2 (Uj true) (AD 2) (mC .non))) (Cu (AD 2)) sNx)
section
variable{ts:List ZPi}{p a:Nat}
theorem uB{i:Nat}{ds:List ZLi}(hi:a+i < p)(o:∀j,j < i->lv ts (a+j) p 0 []=[])(l:(lv ts (a+i) p 0 []).head?=some ds):fcl p ts a=ds:=by
 have s:(Gc a (p - a)).find? (λm=>!(lv ts m p 0 []).isEmpty)=some (a+i):=by
  refine TU.mpr ⟨?_,Gc a i,Gc (a+i+1) (p - a - i - 1),?_,λm A=>?_⟩
  ·cases h:lv ts (a+i) p 0 []with
   | nil=>rw[h]at l;cases l
   | cons _ _=>rfl
  ·rw[show p - a=i+(p - a - i - 1+1) by lia,<-List.range'_append_1,Sd]
   congr 3
   lia
  ·obtain⟨j,B,rfl⟩:=lB.mp A
   rw[xo,o j B];rfl
 unfold fcl;rw[s];show(lv ts (a+i) p 0 []).headD []=ds
 cases h:lv ts (a+i) p 0 []with
 | nil=>rw[h]at l;cases l
 | cons b r=>rw[h]at l;cases l;rfl
theorem uA(l:∀j,j < p - a->lv ts (a+j) p 0 []=[]):fcl p ts a=(BJ p).map λx:Nat=>[(x:Int)]:=by
 have o:(Gc a (p - a)).find? (λm=>!(lv ts m p 0 []).isEmpty)=none:=FP.mpr λm s=>by
  obtain⟨j,A,rfl⟩:=lB.mp s;rw[xo,l j A];simp
 unfold fcl;rw[o]
end
theorem Tu(W:Wd)(w:Nat×List ZPi):VF (KJ W) [.z (CQ W w)] (rN (oL (eT D.int))) (E2 w):=by
 intro v B S ds ν;obtain⟨p,ts⟩:=w;unfold E2 at B
 by_cases T:p<=8
 case neg=>rw[qY (show ¬(p,ts).1<=8 from T)]at B;cases B
 rw[qX (show(p,ts).1<=8 from T)]at B;obtain⟨s,es,B⟩:=BA B
 by_cases U:s.length<=60
 case neg=>rw[qY U]at B;cases B
 rw[qX U]at B;cases B
 obtain⟨q,rfl,hw⟩:∃q,ds=[.ref q]/\WbA W S q p ts:=by
  match ds,ν with
  | [],h=>exact h.elim
  | [d],h=>obtain⟨⟨q,rfl,hw⟩,-⟩:=h;exact⟨q,rfl,hw⟩
  | _ :: _ :: _,h=>exact h.2.elim
 have hw:WbA W S q p ts:=hw
 have er:EM (p,ts)=some ():=by
  unfold EM E0;rw[wY (show ¬(12:Int) < ((p,ts).1:Int) by show ¬(12:Int) < (p:Int);lia),qY AN];rfl
 obtain⟨d0,S0,c0,N,_⟩:=Js W (p,ts) () er S [.ref q] ⟨⟨q,rfl,hw⟩,trivial⟩;have X:FD (BX 1 (E6 W) (AH (AD 0) Ay)) (IS 3 [.ref q]) S=oN [sR q,none,none] S0:=Ks ((Ga (ds:=[.ref q]) (S1:=S) rfl rfl).trans c0);have H:=N.at hw;obtain⟨d1,S1,c1,O,rfl⟩:=Pr W (p,ts) s es S0 [.ref q] ⟨⟨q,rfl,H⟩,trivial⟩;have P:=O.at H;have l1:J8 (BX 1 (FI W) (AH (AD 0) Ay)) [sR q,none,none] S0=.ok (.int s.length) S1:=(Uf (d:=eT D.int s) (ds:=s.map D.int) ((Ga (ds:=[.ref q]) (S1:=S0) rfl rfl).trans c1) rfl).trans (by rw[AC])
 have Y:iR2 (AH (J8 (BX 1 (FI W) (AH (AD 0) Ay))) (AH (Cr W.Web "places" (AD 0)) Ay)) [sR q,none,none] S0=.ok (FZ (Ez s.length (p - s.length))) S1:=by
  have:=jf (ml:=AH (J8 (BX 1 (FI W) (AH (AD 0) Ay))) (AH (Cr W.Web "places" (AD 0)) Ay)) (e:=[sR q,none,none]) (S:=S0) (S1:=S1) (i:=s.length) (j:=p) (CL l1 (CL (wpl P rfl) rfl)) (by lia) (by lia) (by lia) (by lia);rw[this,show((p:Int) - s.length).toNat=p - s.length by lia]
 obtain⟨Q,S2,Z,K2,R2⟩:=KF (v:=FZ (Ez s.length (p - s.length))) (g:=tgN 1) (b:=xP W) (xs:=Ez s.length (p - s.length)) (e:=[sR q,none,none]) (S:=S1)
  (λi e o=>Keeps S1 o/\(∃C A,e=[sR q,C,A])/\∀j,j < i->lv ts (s.length+j) p 0 []=[])
  (λQ o=>Keeps S1 o/\(((∃C A,Q=.nx [sR q,C,A])/\∀j,j < p - s.length->lv ts (s.length+j) p 0 []=[])∨∃r,Q=.rt (.ref r)/\S1.length<=r/\o[r]?=some (.lst ((fcl p ts s.length).map CZ))))
  ⟨Keeps.refl _,⟨none,none,rfl⟩,λj h=>zX h (Fh _)⟩ (λ_ _ _ _=>rfl)
  (by
   rintro i d e o hd ⟨K,⟨C,A,rfl⟩,E⟩;obtain⟨hi,rfl⟩:=Yj hd
   obtain⟨m,hm,zh⟩:∃m:Nat,(s.length:Int)+i=m/\m=s.length+i:=⟨s.length+i,by lia,rfl⟩
   rw[hm];have I:S1.length<=o.length:=K.1;obtain⟨d,S3,J,K3,h3⟩:=cE W (show p<=60 by lia) (show m<=60 by lia) S1.length p 9 0 (by lia) (by lia) ((Keeps.app o [.lst []]).at (K.at P)) (Row.nil ts m) (DR o (.lst [])) I (by rw[AQ];lia);have s3:Cg 2 (BX 4 (Bz W 9) (AH (AD 0) (AH (Er (D5 Ay)) (AH (mC (.int 0)) (AH (AD 1) Ay))))) [sR q,sI m,A] o=oN [sR q,sI m,some d] S3:=Ju (i:=2) ((Ga (ds:=[.ref q,.ref o.length,.int 0,.int m]) (S1:=o++[.lst []]) rfl rfl).trans J);have KK:=(K.trans (Keeps.app o [.lst []])).trans K3;refine⟨[sR q,sI m,A],o,rfl,?_⟩
   rcases h3 with⟨rfl,L⟩ | ⟨r',ds,rfl,L,R,hb⟩
   ·refine⟨.nx [sR q,sI m,yN],S3,(Bp s3).trans rfl,KK,⟨_,_,rfl⟩,λj hj=>?_⟩
    by_cases c:j=i
    ·rw[c,<-zh];exact L
    ·exact E j (by lia)
   ·rw[zh]at L
    exact⟨.rt (.ref r'),S3,(Bp s3).trans rfl,KK,.inr ⟨r',rfl,hb,by rw[uB (by lia) E L];exact R⟩⟩)
  (by
   rintro e o ⟨K,⟨C,A,rfl⟩,E⟩;rw[WC]at E
   exact⟨K,.inl ⟨⟨_,_,rfl⟩,E⟩⟩)
 have G:=(N.trans O).trans K2
 rcases R2 with⟨⟨C,A,rfl⟩,E⟩ | ⟨r,rfl,hb,R⟩
 ·have w2:=K2.at P
  have hi:iR1 (AH (Cr W.Web "places" (AD 0)) Ay) [sR q,C,A] S2=.ok (FZ (Ez 0 p)) S2:=by
   have:=ai (ml:=AH (Cr W.Web "places" (AD 0)) Ay) (e:=[sR q,C,A]) (S:=S2) (S1:=S2) (j:=p) (CL (wpl w2 rfl) rfl) (by lia) (by lia);simpa using this
  have q3:=jK (f:=wQ) (g:=λx:Nat=>CZ [(x:Int)]) (l:=BJ p) (v:=FZ (Ez 0 p)) (m:=Gu (AH (AD 0) Ay)) (e:=[sR q,C,A]) (S:=S2) (by rw[eD];rfl) (by simp;lia) (λx _=>Ot (ds:=[.int x]) rfl (by simp));have J:=RG ((TD (n:=1) (g:=tgN 0) (c:=Gy) (m:=Gu (AH (AD 0) Ay)) hi).trans q3)
  have e3:((BJ p).map λx:Nat=>CZ [(x:Int)])=(fcl p ts s.length).map CZ:=by rw[uA E,BB];rfl
  rw[e3]at J;refine⟨.ref S2.length,S2++[.lst ((fcl p ts s.length).map CZ)],HU (n:=3) (mb:=GF W) ?_,G.trans (Keeps.app _ _),S2.length,rfl,G.1,DR _ _⟩;unfold GF;exact(Bp X).trans ((Bp ((Ho Y).trans Z)).trans (LG J))
 ·refine⟨.ref r,S2,HU (n:=3) (mb:=GF W) ?_,G,r,rfl,by have:=(N.trans O).1;lia,R⟩
  unfold GF;exact(Bp X).trans (Ow ((Ho Y).trans Z))
noncomputable def XE(l:(Nat×List ZPi)):Option (Fw ZLi Unit):=
 BM ((Fy l).bind λ_=>some (.nx ())) λ_=>BM ((E1 l ("all" : Str)).bind λI=>some (.nx I)) λJ=>BM ((E1 l ("one" : Str)).bind λL=>some (.nx L)) λm=>((((Hj l).bind λN=>some (N.length:Int)).bind λO=>((((Hg l).bind λo=>some (o.length:Int)).bind λs=>((((E2 l).bind λA=>some (A.length:Int)).bind λP=>some (P :: [])).bind λB=>some (m :: B)).bind λC=>some (s :: C)).bind λE=>some (J :: E)).bind λG=>some (O :: G)).bind NP).bind λH=>some (.rt H)
noncomputable def O3(l:(Nat×List ZPi)):Option ZLi:=Fi (XE l)
theorem g9(W:Wd)(l:(Nat×List ZPi)):VF (Xa W) [.z ((CQ W) l)] (rV (eT D.int)) (O3 l):=by
 refine EF (n:=3) (b:=bC W) (p:=XE l) (B:=λ_=>[]) ?_;show VS [.z ((CQ W) l),.u,.u] _ _ _ _;unfold bC XE;exact(BF (Si (Bb (GP (Bj rfl) Bk) (λE=>NW W E.1) (λ_=>rfl) Dh)) (λ_=>(BF (Dx (Bb (GP (Bj rfl) (C2 (Cv rfl) Bk)) (λA=>NX W A.1 A.2.1) (λ_=>rfl) Dh)) (λH=>(BF (Dx (Bb (GP (Bj rfl) (C2 (Cv rfl) Bk)) (λC=>NX W C.1 C.2.1) (λ_=>rfl) Dh)) (λG=>(DP (Tj (HJ (Wv (Bb (GP (Bj rfl) Bk) (λm=>Tt W m.1) (λ_=>rfl) Dh)) (HJ (AT rfl) (HJ (Wv (Bb (GP (Bj rfl) Bk) (λo=>Pr W o.1) (λ_=>rfl) Dh)) (HJ (AT rfl) (HJ (Sk (Ki (Bb (GP (Bj rfl) Bk) (λs=>Tu W s.1) (λ_=>rfl) JI))) Jr)))))))))))))
noncomputable def Iv(A:(Nat×List ZPi))(B:Int)(C:Str)(E:ZLi):Option (Fw (List (ZLi×Int)) Unit):=
 BM (some (.nx [])) λG=>BM ((Su A B C).bind λm=>EQ m G λ(o:(List (ZLi×Int))) l=>Eg (λH=>H) ((HA E l.1).bind λI=>(IX o I l.2.1).bind λs=>some (.nx s))) λJ=>some (.rt J)
noncomputable def Gr(l:(Nat×List ZPi))(m:Int)(o:Str)(s:ZLi):Option (List (ZLi×Int)):=Fi (Iv l m o s)
theorem Oa(W:Wd)(l:(Nat×List ZPi))(m:Int)(o:Str)(s:ZLi):VF (JA W) [.z ((CQ W) l),.v (D.int m),.v (D.str o),.z ((oL D.int) s)] (rN (oDR D.int)) (Gr l m o s):=by
 refine EF (n:=8) (b:=LX W) (p:=Iv l m o s) (B:=λ_=>[]) ?_;show VS [.z ((CQ W) l),.v (D.int m),.v (D.str o),.z ((oL D.int) s),.u,.u,.u,.u] _ _ _ _;unfold LX Iv;exact(BF (Iq gu) (λE=>(BF (Dq (s0:=E) (B:=(λ(G:(List (ZLi×Int)))=>[.z ((CQ W) l),.v (D.int m),.v (D.str o),.z ((oL D.int) s),.w 4 ((oDR D.int) G),.u,.u,.u])) (K6 (Bb (GP (Bj rfl) (C2 (AT rfl) (C2 (AT rfl) Bk))) (λA=>lX W A.1 A.2.1 A.2.2.1) (λ_=>rfl) JI)) gd (.refl _) (λH I=>(Ct (gg rfl (Bb (GP (Bj rfl) (C2 (AT rfl) Bk)) (λC=>Rj W C.1 C.2.1) (λ_=>rfl) Dh) (AT rfl) rfl) (λJ=>(.same (.same (.same (.same (.same (.drop (.drop (.drop .nil)))))))))))) (λL=>(Sg rfl)))))
noncomputable def cC(N:ZLi):Option (Fw Bool Unit):=
 BM (((((((((Cn N (2:Int)).bind λx8=>some (x8 % 4)).bind λx1=>some (decide (x1=(1:Int)))).bind λx9=>some (if x9=true then 1 else 0)).bind λO=>some ((5:Int)+O)).bind λY'=>some (Y',())).bind λzk=>some (N,zk)).bind λyJ=>Ia yJ.1 yJ.2.1).bind λε=>some (.nx ε)) λl=>BM (((some []).bind NP).bind λϝ=>some (.nx ϝ)) λϫ=>BM (((some l.1).bind Mg).bind λP=>EQ P ϫ λ(Φ:ZLi) Q=>Eg (λϗ=>ϗ) (((Cn N ((3:Int)+Q)).bind λΖ=>jH Ζ (Q+(1:Int))).bind λϞ=>(nj Φ Ϟ Q).bind λR=>some (.nx R))) λJ=>BM ((dL l.1 l.2).bind λS=>some (.nx S)) λT=>BM (((Fg l.2 (λm=>some true) (λm=>(atI J m.1).bind λU=>(atI J m.2).bind λX=>some (U,X))).bind λY=>dL l.1 Y).bind λϚ=>some (.nx Ϛ)) λZ=>BM (((some l.1).bind Mg).bind λx59=>some (.nx x59)) λzy=>BM (((O3 T).bind λx60=>(O3 Z).bind λx61=>some (!decide (x60=x61))).bind λx69=>if x69=true then some (.rt false)else some (.nx ())) λ_=>BM ((Yk (1:Int) (l.1+(1:Int))).bind λo=>EQ o () λ(_:Unit) L=>Eg (λ_=>()) (((some (("one" : Str) :: (("all" : Str) :: []))).bind NP).bind λs=>EQ s () λ(_:Unit) Ϣ=>BM ((((G8 T L Ϣ).bind λl99=>Fg l99 (λA=>some true) (λA=>HA J A)).bind UA).bind λB=>some (.nx B)) λv85=>BM (((G8 Z L Ϣ).bind λC=>some (!decide (v85=C))).bind λE=>if E=true then some (.rt false)else some (.nx ())) λ_=>Eg (λ_=>()) (((Gr T L Ϣ J).bind λG=>(Gr Z L Ϣ zy).bind λH=>some (!Od G H)).bind λI=>if I=true then some (.rt false)else some (.nx ())))) λ_=>some (.rt true)
noncomputable def pZ(l:ZLi):Option Bool:=Fi (cC l)
theorem vK(W:Wd)(m:ZLi):VF (cc W) [.v (eF m)] (rV D.bl) (pZ m):=by
 refine EF (n:=11) (b:=kX W) (p:=cC m) (B:=λ_=>[]) ?_;show VS [.v (eF m),.u,.u,.u,.u,.u,.u,.u,.u,.u,.u] _ _ _ _;unfold kX cC;exact(BF (lL (Bb (C2 (AT rfl) (C2 (HK (Cv rfl) (qi (Tn JB Ua (Kj rfl (Bb (C2 (AT rfl) (C2 (Cv rfl) Bk)) (λT=>HM W T.1 T.2.1) (λ_=>rfl) Dh)) (Cv rfl)))) Bk)) (λU=>Qu W U.1 U.2.1) (λ_=>rfl) vh)) (λl=>(BF (Iq (Ey (Lq Jr))) (λϫ=>(BF (Dq (s0:=ϫ) (B:=(λ(N:ZLi)=>[.v (eF m),.v (D.int l.1),.y ((oL (eP D.int D.int)) l.2),.w 3 ((oL D.int) N),.u,.u,.u,.u,.u,.u,.u])) (GN (AT rfl)) DN (.refl _) (λX Y=>(Ct (qV rfl (gp (Bb (C2 (AT rfl) (C2 (HK (Cv rfl) (AT rfl)) Bk)) (λs=>HM W s.1 s.2.1) (λ_=>rfl) Dh) (HK (AT rfl) (Cv rfl))) (AT rfl) rfl) (λZ=>(.same (.same (.same (.same (.drop (.same (.same (.same (.same (.same (.same .nil))))))))))))))) (λA=>(BF (MR (gk (AT rfl) (Fb rfl))) (λC=>(BF (MR (gk (AT rfl) (Ki (Ey (gi (VI.k (bZ rfl)) (λO=>Ja) (λO=>(Sj (JP (MV rfl) (AT rfl)) (JP (MV rfl) (AT rfl))))))))) (λE=>(BF (MR (Ey (dP (AT rfl)))) (λG=>(BF (HI (B:=(λ(_:Unit)=>[.v (eF m),.v (D.int l.1),.y ((oL (eP D.int D.int)) l.2),.w 3 ((oL D.int) A),.u,.y ((CQ W) C),.y ((CQ W) E),.y ((oL D.int) G),.u,.u,.u])) (K9 (vH (cj JB) sf (Bb (GP (Fb rfl) Bk) (λP=>g9 W P.1) (λ_=>rfl) Dh) (Bb (GP (Fb rfl) Bk) (λQ=>g9 W Q.1) (λ_=>rfl) Dh))) (DP (Cv rfl)) (HH (.refl _))) (λ_=>(BF (Dq (s0:=()) (B:=(λ(_:Unit)=>[.v (eF m),.v (D.int l.1),.y ((oL (eP D.int D.int)) l.2),.w 3 ((oL D.int) A),.u,.y ((CQ W) C),.y ((CQ W) E),.y ((oL D.int) G),.u,.u,.u])) (Lr (Cv rfl) (HK (AT rfl) (Cv rfl))) DN (.refl _) (λ_ R=>(Ct (Dq (s0:=()) (B:=(λ(_:Unit)=>[.v (eF m),.v (D.int l.1),.y ((oL (eP D.int D.int)) l.2),.w 3 ((oL D.int) A),.u,.y ((CQ W) C),.y ((CQ W) E),.y ((oL D.int) G),.v (D.int R),.u,.u])) (K6 (Ey (Lq (HJ (Cv rfl) (HJ (Cv rfl) Jr))))) DN (.refl _) (λ_ Ϣ=>(BF (MR (gn (Ki (Ey (FL (VI.k (K6 (Bb (GP (Fb rfl) (C2 (AT rfl) (C2 (AT rfl) Bk))) (λo=>Qt W o.1 o.2.1 o.2.2.1) (λ_=>rfl) JI))) (λS=>Ja) (λS=>(Bb (GP (MV rfl) (C2 (AT rfl) Bk)) (λH=>Rj W H.1 H.2.1) (λ_=>rfl) Dh))))))) (λI=>(BF (HI (B:=(λ(_:Unit)=>[.v (eF m),.v (D.int l.1),.y ((oL (eP D.int D.int)) l.2),.w 3 ((oL D.int) A),.u,.y ((CQ W) C),.y ((CQ W) E),.y ((oL D.int) G),.v (D.int R),.v (D.str Ϣ),.y ((oL (eT D.int)) I)])) (K9 (qg (cj JB) (Fb rfl) (Ki (Bb (GP (Fb rfl) (C2 (AT rfl) (C2 (AT rfl) Bk))) (λϣ=>Qt W ϣ.1 ϣ.2.1 ϣ.2.2.1) (λ_=>rfl) JI)))) (DP (Cv rfl)) (HH (.refl _))) (λ_=>(Ct (HI (B:=(λ(_:Unit)=>[.v (eF m),.v (D.int l.1),.y ((oL (eP D.int D.int)) l.2),.w 3 ((oL D.int) A),.u,.y ((CQ W) C),.y ((CQ W) E),.y ((oL D.int) G),.v (D.int R),.v (D.str Ϣ),.y ((oL (eT D.int)) I)])) (K9 (lQ (Ki (Bb (GP (Fb rfl) (C2 (AT rfl) (C2 (AT rfl) (GP (MV rfl) Bk)))) (λJ=>Oa W J.1 J.2.1 J.2.2.1 J.2.2.2.1) (λ_=>rfl) JI)) (Ki (Bb (GP (Fb rfl) (C2 (AT rfl) (C2 (AT rfl) (GP (Fb rfl) Bk)))) (λL=>Oa W L.1 L.2.1 L.2.2.1 L.2.2.2.1) (λ_=>rfl) JI)))) (DP (Cv rfl)) (HH (.refl _))) (λ_=>(.same (.same (.same (.same (.same (.same (.same (.same (.same (.drop (.drop .nil))))))))))))))))))) (λ_=>(.same (.same (.same (.same (.same (.same (.same (.same (.drop (.same (.same .nil))))))))))))))) (λ_=>(DP (Cv rfl))))))))))))))))))
open PySem L2 L4
open Srt (ltL)
section
variable{o g:Nat}{us yf:List ZPi}{kd:Str}
theorem qA(ho:o < 8)(A:g<=o)(B:1<=g){a b:Int}(C:0<=a/\a < 0+((sts o g).length:Int))(hb:0<=b/\b < 0+((sts o g).length:Int))(lt:a < b):ltL (evN o g a) (evN o g b)=true:=by
 have E:=AO (l:=sts o g) (i:=a.toNat) (by lia);have G:=AO (l:=sts o g) (i:=b.toNat) (by lia);have m:=Mz E;have s:=Mz G;rw[Ax C.1]at m;rw[Ax hb.1]at s;rw[m,s];exact Dp.mp (iF o ho g (by lia) A B).1 _ _ _ _ (by lia)
structure Ls(o:Nat)(us:List ZPi)(kd:Str)(g:Nat)(L:List ZLi):Prop where
 eq:G8 (o,us) g kd=some L
 cl:N7 o g us kd (·∈L)
 all:∀P,N7 o g us kd P->∀r,P r->r∈L
 up:L.Pairwise λa b=>ltL a b=true
theorem ls_p(h:En o us)(l:g<=o)(m:1<=g):∃L,Ls o us kd g L:=by
 obtain⟨T,B,C,-⟩:=j8 (kd:=kd) h l m
 have mem:∀r,r∈((DQ 0 (sts o g).length).filter λn=>!(An T n).isSome).map (evN o g)↔La o g T r:=λr=>jW h.sm l m
 refine⟨_,C,λr A=>?_,λP E r A=>(mem r).mpr (fU h l m B E A),?_⟩
 ·obtain⟨G,H⟩:=en h l m B r ((mem r).mp A)
  refine⟨G,λc I J N=>?_⟩;obtain⟨s,O,Q⟩:=H c I J N;exact⟨s,O,(mem _).mpr Q⟩
 ·exact Bc.mpr (((Jb 0 (sts o g).length).filter _).imp_of_mem λ{a b} R hb lt=>qA h.sm l m (Bh.mp (BE.mp R).1) (Bh.mp (BE.mp hb).1) lt)
noncomputable def lsG(o:Nat)(us:List ZPi)(kd:Str)(g:Nat):List ZLi:=(G8 (o,us) g kd).getD []
theorem Rr(h:En o us)(m:g<=o)(s:1<=g):Ls o us kd g (lsG o us kd g):=by
 obtain⟨L,l⟩:=ls_p h m s;unfold lsG;rw[l.eq];exact l
theorem nN(h:En o us)(s:1<=o):lsG o us kd o≠[]:=by
 have A:Stg o o (DQ 0 o):=⟨Br _ _,λx m=>by have:=Bh.mp m;lia,Jb 0 o⟩;refine QY ((Rr h (AM _) s).all (λr=>Stg o o r) (λr l=>⟨l,λc C E B=>?_⟩) _ A);exact zX (W1 (r:=DQ 0 o) (Lu l.2.2) (λx m=>Bh.mpr (by have:=l.2.1 x m;lia)) (by rw[l.1,Br]) c (Bh.mpr (by lia))) B
theorem nX(h:En o us)(C:1<=o):Ok (E1 (o,us) kd) λm=>∃k:Nat,m=k/\1<=k/\k<=o/\lsG o us kd k≠[]/\∀g:Nat,1<=g->g < k->lsG o us kd g=[]:=by
 have H:=h.sm;refine OkF.out ?_;unfold HW;dsimp only;rw[Sr (by lia) (by lia) (by lia) (by lia),show((o:Int) - 1).toNat=o - 1 by lia];simp only[AJ];refine OkF.seq (OkF.for (λl (_:Unit)=>∀g:Nat,1<=g->g<=l.length->lsG o us kd g=[]) (λg a b=>by rw[EC]at b;lia) ?_) ?_
 ·intro l x _ I E A
  obtain⟨ex,J⟩:=Yi E
  obtain⟨k,G⟩:∃k:Nat,x=(k:Int):=⟨1+l.length,by lia⟩
  subst G;have L:=Rr h (kd:=kd) (g:=k) (by lia) (by lia);rw[L.eq];simp only[AJ]
  cases c:(lsG o us kd k).isEmpty with
  | true=>
   have c:=List.isEmpty_iff.mp c
   refine .nx λg s B=>?_
   rw[AQ,Ac]at B
   by_cases e:g=k
   ·rw[e];exact c
   ·exact A g s (by lia)
  | false=>
   have c:lsG o us kd k≠[]:=λz=>by rw[z]at c;cases c
   exact .rt ⟨k,rfl,by lia,by lia,c,λg s B=>A g s (by lia)⟩
 ·intro _ A
  exact .rt ⟨o,rfl,C,AM _,nN h C,λg s B=>A g s (by rw[Br];lia)⟩
structure Ren(o:Nat)(f i:Int->Int):Prop where
 to:∀x,0<=x->x < (o:Int)->0<=f x/\f x < (o:Int)/\i (f x)=x
 fro:∀x,0<=x->x < (o:Int)->0<=i x/\i x < (o:Int)/\f (i x)=x
theorem Ren.sw{f i:Int->Int}(h:Ren o f i):Ren o i f:=⟨h.fro,h.to⟩
theorem Ren.stg{f i:Int->Int}(h:Ren o f i){r:ZLi}(l:Stg o g r):Stg o g (Be (r.map f)):=by
 refine⟨by rw[(DK _).length_eq,AC,l.1],λx m=>?_,HP ?_⟩
 ·obtain⟨y,s,rfl⟩:=Ai.mp (BN.mp m)
  obtain⟨A,y1⟩:=l.2.1 y s;have:=h.to y A y1;exact⟨this.1,this.2.1⟩
 ·refine Bc.mpr ((Lu l.2.2).imp_of_mem λ{a b} B hb n e=>n ?_)
  obtain⟨C,E⟩:=l.2.1 a B;obtain⟨G,H⟩:=l.2.1 b hb;rw[<-(h.to a C E).2.2,<-(h.to b G H).2.2,e]
theorem Ren.back{f i:Int->Int}(h:Ren o f i){r:ZLi}(l:Stg o g r):Be ((Be (r.map f)).map i)=r:=by
 refine JH (h.sw.stg (h.stg l)).2.2 l.2.2 λx=>?_
 rw[BN,Ai]
 constructor
 ·rintro⟨y,A,rfl⟩
  obtain⟨z,m,rfl⟩:=Ai.mp (BN.mp A);rw[(h.to z (l.2.1 z m).1 (l.2.1 z m).2).2.2];exact m
 ·intro s
  exact⟨f x,BN.mpr (C9 s),(h.to x (l.2.1 x s).1 (l.2.1 x s).2).2.2⟩
theorem iU{f i:Int->Int}(h:Ren o f i)(S:En o us)(T:∀a b:Int,0<=a->a < o->b∈nr us a.toNat->f b∈nr yf (f a).toNat){r q:ZLi}(m:Stg o g r)(N:Stg o g q)(B:Lk kd us r q):Lk kd yf (Be (r.map f)) (Be (q.map f)):=by
 have tg:∀a b:Int,0<=a->a < o->b∈Tg us a->f b∈Tg yf (f a):=λa b C E hb=>by
  rcases G5.mp hb with rfl | hb
  ·exact G5.mpr (.inl rfl)
  ·exact G5.mpr (.inr (T a b C E hb))
 have inj:∀x y:Int,0<=x->x < o->0<=y->y < o->f x=f y->x=y:=λx y G H I y1 e=>by
  rw[<-(h.to x G H).2.2,<-(h.to y I y1).2.2,e]
 unfold Lk at B ⊢
 by_cases O:kd = "one"
 ·rw[qX O]at B ⊢
  obtain⟨a,P,b,hb,U,e⟩:=B;obtain⟨C,E⟩:=m.2.1 a P;obtain⟨X,s⟩:=(S.tg C E).2.1 b hb;refine⟨f a,BN.mpr (C9 P),f b,tg a b C E hb,λz=>?_,?_⟩
  ·obtain⟨y,l,e⟩:=Ai.mp (BN.mp z)
   obtain⟨I,y1⟩:=m.2.1 y l;rw[inj y b I y1 X s e]at l;exact U l
  ·rw[<-e]
   have Y:(wst (Be (r.map f)) (f a) (f b)).Perm (wst (r.map f) (f a) (f b)):=(DK _).map _
   have Z:wst (r.map f) (f a) (f b)=(wst r a b).map f:=by
    unfold wst;rw[BB,BB]
    refine DA λx A=>?_
    obtain⟨G,H⟩:=m.2.1 x A;show(if f x=f a then f b else f x)=f (if x=a then b else x)
    by_cases c:x=a
    ·rw[qX c,qX (by rw[c])]
    ·rw[qY c,qY λz=>c (inj x a G H C E z)]
   refine iJ (Y.trans ?_);rw[Z];exact((DK _).map f).symm
 ·rw[qY O]at B ⊢
  obtain⟨w,J,w2⟩:=(Sz (Lu m.2.2)).mp B;have hS:=h.stg m
  have bk:∀x∈Be (r.map f),i x∈r/\f (i x)=x:=λx A=>by
   obtain⟨y,l,rfl⟩:=Ai.mp (BN.mp A);rw[(h.to y (m.2.1 y l).1 (m.2.1 y l).2).2.2];exact⟨l,rfl⟩
  refine(Sz (Lu hS.2.2)).mpr ⟨λx=>f (w (i x)),λx A=>?_,λx A y l e=>?_⟩
  ·obtain⟨s,L⟩:=bk x A
   obtain⟨c1,c2⟩:=J _ s;obtain⟨i0,i1⟩:=m.2.1 _ s;refine⟨?_,BN.mpr (C9 c2)⟩;have:=tg (i x) _ i0 i1 c1;rw[L]at this;exact this
  ·obtain⟨s,L⟩:=bk x A
   obtain⟨d1,d2⟩:=bk y l;have Q:=N.2.1 _ (J _ s).2;have R:=N.2.1 _ (J _ d1).2;have:=w2 _ s _ d1 (inj _ _ Q.1 Q.2 R.1 R.2 e);rw[<-L,<-d2,this]
theorem aJ{f i:Int->Int}(h:Ren o f i)(C:En o us)(J:En o yf)(L:∀a b:Int,0<=a->a < o->b∈nr us a.toNat->f b∈nr yf (f a).toNat)(N:N7 o g us kd P):N7 o g yf kd (λr=>Stg o g r/\P (Be (r.map i))):=by
 rintro r ⟨l,O⟩;refine⟨l,λc Q R A=>?_⟩;obtain⟨S,T,E⟩:=h.fro c Q R;have G:=h.sw.stg l
 have H:i c∉Be (r.map i):=λz=>by
  obtain⟨y,B,e⟩:=Ai.mp (BN.mp z);have:=(h.fro y (l.2.1 y B).1 (l.2.1 y B).2).2.2;rw[e,E]at this;rw[this]at A;exact A B
 obtain⟨s,U,X⟩:=(N _ O).2 (i c) S T H;obtain⟨m,Y,Z⟩:=(OL C G H).mp ⟨s,U,rfl⟩;have I:=iU h C L G m Y;rw[h.sw.back l]at I;obtain⟨s',Ο,e⟩:=(OL J l A (r':=Be ((Be s).map f)) (kd:=kd)).mpr ⟨h.stg m,I,BN.mpr (Ai.mpr ⟨i c,Z,E⟩)⟩;refine⟨s',Ο,?_⟩;rw[e];exact⟨h.stg m,by rw[h.back m];exact X⟩
theorem iT{f i:Int->Int}(h:Ren o f i)(l:En o us)(m:En o yf)(E:∀a b:Int,0<=a->a < o->b∈nr us a.toNat->f b∈nr yf (f a).toNat)(s:g<=o)(A:1<=g)(G:lsG o us kd g≠[]):lsG o yf kd g≠[]:=by
 obtain⟨r,B⟩:=List.exists_mem_of_ne_nil _ G;have L:=Rr (kd:=kd) l s A;have C:=(L.cl r B).1;exact QY ((Rr m s A).all _ (aJ h l m E L.cl) (Be (r.map f)) ⟨h.stg C,by rw[h.back C];exact B⟩)
end
open PySem L2 L4
theorem JU{l m:Type}(a:l)(f:l->Option m):(some a).bind f=f a:=congrArg id (AJ a f)
theorem ZK{ρ l m:Type}(s:l)(q:l->Option (Fw ρ m)):BM (some (.nx s)) q=q s:=congrArg id CI
noncomputable def Dm(o:Nat)(us:List ZPi)(r:ZLi):Prop:=∀c:Int,0<=c->c < o->∃a∈r,c∈Tg us a
noncomputable def Ap(us:List ZPi)(r:ZLi):Prop:=∀a∈r,∀b∈r,a≠b->b∉nr us a.toNat
noncomputable def DmK(o:Nat)(us:List ZPi)(k:Nat):Prop:=∃r,Stg o k r/\Dm o us r
noncomputable def ApK(o:Nat)(us:List ZPi)(k:Nat):Prop:=∃r,Stg o k r/\Ap us r
theorem rK:∀o:Nat,o < 8->∀g:Nat,g < 8->g<=o->1<=g->decide (IZ o g=some (sts o g))=true:=by decide +kernel
section
variable{o g:Nat}{us yf:List ZPi}{kd:Str}
theorem pW(ho:o < 8)(l:g<=o)(m:1<=g):IZ o g=some (sts o g):=of_decide_eq_true (rK o ho g (by lia) l m)
theorem iY{s:List (Int×Bool)}{x y:Int}:(An (CJ s x true) y).isSome=true↔y=x∨(An s y).isSome=true:=by
 rw[DD];split
 ·rename_i e;exact⟨λ_=>.inl e,λ_=>rfl⟩
 ·rename_i e;exact⟨.inr,λq=>q.resolve_left e⟩
theorem vM(h:En o us){r:ZLi}(P:∀x∈r,0<=x/\x < (o:Int))(X:r.length<=7):Ok (Hi (o,us) r) λv=>v.isNone=true↔Dm o us r:=by
 refine OkF.out ?_;unfold Ff;simp only[CI];refine OkF.seq (OkF.for (λl (s:List (Int×Bool))=>s.length<=7 * l.length/\∀y,(An s y).isSome=true↔∃a∈l,y∈Tg us a) ⟨AM _,λy=>⟨λq=>(by cases q),λ⟨a,m,_⟩=>zX m Cw⟩⟩ ?_) ?_
 ·rintro l x s B L ⟨sl,C⟩
  have Q:=L.length_le;rw[AQ,Ac]at Q;obtain⟨E,G⟩:=P x B;rw[show IX s x true=some (CJ s x true)from qX (by lia)];simp only[AJ,CI];rw[aQ E G];simp only[AJ];have R:=h.len x E G;have Y:=Rn s x true
  refine OkF.map (OkF.for (λH (t:List (Int×Bool))=>t.length<=7 * l.length+1+H.length/\∀y,(An t y).isSome=true↔(∃a∈l,y∈Tg us a)∨y=x∨y∈H) ⟨by rw[EC];lia,λy=>by
   rw[iY,C y]
   constructor
   ·rintro(q | q)
    ·exact .inr (.inl q)
    ·exact .inl q
   ·rintro(q | q | q)
    ·exact .inr q
    ·exact .inl q
    ·cases q⟩ ?_) ?_
  ·rintro H y t A S ⟨T,I⟩
   have U:=S.length_le;rw[AQ,Ac]at U;rw[show IX t y true=some (CJ t y true)from qX (by lia)];have Z:=Rn t y true;refine .nx ⟨?_,λz=>?_⟩
   ·show(CJ t y true).length<=_
    rw[AQ,Ac]
    lia
   ·show(An (CJ t y true) z).isSome=true↔_
    rw[iY,I z,Ag,AG]
    constructor
    ·rintro(q | q | q | q)
     ·exact .inr (.inr (.inr q))
     ·exact .inl q
     ·exact .inr (.inl q)
     ·exact .inr (.inr (.inl q))
    ·rintro(q | q | q | q)
     ·exact .inr (.inl q)
     ·exact .inr (.inr (.inl q))
     ·exact .inr (.inr (.inr q))
     ·exact .inl q
  ·rintro t ⟨T,I⟩
   refine⟨?_,λy=>?_⟩
   ·rw[AQ,Ac]
    lia
   ·rw[I y]
    constructor
    ·rintro(⟨a,m,q⟩ | q | q)
     ·exact⟨a,BP _ m,q⟩
     ·exact⟨x,BR _ (AG.mpr rfl),G5.mpr (.inl q)⟩
     ·exact⟨x,BR _ (AG.mpr rfl),G5.mpr (.inr q)⟩
    ·rintro⟨a,m,q⟩
     rcases Ag.mp m with m | m
     ·exact .inl ⟨a,m,q⟩
     ·rw[AG.mp m]at q
      exact .inr ((G5.mp q).imp id id)
 ·rintro s ⟨-,C⟩
  have o8:=h.sm;simp only[AJ];rw[Kl (by lia) (by lia),At];simp only[AJ]
  refine OkF.seq (OkF.for (λl _=>∀x∈l,∃a∈r,x∈Tg us a) (λx B=>zX B Cw) λl x _ B L J=>?_) λ_ J=>.rt ⟨λ_ c c0 c1=>J c (Bh.mpr (by lia)),λ_=>rfl⟩
  obtain⟨E,G⟩:=Bh.mp B
  cases O:(An s x).isSome with
  | true=>
   refine OkF.map (N:=λ_=>True) (.nx trivial) λ_ _ y A=>?_
   rcases Ag.mp A with A | A
   ·exact J y A
   ·rw[AG.mp A];exact(C x).mp O
  | false=>
   refine OkF.map (N:=λ_=>False) (.rt ⟨λq=>(by cases q),λq=>?_⟩) λ_ h=>h.elim
   have:=(C x).mpr (q x E (by lia));rw[O]at this;cases this
theorem xC(h:En o us)(O:1<=o):Ok (Hj (o,us)) λr=>∃k:Nat,r.length=k/\1<=k/\k<=o/\DmK o us k/\∀j:Nat,1<=j->j < k->¬DmK o us j:=by
 have C:=h.sm;refine OkF.out ?_;unfold HY EM E0;rw[wY (show ¬(12:Int) < ((o,us).1:Int) by show ¬(12:Int) < (o:Int);lia),qY AN];simp only[Sv,JU,ZK];rw[Sr (by lia) (by lia) (by lia) (by lia),show((o:Int) - 1).toNat=o - 1 by lia];simp only[JU];refine OkF.seq (OkF.for (λm (_:Unit)=>∀j:Nat,1<=j->j<=m.length->¬DmK o us j) (λj a b=>by rw[EC]at b;lia) ?_) ?_
 ·intro m x _ I P B
  obtain⟨ex,U⟩:=Yi P
  obtain⟨k,Q⟩:∃k:Nat,x=(k:Int):=⟨1+m.length,by lia⟩
  subst Q;rw[pW C (by lia) (by lia)];simp only[JU];refine OkF.map (OkF.for (λJ (_:Unit)=>∀r∈J,¬Dm o us r) (λr E=>zX E Cw) ?_) ?_
  ·intro J r _ E X G
   have l:=(Ds C (by lia) (by lia)).mp E;obtain⟨v,R,L⟩:=vM h l.2.1 (by rw[l.1];lia);rw[R];simp only[JU]
   cases c:v.isNone with
   | true=>
    refine OkF.map (N:=λ_=>False) (.rt ⟨k,l.1,by lia,by lia,⟨r,l,L.mp c⟩,λj s H=>B j s (by lia)⟩) λ_ h=>h.elim
   | false=>
    refine OkF.map (N:=λ_=>True) (.nx trivial) λ_ _ y A=>?_
    rcases Ag.mp A with A | A
    ·exact G y A
    ·rw[AG.mp A]
     intro z;rw[L.mpr z]at c;cases c
  ·intro _ S j s H
   rw[AQ,Ac]at H
   by_cases e:j=k
   ·rintro⟨r,l,T⟩
    rw[e]at l;exact S r ((Ds C (by lia) (by lia)).mpr l) T
   ·exact B j s (by lia)
 ·intro _ B
  rw[Kl (by lia) (by lia),At];have l:Stg o o (DQ 0 o):=⟨Br _ _,λx I=>by have:=Bh.mp I;lia,Jb 0 o⟩;exact .rt ⟨o,Br _ _,O,AM _,⟨_,l,λc Y Z=>⟨c,Bh.mpr (by lia),G5.mpr (.inl rfl)⟩⟩,λj s H=>B j s (by rw[Br];lia)⟩
theorem oU{i:Int}{n:Nat}{l:ZLi}{x:Int}(h:l++[x] <+: dnZ i n):x=i - l.length/\l.length < n:=by
 obtain⟨t,m⟩:=h
 have s:l.length < n:=by
  have:=congrArg JW m;unfold dnZ at this;rw[AQ,AQ,AC,D8,Ac]at this
  lia
 have e:(l++[x]++t)[l.length]?=some x:=by
  rw[CT,Bd (AM _),uz];rfl
 rw[m]at e;unfold dnZ at e;rw[Ad,CP s]at e;exact⟨(Bq e).symm,s⟩
theorem qC{r:ZLi}(m:Stg o g r):(r.Pairwise λa b=>b∉nr us a.toNat)↔Ap us r:=by
 constructor
 ·intro h a l b hb C
  obtain⟨i,s,rfl⟩:=Bl l;obtain⟨j,A,rfl⟩:=Bl hb
  rcases MA i j with lt | e | gt
  ·exact Dp.mp h i j s A lt
  ·subst e;exact zX rfl C
  ·have E:=Dp.mp h j i A s gt
   intro q;have G:=(m.2.1 _ l).1;have H:=(m.2.1 _ hb).1;have B:=(Sw (ts:=us) (x:=r[i].toNat) H).mp q;rw[Ax G]at B;exact E B
 ·intro h
  exact m.2.2.imp_of_mem λ{a b} l hb lt=>h a l b hb (by lia)
theorem sh(h:En o us)(O:1<=o):Ok (Hg (o,us)) λr=>∃k:Nat,r.length=k/\1<=k/\k<=o/\Stg o k r/\Ap us r/\∀j:Nat,k < j->j<=o->¬ApK o us j:=by
 have E:=h.sm;refine OkF.out ?_;unfold Jc EM E0;rw[wY (show ¬(12:Int) < ((o,us).1:Int) by show ¬(12:Int) < (o:Int);lia),qY AN];simp only[Sv,JU,ZK];rw[show mK (o:Int) 1 (-1)=some (dnZ o ((o:Int) - 1).toNat)from qX ⟨rfl,by lia,by lia,by lia,by lia⟩,show((o:Int) - 1).toNat=o - 1 by lia];simp only[JU];refine OkF.seq (OkF.for (λm (_:Unit)=>∀j:Nat,o - m.length < j->j<=o->¬ApK o us j) (λj a b=>by rw[EC]at a;lia) ?_) ?_
 ·intro m x _ J P C
  obtain⟨ex,ye⟩:=oU P
  obtain⟨k,Q,R⟩:∃k:Nat,x=(k:Int)/\k=o - m.length:=⟨o - m.length,by lia,rfl⟩
  subst Q;rw[pW E (by lia) (by lia)];simp only[JU];refine OkF.map (OkF.for (λL (_:Unit)=>∀r∈L,¬Ap us r) (λr G=>zX G Cw) ?_) ?_
  ·intro L r _ G zq H
   have l:=(Ds E (by lia) (by lia)).mp G;obtain⟨v,S,T⟩:=xD (us:=us) l.2.1 (by rw[l.1];lia) true
   have s:v.isNone=true↔Ap us r:=by
    rw[T,<-qC l];refine⟨λq=>q.imp λ{a b} z w=>z (wX w),λq=>q.imp λ{a b} z w=>z (of_decide_eq_true w)⟩
   rw[show Jg (o,us) r=some v by unfold Jg Je;rw[S];rfl];simp only[JU]
   cases c:v.isNone with
   | true=>
    refine OkF.map (N:=λ_=>False) (.rt ⟨k,l.1,by lia,by lia,l,s.mp c,λj I A=>C j (by lia) A⟩) λ_ h=>h.elim
   | false=>
    refine OkF.map (N:=λ_=>True) (.nx trivial) λ_ _ y B=>?_
    rcases Ag.mp B with B | B
    ·exact H y B
    ·rw[AG.mp B]
     intro z;rw[s.mpr z]at c;cases c
  ·intro _ U j I A
   rw[AQ,Ac]at I
   by_cases e:j=k
   ·rintro⟨r,l,X⟩
    rw[e]at l;exact U r ((Ds E (by lia) (by lia)).mpr l) X
   ·exact C j (by lia) A
 ·intro _ C
  rw[xF];have l:Stg o 1 [0]:=⟨rfl,λx J=>by rw[AG.mp J];lia,D7 _ _⟩;refine .rt ⟨1,rfl,AM _,O,l,λa Y b hb Z=>zX ((AG.mp Y).trans (AG.mp hb).symm) Z,λj I A=>C j ?_ A⟩;rw[show(dnZ (o:Int) (o - 1)).length=o - 1 by unfold dnZ;rw[AC,D8]]
  lia
theorem xH(h:En o us)(s:1<=o):Ok (E2 (o,us)) λds=>∀m,Cov o us m↔ds.length<=m:=by
 obtain⟨r,A,k,rfl,E,G,l,B,-⟩:=sh h s;have H:=h.sm;unfold E2;rw[qX (show(o,us).1<=8 by show o<=8;lia),A];simp only[JU];rw[qX (show r.length<=60 by lia)];exact⟨_,rfl,xG λm C=>oY C l ((qC l).mpr B)⟩
variable{f i:Int->Int}
theorem iW(l:Ren o f i)(B:∀a b:Int,0<=a->a < o->b∈nr us a.toNat->f b∈nr yf (f a).toNat)(k:Nat)(C:DmK o us k):DmK o yf k:=by
 obtain⟨r,m,E⟩:=C;refine⟨_,l.stg m,λc G H=>?_⟩;obtain⟨I,J,s⟩:=l.fro c G H;obtain⟨a,A,L⟩:=E (i c) I J;refine⟨f a,BN.mpr (C9 A),?_⟩;obtain⟨N,O⟩:=m.2.1 a A
 rcases G5.mp L with e | e
 ·rw[<-e,s];exact G5.mpr (.inl rfl)
 ·have:=B a (i c) N O e
  rw[s]at this;exact G5.mpr (.inr this)
theorem iX(l:Ren o f i)(B:∀a b:Int,0<=a->a < o->b∈nr yf a.toNat->i b∈nr us (i a).toNat)(k:Nat)(C:ApK o us k):ApK o yf k:=by
 obtain⟨r,m,E⟩:=C;refine⟨_,l.stg m,λa G b hb H q=>?_⟩;obtain⟨x,s,rfl⟩:=Ai.mp (BN.mp G);obtain⟨y,A,rfl⟩:=Ai.mp (BN.mp hb);obtain⟨I,J⟩:=m.2.1 x s;obtain⟨L,y1⟩:=m.2.1 y A;obtain⟨N,O,P⟩:=l.to x I J;have:=B _ _ N O q;rw[P,(l.to y L y1).2.2]at this;exact E x s y A (λe=>H (by rw[e])) this
theorem b8(l:Ren o f i)(E:∀a b:Int,0<=a->a < o->b∈nr us a.toNat->f b∈nr yf (f a).toNat)(m:Nat)(G:Cov o us m):Cov o yf m:=by
 obtain⟨c,H,I⟩:=G;refine⟨λx=>c (i x).toNat,λx J=>?_,λx y J O P e=>?_⟩
 ·obtain⟨s,A,_⟩:=l.fro x (by lia) (by lia)
  exact H _ (by lia)
 ·obtain⟨s,A,B⟩:=l.fro x (by lia) (by lia)
  obtain⟨L,Q,C⟩:=l.fro y (by lia) (by lia)
  have N:(i x).toNat≠(i y).toNat:=λq=>by
   have q:i x=i y:=by lia
   have:(x:Int)=y:=by rw[<-B,<-C,q]
   lia
  have:=I _ _ (by lia) (by lia) N e;rw[Ax L]at this;have:=E (i x) (i y) s A this;rwa [B,C,At]at this
theorem jS{P Q:Nat->Prop}{a b:Nat}(h:∀k,P k↔Q k)(l:1<=a)(m:1<=b)(s:P a)(hb:Q b)(A:∀j,1<=j->j < a->¬P j)(B:∀j,1<=j->j < b->¬Q j):a=b:=by
 rcases MA a b with q | q | q
 ·exact zX ((h a).mp s) (B a l q)
 ·exact q
 ·exact zX ((h b).mpr hb) (A b m q)
theorem t7(h:En o us)(h':En o yf)(m:1<=o)(s:Ren o f i)(B:∀a b:Int,0<=a->a < o->b∈nr us a.toNat->f b∈nr yf (f a).toNat)(C:∀a b:Int,0<=a->a < o->b∈nr yf a.toNat->i b∈nr us (i a).toNat):∃l,O3 (o,us)=some l/\O3 (o,yf)=some l:=by
 have o8:=h.sm;obtain⟨w,ew,w0,rfl,w1,w2,w3,w4⟩:=xC h m;obtain⟨w',E,v0,e5,v1,v2,v3,v4⟩:=xC h' m;obtain⟨a,ea,a0,rfl,G,H,a3,a4,a5⟩:=sh h m;obtain⟨a',I,b0,e6,J,L,b3,b4,b5⟩:=sh h' m;obtain⟨c,ec,c1⟩:=xH h m;obtain⟨c',N,d1⟩:=xH h' m;obtain⟨x,ex,x0,rfl,x1,x2,x3,x4⟩:=nX (kd:="all") h m;obtain⟨x',O,x0',rfl,R,S,T,U⟩:=nX (kd:="all") h' m;obtain⟨y,ey,y0,rfl,y1,y2,y3,y4⟩:=nX (kd:="one") h m;obtain⟨y',X,y0',rfl,Y,Z,y3',y4'⟩:=nX (kd:="one") h' m
 have q1:w.length=w'.length:=by
  rw[e5];exact jS (P:=DmK o us) (Q:=DmK o yf) (λk=>⟨iW s B k,iW s.sw C k⟩) w1 v1 w3 v3 w4 v4
 have q2:a.length=a'.length:=by
  rw[e6]
  rcases MA a.length b0 with q | q | q
  ·exact zX (iX s.sw B _ ⟨_,b3,b4⟩) (a5 _ q L)
  ·exact q
  ·exact zX (iX s C _ ⟨_,a3,a4⟩) (b5 _ q H)
 have q3:c.length=c'.length:=pK ((c1 _).mp (b8 s.sw C _ ((d1 _).mpr (AM _)))) ((d1 _).mp (b8 s B _ ((c1 _).mpr (AM _))))
 have ls:∀kd:Str,∀a b:Nat,1<=a->a<=o->1<=b->b<=o->lsG o us kd a≠[]->lsG o yf kd b≠[]->(∀g,1<=g->g < a->lsG o us kd g=[])->(∀g,1<=g->g < b->lsG o yf kd g=[])->a=b:=λkd a b G H J L na nb la lb=>by
  rcases MA a b with q | q | q
  ·exact zX (lb a G q) (iT s h h' B H G na)
  ·exact q
  ·exact zX (la b J q) (iT s.sw h' h C L J nb)
 have q4:=ls _ _ _ x1 x2 R S x3 T x4 U;have q5:=ls _ _ _ y1 y2 Y Z y3 y3' y4 y4';subst q4 q5
 have go:∀(A:List ZPi) (w a:ZLi) (c:List ZLi),Hj (o,A)=some w->Hg (o,A)=some a->E2 (o,A)=some c->E1 (o,A) "all" = some (x0:Int)->E1 (o,A) "one" = some (y0:Int)->O3 (o,A)=some [(w.length:Int),x0,a.length,y0,c.length]:=λA w a c e1 e2 e3 e4 e5=>by
  unfold O3 XE Fy Ek;rw[wY (show ¬(8:Int) < ((o,A).1:Int) by show ¬(8:Int) < (o:Int);lia),qY AN];simp only[Sv,JU,ZK];rw[e4,e5,e1,e2,e3];rfl
 refine⟨_,go us w a c ew ea ec ex ey,?_⟩;rw[go yf w' a' c' E I N O X,q1,q2,q3]
end
open PySem L2 L4
open Srt (ltL)
section
variable{o g:Nat}{us yf:List ZPi}{kd:Str}{f i:Int->Int}{T T':TL}
noncomputable def Fl'(o g:Nat)(T:TL)(r:ZLi)(s:Int):Prop:=∃(n:Nat) (z:Int×Int),(sts o g)[n]?=some r/\An T (n:Int)=some z/\z.1=s
theorem aq(ho:o < 8)(l:g<=o)(m:1<=g){r:ZLi}{s:Int}(h:Fl' o g T r s):Stg o g r:=by
 obtain⟨n,z,A,-⟩:=h;exact(Ds ho l m).mp (Al A)
theorem t6(ho:o < 8)(A:g<=o)(B:1<=g){r:ZLi}{s t:Int}(h:Fl' o g T r s)(h':Fl' o g T r t):s=t:=by
 obtain⟨n,z,C,E,rfl⟩:=h;obtain⟨m,y,G,l,rfl⟩:=h';have:=bu ho A B C G;subst this;rw[E]at l;cases l;rfl
theorem iV(A:Ren o f i)(hT:En o us)(yK:En o yf)(B:g<=o)(C:1<=g)(F:Fa (sts o g).length (clS o g) (BS o g us kd) T)(X:Fa (sts o g).length (clS o g) (BS o g yf kd) T')(zE:∀a b:Int,0<=a->a < o->b∈nr yf a.toNat->i b∈nr us (i a).toNat) :
  ∀(k:Nat) (r:ZLi) (s:Int),s<=k->Fl' o g T r s->∃s',s'<=s/\Fl' o g T' (Be (r.map f)) s':=by
 have E:=hT.sm;intro k
 induction k with
 | zero=>
  rintro r s hs ⟨n,z,I,N,rfl⟩;have:=(F.ok n z N).1
  lia
 | succ k ih=>
  rintro r s hs ⟨n,z,I,N,rfl⟩;obtain⟨z1,z2,z3,-⟩:=F.ok n z N;have J:=(Ds E B C).mp (Al I);have Y:=A.stg J;obtain⟨m,O,P⟩:=W2 E B C Y;obtain⟨⟨c0,c1⟩,Z⟩:=(Xh I).mp z2;obtain⟨f0,f1,f2⟩:=A.to _ c0 c1
  have fc:f z.2∈clS o g m:=(Xh O).mpr ⟨⟨f0,f1⟩,λq=>by
   obtain⟨y,l,e⟩:=Ai.mp (BN.mp q);have:=(A.to y (J.2.1 y l).1 (J.2.1 y l).2).2.2;rw[e,f2]at this;rw[this]at Z
   exact Z l⟩
  have G:∀j,BS o g yf kd m (f z.2) j->∃y,An T' (j:Int)=some y/\y.1+1<=z.1:=by
   rintro j ⟨r1,r2,e1,e2,e3,e4⟩;rw[O]at e1;cases e1;have Q:=(Ds E B C).mp (Al e2);have lk:=iU A.sw yK zE Y Q e3;rw[A.back J]at lk;obtain⟨n2,yH,-⟩:=W2 E B C (A.sw.stg Q);obtain⟨y,l,ye⟩:=z3 n2 ⟨r,_,I,yH,lk,BN.mpr (Ai.mpr ⟨_,e4,f2⟩)⟩;obtain⟨s',Ο,j',y',H,zL,rfl⟩:=ih _ y.1 (by lia) ⟨n2,y,yH,l,rfl⟩;rw[A.sw.back Q]at H;have:=bu E B C H e2;subst this;exact⟨y',zL,by lia⟩
  cases R:An T' (m:Int)with
  | none=>
   obtain⟨j,S,U⟩:=X.no m P R _ fc;obtain⟨y,l,-⟩:=G j S;rw[U]at l;cases l
  | some L=>
   refine⟨L.1,?_,m,L,O,R,rfl⟩;obtain⟨w1,-,-,-,w5⟩:=X.ok m L R
   by_cases c:2<=L.1
   ·obtain⟨j,S,hq⟩:=w5 c _ fc
    obtain⟨y,l,hle⟩:=G j S;have:=hq y l
    lia
   ·lia
theorem b7(A:Ren o f i)(B:En o us)(E:En o yf)(l:g<=o)(m:1<=g)(F:Fa (sts o g).length (clS o g) (BS o g us kd) T)(G:Fa (sts o g).length (clS o g) (BS o g yf kd) T')(J:∀a b:Int,0<=a->a < o->b∈nr us a.toNat->f b∈nr yf (f a).toNat)(L:∀a b:Int,0<=a->a < o->b∈nr yf a.toNat->i b∈nr us (i a).toNat){r:ZLi}{s:Int}(h:Fl' o g T r s):Fl' o g T' (Be (r.map f)) s:=by
 have H:=B.sm;have N:=aq H l m h;obtain⟨C,P,O⟩:=iV A B E l m F G L s.toNat r s (by lia) h;obtain⟨Q,R,I⟩:=iV A.sw E B l m G F J C.toNat _ C (by lia) O;rw[A.back N]at I;have:=t6 H l m h I;rwa [show s=C by lia]
theorem kY{c:ZLi}(s:c.length=o){r:ZLi}(l:∀x∈r,0<=x/\x < (o:Int))(A:r.length<=7):HA c r=some (Be (r.map λx=>c.getD x.toNat 0)):=by
 unfold HA Ko
 rw[GZ (f:=λx:Int=>c.getD x.toNat 0) (by lia) λx m=>LZ (l x m).1 (by
  rw[BI,AO (show x.toNat < c.length by have:=l x m;lia)]
  rfl)]
 simp only[AJ];rw[QR (by rw[AC];lia)];rfl
theorem cR{L:List ZLi}(h:L.Pairwise λa b=>ltL a b=true):L.Nodup:=h.imp λ{a b} h e=>by
 rw[e,QB]at h;cases h
theorem sy(m:Ren o f i)(B:En o us)(G:En o yf)(C:g<=o)(E:1<=g)(J:∀a b:Int,0<=a->a < o->b∈nr us a.toNat->f b∈nr yf (f a).toNat)(N:∀a b:Int,0<=a->a < o->b∈nr yf a.toNat->i b∈nr us (i a).toNat) :
  UA ((lsG o us kd g).map λr=>Be (r.map f))=some (lsG o yf kd g):=by
 have L:=Rr (kd:=kd) B C E;have s:=Rr (kd:=kd) G C E
 have to:∀r∈lsG o us kd g,Be (r.map f)∈lsG o yf kd g:=λr l=>by
  have A:=(L.cl r l).1;exact s.all _ (aJ m B G J L.cl) _ ⟨m.stg A,by rw[m.back A];exact l⟩
 have fro:∀r∈lsG o yf kd g,Be (r.map i)∈lsG o us kd g:=λr l=>by
  have A:=(s.cl r l).1;exact L.all _ (aJ m.sw G B N s.cl) _ ⟨m.sw.stg A,by rw[m.sw.back A];exact l⟩
 have O:((lsG o us kd g).map λr=>Be (r.map f)).Nodup:=Bc.mpr ((cR L.up).imp_of_mem λ{a b} P hb Q e=>Q (by
  rw[<-m.back (L.cl a P).1,<-m.back (L.cl b hb).1,e]))
 unfold UA;have I:=B.sm;obtain⟨-,-,U⟩:=Oc o I g (by lia) C E
 have R:=Gh (k:=sts o g) (cR L.up) λr l=>(Ds I C E).mpr (L.cl r l).1
 rw[qX ⟨ES.mpr λr l=>by
  obtain⟨q,H,rfl⟩:=Ai.mp l;have:=(m.stg (L.cl q H).1).1
  cases S:Be (q.map f)with
  | nil=>rw[S]at this;rw[EC]at this;lia
  | cons _ _=>rfl,by rw[AC];lia⟩]
 congr 1
 refine Qy ?_ (Pv _) (s.up.imp λh=>Srt.QC _ _ h);refine(IT _).trans ((V1 O (cR s.up)).mpr λr=>?_);rw[Ai]
 constructor
 ·rintro⟨q,H,rfl⟩;exact to q H
 ·intro l
  exact⟨_,fro r l,m.sw.back (s.cl r l).1⟩
theorem uG{A:Type}{k:A->ZLi}{v:A->Int}{p:A->Option ZLi}{L:List A}(E:∀x∈L,p x=some (k x))(B:(L.map k).Nodup)(P:L.length<=1000):EQ (ρ:=List (ZLi×Int)) L [] (λ(s:List (ZLi×Int)) x=>Eg (λz=>z) ((p x).bind λy=>(IX s y (v x)).bind λl=>some (.nx l)))=some (.nx (L.map λx=>(k x,v x))):=by
 obtain⟨D,e,G⟩:=cb (ρ:=List (ZLi×Int)) (l:=L) (s0:=[]) (q:=λ(s:List (ZLi×Int)) x=>Eg (λz=>z) ((p x).bind λy=>(IX s y (v x)).bind λl=>some (.nx l))) (λm s=>s=m.map λx=>(k x,v x)) rfl (by
  rintro m x s H I rfl;obtain⟨r,C⟩:=I;refine⟨m.map (λx=>(k x,v x))++[(k x,v x)],?_,by rw[Ba];rfl⟩
  have J:m.length < 1000000:=by
   have:=congrArg JW C;rw[AQ,AQ]at this
   lia
  have nx:k x∉m.map k:=λz=>by
   rw[<-C,Ba,Ba,Dd]at B;have N:=(Dd.mp B.1).2.2;exact N _ z _ (by rw[Az,Ka,AG]) rfl
  rw[E x H];simp only[AJ];rw[show IX (m.map λx=>(k x,v x)) (k x) (v x)=some (CJ (m.map λx=>(k x,v x)) (k x) (v x))from qX (by rw[AC];exact J)];unfold CJ
  rw[qY λz=>by
   obtain⟨y,O,e⟩:=FC.mp z;obtain⟨w,hw,rfl⟩:=Ai.mp O
   exact nx (Ai.mpr ⟨w,hw,of_decide_eq_true e⟩)]
  rfl)
 rw[e,G]
theorem qp{L:List (ZLi×Int)}(A:(L.map (·.1)).Nodup)(h:(r,z)∈L):An L r=some z:=by
 cases m:An L r with
 | none=>
  have:=(DC L r).mpr (Ai.mpr ⟨_,h,rfl⟩);rw[m]at this;cases this
 | some y=>
  have B:=bo m;obtain⟨i,C,s⟩:=Bl h;obtain⟨j,E,l⟩:=Bl B
  have:i=j:=by
   refine(Se (i:=i) (j:=j) (h₀:=by rw[AC];exact C) (h₁:=by rw[AC];exact E) A).mp ?_;rw[kg,kg,s,l]
  subst this;rw[s]at l;rw[(G6 l).2]
theorem Yh{c:ZLi}(Q:c.Perm (DQ 0 o))(L:Ren o (λx=>c.getD x.toNat 0) i)(N:En o us)(C:g<=o)(E:1<=g):∃T D,Fa (sts o g).length (clS o g) (BS o g us kd) T/\Gr (o,us) g kd c=some D/\(D.map (·.1)).Nodup/\∀r s,(r,s)∈D↔∃q,Fl' o g T q s/\r=Be (q.map λx=>c.getD x.toNat 0):=by
 have H:=N.sm
 have R:c.length=o:=by rw[Q.length_eq,Br]
 obtain⟨T,S,-,U⟩:=j8 (kd:=kd) N C E;obtain⟨-,-,hl⟩:=Oc o H g (by lia) C E
 have at':∀x∈DQ 0 (sts o g).length,(sts o g)[x.toNat]?=some (evN o g x):=λx A=>by
  obtain⟨X,x1⟩:=Bh.mp A;have O:=AO (l:=sts o g) (i:=x.toNat) (by lia);have:=Mz O;rw[Ax X]at this;rw[this];exact O
 have I:∀x∈DQ 0 (sts o g).length,Stg o g (evN o g x):=λx A=>(Ds H C E).mp (Al (at' x A))
 have J:((((DQ 0 (sts o g).length).filter λn=>(An T n).isSome).map λn=>(evN o g n,(An T n).getD (0,0))).map λx:ZLi×Int×Int=>Be (x.1.map λx=>c.getD x.toNat 0)).Nodup:=by
  rw[BB];refine Bc.mpr (((Jb 0 (sts o g).length).filter _).imp_of_mem λ{a b} G hb lt e=>?_);have G:=(BE.mp G).1;have hb:=(BE.mp hb).1;have e:Be ((evN o g a).map λx=>c.getD x.toNat 0)=Be ((evN o g b).map λx=>c.getD x.toNat 0):=e
  have Y:evN o g a=evN o g b:=by rw[<-L.back (I a G),<-L.back (I b hb),e]
  have P:=qA H C E (Bh.mp G) (Bh.mp hb) lt;rw[Y,QB]at P;cases P
 refine⟨T,((DQ 0 (sts o g).length).filter λn=>(An T n).isSome).map λn=>(Be ((evN o g n).map λx=>c.getD x.toNat 0),((An T n).getD (0,0)).1),S,?_,?_,λr s=>?_⟩
 ·unfold Gr Iv
  simp only[CI];rw[U];simp only[AJ];have Z:=JD (λn=>(An T n).isSome) (DQ 0 (sts o g).length);rw[Br]at Z
  rw[uG (k:=λx:ZLi×Int×Int=>Be (x.1.map λx=>c.getD x.toNat 0)) (v:=λx=>x.2.1) (p:=λx=>HA c x.1) (λx A=>by
   obtain⟨n,m,rfl⟩:=Ai.mp A;have:=I n (BE.mp m).1
   exact kY R this.2.1 (by rw[this.1];lia)) J (by rw[AC];lia)]
  simp only[CI,XF];rw[BB];rfl
 ·rw[BB]
  rw[BB]at J;exact J
 ·rw[Ai]
  constructor
  ·rintro⟨n,m,e⟩
   obtain⟨m,hs⟩:=BE.mp m;obtain⟨z,B⟩:=Ce.mp hs;obtain⟨n0,n1⟩:=Bh.mp m;rw[B]at e;cases e;refine⟨evN o g n,⟨n.toNat,z,at' n m,by rw[Ax n0];exact B,rfl⟩,rfl⟩
  ·rintro⟨q,⟨n,z,m,B,rfl⟩,rfl⟩
   refine⟨(n:Int),BE.mpr ⟨Bh.mpr (by have:=(AE.mp m).1;lia),by rw[B];rfl⟩,?_⟩;rw[Mz m,B];rfl
theorem rR{D l:List (ZLi×Int)}(C:(D.map (·.1)).Nodup)(B:(l.map (·.1)).Nodup)(h:∀r s,(r,s)∈D↔(r,s)∈l):Od D l=true:=by
 unfold Od;have E:D.Nodup:=TV (f:=λx:ZLi×Int=>x.1) (λa b m e=>m (by rw[e])) C;have A:l.Nodup:=TV (f:=λx:ZLi×Int=>x.1) (λa b m e=>m (by rw[e])) B;rw[((V1 E A).mpr λx=>h x.1 x.2).length_eq,CS];refine⟨beq_self_eq_true _,ES.mpr λx G=>wX (qp B ((h x.1 x.2).mp G))⟩
end
open PySem L2 L4
section
variable{o:Nat}{l:List ZPi}
theorem nJ:((x,z)∈l.map nrm∨(z,x)∈l.map nrm)↔(x,z)∈l∨(z,x)∈l:=by
 have h:∀y:Int×Int,nrm y=y∨nrm y=(y.2,y.1):=by
  rintro ⟨a,b⟩
  unfold nrm;dsimp only
  rcases R5 a b with c | c | c
  ·rw[qY (by lia),qX (by lia)];exact .inl rfl
  ·subst c;exact .inl (by rw[qY (by lia)])
  ·rw[qX (by lia),qY (by lia)];exact .inr rfl
 have up:∀a b:Int,(a,b)∈l.map nrm->(a,b)∈l∨(b,a)∈l:=λa b m=>by
  obtain⟨y,s,e⟩:=Ai.mp m
  rcases h y with q | q
  ·rw[q]at e;rw[<-e];exact .inl s
  ·rw[q]at e
   have B:=(G6 e).1;have C:=(G6 e).2;refine .inr ?_;rw[<-B,<-C];exact s
 have A:∀a b:Int,(a,b)∈l->(a,b)∈l.map nrm∨(b,a)∈l.map nrm:=λa b m=>by
  have:=C9 (f:=nrm) m
  rcases h (a,b)with q | q
  ·rw[q]at this;exact .inl this
  ·rw[q]at this;exact .inr this
 exact⟨λq=>q.elim (up x z) λq=>(up z x q).symm,λq=>q.elim (A x z) λq=>(A z x q).symm⟩
noncomputable abbrev mpP(f:Int->Int)(x:Int×Int):Int×Int:=(f x.1,f x.2)
theorem sY(u v:Int×Int):nrm u=nrm v↔(u=v∨u=(v.2,v.1)):=by
 obtain⟨A,B⟩:=u;obtain⟨C,E⟩:=v;unfold nrm;dsimp only;rw[Vb,Vb,Vb]
 constructor
 ·rintro⟨m,s⟩
  split at m <;> split at m <;> split at s <;> split at s <;> lia
 ·rintro(⟨rfl,rfl⟩ | ⟨rfl,rfl⟩)
  ·exact⟨rfl,rfl⟩
  ·constructor
   ·split <;> split <;> lia
   ·split <;> split <;> lia
theorem hZ{f i:Int->Int}(h:QW o l)(s:Ren o f i):QW o ((l.map (mpP f)).map nrm):=by
 have inj:∀x y:Int,0<=x->x < o->0<=y->y < o->f x=f y->x=y:=λx y L N O y1 e=>by
  rw[<-(s.to x L N).2.2,<-(s.to y O y1).2.2,e]
 refine⟨λy P=>?_,?_,by rw[AC,AC];exact h.ln⟩
 ·obtain⟨z,Q,rfl⟩:=Ai.mp P
  obtain⟨x,R,rfl⟩:=Ai.mp Q;obtain⟨E,U,G⟩:=h.rg x R;have m:=s.to x.1 E (by lia);have A:=s.to x.2 (by lia) G
  have S:f x.1≠f x.2:=λe=>by have:=inj _ _ E (by lia) (by lia) G e;lia
  unfold nrm;dsimp only[mpP]
  rcases R5 (f x.1) (f x.2)with c | c | c
  ·rw[qY (by lia),qX (by lia)];exact⟨m.1,c,A.2.1⟩
  ·exact zX c S
  ·rw[qX (by lia),qY (by lia)];exact⟨A.1,c,m.2.1⟩
 ·rw[BB]
  refine Bc.mpr (h.nd.imp_of_mem λ{a b} T hb n e=>n ?_);obtain⟨m,A,H⟩:=h.rg a T;obtain⟨I,X,J⟩:=h.rg b hb
  rcases(sY (mpP f a) (mpP f b)).mp e with q | q
  ·obtain⟨B,C⟩:=G6 q
   exact pH (inj _ _ m (by lia) I (by lia) B) (inj _ _ (by lia) H (by lia) J C)
  ·obtain⟨B,C⟩:=G6 q
   have Y:=inj _ _ m (by lia) (by lia) J B;have Z:=inj _ _ (by lia) H I (by lia) C
   lia
theorem pQ{m ts:List ZPi}(h:QW o ts)(B:1<=o)(ho:o<=60)(s:(m.map M.nrm).Perm (ts.map M.nrm)):dL (o:Int) m=some (o,ID ts):=by
 have A:m.length=ts.length:=by have:=s.length_eq;rwa [AC,AC]at this
 unfold dL;rw[qX ⟨by lia,by lia,GJ.of s h.fit,by rw[A];have:=h.ln;lia⟩,lY s,At]
theorem sd(h:QW o l){x z:Int}(m:0<=x):z∈nr (ID l) x.toNat↔(x,z)∈l∨(z,x)∈l:=by
 rw[UY,h.mem,h.mem,Ax m]
theorem wJ(h:QW o (l.map nrm)){x z:Int}(m:0<=x):z∈nr (ID (l.map nrm)) x.toNat↔(x,z)∈l∨(z,x)∈l:=by
 rw[sd h m,nJ]
theorem iS{c:ZLi}(h:c.Perm (DQ 0 o)):Ren o (λx=>c.getD x.toNat 0) (λy=>(c.idxOf y:Int)):=by
 have H:c.length=o:=by rw[h.length_eq,Br]
 have C:c.Nodup:=h.nodup_iff.mpr ((Jb 0 o).imp λ{a b} h=>by lia)
 have s:∀x,x∈c↔0<=x/\x < (o:Int):=λx=>by rw[h.mem_iff,Bh];lia
 refine⟨λx A B=>?_,λx A B=>?_⟩
 ·have m:x.toNat < c.length:=by lia
  have e:c.getD x.toNat 0=c[x.toNat]:=by rw[BI,AO m];rfl
  show 0<=c.getD x.toNat 0/\c.getD x.toNat 0 < _/\_;rw[e];obtain⟨E,G⟩:=(s _).mp (Du m);refine⟨E,G,?_⟩;rw[Kg.idxOf_getElem C]
  lia
 ·have m:c.idxOf x < c.length:=List.idxOf_lt_length_iff.mpr ((s x).mpr ⟨A,B⟩)
  refine⟨by lia,by lia,?_⟩;show c.getD ((c.idxOf x:Int)).toNat 0=x;rw[At,BI,AO m];exact List.getElem_idxOf m
theorem jd{s:ZLi}{x:Int}{j:Nat}:(s.take j++[x]++s.drop j).Perm (s++[x]):=by
 have h:(s.take j++[x]++s.drop j).Perm (s.take j++(s.drop j++[x])):=by
  rw[CT];exact MM _ Zj
 rw[<-CT,JC]at h;exact h
theorem iP{r:ZLi}(m:∀x∈r,0<=x/\x < (o:Int)):r.map (λx=>(DQ 0 o).getD x.toNat 0)=r:=by
 conv=>rhs;rw[<-OX r]
 refine DA λx s=>?_
 obtain⟨A,B⟩:=m x s;rw[BI];unfold DQ;rw[Ad,CP (show x.toNat < o by lia)];show(0:Int)+(x.toNat:Int)=x
 lia
end
theorem wd(ns:ZLi):pZ ns=some true:=by
 refine Ok.is (OkF.out ?_);unfold cC;rw[show Cn ns 2=some (ns.getD 2 0)from Xk ns 2];generalize ns.getD 2 0=b;simp only[JU];obtain⟨⟨x,ts⟩,e,o,rfl,Y,h6,G⟩:=lr ns (m:=5+if decide (b % 4=1)=true then 1 else 0) (by split <;> lia);rw[e];simp only[JU,ZK,t9];rw[Kl (by lia) (by lia),At];simp only[JU];refine OkF.seq (OkF.for (λE (s:ZLi)=>s.Perm E) (NI _) ?_) ?_
 ·intro E x s A Z hs
  have Ρ:=Bh.mp A;have hl:=hs.length_eq;have yt:=Z.length_le;rw[AQ,Ac,Br]at yt
  obtain⟨w,ew⟩:∃w,Cn ns (3+x)=some w:=⟨ns.getD (3+x).toNat 0,by have:=Xk ns (3+x).toNat;rwa [Ax (by lia)]at this⟩
  rw[ew];simp only[JU];rw[cL (by lia)];simp only[JU];have w0:=Vf w (show x+1≠0 by lia);have w1:=gX w (show 0 < x+1 by lia);rw[show nj s (w % (x+1)) x=some _ from qX ⟨w0,by lia,by lia⟩];exact .nx (jd.trans (hs.append_right _))
 ·intro c hc
  have l:=iS hc
  have zu:c.length=o:=by rw[hc.length_eq,Br]
  have ga:∀x:Int,0<=x->x < o->atI c x=some (c.getD x.toNat 0):=λx x0 x1=>LZ x0 (by rw[BI,AO (show x.toNat < c.length by lia)];rfl)
  rw[pQ G Y (by lia) (NI _)];simp only[JU,ZK]
  rw[GZ (f:=mpP λx=>c.getD x.toNat 0) (by have:=G.ln;lia) λx A=>by
   obtain⟨r1,r2,r3⟩:=G.rg x A;rw[ga _ r1 (by lia),ga _ (by lia) r3]
   rfl]
  simp only[JU];have hcR:=l;generalize hfi:(λy=>(c.idxOf y:Int))=i at l;have O:=hZ G l;rw[pQ O Y (by lia) (by rw[O.nrm])];simp only[JU,ZK];have I:=G.ties (show o < 8 by lia);have H:=O.ties (show o < 8 by lia)
  have rt:∀x∈ts,i (c.getD x.1.toNat 0)=x.1/\i (c.getD x.2.toNat 0)=x.2:=λx A=>by
   obtain⟨r1,r2,r3⟩:=G.rg x A;exact⟨(l.to _ r1 (by lia)).2.2,(l.to _ (by lia) r3).2.2⟩
  have P:∀a b:Int,0<=a->a < o->b∈nr (ID ts) a.toNat->c.getD b.toNat 0∈nr (ID ((ts.map (mpP λx=>c.getD x.toNat 0)).map nrm)) (c.getD a.toNat 0).toNat:=λa b Q a1 hb=>by
   rw[sd G Q]at hb;rw[wJ O (l.to a Q a1).1]
   exact hb.imp (λq=>C9 (f:=mpP λx=>c.getD x.toNat 0) q) λq=>C9 (f:=mpP λx=>c.getD x.toNat 0) q
  have R:∀a b:Int,0<=a->a < o->b∈nr (ID ((ts.map (mpP λx=>c.getD x.toNat 0)).map nrm)) a.toNat->i b∈nr (ID ts) (i a).toNat:=λa b Q a1 hb=>by
   rw[wJ O Q]at hb;rw[sd G (l.fro a Q a1).1]
   have S:∀u v:Int,(u,v)∈ts.map (mpP λx=>c.getD x.toNat 0)->(i u,i v)∈ts:=λu v hm=>by
    obtain⟨x,A,e⟩:=Ai.mp hm;obtain⟨q1,q2⟩:=G6 e;rw[<-q1,<-q2,(rt x A).1,(rt x A).2];exact A
   exact hb.imp (S a b) (S b a)
  generalize ID ((ts.map (mpP λx=>c.getD x.toNat 0)).map nrm)=yf at H P R;obtain⟨fv,ef,ef'⟩:=t7 I H Y l P R;rw[ef,ef'];simp only[JU,ZK,decide_true,Pj,DM,if_false];rw[Sr (by lia) (by lia) (by lia) (by lia)];simp only[JU]
  refine OkF.seq (OkF.for (λ_ _=>True) trivial λE x _ A Z _=>?_) λ_ _=>.rt rfl
  have Ρ:=Bh.mp A
  obtain⟨k,rfl⟩:∃k:Nat,x=(k:Int):=⟨x.toNat,by lia⟩
  have B:k<=o:=by lia
  have C:1<=k:=by lia
  rw[few2];simp only[JU]
  refine OkF.map (OkF.for (λ_ _=>True) trivial λE kd _ hkd Z _=>?_) λ_ _=>trivial
  have L:=Rr (kd:=kd) I B C;have L':=Rr (kd:=kd) H B C;obtain⟨-,-,ϕ⟩:=Oc o (by lia) k (by lia) B C
  have hln:=Gh (k:=sts o k) (cR L.up) λr hr=>(Ds (by lia) B C).mpr (L.cl r hr).1
  rw[L.eq,L'.eq];simp only[JU]
  rw[GZ (f:=λr=>Be (r.map λx=>c.getD x.toNat 0)) (by lia) λr hr=>by
   have J:=(L.cl r hr).1
   exact kY zu J.2.1 (by rw[J.1];lia)]
  simp only[JU];rw[sy l I H B C P R];simp only[JU,ZK,decide_true,Pj,DM,if_false];obtain⟨T,D,F,er,nD,mD⟩:=Yh (kd:=kd) hc hcR I B C;obtain⟨T',D',F',er',nD',mD'⟩:=Yh (kd:=kd) (NI (DQ 0 o)) (iS (NI _)) H B C;rw[er,er'];simp only[JU]
  rw[rR nD nD' λr s=>by
   rw[mD,mD']
   constructor
   ·rintro⟨q,U,rfl⟩
    have X:=b7 l I H B C F F' P R U;have Δ:=aq (show o < 8 by lia) B C X;exact⟨_,X,by rw[iP Δ.2.1,YU Δ.2.2]⟩
   ·rintro⟨q,U,rfl⟩
    have J:=aq (show o < 8 by lia) B C U;have X:=b7 l.sw H I B C F' F R P U;refine⟨_,X,?_⟩;rw[iP J.2.1,YU J.2.2]
    exact(l.sw.back J).symm]
  exact OkF.map (N:=λ_=>True) (.nx trivial) λ_ _=>trivial
theorem tW:∀(W:Wd),W.excs.Nodup->∀ns:ZLi,ns.length<=63->∃S',cc W [.fro (ns.map D.int)] []=.ok (.bl true) S':=λW _ ns h=>VF.law (by rw[<-wd ns];exact vK W ns)
end M
namespace PySem.W.Fast
noncomputable def tw830438485025327340:Nat:=0
noncomputable def tw4936096673356394573:Nat:=0
noncomputable def tw15250271499416596028:Nat:=0
noncomputable def tw7414873370673993794:Nat:=0
noncomputable def tw15657117357671645448:Nat:=0
noncomputable def tw15816570891544964258:Nat:=0
noncomputable def tw13145420738156048595:Nat:=0
noncomputable def tw13429502486382967161:Nat:=0
noncomputable def tw464751438855994430:Nat:=0
noncomputable def tw7458025562569468459:Nat:=0
noncomputable def tw10653134738354555163:Nat:=0
noncomputable def tw4009392387013999100:Nat:=0
noncomputable def tw4066951236409144038:Nat:=0
noncomputable def tw960330181842906404:Nat:=0
noncomputable def tw14734770771934115692:Nat:=0
noncomputable def tw3237895933225534355:Nat:=0
noncomputable def tw3656784772303737720:Nat:=0
noncomputable def tw10760516006572050633:Nat:=0
noncomputable def tw3078696146886960829:Nat:=0
noncomputable def tw7519171130259445481:Nat:=0
noncomputable def tw15738383917531929710:Nat:=0
noncomputable def tw5546079978957377876:Nat:=0
noncomputable def tw12351187254241606711:Nat:=0
noncomputable def tw4528181004712552729:Nat:=0
noncomputable def tw13526443845695791852:Nat:=0
noncomputable def tw12316796669603609319:Nat:=0
noncomputable def tw9891348002880422994:Nat:=0
noncomputable def tw6074418794751870904:Nat:=0
noncomputable def tw5099144952354054685:Nat:=0
noncomputable def tw8580516087933929341:Nat:=0
noncomputable def tw7792354690974757368:Nat:=0
noncomputable def tw16543349639019802828:Nat:=0
noncomputable def tw15110017152215513669:Nat:=0
noncomputable def tw5945665327640327878:Nat:=0
noncomputable def tw15930901792788145578:Nat:=0
noncomputable def tw7959829276298108478:Nat:=0
noncomputable def tw4892275033763890424:Nat:=0
noncomputable def tw5017040827424619709:Nat:=0
noncomputable def tw496593818488306016:Nat:=0
noncomputable def tw17152015625138892382:Nat:=0
noncomputable def tw6225246009131195999:Nat:=0
noncomputable def tw6437796093235573919:Nat:=0
noncomputable def tw10008403246964034095:Nat:=0
noncomputable def tw12529698129819258696:Nat:=0
noncomputable def tw8942434370890440958:Nat:=0
noncomputable def tw12771016544803983454:Nat:=0
noncomputable def tw10321550334715429321:Nat:=0
noncomputable def tw11251788874367392792:Nat:=0
noncomputable def tw15018439713306437945:Nat:=0
noncomputable def tw1462285110121083956:Nat:=0
noncomputable def tw17584586991169460668:Nat:=0
noncomputable def tw1850367229313381032:Nat:=0
noncomputable def tw11985474354841437003:Nat:=0
noncomputable def tw7869394954075258376:Nat:=0
noncomputable def tw14149696632666666906:Nat:=0
noncomputable def tw17888083128019874996:Nat:=0
noncomputable def tw11267184225142283704:Nat:=0
noncomputable def tw794808302288968244:Nat:=0
noncomputable def tw9465962587053056716:Nat:=0
noncomputable def tw14625012548664057647:Nat:=0
noncomputable def tw4007180585282893736:Nat:=0
noncomputable def tw13460287478190087069:Nat:=0
noncomputable def tw5494484527727875608:Nat:=0
noncomputable def tw6334651278716649483:Nat:=0
noncomputable def tw6117306391480582816:Nat:=0
noncomputable def tw7203037900674201791:Nat:=0
noncomputable def tw2862688359874564078:Nat:=0
noncomputable def tw13489764386022197171:Nat:=0
noncomputable def tw16928365432962119342:Nat:=0
noncomputable def tw17184817379386010825:Nat:=0
noncomputable def tw1967341151787041329:Nat:=0
noncomputable def tw3165074053954567653:Nat:=0
noncomputable def tw4961953018194014154:Nat:=0
noncomputable def tw3363366517986312799:Nat:=0
noncomputable def tw13132831742493444554:Nat:=0
noncomputable def tw8449326167111789061:Nat:=0
noncomputable def tw18058410717715024857:Nat:=0
noncomputable def tw2084185269556008365:Nat:=0
noncomputable def tw2645070240125634625:Nat:=0
noncomputable def tw4376126126963110371:Nat:=0
noncomputable def tw17216307119745723776:Nat:=0
noncomputable def tw11855790096194616871:Nat:=0
noncomputable def tw16055901144342197953:Nat:=0
noncomputable def tw17614657963999538642:Nat:=0
noncomputable def tw2709648535321156309:Nat:=0
noncomputable def tw16685982566479397474:Nat:=0
noncomputable def tw13041365400949331313:Nat:=0
noncomputable def tw3823821970189161697:Nat:=0
noncomputable def tw1029427919120668268:Nat:=0
noncomputable def tw6542128840033202071:Nat:=0
noncomputable def tw122782763235570721:Nat:=0
noncomputable def tw13458541040609279953:Nat:=0
noncomputable def tw11188755663223181293:Nat:=0
noncomputable def tw4793296970422946018:Nat:=0
noncomputable def tw4914191488135365747:Nat:=0
noncomputable def tw13131309530070533917:Nat:=0
noncomputable def tw12214686396584517810:Nat:=0
noncomputable def tw2725742354750020049:Nat:=0
noncomputable def tw11819773160761973647:Nat:=0
noncomputable def tw6522772176036728328:Nat:=0
noncomputable def tw10085172921780187547:Nat:=0
noncomputable def tw11106012500543357149:Nat:=0
noncomputable def tw17165815422940759946:Nat:=0
noncomputable def tw6366674024559679873:Nat:=0
noncomputable def tw1070859733870842529:Nat:=0
noncomputable def tw14168789296240918527:Nat:=0
noncomputable def tw17698744435758705126:Nat:=0
noncomputable def tw16311995191582272486:Nat:=0
noncomputable def tw4822094981980126638:Nat:=0
noncomputable def tw16471827620751324335:Nat:=0
noncomputable def tw3866566203427788420:Nat:=0
noncomputable def tw15452212291121442086:Nat:=0
noncomputable def tw2917325192105056381:Nat:=0
noncomputable def tw647097632756862410:Nat:=0
noncomputable def tw2086309424272894170:Nat:=0
noncomputable def tw14816540279293621452:Nat:=0
noncomputable def tw6139441086038184107:Nat:=0
noncomputable def tw2516690668045176106:Nat:=0
noncomputable def tw9451827042879018385:Nat:=0
noncomputable def tw11280134112349635913:Nat:=0
noncomputable def tw3995962219963552055:Nat:=0
noncomputable def tw3313221417434121685:Nat:=0
noncomputable def tw942404803137033903:Nat:=0
noncomputable def tw16240324170060183563:Nat:=0
noncomputable def tw5189399979142717067:Nat:=0
noncomputable def tw15437513557676018542:Nat:=0
noncomputable def tw3880531642323914171:Nat:=0
noncomputable def tw16327892645144690587:Nat:=0
noncomputable def tw6043117132706789490:Nat:=0
noncomputable def tw2959744519461241008:Nat:=0
noncomputable def tw2275376977165812897:Nat:=0
noncomputable def tw205295318758064844:Nat:=0
noncomputable def tw2462471807227175242:Nat:=0
noncomputable def tw5868091434261007971:Nat:=0
noncomputable def tw16632285291434318360:Nat:=0
noncomputable def tw15876730376074070200:Nat:=0
noncomputable def tw12764037626253153603:Nat:=0
noncomputable def tw3020205995168824583:Nat:=0
noncomputable def tw6550460858772096632:Nat:=0
end PySem.W.Fast
namespace M
open PySem PySem.Spec PyProof.Rows L2 PySem.W
theorem uP{l:OpenLaw}{w:CV}{K:Frag}{h:DO}{B:Str->Option AK}{fa:Ab}(X:K.In h)(G:h.Ns BZ B)(C:B "law" = some (.ref fa))
  {f1 f2 f3 f4 f5 f6 f7 f8 f9 E H I J L N O P Q R S U Y Z f24 f25 f26 f27 f28 f29 f30 f31 f32 f33 f34 f35 f36 f37 f38 f39 f40 f41 f42 f43 f44 A o m:Ab} {yp yg yd ya:Tok}
  (o_Web:ClsAt K "Web" o)
  (o_Field:ClsAt K "Field" m)
  (d1:DY K "checked_ties" J3 f1)
  (d2:DY K "near_sets_of" Jx f2)
  (d4:DY K "refuse_no_place" HR f4)
  (d5:DY K "near" aF f5)
  (d6:DY K "takes_of" Oz f6)
  (d7:DY K "bits_of" Q5 f7)
  (d8:DY K "members" Q2 f8)
  (d9:DY K "settle" UF f9)
  (d10:DY K "fits" aH E)
  (d11:DY K "with_step" Nb H)
  (d12:DY K "sets_of" Q0 I)
  (d13:DY K "first_unwatched" HS J)
  (d14:DY K "first_pair" Mc L)
  (d15:DY K "first_near" Md N)
  (d16:DY K "first_far" Nd O)
  (d17:DY K "is_club" Q4 P)
  (d18:DY K "ways_to_choose" IU Q)
  (d19:DY K "how_many" O0 R)
  (d20:DY K "standings" Nc S)
  (d27:DY K "falling_now" LC f27)
  (d28:DY K "fallen" UG f28)
  (d29:DY K "lasting_bits" Jz f29)
  (d30:DY K "lasting" Q3 f30)
  (d31:DY K "falls" XA f31)
  (d32:DY K "refuse_large" Jv f32)
  (d33:DY K "fewest_watch" J1 f33)
  (d34:DY K "most_apart" Mb f34)
  (d35:DY K "clubs_with" Me f35)
  (d36:DY K "parting_from" Jw f36)
  (d37:DY K "fewest_clubs" J2 f37)
  (d38:DY K "refuse_many_places" Ft f38)
  (d39:DY K "least_guards" Jy f39)
  (d40:DY K "five" aG f40)
  (d41:DY K "_law_cell_at" J4 f41)
  (d42:DY K "_law_small_web" IV f42)
  (d43:DY K "_law_anew" Nf f43)
  (d44:DY K "_law_rounds" LD f44)
  (d45:DY K "law" bw A)
  (d3:Oo K o "__init__" "Web.__init__" O1 f3)
  (d21:Oo K m "linked_by_one" "Field.linked_by_one" FT U)
  (d22:Oo K m "linked_by_all" "Field.linked_by_all" FU Y)
  (d23:Oo K m "__init__" "Field.__init__" Mf Z)
  (d24:Oo K m "calls" "Field.calls" LF f24)
  (d25:Oo K m "linked" "Field.linked" J5 f25)
  (d26:Oo K m "behind" "Field.behind" J6 f26)
  (n_Web_places:findIn K (.ref o) "places" = some none)
  (n_Web_ties:findIn K (.ref o) "ties" = some none)
  (n_Web_near_sets:findIn K (.ref o) "near_sets" = some none)
  (n_Field_everything:findIn K (.ref m) "everything" = some none)
  (n_Field_kind:findIn K (.ref m) "kind" = some none)
  (n_Field_takes:findIn K (.ref m) "takes" = some none)
  (n_Field_numbers:findIn K (.ref m) "numbers" = some none)
  (n_Field_having:findIn K (.ref m) "having" = some none)
  (n_Field_place_bits:findIn K (.ref m) "place_bits" = some none)
  (n_Field_known:findIn K (.ref m) "known" = some none)
  (z_abs:Rw K BZ "abs" = some none)
  (z_enumerate:Rw K BZ "enumerate" = some none)
  (z_int:Rw K BZ "int" = some none)
  (z_len:Rw K BZ "len" = some none)
  (z_list:Rw K BZ "list" = some none)
  (z_max:Rw K BZ "max" = some none)
  (z_min:Rw K BZ "min" = some none)
  (z_range:Rw K BZ "range" = some none)
  (z_sorted:Rw K BZ "sorted" = some none)
  (z_sum:Rw K BZ "sum" = some none)
  (z_tuple:Rw K BZ "tuple" = some none)
  (g_MOST_PLACES:Rw K BZ "MOST_PLACES" = some (some (.int 60 yp)))
  (g_MOST_STANDINGS:Rw K BZ "MOST_STANDINGS" = some (some (.int 400 yg)))
  (g_MOST_PLACES_TRIED:Rw K BZ "MOST_PLACES_TRIED" = some (some (.int 12 yd)))
  (g_MOST_PLACES_GUARDED:Rw K BZ "MOST_PLACES_GUARDED" = some (some (.int 8 ya)))
  : ∃(W:Wd) (T:Txt K B W),fa=T.d_law.f/\W.excs.Nodup/\∀(s:AS) (v:AK),Za s T.d_law.fd ⟨[v],[]⟩ [("script",v)]:=by
 obtain⟨zl,_,_,_,_,_,_,_,_,_,l,c,k⟩:=d45;have F:=jq (st:=bw) l c k
 let W:Wd:=⟨o,m⟩
 let T:Txt K B W:={
  d_checked_ties:=mkD X G d1 (bd2 λ_ _ _ _ _ _ _ _ _ _=>rfl)
  d_near_sets_of:=mkD X G d2 (bd2 λ_ _ _ _ _ _ _ _ _ _=>rfl)
  d_Web_init:=mkM d3 (bd3 λ_ _ _ _ _ _ _ _ _ _ _=>rfl)
  d_refuse_no_place:=mkD X G d4 (bd2 λ_ _ _ _ _ _ _ _ _ _=>rfl)
  d_near:=mkD X G d5 (bd2 λ_ _ _ _ _ _ _ _ _ _=>rfl)
  d_takes_of:=mkD X G d6 (bd1 λ_ _ _ _ _ _ _ _ _=>rfl)
  d_bits_of:=mkD X G d7 (bd1 λ_ _ _ _ _ _ _ _ _=>rfl)
  d_members:=mkD X G d8 (bd1 λ_ _ _ _ _ _ _ _ _=>rfl)
  d_settle:=mkD X G d9 (bd5 λ_ _ _ _ _ _ _ _ _ _ _ _ _=>rfl)
  d_fits:=mkD X G d10 (bd3 λ_ _ _ _ _ _ _ _ _ _ _=>rfl)
  d_with_step:=mkD X G d11 (bd3 λ_ _ _ _ _ _ _ _ _ _ _=>rfl)
  d_sets_of:=mkD X G d12 (bd2 λ_ _ _ _ _ _ _ _ _ _=>rfl)
  d_first_unwatched:=mkD X G d13 (bd2 λ_ _ _ _ _ _ _ _ _ _=>rfl)
  d_first_pair:=mkD X G d14 (bd3 λ_ _ _ _ _ _ _ _ _ _ _=>rfl)
  d_first_near:=mkD X G d15 (bd2 λ_ _ _ _ _ _ _ _ _ _=>rfl)
  d_first_far:=mkD X G d16 (bd2 λ_ _ _ _ _ _ _ _ _ _=>rfl)
  d_is_club:=mkD X G d17 (bd2 λ_ _ _ _ _ _ _ _ _ _=>rfl)
  d_ways_to_choose:=mkD X G d18 (bd2 λ_ _ _ _ _ _ _ _ _ _=>rfl)
  d_how_many:=mkD X G d19 (bd2 λ_ _ _ _ _ _ _ _ _ _=>rfl)
  d_standings:=mkD X G d20 (bd2 λ_ _ _ _ _ _ _ _ _ _=>rfl)
  d_Field_linked_by_one:=mkM d21 (bd2 λ_ _ _ _ _ _ _ _ _ _=>rfl)
  d_Field_linked_by_all:=mkM d22 (bd2 λ_ _ _ _ _ _ _ _ _ _=>rfl)
  d_Field_init:=mkM d23 (bd4 λ_ _ _ _ _ _ _ _ _ _ _ _=>rfl)
  d_Field_calls:=mkM d24 (bd2 λ_ _ _ _ _ _ _ _ _ _=>rfl)
  d_Field_linked:=mkM d25 (bd2 λ_ _ _ _ _ _ _ _ _ _=>rfl)
  d_Field_behind:=mkM d26 (bd3 λ_ _ _ _ _ _ _ _ _ _ _=>rfl)
  d_falling_now:=mkD X G d27 (bd2 λ_ _ _ _ _ _ _ _ _ _=>rfl)
  d_fallen:=mkD X G d28 (bd1 λ_ _ _ _ _ _ _ _ _=>rfl)
  d_lasting_bits:=mkD X G d29 (bd2 λ_ _ _ _ _ _ _ _ _ _=>rfl)
  d_lasting:=mkD X G d30 (bd3 λ_ _ _ _ _ _ _ _ _ _ _=>rfl)
  d_falls:=mkD X G d31 (bd3 λ_ _ _ _ _ _ _ _ _ _ _=>rfl)
  d_refuse_large:=mkD X G d32 (bd1 λ_ _ _ _ _ _ _ _ _=>rfl)
  d_fewest_watch:=mkD X G d33 (bd1 λ_ _ _ _ _ _ _ _ _=>rfl)
  d_most_apart:=mkD X G d34 (bd1 λ_ _ _ _ _ _ _ _ _=>rfl)
  d_clubs_with:=mkD X G d35 (bd4 λ_ _ _ _ _ _ _ _ _ _ _ _=>rfl)
  d_parting_from:=mkD X G d36 (bd4 λ_ _ _ _ _ _ _ _ _ _ _ _=>rfl)
  d_fewest_clubs:=mkD X G d37 (bd1 λ_ _ _ _ _ _ _ _ _=>rfl)
  d_refuse_many_places:=mkD X G d38 (bd1 λ_ _ _ _ _ _ _ _ _=>rfl)
  d_least_guards:=mkD X G d39 (bd2 λ_ _ _ _ _ _ _ _ _ _=>rfl)
  d_five:=mkD X G d40 (bd1 λ_ _ _ _ _ _ _ _ _=>rfl)
  d__law_cell_at:=mkD X G d41 (bd2 λ_ _ _ _ _ _ _ _ _ _=>rfl)
  d__law_small_web:=mkD X G d42 (bd2 λ_ _ _ _ _ _ _ _ _ _=>rfl)
  d__law_anew:=mkD X G d43 (bd2 λ_ _ _ _ _ _ _ _ _ _=>rfl)
  d__law_rounds:=mkD X G d44 (bd4 λ_ _ _ _ _ _ _ _ _ _ _ _=>rfl)
  d_law:=⟨A,_,F,F.binds ((bd1 λ_ _ _ _ _ _ _ _ _=>rfl) _ _),fj X G zl⟩
  c_Web:=mkO X G o_Web d3
  n_Web_places:=n_Web_places
  n_Web_ties:=n_Web_ties
  n_Web_near_sets:=n_Web_near_sets
  c_Field:=mkO X G o_Field d23
  n_Field_everything:=n_Field_everything
  n_Field_kind:=n_Field_kind
  n_Field_takes:=n_Field_takes
  n_Field_numbers:=n_Field_numbers
  n_Field_having:=n_Field_having
  n_Field_place_bits:=n_Field_place_bits
  n_Field_known:=n_Field_known
  m_Field_linked_by_one:=mkE d21
  m_Field_linked_by_all:=mkE d22
  m_Field_calls:=mkE d24
  m_Field_linked:=mkE d25
  m_Field_behind:=mkE d26
  b_abs:=Fn X G z_abs
  b_enumerate:=Fn X G z_enumerate
  b_int:=Fn X G z_int
  b_len:=Fn X G z_len
  b_list:=Fn X G z_list
  b_max:=Fn X G z_max
  b_min:=Fn X G z_min
  b_range:=Fn X G z_range
  b_sorted:=Fn X G z_sorted
  b_sum:=Fn X G z_sum
  b_tuple:=Fn X G z_tuple
  g_MOST_PLACES:=⟨yp,fj X G g_MOST_PLACES⟩
  g_MOST_STANDINGS:=⟨yg,fj X G g_MOST_STANDINGS⟩
  g_MOST_PLACES_TRIED:=⟨yd,fj X G g_MOST_PLACES_TRIED⟩
  g_MOST_PLACES_GUARDED:=⟨ya,fj X G g_MOST_PLACES_GUARDED⟩ }
 refine⟨W,T,?_,EZ,λs v=>.of_eq rfl⟩;have e:=C.symm.trans (fj X G zl);cases e;rfl
theorem walk{l:OpenLaw}{q:Bw}{m:List Str}{I:(Str->Option AK)->DO->Prop}{C:CV->DO->Prop}{d:DefRec}{K:Params->Frag}(J:l.most=some 63)(B:d.params.defaults=[])
  (L:∀(w:CV) (h:DO),C w h->(K w.params).In h)
  (F:∀(w:CV) (o:Str->Option AK) (A:Ab) (h:DO),(K w.params).In h->h.Ns BZ o->o d.name=some (.ref A) ->
   ∃(W:Wd) (T:Txt (K w.params) o W),A=T.d_law.f/\W.excs.Nodup/\∀(s:AS) (v:AK),Za s T.d_law.fd ⟨[v],[]⟩ [("script",v)])
  (tW:∀(W:Wd),W.excs.Nodup->∀ns:ZLi,ns.length<=63->∃N,cc W [.fro (ns.map D.int)] []=.ok (.bl true) N) :
  WalkO q m I C l.row.toRowW d [] (λf vs=>dE f vs):=
 L2.lI (n:=63) (k:=20) (x:="script") (CX:=λw=>CXG l.prog w) (sp:=λw=>iH (K w.params)) J (by decide) B ⟨rfl,by decide,by decide⟩ L
  (λw o A h O G P=>by
   obtain⟨W,T,e,Q,hb⟩:=F w o A h O G P;subst e
   exact⟨T.d_law.fd,hb,λE _ _=>jU (sW T) (tW W Q)⟩)
  (λ_ _ a ns R S U=>⟨a,ns,rfl,tz S U,R,λ_=>rfl⟩) (λw H s e X z=>uI z)
end M
open PySem PySem.W PyProof.Rows
set_option maxRecDepth 100000 in
set_option maxHeartbeats 0 in
theorem PySem.Challenge.cw_guardround_k68_whole_called_anew_holds : PySem.Challenge.rw_guardround_k68_whole_called_anew.Holds := by
 w_on;o_law;k_head;(case hw=>w_witness2)
 k_fill
 refine M.walk (l:=IF) rfl rfl (λw h Y=>by first | exact kIn_of Y | exact km_in_of Y) ?F M.tW
 case F=>
  intro w mg fa h KX G ς;refine' M.uP (l:=IF) (w:=w) KX G ς ?o_Web ?o_Field ?d1 ?d2 ?d4 ?d5 ?d6 ?d7 ?d8 ?d9 ?d10 ?d11 ?d12 ?d13 ?d14 ?d15 ?d16 ?d17 ?d18 ?d19 ?d20 ?d27 ?d28 ?d29 ?d30 ?d31 ?d32 ?d33 ?d34 ?d35 ?d36 ?d37 ?d38 ?d39 ?d40 ?d41 ?d42 ?d43 ?d44 ?d45 ?d3 ?d21 ?d22 ?d23 ?d24 ?d25 ?d26 ?n_Web_places ?n_Web_ties ?n_Web_near_sets ?n_Field_everything ?n_Field_kind ?n_Field_takes ?n_Field_numbers ?n_Field_having ?n_Field_place_bits ?n_Field_known ?z_abs ?z_enumerate ?z_int ?z_len ?z_list ?z_max ?z_min ?z_range ?z_sorted ?z_sum ?z_tuple ?g_MOST_PLACES ?g_MOST_STANDINGS ?g_MOST_PLACES_TRIED ?g_MOST_PLACES_GUARDED
  (case o_Web | o_Field=>exact⟨by k_is,by k_is,by k_is,by k_is,by k_is,by k_is,by k_is⟩)
  (case d1 | d2 | d4 | d5 | d6 | d7 | d8 | d9 | d10 | d11 | d12 | d13 | d14 | d15 | d16 | d17 | d18 | d19 | d20 | d27 | d28 | d29 | d30 | d31 | d32 | d33 | d34 | d35 | d36 | d37 | d38 | d39 | d40 | d41 | d42 | d43 | d44 | d45=>exact⟨by k_is,_,_,_,_,_,_,_,_,_,by k_is,by k_is,by k_is⟩)
  (case d3 | d21 | d22 | d23 | d24 | d25 | d26=>exact⟨by k_is,by k_is,_,_,_,_,_,_,_,_,_,by k_is,by k_is,by k_is⟩)
  (case n_Web_places | n_Web_ties | n_Web_near_sets | n_Field_everything | n_Field_kind | n_Field_takes | n_Field_numbers | n_Field_having | n_Field_place_bits | n_Field_known | z_abs | z_enumerate | z_int | z_len | z_list | z_max | z_min | z_range | z_sorted | z_sum | z_tuple | g_MOST_PLACES | g_MOST_STANDINGS | g_MOST_PLACES_TRIED | g_MOST_PLACES_GUARDED=>k_is)
#print axioms PySem.Challenge.cw_guardround_k68_whole_called_anew_holds
