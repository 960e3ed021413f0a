import PyProof.Rows.All
import Wide.All
import OpenK.AllK
import Wide.FinOn
import Lean
import PyProof.EqAt
import PyProof.EqKinds
import PyProof.TupleCall
import PyProof.ExcBaseAll.ValueError
import PyProof.NsDelKeeps
import PyProof.NeKinds
import PyProof.Rows.SortShell
import PyProof.Rows.FStr
import PyProof.FString
import PyProof.ExcAttrAll.ValueError
import PyProof.ExcArgsOwn
import PyProof.Rows.SortRuns
import PyProof.TupleIter
import PyProof.Dict
import KE.KDictSum
import PyProof.Rows.SetFrom
import PyProof.SetRoads
import PyProof.Rows.Range3
import PyProof.WalksMore
import PyProof.Rows.SortRev
import PyProof.Rows.RuleB_bool
import PyProof.TupleOfSeq
import PyProof.EnumMake
import PyProof.SliceList
import PyProof.MinMaxWalk
import PyProof.Rows.EnumRows
import PyProof.WalkInts
import PyProof.Rows.SeqCalls
import KE.KRevIter
import PyProof.CollectIter
import PyProof.TupleOfGen
import PyProof.Rows.FactsT2
import PyProof.ListRange
import PyProof.Rows.CallKwBuiltin
import PyProof.ZipIter
import PyProof.Rows.ZipGen
import PyProof.Rows.RuleM_int
import PyProof.Rows.AssignMoreSeq
import KE.KIntText
import PyProof.Rows.StrKeys3
import PyProof.StrBlock
import PyProof.StrCalls2
import PyProof.StrWalks
import PyProof.Rows.RuleN_abs
import PySem.Challenge.RW_guardround_k63_whole_caller_beats_all
set_option Elab.async false
set_option linter.all false
set_option maxRecDepth 100000
set_option maxHeartbeats 8000000
noncomputable abbrev ZLi:=List Int
noncomputable abbrev ZPi:=Int×Int
theorem qX{c:Prop}{h:Decidable c}(l:c){m:Sort u}{t e:m}:ite c t e=t:=if_pos l
theorem qY{c:Prop}{h:Decidable c}(l:Not c){m:Sort u}{t e:m}:ite c t e=e:=if_neg l
theorem wX{p:Prop}[i:Decidable p](h:p):decide p=true:=decide_eq_true h
theorem wY{p:Prop}[i:Decidable p](h:Not p):decide p=false:=decide_eq_false h
theorem zX{a b:Prop}(h:a)(n:Not a):b:=absurd h n
noncomputable section
open Array renaming getD_eq_getD_getElem?->Fn,getElem?_eq_getElem->UX,getElem?_toList->YR,length_toList->Be,mem_extract_iff_getElem->RO,mem_of_getElem?->De,mem_toList_iff->BZ,perm_iff_toList_perm->Cm,size_map->jL,size_reverse->bX,toList->nS,toList_append->BP,toList_map->E7,toList_modify->Zt,toList_push->K0,toList_reverse->DF,toList_setIfInBounds->Tw
open Array.Perm renaming refl->Pj
open Bool renaming and_eq_true->DI,false_eq_true->CI,false_ne_true->AH,false_or->nR,not_false->mX,not_true->Wq,or_eq_true->Mt,true_and->Wp
open Classical renaming byContradiction->GP,choose->C2,choose_spec->EG
open Eq renaming trans->IN
open False renaming elim->Ey
open ForInStep renaming yield->Ie
open Int renaming emod_lt_of_pos->db,emod_nonneg->mW,fdiv_eq_ediv_of_nonneg->VY,le_refl->ux,lt_trans->sE,natCast_nonneg->Kb,one_mul->uw,toNat_natCast->A9,toNat_of_nonneg->Bq
open List renaming Nodup->Ga,all_cons->nQ,all_eq_true->Iq,all_map->YL,all_toArray->iw,any_cons->Iv,any_eq_false->dZ,any_eq_true->E8,any_toArray->MZ,append_assoc->Bu,append_nil->CB,drop_drop->UV,drop_eq_getElem_cons->Dd,drop_of_length_le->Mn,drop_zero->mV,eq_nil_of_length_eq_zero->FI,ext_getElem?->Hv,extract->Qg,filterMap_cons->Oi,filter_cons_of_neg->MY,filter_cons_of_pos->MX,filter_eq_self->bV,find?_cons->CY,find?_eq_none->KF,find?_isSome->dY,find?_some->jJ,flatMap_append->bU,flatMap_cons->LC,foldl_append->Hu,foldl_nil->UU,forIn_cons->jI,forIn_nil->UT,getD_eq_getElem?_getD->Bz,getElem?_append_left->Ap,getElem?_append_right->Bj,getElem?_drop->KD,getElem?_eq_getElem->AU,getElem?_eq_none->CL,getElem?_eq_none_iff->Er,getElem?_eq_some_iff->AF,getElem?_map->Ai,getElem?_range->E6,getElem?_replicate->D2,getElem?_set->DT,getElem?_set_ne->Ah,getElem?_set_self->As,getElem?_take_of_lt->Wn,getElem?_zipIdx->JH,getElem_inj->MW,getElem_map->Gi,getElem_mem->Cb,getElem_of_mem->B2,getElem_range->dN,getElem_zip->Ip,length->HF,length_append->AZ,length_cons->At,length_drop->Io,length_erase_of_mem->LW,length_filter_eq_length_iff->Qe,length_filter_le->Cy,length_map->AD,length_nil->Ms,length_pos_iff->Ja,length_range->dX,length_replicate->Nd,length_reverse->bT,length_set->D5,length_singleton->A0,length_take->Dk,length_zip->JT,lookup->JG,lookup_cons->Bd,map->JF,mapM_cons->US,mapM_toArray->LB,map_append->CW,map_congr_left->DU,map_cons->BA,map_id->N4,map_id'->YK,map_map->BC,map_nil->Mm,map_reverse->iu,map_take->nP,mem_append->Ay,mem_append_left->BO,mem_append_right->BW,mem_cons->Ae,mem_cons_of_mem->AN,mem_cons_self->AX,mem_filter->Am,mem_filterMap->dM,mem_flatMap->ir,mem_iff_getElem->Zp,mem_map->BF,mem_map_of_mem->bS,mem_of_find?_eq_some->VW,mem_of_getElem?->BN,mem_range->N3,mem_reverse->iq,mem_singleton->Ad,mem_singleton_self->Wx,mergeSort_nil->dL,mergeSort_perm->bQ,nil_append->jH,nodup_append->D1,nodup_cons->Bf,nodup_nil->Ee,not_mem_nil->MV,of_mem_zip->JS,pairwise_append->BM,pairwise_cons->KC,pairwise_iff_getElem->Kz,pairwise_map->Bn,pairwise_mergeSort->Ww,pairwise_of_forall_mem_list->Qd,pairwise_reverse->Ic,pairwise_singleton->MU,perm_append_comm->YX,range->D4,range_succ->Tf,replicate->By,reverse_cons->dW,reverse_perm->Qb,set_set->rZ,singleton_append->Fm,size_toArray->Aj,sum_cons->nO,take_add_one->Ft,take_append_drop->Ib,take_length->MR,take_of_length_le->Co,take_sublist->dU,take_zero->mU,zipIdx_nil->jG,zip_append->jF,zip_cons_cons->Pi,zip_nil_right->dJ
open List.Pairwise renaming and->UW,nil->sD
open List.Perm renaming append_left->Lc,append_right->Tu,of_eq->Zq,refl->bW
open List.Sublist renaming filter->uv
open Nat renaming add_le_add_left->B9,add_zero->sC,and_div_two->Tt,and_mod_two_pow->Op,le_of_eq->rq,le_of_lt->Mr,le_of_not_lt->Rt,le_of_succ_le->Qy,le_refl->AJ,le_succ->OH,le_trans->Au,lt_irrefl->EX,lt_of_le_of_lt->Av,lt_of_lt_of_le->AY,lt_of_not_le->jE,lt_succ_of_lt->LV,lt_succ_self->Dm,lt_trans->rp,min_eq_left->mT,min_le_right->jD,mod_two_eq_zero_or_one->Ka,ne_of_gt->FS,ne_of_lt->BJ,not_lt->Iu,not_lt_zero->Nc,pow_le_pow_right->JM,pow_succ->rn,strongRecOn->mS,succ_ne_self->jC,testBit->uu,testBit_and->Ts,testBit_lt_two_pow->YW,testBit_or->nN,testBit_succ->Gk,testBit_two_pow->Oo,testBit_zero->Gj,two_pow_pos->mR,zero_add->IB,zero_le->Cw,zero_testBit->jB
open Nat.succ renaming inj->LU
open Ne renaming symm->Ch
open Option renaming bind_some->AE,getD_none->dI,getD_some->Qa,isSome_iff_exists->CD,isSome_map->Hn,isSome_some->Zn,map->rX,map_eq_some_iff->Hm
open Option.some renaming inj->Br
open Or renaming inl->Oh,inr->Nb
open Prod renaming ext->UR
open Prod.mk renaming inj->Wv
open PyProof.Rows renaming AllBare->LD,IntsAre->HC,IsTup->jK,Keyed->BR,SortKind->Pp,SortSt->BY,Subscript_->nL,args_tuple_getitem->nK,arrOf->AV,boot_int->ut,boot_list->ur,boot_max->uq,boot_min->uo,boot_sorted->QZ,boot_sum->um,boot_tuple->ul,bubble->nJ,callWith_builtin1->uk,callWith_type1->Dt,elem'_eq->i9,entry_list_sort->uh,entry_tuple_getitem->mO,envOfC->OE,failedOf->Is,firstOfTuple'->Mp,general'->KA,get?_update_seq->ug,listItems_at->dQ,listUpdate_at->J8,ltAt'->rM,mirror->LZ,mirror_perm->Wj,oneType'->i8,oneTypeOnly'_eq->uf,pairsOf->FJ,pairsOf_size->Tn,pendingOf->Ab,reverseSlice'->RN,reverseSlice'_eq->Nt,seqEpoch_at->Mj,seqObj->Es,slot_tuple_getitem->Cc,sortedHeap->OD,subscriptTail->bM,subscriptTail_builtinR->dP,tuples'->rG,wpS_bind->AQ,wpS_forRange->CZ,wpS_get->Ir,wpS_modify->EI,wpS_mono->D6,wpS_pure->AT
open PyProof.Rows.IsTup renaming new->da
open PyProof.Rows.SortSt renaming mk'->Dy
open PySem renaming Addr->Aa,Around->Ce,BindsTo->YQ,DictEntry->Qh,FuncData->Ld,Heap->DS,IsEnum->VX,IsPart->Ps,Keyword->YM,NameKind->Pr,Paired->G3,PassesOwn->VV,Program->Bs,Scope->Tr,Shared->AS,Stmt->DZ,Within->Wu,World->CQ,again->rP,assign->Rr,assignEach->Fq,atKey->YV,attributeBase->GZ,backTo->FB,backToKw->YU,behindInMarks->Ct,binaryOp->DR,bindArgs->jA,bindC->dG,bindL->dF,bootBuiltins->HA,builtinsNs->YT,cLine->Fj,call->bO,callerA->Tq,cellsFrom->CV,codeAny->OF,codeAny_mono->Tp,compareOp->CN,concat_meets->dR,eval->Ci,firstArgMember->Po,foldedSetIterable->Gg,getItem->K6,getMethod->dE,holding->YH,isTrue->nI,keywordEach->Pn,letOwnedTupleGo->Og,mainGlobals->Bb,mem_of_lookup->D7,model->Ac,newFunctionEnv->YS,noFill_tuple_add->VP,preSum->Rq,pushCells->FP,pushCells_keeps->Wt,pyIter->nH,pyNext->VN,rawInt->Pm,relabel->K5,seqIndex_of->i7,seq_tuple_add->bN,setItem->rK,sizeLine_eq->i6,sliceBounds->J9,slot_list_getitem->rJ,standAt->rH,starEach->Ag,storeName->rk,subscripted->Wi,swapsWith->G9,sysModules->EJ,tupleKind->VM,tupleKind_room_in1->LY,valueAt->Tl,wpAny->Ao,wpAny_Call_Name_kw->IA,wpAny_Dict_empty->rj,wpAny_Name->nG,wpAny_assign_Name->rF,wpAny_attempt->RM,wpAny_bind->AB,wpAny_callSpecial?_slot->DQ,wpAny_call_entry->DP,wpAny_comprehension_free->bL,wpAny_dictEntries->Tj,wpAny_dictEpoch->Ws,wpAny_eqBool_int->rh,wpAny_execs_cons->rf,wpAny_execs_nil->Of,wpAny_field->IM,wpAny_fieldsOf->Pl,wpAny_holding->Hq,wpAny_isInstance->re,wpAny_isOneOf_keyiter->Ol,wpAny_isTrue_Compare1->io,wpAny_loadName_cell->mM,wpAny_loadName_local->i5,wpAny_loadPart'->Oe,wpAny_mono->G2,wpAny_newList->RL,wpAny_newObj_type->DA,wpAny_passesOwn->GR,wpAny_pure->AL,wpAny_pyIter_enum->Mi,wpAny_pyIter_keyiter->i4,wpAny_pyIter_revIter->i0,wpAny_pyIter_tuple->LX,wpAny_rule->Rp,wpAny_sequenceKey->rE,wpAny_setField->Pk,wpAny_truthy_bool->Dc,wpAny_typeNameOfWhole_keyiter->Fi,wpAny_typeNameOf_keyiter->Ho,wpAny_typeOf->Ti
open PySem.Around renaming under->Wr
open PySem.Builtin renaming bitAnd->Bg,bitNot->dc,bitOr->Ck,bitXor->E1
open PySem.Builtin.Dict renaming dictSlotNone->uz,showsAll->Ru
open PySem.Builtin.Dict_items renaming ownsTuple->Mo
open PySem.Builtin.Int renaming intBits->Ds
open PySem.Builtin.List renaming listItems->KG,listTooLong->JU
open PySem.Builtin.Range renaming rangeSize->sM
open PySem.Builtin.Slice renaming sliceAdjust->Iw,sliceApplied->Os,sliceFields->sL,slicePartIndex->sK,slicePlaces->FZ
open PySem.Builtin.SmallTypes renaming nextOf->FC
open PySem.Builtin.Tuple renaming tupleExact->Fu,tupleIsExact->sJ,tupleItemsOf->Oq
open PySem.Calls renaming Name_function_global->Tv,callWith_builtin->Wy
open PySem.Challenge renaming pw_guardround_k63_whole_caller_beats_all->nM,rw_guardround_k63_whole_caller_beats_all->HB
open PySem.Code renaming frames->sH,isFrame->YO
open PySem.Data renaming cell->iy,fields->Zs
open PySem.F renaming args_dict_keyiterator_next_1->Nv,args_tuple_add_2->KY,args_tuple_iterator_next_1->VZ,entry_dict_keyiterator_next->N2,entry_tuple_add->LA,entry_tuple_iterator_next->Wo,plainAttrs_list->UQ,slot_bool_lt->sG,slot_dict_iter->VU,slot_dict_keyiterator_next->C0,slot_enumerate_next->dO,slot_tuple_add->Lb,slot_tuple_iterator_next->Gm
open PySem.Heap renaming ExtBut->Zr,SameBut->FK,get?_push_of_some->AO,get?_push_size->An,get?_update_ne->Oj,get?_update_other->YN,get?_update_self->Nf,lt_size->Ak,size_push->E9
open PySem.Heap.IsSliceOf renaming new->rc
open PySem.Heap.SameBut renaming refl->uy,update->IC
open PySem.NameKind renaming cell->DJ,free->Gh
open PySem.Obj renaming cls_mapFields->ip,data_mapFields->KZ,isFreed_of_fields->Zo,mapFields->rY,mapSeq->D8
open PySem.Paired renaming length->FR,snoc->YJ
open PySem.SeqAt.RcAt renaming tuples->rl
open PySem.Str renaming ofString->FQ
open PySem.Value renaming bool->D0,bytes->rW,float->rT,int->Wm,isInt->rS,isStrOf->mP,none->Ed,ref->Ba,str->Wl,type->Dz
open PySem.W renaming Frag->AG,callWith_K->OG,cellsFrom_some->VR,codeIn->Rs,emptyDict->DK,findIn->EK,fnOf->JL,handedIn->bP,hasDictIn->On,instObj->El,isFn->VQ,kdu_collect->YI,keepIn->Fs,lookIn->Mq,makesIn->dH,methodObj->Om,mg_none_of->Fo,mg_of->rL,nsIn->To,plainGet->K9,plainGet_of->Nu,plainOver->Zm,takerIn->Qx
open PySem.W.Looks renaming here->rm
open PySem.W.WData renaming int->ui
open PySem.W.WShape renaming has->rR
open PySem.Within renaming cons->uj
open StateT renaming run_pure->dS
open Sum renaming inl->Dh,inr->Qw
open True renaming intro->Ml
namespace L2
open PySem PySem.Spec PyProof.Rows
noncomputable abbrev Key:=Sum Int Str
noncomputable def Um:Key->Value->Bool
 | .inl k,v=>rS k v
 | .inr x,v=>mP x v
noncomputable def keyH(w:CQ):Key->Int
 | .inl k=>hashInt k
 | .inr x=>hashStr w x
theorem Dr:∀{k:Key} {v:Value},Um k v=true->(∃i t,k=Dh i/\v=Wm i t)∨(∃x t,k=Qw x/\v=Wl x t)
 | .inl i,v,h=>by
  obtain⟨t,e⟩:=Value.isInt_shape (k:=i) (v:=v) h;exact .inl ⟨i,t,rfl,e⟩
 | .inr x,v,h=>by
  obtain⟨t,e⟩:=Value.isStrOf_shape (x:=x) (v:=v) h;exact .inr ⟨x,t,rfl,e⟩
theorem cT(i:Int)(t:Tok):Um (.inl i) (.int i t)=true:=by simp[Um,rS]
theorem cS(x:Str)(t:Tok):Um (.inr x) (.str x t)=true:=by simp[Um,mP]
theorem qC(a b:Int):decide ((Dh a:Key)=Dh b)=(a==b):=by
 by_cases e:a=b
 ·subst e;simp
 ·have h:¬(Dh a:Key)=Dh b:=λq=>e (Dh.inj q)
  rw[wY h];exact(beq_eq_false_iff_ne.mpr e).symm
theorem p9(a b:Str):decide ((Qw a:Key)=Qw b)=decide (a=b):=by
 by_cases e:a=b
 ·subst e;simp
 ·have h:¬(Qw a:Key)=Qw b:=λq=>e (Qw.inj q)
  rw[wY h,wY e]
theorem qB(a:Int)(b:Str):decide ((Dh a:Key)=Qw b)=false:=wY (λq=>nomatch q)
theorem qA(a:Str)(b:Int):decide ((Qw a:Key)=Dh b)=false:=wY (λq=>nomatch q)
noncomputable def E0(prog:Bs)(w:CQ):PySem.KeyKind prog w Key where
 is:=Um
 hash:=keyH w
 inj:=λv a b o hb=>by
  rcases Dr o with⟨i,t,rfl,rfl⟩ | ⟨x,t,rfl,rfl⟩
  ·rcases Dr hb with⟨j,u,rfl,e⟩ | ⟨y,u,rfl,e⟩
   ·injection e with l _;rw[l]
   ·exact nomatch e
  ·rcases Dr hb with⟨j,u,rfl,e⟩ | ⟨y,u,rfl,e⟩
   ·exact nomatch e
   ·injection e with l _;rw[l]
 byValue:=λk v h=>by
  rcases Dr h with⟨i,t,rfl,rfl⟩ | ⟨x,t,rfl,rfl⟩ <;> rfl
 pyHash:=λm h=>by
  rcases Dr m with⟨i,t,rfl,rfl⟩ | ⟨x,t,rfl,rfl⟩
  ·exact wpAny_pyHash_int h
  ·exact wpAny_pyHash_str h
 eqBool:=λs m h=>by
  rcases Dr s with⟨i,t,rfl,rfl⟩ | ⟨x,t,rfl,rfl⟩
  ·rcases Dr m with⟨j,u,rfl,rfl⟩ | ⟨y,u,rfl,rfl⟩
   ·rw[qC]at h;exact rh h
   ·rw[qB]at h;exact SeqAt.EqAt.int_str i t y u _ _ _ _ h
  ·rcases Dr m with⟨j,u,rfl,rfl⟩ | ⟨y,u,rfl,rfl⟩
   ·rw[qA]at h;exact SeqAt.EqAt.str_int x t j u _ _ _ _ h
   ·rw[p9]at h;exact wpAny_eqBool_str h
 «strs»:=λk x t v h=>by
  rcases Dr h with⟨i,u,rfl,e⟩ | ⟨y,u,rfl,e⟩
  ·exact nomatch e
  ·injection e with l _
   subst l
   cases v <;> rfl
theorem Xo(prog:Bs)(w:CQ)(i:Int)(t:Tok):(E0 prog w).is (.inl i) (.int i t)=true:=cT i t
theorem Xn(prog:Bs)(w:CQ)(x:Str)(t:Tok):(E0 prog w).is (.inr x) (.str x t)=true:=cS x t
inductive V where
 | non | bl (b:Bool) | int (i:Int) | str (x:Str) | byt (b:Array UInt8) | flt (b:UInt64) | ref (a:Aa) | ty (n:String)
 deriving DecidableEq
noncomputable def RelV:V->Value->Prop
 | .non,u=>u=Ed
 | .bl b,u=>u=D0 b
 | .int i,u=>∃t,u=Wm i t
 | .str x,u=>∃t,u=Wl x t
 | .byt b,u=>∃t,u=rW b t
 | .flt b,u=>∃t,u=rT b t
 | .ref a,u=>u=Ba a
 | .ty n,u=>u=Dz n
noncomputable abbrev CC:List V->List Value->Prop:=G3 RelV
theorem CC.length(r:CC xs us):xs.length=us.length:=FR r
theorem CC.get:∀{xs:List V} {us:List Value} {i:Nat} {x:V},CC xs us->xs[i]?=some x->∃u,us[i]?=some u/\RelV x u
 | _,_,_,_,.nil,e=>by simp at e
 | _,_,0,_,.cons r _,e=>by simp at e;subst e;exact⟨_,rfl,r⟩
 | _,_,i+1,x,.cons _ t,e=>by
  obtain⟨u,l,m⟩:=CC.get (i:=i) (x:=x) t (by simpa using e);exact⟨u,by simpa using l,m⟩
theorem CC.set(r:RelV x u):∀{xs:List V} {us:List Value} (i:Nat),CC xs us->CC (xs.set i x) (us.set i u)
 | _,_,_,.nil=>.nil
 | _,_,0,.cons _ t=>.cons r t
 | _,_,i+1,.cons q t=>.cons q (CC.set r i t)
theorem CC.append:∀{xs l:List V} {us m:List Value},CC xs us->CC l m->CC (xs++l) (us++m)
 | _,_,_,_,.nil,s=>s
 | _,_,_,_,.cons r t,s=>.cons r (CC.append t s)
theorem CC.take:∀{xs:List V} {us:List Value} (n:Nat),CC xs us->CC (xs.take n) (us.take n)
 | _,_,0,_=>.nil
 | _,_,_+1,.nil=>.nil
 | _,_,n+1,.cons r t=>.cons r (CC.take n t)
theorem CC.drop:∀{xs:List V} {us:List Value} (n:Nat),CC xs us->CC (xs.drop n) (us.drop n)
 | _,_,0,r=>r
 | _,_,_+1,.nil=>.nil
 | _,_,n+1,.cons _ t=>CC.drop n t
noncomputable def N1:Option V->Option Value->Prop
 | some v,some u=>RelV v u
 | none,none=>True
 | _,_=>False
noncomputable def KV{l:Type}:List (l×V)->List (l×Value)->Prop:=G3 λ(p:l×V) (q:l×Value)=>p.1=q.1/\RelV p.2 q.2
noncomputable def kV:Key->V
 | .inl i=>.int i
 | .inr x=>.str x
inductive HO where
 | lst (xs:List V)
 | tup (xs:List V)
 | dK (f':List (Key×V)) | dT (f':List (List Key×V))
 | set (S:Int->Bool) (n:Nat)
 | ins (C dx:Aa) (fs:List (Str×V))
 | own (x:Aa)
 | xd (fs:List (Str×V))
 | met (f x:Aa)
 | rng (lo hi:Int)
 | frz (o:Obj) (u:HO)
 | tbl (ps:Array Value)
 | ext (φ:DS->Prop)
noncomputable abbrev Hp:=Aa->Option HO
noncomputable def upd(H:Hp)(a:Aa)(o:HO):Hp:=λb=>if b=a then some o else H b
theorem CA:upd H a o a=some o:=by unfold upd;rw[qX rfl]
theorem Bo(h:b≠a):upd H a o b=H b:=by unfold upd;rw[qY h]
theorem tj{H:Hp}{a b:Aa}{o u:HO}(h:H a=some o)(h':H b=some u)(d:o≠u):a≠b:=by
 intro e;subst e;rw[h]at h';exact d (Br h')
theorem Cr{H:Hp}{a b:Aa}{o:HO}(h:H a=some o)(h':H b=none):a≠b:=by
 intro e;subst e;rw[h]at h';cases h'
section
variable(P:Bs)(w:CQ)
noncomputable def Dj(H:Hp)(h:DS)(a:Aa):HO->Prop
 | .lst l=>l.length<=sizeLine/\∃(s:List Value) (n:Nat),CC l s/\h.get? a=some { cls:=.type "list",data:=.seq s.toArray n }
 | .tup l=>(l.length<=sizeLine/\∃o,h.get? a=some o/\o.dict=none)/\∃s:List Value,CC l s/\jK h a s.toArray
 | .dK A=>A.length<=sizeLine/\(a==EJ)=false/\∃G,KV A G/\h.DictOf (E0 P w) a G
 | .dT A=>A.length<=sizeLine/\(a==EJ)=false/\∃l:List (List Key×Aa×Value),
   G3 (λ(p:List Key×V) (q:List Key×Aa×Value)=>p.1=q.1/\H q.2.1=some (.tup (p.1.map kV))/\RelV p.2 q.2.2) A l /\
   ∃o I N,h.get? a=some o/\o.ExactDict/\o.data=.dict I N/\I.toList=l.map (entryOfKey (VM (E0 P w)))/\(l.map (·.1)).Nodup
 | .set S n=>h.SetOf (intKind P w) a S n
 | .ins C B fs=>H B=some (.own a)/\fs.length<=1000/\B≠a/\h.get? a=some (El C B) /\
   ∃m,h.Ns1 B m/\(∀f,N1 (fs.lookup f) (m f))/\Wu m (fs.map (·.1))
 | .own _=>∃o,h.get? a=some o
 | .xd fs=>∃m,h.Ns1 a m/\∀f,N1 (fs.lookup f) (m f)
 | .rng lo O=>∃t u v,h.get? a=some { cls:=.type "range",data:=.fields #[.int lo t,.int O u,.int 1 v] }
 | .frz o u=>h.get? a=some o/\Dj H h a u
 | .tbl Q=>h.get? a=some { cls:=.none,data:=.fields Q }
 | .met f x=>h.get? a=some (Om (.ref f) (.ref x))
 | .ext E=>E h/\(∃o,h.get? a=some o)/\∀J L:DS,E J->(∀o,J.get? a=some o->L.get? a=some o)->E L
noncomputable def HOk(H:Hp)(h:DS):Prop:=∀a o,H a=some o->Dj P w H h a o
end
section
variable{P:Bs}{w:CQ}{H H':Hp}{h h':DS}{a:Aa}{o:HO}
theorem Dj.lt(x:Dj P w H h a o):a < h.objs.size:=by
 cases o with
 | lst l=>obtain⟨_,_,_,_,e⟩:=x;exact Ak e
 | tup l=>obtain⟨_,_,_,p⟩:=x;exact p.lt
 | dK m=>obtain⟨_,_,_,_,o,_,_,e,_⟩:=x;exact Ak e
 | dT m=>obtain⟨_,_,_,_,o,_,_,e,_⟩:=x;exact Ak e
 | set S n=>obtain⟨o,_,_,_,e,_⟩:=x;exact Ak e
 | ins C s fs=>obtain⟨_,_,_,e,_⟩:=x;exact Ak e
 | own y=>obtain⟨_,e⟩:=x;exact Ak e
 | xd fs=>obtain⟨_,⟨_,_,_,e,_⟩,_⟩:=x;exact Ak e
 | rng lo A=>obtain⟨_,_,_,e⟩:=x;exact Ak e
 | frz B u=>obtain⟨e,_⟩:=x;exact Ak e
 | tbl E=>exact Ak (show h.get? a=some _ from x)
 | met f y=>exact Ak (show h.get? a=some _ from x)
 | ext G=>obtain⟨_,⟨_,e⟩,_⟩:=x;exact Ak e
theorem G3.mapP{s A:Type}{F G:s->A->Prop}:∀{l:List s} {m:List A},G3 F l m->(∀a b,F a b->G a b)->G3 G l m
 | _,_,.nil,_=>.nil
 | _,_,.cons r t,f=>.cons (f _ _ r) (G3.mapP t f)
theorem Dj.stay(x:Dj P w H h a o)(k:∀b u,(b=a∨H b=some (.own a))->h.get? b=some u->h'.get? b=some u)
  (ho:∀b,H b=some (.own a)->H' b=some (.own a)) (J:∀b xs,H b=some (.tup xs)->H' b=some (.tup xs)):Dj P w H' h' a o:=by
 induction o with
 | lst xs=>obtain⟨z,A,n,r,e⟩:=x;exact⟨z,A,n,r,k _ _ (.inl rfl) e⟩
 | tup xs=>obtain⟨⟨z,L,B,N⟩,A,r,l,e,c⟩:=x;exact⟨⟨z,L,k _ _ (.inl rfl) B,N⟩,A,r,l,k _ _ (.inl rfl) e,c⟩
 | dK O=>obtain⟨z,y,Q,r,l,m,s,e,c⟩:=x;exact⟨z,y,Q,r,l,m,s,k _ _ (.inl rfl) e,c⟩
 | dT O=>
  obtain⟨z,y,xs,r,l,m,s,e,c⟩:=x;exact⟨z,y,xs,G3.mapP r λp q z=>⟨z.1,J _ _ z.2.1,z.2.2⟩,l,m,s,k _ _ (.inl rfl) e,c⟩
 | set S n=>obtain⟨l,m,s,t,e,c⟩:=x;exact⟨l,m,s,t,k _ _ (.inl rfl) e,c⟩
 | ins C U fs=>
  obtain⟨d,z,R,e,E,⟨G,m,s,B,c⟩,r⟩:=x;exact⟨ho _ d,z,R,k _ _ (.inl rfl) e,E,⟨G,m,s,k _ _ (.inr d) B,c⟩,r⟩
 | own y=>obtain⟨l,e⟩:=x;exact⟨l,k _ _ (.inl rfl) e⟩
 | xd fs=>obtain⟨E,⟨G,m,s,e,c⟩,r⟩:=x;exact⟨E,⟨G,m,s,k _ _ (.inl rfl) e,c⟩,r⟩
 | rng lo X=>obtain⟨t,u,v,e⟩:=x;exact⟨t,u,v,k _ _ (.inl rfl) e⟩
 | frz l u T=>obtain⟨e,q⟩:=x;exact⟨k _ _ (.inl rfl) e,T q⟩
 | tbl I=>
  have e:h.get? a=some { cls:=.none,data:=.fields I }:=x;show h'.get? a=some { cls:=.none,data:=.fields I };exact k a _ (.inl rfl) e
 | met f y=>
  have e:h.get? a=some (Om (.ref f) (.ref y)):=x;show h'.get? a=some (Om (.ref f) (.ref y));exact k a _ (.inl rfl) e
 | ext Y=>obtain⟨p,⟨o,e⟩,st⟩:=x;exact⟨st _ _ p λo q=>k _ _ (.inl rfl) q,⟨o,k _ _ (.inl rfl) e⟩,st⟩
theorem HOk.lt(x:HOk P w H h)(e:H a=some o):a < h.objs.size:=(x a o e).lt
theorem HOk.fresh(x:HOk P w H h)(e:h.objs.size<=a):H a=none:=by
 cases q:H a with
 | none=>rfl
 | some u=>exact zX (AY (x.lt q) e) (EX _)
theorem HOk.kept(x:HOk P w H h)(k:∀b u,h.get? b=some u->h'.get? b=some u):HOk P w H h':=λa o e=>
 (x a o e).stay (λb u _ q=>k b u q) (λ_ q=>q) λ_ _ q=>q
theorem HOk.laid(x:HOk P w H h)(k:∀b u,h.get? b=some u->h'.get? b=some u)(m:h.objs.size<=a)(new:Dj P w (upd H a o) h' a o):HOk P w (upd H a o) h':=λb u e=>by
 have l:=x.fresh m
 by_cases hb:b=a
 ·subst hb;rw[CA]at e;cases e;exact new
 ·rw[Bo hb]at e
  exact(x b u e).stay (λc v _ q=>k c v q) (λc q=>by rw[Bo (Cr q l)];exact q) λc s q=>by rw[Bo (Cr q l)];exact q
end
noncomputable def Rd(H:Hp)(a:Aa)(u:HO):Prop:=H a=some u∨∃o,H a=some (.frz o u)
theorem Rd.ok(r:Rd H a u)(x:HOk P w H h):Dj P w H h a u:=by
 rcases r with r | ⟨o,r⟩
 ·exact x a u r
 ·obtain⟨_,q⟩:=x a _ r
  exact q
noncomputable def Mut:Option HO->Prop
 | some (.lst _)=>True
 | some (.dK _)=>True
 | some (.dT _)=>True
 | some (.set _ _)=>True
 | some (.ins _ _ _)=>True
 | some (.ext _)=>True
 | _=>False
section
variable{P:Bs}{w:CQ}{H:Hp}{h h':DS}{x e:Aa}
theorem HOk.write(ok:HOk P w H h)(m:Mut (H x))(A:e=x∨H e=some (.own x))(k:∀b u,b≠e->h.get? b=some u->h'.get? b=some u)(E:∃u,h'.get? e=some u)
  (new:Dj P w (upd H x o') h' x o'):HOk P w (upd H x o') h':=λb u q=>by
 have B:∀c y,H c=some (.own y)->c≠x:=λc y r z=>by subst z;rw[r]at m;exact m
 have G:∀c o,H c=some (.tup o)->c≠x:=λc o r z=>by subst z;rw[r]at m;exact m
 by_cases hb:b=x
 ·subst hb;rw[CA]at q;cases q;exact new
 ·rw[Bo hb]at q
  by_cases l:b=e
  ·have C:H b=some (.own x):=by
    rcases A with z | z
    ·exact zX (l.trans z) hb
    ·rw[l];exact z
   rw[q]at C;cases C;obtain⟨v,I⟩:=E;exact⟨v,by rw[l];exact I⟩
  ·refine(ok b u q).stay (λc v s r=>k c v ?_ r) (λc r=>by rw[Bo (B c b r)];exact r) λc o r=>by rw[Bo (G c o r)];exact r
   rcases s with rfl | s
   ·exact l
   ·rintro rfl
    rcases A with z | z
    ·exact B c b s z
    ·rw[s]at z;cases z;exact hb rfl
end
structure Un(fs ex:List Aa)(H H':Hp)(h h':DS):Prop where
 keep:∀b o,h.get? b=some o->H b=none->b∉fs->b∉ex->h'.get? b=some o
 slot:∀b o,h.get? b=some o->H b=none->b∈fs->b∉ex->∃sl,h'.get? b=some { o with slots:=sl }
 free:∀b o,h.get? b=some o->H b=none->b∉ex->H' b=none
 there:∀b o,h.get? b=some o->b∉ex->∃o',h'.get? b=some o'
 tups:∀b xs,H b=some (.tup xs)->H' b=some (.tup xs)
 frzs:∀b o u,H b=some (.frz o u)->H' b=some (.frz o u)
 tbls:∀b ps,H b=some (.tbl ps)->∃more,H' b=some (.tbl (ps++more))
section
variable{fs ex:List Aa}{H H1:Hp}{h h1 h':DS}{a x e:Aa}{o:HO}
theorem Un.any(u:Un fs ex H H1 h h1)(q:h.get? b=some l)(n:H b=none)(m:b∉ex):∃sl,h1.get? b=some { l with slots:=sl }:=by
 by_cases hb:b∈fs
 ·exact u.slot b l q n hb m
 ·exact⟨l.slots,u.keep b l q n hb m⟩
theorem Un.kept(k:∀b u,h.get? b=some u->h'.get? b=some u):Un fs ex H H h h':=
 ⟨λb l q _ _ _=>k b l q,λb l q _ _ _=>⟨l.slots,k b l q⟩,λ_ _ _ n _=>n,λb l q _=>⟨l,k b l q⟩,λ_ _ q=>q,λ_ _ _ q=>q,λ_ m q=>⟨#[],by rw[q];simp⟩⟩
theorem Un.refl:Un fs ex H H h h:=Un.kept λ_ _ q=>q
theorem Un.laid(k:∀b u,h.get? b=some u->h'.get? b=some u)(m:h.objs.size<=a)(l:H a=none):Un fs ex H (upd H a o) h h' where
 keep:=λb u q _ _ _=>k b u q
 slot:=λb u q _ _ _=>⟨u.slots,k b u q⟩
 free:=λb u q n _=>by rw[Bo (BJ (AY (Ak q) m))];exact n
 there:=λb u q _=>⟨u,k b u q⟩
 tups:=λb s q=>by rw[Bo (Cr q l)];exact q
 frzs:=λb u s q=>by rw[Bo (Cr q l)];exact q
 tbls:=λb A q=>⟨#[],by rw[Bo (Cr q l),q];simp⟩
theorem Un.write(m:Mut (H x))(B:e=x∨H e=some (.own x))(k:∀b u,b≠e->h.get? b=some u->h'.get? b=some u)(C:∃u,h'.get? e=some u):Un fs ex H (upd H x o) h h':=by
 have A:∀b,H b=none->b≠x:=λb n z=>by subst z;rw[n]at m;exact m
 have hb:∀b,H b=none->b≠e:=λb n z=>by
  subst z
  rcases B with r | r
  ·exact A b n r
  ·rw[n]at r;cases r
 have s:∀b u,H b=some u->¬Mut (some u)->b≠x:=λb u q E z=>by subst z;rw[q]at m;exact E m
 refine⟨λb u q n _ _=>k b u (hb b n) q,λb u q n _ _=>⟨u.slots,k b u (hb b n) q⟩,λb u q n _=>by rw[Bo (A b n)];exact n,λb u q _=>?_,
  λb G q=>by rw[Bo (s b _ q λz=>z)];exact q,λb u G q=>by rw[Bo (s b _ q λz=>z)];exact q,λb I q=>⟨#[],by rw[Bo (s b _ q λz=>z),q];simp⟩⟩
 by_cases l:b=e
 ·subst l;exact C
 ·exact⟨u,k b u l q⟩
end
noncomputable def trk(h:DS)(H:Hp):List Aa:=(D4 h.objs.size).filter λa=>(H a).isSome
noncomputable def WJ(h:DS)(H:Hp):DS:=PySem.W.hideAll h (trk h H)
theorem cX(h:DS)(H:Hp):(WJ h H).objs.size=h.objs.size:=PySem.W.hideAll_size _ _
theorem gt(e:h.get? b=some o)(n:H b=none):(WJ h H).get? b=some o:=
 PySem.W.hideAll_get _ e λl=>by
  have q:(H b).isSome=true:=(Am.mp l).2;rw[n]at q;simp at q
theorem k6(e:(WJ h H).get? b=some o):h.get? b=some o/\H b=none:=by
 have l:h.get? b=some o:=PySem.W.of_hideAll (trk h H) e;refine⟨l,?_⟩
 cases q:H b with
 | none=>rfl
 | some x=>
  have m:b∈trk h H:=Am.mpr ⟨N3.mpr (Ak l),by simp[q]⟩;have z:(WJ h H).get? b=none:=PySem.W.hideAll_none (trk h H) m;rw[z]at e;cases e
structure Mod(K:AG)(mg:Str->Option Value)(base:DS):Prop where
 kin:K.In base
 glob:base.Ns Bb mg
 blt:∃mb,base.Ns YT mb/\∀x:Str,x≠"__name__"->mb x=HA x
 nolimit:base.NoLimit
structure Cx where
 prog:Bs
 w:CQ
 K:AG
 mg:Str->Option Value
 base:DS
 A:Ce
 N:List Str
 s₀:AS
 H₀:Hp
 env:Env
 outer:List Env
 stack:List Env
 ex:List Aa
 fn:Str->Bool
 calm:Bool
 pn:List (Aa×Obj)
 xe:Value->AS->Prop
noncomputable def frs(l:List Env):List Aa:=l.filterMap (·.frame)
noncomputable abbrev Cx.fs(X:Cx):List Aa:=frs X.outer
noncomputable def Vis(l:Tr)(x:Str):Prop:=l.names.lookup x=some .local∨l.names.lookup x=some .cell∨l.names.lookup x=some .free
noncomputable def Loc(l:Tr)(x:Str):Prop:=l.names.lookup x=some .local∨l.names.lookup x=some .cell
noncomputable def Look(env:Env)(h:DS)(m:Str->Option Value)(x:Str)(u:Value):Prop:=
 (env.kindOf x=some .local/\m x=some u)∨((env.kindOf x=some .cell∨env.kindOf x=some .free)/\∃c,env.cells.lookup x=some c/\h.IsCell c (some u))
structure Cx.Ok(X:Cx):Prop where
 mod:Mod X.K X.mg X.base
 kind:X.env.scope.kind=.function
 glob:X.env.globals=Bb
 blt:X.env.builtins=YT
 above:X.s₀.heap.objs.size<=X.env.locals
 inj:∀x y c,X.env.cells.lookup x=some c->X.env.cells.lookup y=some c->x=y
 has:∀x,(X.env.kindOf x=some .cell∨X.env.kindOf x=some .free)->∃c,X.env.cells.lookup x=some c
 cab:∀x c,X.fn x=true->X.env.cells.lookup x=some c->X.s₀.heap.objs.size<=c
 hd:X.calm=true->X.A.handled=none
 frames:X.A.frames=some X.stack
 stk:X.stack=X.outer∨(X.stack=X.env :: X.outer/\X.env.frame=some X.env.locals)
 exf:∀b∈X.ex,b≠X.env.locals/\∀x c,X.env.cells.lookup x=some c->c≠b
 bs:∀b o,X.base.get? b=some o->X.s₀.heap.get? b=some o/\X.H₀ b=none
 bsz:X.base.objs.size<=X.s₀.heap.objs.size
 noex:∀b o,X.base.get? b=some o->b∉X.ex
 exfs:∀b∈X.ex,b∉X.fs
 funs:X.s₀.heap.FunFrames X.base X.outer
 frf:∀b∈X.fs,X.H₀ b=none
structure Inv(X:Cx)(ζ:List (Aa×Obj))(σ:List (Option V))(H:Hp)(s:AS):Prop where
 ok:X.Ok
 os:s.os=X.s₀.os
 bare:LD s.gens
 base:Un X.fs X.ex X.H₀ H X.s₀.heap s.heap
 loc:∃m,s.heap.Ns X.env.locals m/\∀(i:Nat) (x:Str) (v:V),X.N[i]?=some x->σ[i]?=some (some v)->Vis X.env.scope x->∃u,RelV v u/\Look X.env s.heap m x u
 cell:∀x c,X.env.cells.lookup x=some c->∃v,s.heap.IsCell c v
 free:H X.env.locals=none
 freeC:∀x c,X.env.cells.lookup x=some c->H c=none
 pin:∀p∈X.pn++ζ,s.heap.get? p.1=some p.2/\H p.1=none/\p.1≠X.env.locals/\p.1∉X.fs/\∀v,p.2.data≠.cell v
 hok:HOk X.prog X.w H s.heap
 len:σ.length=X.N.length
section
variable{X:Cx}{ζ:List (Aa×Obj)}{σ:List (Option V)}{H H':Hp}{s:AS}{h':DS}
theorem Cx.Ok.nofr(ok:X.Ok)(e:X.base.get? b=some o):b∉X.fs:=λhb=>by
 have:=(ok.funs.mem hb).1;rw[e]at this;cases this
theorem Inv.bs(I:Inv X ζ σ H s):∀b o,X.base.get? b=some o->s.heap.get? b=some o/\H b=none:=λb o e=>
 ⟨I.base.keep b o (I.ok.bs b o e).1 (I.ok.bs b o e).2 (I.ok.nofr e) (I.ok.noex b o e),I.base.free b o (I.ok.bs b o e).1 (I.ok.bs b o e).2 (I.ok.noex b o e)⟩
theorem Inv.bk(I:Inv X ζ σ H s):∀b o,X.base.get? b=some o->s.heap.get? b=some o:=λb o e=>(I.bs b o e).1
theorem Inv.mod(I:Inv X ζ σ H s):Mod X.K X.mg X.base:=I.ok.mod
theorem Inv.kIn(I:Inv X ζ σ H s):X.K.In s.heap:=I.ok.mod.kin.keeps I.bk
theorem Inv.lt(I:Inv X ζ σ H s):X.env.locals < s.heap.objs.size:=let ⟨_,l,_⟩:=I.loc;l.lt
theorem Inv.sz(I:Inv X ζ σ H s):X.s₀.heap.objs.size<=s.heap.objs.size:=Au I.ok.above (Mr I.lt)
theorem Inv.nofs(I:Inv X ζ σ H s)(h:s.heap.objs.size<=a):a∉X.fs:=λhb=>by
 obtain⟨_,o,l,_⟩:=I.ok.funs.mem hb;exact zX (AY (Ak l) (Au I.sz h)) (EX _)
theorem Inv.cne(I:Inv X ζ σ H s):∀x c,X.env.cells.lookup x=some c->c≠X.env.locals:=λx c e z=>by
 obtain⟨v,o,l,A⟩:=I.cell x c e;obtain⟨m,⟨E,G,J,B,C,_⟩,_⟩:=I.loc;rw[z,B]at l;cases l;rw[C]at A;cases A
theorem Inv.funs(I:Inv X ζ σ H s):s.heap.FunFrames X.base X.outer:=by
 have all:∀(l:List Env),(∀b∈frs l,b∈X.fs)->X.s₀.heap.FunFrames X.base l->s.heap.FunFrames X.base l:=by
  intro l
  induction l with
  | nil=>intro _ _;trivial
  | cons C r E=>
   intro B G;obtain⟨J,⟨L,o,m,N,O,P⟩,Q⟩:=G;have A:L∈X.fs:=B L (by unfold frs;rw[Oi,m];exact AX)
   obtain⟨sl,e⟩:=I.base.slot L o O (I.ok.frf L A) A λz=>I.ok.exfs L z A
   exact⟨J,⟨L,_,m,N,e,P⟩,E (λb hb=>B b (by unfold frs;rw[Oi,m];exact AN _ hb)) Q⟩
 exact all X.outer (λ_ hb=>hb) I.ok.funs
theorem Inv.stack(I:Inv X ζ σ H s):s.heap.FunFrames X.base X.stack:=by
 rcases I.ok.stk with e | ⟨e,l⟩
 ·rw[e];exact I.funs
 ·rw[e]
  obtain⟨m,o,_⟩:=I.loc;refine .cons (by rw[I.ok.kind];decide) l o ?_ I.funs;exact DS.get?_none_of_le (Au I.ok.bsz I.ok.above)
theorem Inv.stkSub(I:Inv X ζ σ H s):∀b∈frs X.stack,b∈X.env.locals :: X.fs:=λb hb=>by
 rcases I.ok.stk with e | ⟨e,l⟩
 ·rw[e]at hb;exact AN _ hb
 ·rw[e]at hb
  unfold frs at hb;rw[Oi,l]at hb;exact hb
theorem Inv.stkFree(I:Inv X ζ σ H s):∀b∈frs X.stack,H b=none:=λb hb=>by
 rcases Ae.mp (I.stkSub b hb)with e | hb
 ·rw[e];exact I.free
 ·obtain⟨_,o,l,_⟩:=I.ok.funs.mem hb
  exact I.base.free b o l (I.ok.frf b hb) λz=>I.ok.exfs b z hb
theorem Inv.step{g':Array GenState}{t':Nat}{d':Drawn}{ch:List Aa}(I:Inv X ζ σ H s)
  (J:∀b∈ch,(b∈X.ex∨X.s₀.heap.objs.size<=b)/\b≠X.env.locals/\(∀x c,X.env.cells.lookup x=some c->c≠b)/\∀p∈X.pn++ζ,p.1≠b)
  (keep:∀b o,b≠X.env.locals->b∉X.fs->b∉ch->s.heap.get? b=some o->H b=none->h'.get? b=some o)
  (E:∀b o,b≠X.env.locals->b∈X.fs->b∉ch->s.heap.get? b=some o->H b=none->∃sl,h'.get? b=some { o with slots:=sl }) (free:∀b o,b∉ch->s.heap.get? b=some o->H b=none->H' b=none)
  (there:∀b o,b∉ch->s.heap.get? b=some o->∃o',h'.get? b=some o')
  (L:∀b xs,H b=some (.tup xs)->H' b=some (.tup xs)) (N:∀b o u,H b=some (.frz o u)->H' b=some (.frz o u)) (O:∀b ps,H b=some (.tbl ps)->∃more,H' b=some (.tbl (ps++more)))
  (ns:∀m,s.heap.Ns X.env.locals m->h'.Ns X.env.locals m) (T:HOk X.prog X.w H' h') (hg:LD g') :
  Inv X ζ σ H' { s with heap:=h',gens:=g',drawn:=d',toks:=t' }:=by
 have P:∀b o,X.s₀.heap.get? b=some o->b≠X.env.locals:=λb o e=>BJ (AY (Ak e) I.ok.above)
 have S:∀b o,X.s₀.heap.get? b=some o->b∉X.ex->b∉ch:=λb o e A hb=>by
  rcases(J b hb).1 with z | z
  ·exact A z
  ·exact zX (AY (Ak e) z) (EX _)
 have B:∀x c,X.env.cells.lookup x=some c->∀v,s.heap.IsCell c v->h'.IsCell c v:=by
  rintro x c e v ⟨o,G,U⟩
  have Q:c∉ch:=λz=>(J c z).2.2.1 x c e rfl
  by_cases Z:c∈X.fs
  ·obtain⟨sl,q⟩:=E c o (I.cne x c e) Z Q G (I.freeC x c e)
   exact⟨_,q,U⟩
  ·exact⟨o,keep c o (I.cne x c e) Z Q G (I.freeC x c e),U⟩
 refine⟨I.ok,I.os,hg,⟨λb o e n hb A=>?_,λb o e n hb A=>?_,λb o e n A=>?_,λb o e A=>?_,λb xs e=>L b xs (I.base.tups b xs e),λb o xs e=>N b o xs (I.base.frzs b o xs e),λb ps e=>?_⟩,?_,λx c e=>?_,?_,λx c e=>?_,λp hp=>?_,T,I.len⟩
 ·exact keep b o (P b o e) hb (S b o e A) (I.base.keep b o e n hb A) (I.base.free b o e n A)
 ·obtain⟨sl,C⟩:=I.base.slot b o e n hb A
  obtain⟨Y,R⟩:=E b _ (P b o e) hb (S b o e A) C (I.base.free b o e n A);exact⟨Y,R⟩
 ·obtain⟨o',C⟩:=I.base.there b o e A
  exact free b o' (S b o e A) C (I.base.free b o e n A)
 ·obtain⟨o',C⟩:=I.base.there b o e A
  exact there b o' (S b o e A) C
 ·obtain⟨m1,C⟩:=I.base.tbls b ps e
  obtain⟨m2,R⟩:=O b _ C;exact⟨m1++m2,by rw[R,Array.append_assoc]⟩
 ·obtain⟨m,hn,hl⟩:=I.loc
  refine⟨m,ns m hn,λi x v C R e3=>?_⟩;obtain⟨u,r,l⟩:=hl i x v C R e3;refine⟨u,r,?_⟩
  rcases l with l | ⟨k,c,e,z⟩
  ·exact .inl l
  ·exact .inr ⟨k,c,e,B x c e _ z⟩
 ·obtain⟨v,z⟩:=I.cell x c e
  exact⟨v,B x c e v z⟩
 ·obtain⟨m,⟨o,_,_,G,_⟩,_⟩:=I.loc
  exact free _ o (λz=>(J _ z).2.1 rfl) G I.free
 ·obtain⟨v,o,G,U⟩:=I.cell x c e
  exact free c o (λz=>(J c z).2.2.1 x c e rfl) G (I.freeC x c e)
 ·obtain⟨e,n,ne,nf,d⟩:=I.pin p hp
  have Q:p.1∉ch:=λz=>(J p.1 z).2.2.2 p hp rfl
  exact⟨keep p.1 p.2 ne nf Q e n,free p.1 p.2 Q e n,ne,nf,d⟩
theorem Inv.un{t':Nat}(I:Inv X ζ σ H s)(u:Un X.fs [] H H' s.heap h')(l:HOk X.prog X.w H' h'):Inv X ζ σ H' { s with heap:=h',toks:=t' }:=by
 obtain⟨m,⟨o,N,O,A,r⟩,_⟩:=id I.loc;obtain⟨sl,C⟩:=u.any A I.free (by simp)
 exact I.step (g':=s.gens) (d':=s.drawn) (ch:=[]) (λ_ z=>nomatch z) (λb o _ hb _ e n=>u.keep b o e n hb (by simp)) (λb o _ hb _ e n=>u.slot b o e n hb (by simp)) (λb o _ e n=>u.free b o e n (by simp)) (λb o _ e=>u.there b o e (by simp)) u.tups u.frzs u.tbls (λP E=>by
  obtain⟨Q,G,J,B,L⟩:=E;rw[A]at B;cases B
  exact⟨_,G,J,C,L⟩) l I.bare
theorem Inv.call{g':Array GenState}{t':Nat}{d':Drawn}{ch:List Aa}(I:Inv X ζ σ H s)(u:Un (frs X.stack) ch H H' s.heap h')(A:HOk X.prog X.w H' h')(J:LD g')
  (C:∀b∈ch,(b∈X.ex∨X.s₀.heap.objs.size<=b)/\b≠X.env.locals/\(∀x c,X.env.cells.lookup x=some c->c≠b)/\∀p∈X.pn++ζ,p.1≠b) :
  Inv X ζ σ H' { s with heap:=h',gens:=g',drawn:=d',toks:=t' }:=by
 obtain⟨m,⟨o,Q,R,E,r⟩,_⟩:=id I.loc
 obtain⟨sl,B⟩:=u.any E I.free λz=>(C _ z).2.1 rfl
 exact I.step (ch:=ch) C (λb o B hb l e n=>u.keep b o e n (λz=>(Ae.mp (I.stkSub b z)).elim B hb) l) (λb o _ _ l e n=>u.any e n l) (λb o l e n=>u.free b o e n l) (λb o l e=>u.there b o e l) u.tups u.frzs u.tbls (λS L=>by
  obtain⟨T,N,O,G,P⟩:=L;rw[E]at G;cases G
  exact⟨_,N,O,B,P⟩) A J
theorem Inv.turned{t':Nat}{it:Aa}(I:Inv X ζ σ H s)(k:∀b o,b≠it->s.heap.get? b=some o->h'.get? b=some o)(C:H it=none)(A:it≠X.env.locals)
  (E:it∈X.ex∨X.s₀.heap.objs.size<=it) (G:∀x c,X.env.cells.lookup x=some c->c≠it) (J:∀p∈X.pn++ζ,p.1≠it):Inv X ζ σ H { s with heap:=h',toks:=t' }:=by
 have B:∀b u,H b=some u->b≠it:=λb u e z=>by rw[z,C]at e;cases e
 refine I.step (g':=s.gens) (d':=s.drawn) (ch:=[it]) (λb hb=>?_) (λb o _ _ l e _=>k b o (λz=>l (by simp[z])) e) (λb o _ _ l e _=>⟨o.slots,k b o (λz=>l (by simp[z])) e⟩) (λ_ _ _ _ n=>n)
  (λb o l e=>⟨o,k b o (λz=>l (by simp[z])) e⟩) (λ_ _ e=>e) (λ_ _ _ e=>e) (λb Q e=>⟨#[],by rw[e];simp⟩) (λm L=>?_) (λb u e=>?_) I.bare
 ·have e:b=it:=by simpa using hb
  subst e;exact⟨E,A,G,J⟩
 ·obtain⟨o,N,O,P,r⟩:=L
  exact⟨o,N,O,k _ o (Ch A) P,r⟩
 ·refine(I.hok b u e).stay (λc v l q=>k c v ?_ q) (λ_ q=>q) λ_ _ q=>q
  rcases l with z | z
  ·rw[z];exact B b u e
  ·exact B c _ z
theorem Inv.tok(I:Inv X ζ σ H s)(t:Nat):Inv X ζ σ H { s with toks:=t }:=I.un (h':=s.heap) (t':=t) Un.refl I.hok
theorem Inv.kept(I:Inv X ζ σ H s)(k:∀b u,s.heap.get? b=some u->h'.get? b=some u):Inv X ζ σ H { s with heap:=h',toks:=t' }:=I.un (Un.kept k) (I.hok.kept k)
theorem Inv.laid(I:Inv X ζ σ H s)(k:∀b u,s.heap.get? b=some u->h'.get? b=some u)(l:s.heap.objs.size<=a)(new:Dj X.prog X.w (upd H a o) h' a o) :
  Inv X ζ σ (upd H a o) { s with heap:=h',toks:=t' }:=I.un (Un.laid k l (I.hok.fresh l)) (I.hok.laid k l new)
theorem Inv.write(I:Inv X ζ σ H s)(l:Mut (H x))(m:e=x∨H e=some (.own x))(k:∀b u,b≠e->s.heap.get? b=some u->h'.get? b=some u)(A:∃u,h'.get? e=some u)
  (new:Dj X.prog X.w (upd H x o) h' x o):Inv X ζ σ (upd H x o) { s with heap:=h',toks:=t' }:=I.un (Un.write l m k A) (I.hok.write l m k A new)
theorem Inv.pins_of(I:Inv X ζ σ H s)(h:∀p∈pins',s.heap.get? p.1=some p.2/\H p.1=none/\p.1≠X.env.locals/\p.1∉X.fs/\∀v,p.2.data≠.cell v):Inv X pins' σ H s:=
 ⟨I.ok,I.os,I.bare,I.base,I.loc,I.cell,I.free,I.freeC,λp l=>(Ay.mp l).elim (λz=>I.pin p (BO _ z)) (h p),I.hok,I.len⟩
theorem Xl{N:List Str}(hN:N.Nodup){i j:Nat}{x:Str}(a:N[i]?=some x)(b:N[j]?=some x):i=j:=by
 obtain⟨o,l⟩:=AF.mp a;obtain⟨A,m⟩:=AF.mp b;exact(MW hN).mp (l.trans m.symm)
theorem UZ{M:Model}{A:Ce}{E:Value->AS->Prop}{i:Nat}{x:Str}{v:V}{u:Value}{Q:Unit->AS->Prop}(I:Inv X ζ σ H s)(hN:X.N.Nodup)(hi:X.N[i]?=some x)(J:Loc X.env.scope x)(r:RelV v u)
  (h:∀s',Inv X ζ (σ.set i (some v)) H s'->(∃a,FK a s.heap s'.heap/\(a=X.env.locals∨X.env.cells.lookup x=some a))->Q () s') (hf:X.fn x=true∨X.env.scope.names.lookup x=some .local:=by first | exact .inl rfl | exact .inr rfl | assumption):Ao M A (rk X.env x u) Q E s:=by
 obtain⟨m,hn,hl⟩:=id I.loc
 have ϑ:(X.env.scope.kind==.class||(X.env.scope.kind==.module&&X.env.locals != X.env.globals))=false:=by rw[I.ok.kind];rfl
 have O:i < σ.length:=by rw[I.len];exact(AF.mp hi).1
 have cne:=I.cne
 have B:∀{a:Aa} {h':DS},(∃o,s.heap.get? a=some o/\H a=none)->FK a s.heap h'->HOk X.prog X.w H h':=λ{a h'} ha l b ob e=>by
  obtain⟨_,_,wk⟩:=ha
  refine(I.hok b ob e).stay (λc U G q=>(l.2 c ?_).trans q) (λ_ q=>q) λ_ _ q=>q
  rintro rfl
  rcases G with rfl | G
  ·rw[wk]at e;cases e
  ·rw[wk]at G;cases G
 rcases J with P | P
 ·refine wpAny_storeName_local P hn (λh' vU l=>?_) ϑ
  obtain⟨oL,_,_,hoL,_⟩:=id hn;refine h _ ⟨I.ok,I.os,I.bare,⟨λb o e n hb J=>?_,λb o e n hb J=>?_,I.base.free,λb o e J=>?_,I.base.tups,I.base.frzs,I.base.tbls⟩,⟨_,vU,λj y v' C L e3=>?_⟩,λy c e=>?_,I.free,I.freeC,λp hp=>?_,B ⟨oL,hoL,I.free⟩ l,by simpa using I.len⟩ ⟨_,l,.inl rfl⟩
  ·exact(l.2 b (BJ (AY (Ak e) I.ok.above))).trans (I.base.keep b o e n hb J)
  ·obtain⟨sl,C⟩:=I.base.slot b o e n hb J
   exact⟨sl,(l.2 b (BJ (AY (Ak e) I.ok.above))).trans C⟩
  ·obtain⟨o',C⟩:=I.base.there b o e J
   exact⟨o',(l.2 b (BJ (AY (Ak e) I.ok.above))).trans C⟩
  ·by_cases R:j=i
   ·subst R
    rw[hi]at C;cases C;rw[As O]at L;cases L;exact⟨u,r,.inl ⟨P,by simp⟩⟩
   ·rw[Ah (Ch R)]at L
    obtain⟨u',r',q⟩:=hl j y v' C L e3;refine⟨u',r',?_⟩
    rcases q with⟨k,e⟩ | ⟨k,c,e,z⟩
    ·refine .inl ⟨k,?_⟩
     have:y≠x:=λe=>R (Xl hN C (e▸hi))
     simp[this,e]
    ·exact .inr ⟨k,c,e,z.sameBut l (cne y c e)⟩
  ·obtain⟨U,z⟩:=I.cell y c e
   exact⟨U,z.sameBut l (cne y c e)⟩
  ·obtain⟨e,n,Y,nf,d⟩:=I.pin p hp
   exact⟨(l.2 p.1 Y).trans e,n,Y,nf,d⟩
 ·have ϒ:X.fn x=true:=by
   rcases hf with z | z
   ·exact z
   ·rw[z]at P;cases P
  obtain⟨c,G⟩:=I.ok.has x (.inl P);obtain⟨U,z⟩:=I.cell x c G;refine wpAny_storeName_cell I.ok.kind P G z (λh' vM l=>?_);obtain⟨oc,S,ϓ⟩:=id z;refine h { s with heap:=h' } ⟨I.ok,I.os,I.bare,⟨λb o e n hb J=>?_,λb o e n hb J=>?_,I.base.free,λb o e J=>?_,I.base.tups,I.base.frzs,I.base.tbls⟩,⟨m,hn.sameBut l (Ch (cne x c G)),λj y v' C L e3=>?_⟩,λy Z e=>?_,I.free,I.freeC,λp hp=>?_,B ⟨oc,S,I.freeC x c G⟩ l,by simpa using I.len⟩ ⟨c,l,.inr G⟩
  ·exact(l.2 b (BJ (AY (Ak e) (I.ok.cab x c ϒ G)))).trans (I.base.keep b o e n hb J)
  ·obtain⟨sl,C⟩:=I.base.slot b o e n hb J
   exact⟨sl,(l.2 b (BJ (AY (Ak e) (I.ok.cab x c ϒ G)))).trans C⟩
  ·obtain⟨o',C⟩:=I.base.there b o e J
   exact⟨o',(l.2 b (BJ (AY (Ak e) (I.ok.cab x c ϒ G)))).trans C⟩
  ·by_cases R:j=i
   ·subst R
    rw[hi]at C;cases C;rw[As O]at L;cases L;exact⟨u,r,.inr ⟨.inl P,c,G,vM⟩⟩
   ·rw[Ah (Ch R)]at L
    obtain⟨u',r',q⟩:=hl j y v' C L e3;refine⟨u',r',?_⟩
    rcases q with q | ⟨k,Z,e,z'⟩
    ·exact .inl q
    ·refine .inr ⟨k,Z,e,z'.sameBut l ?_⟩
     rintro rfl;exact R (Xl hN C (I.ok.inj _ _ _ e G▸hi))
  ·by_cases T:Z=c
   ·subst T;exact⟨_,vM⟩
   ·obtain⟨w2,z2⟩:=I.cell y Z e
    exact⟨w2,z2.sameBut l T⟩
  ·obtain⟨e,n,Y,nf,d⟩:=I.pin p hp
   refine⟨(l.2 p.1 ?_).trans e,n,Y,nf,d⟩;intro q;rw[q,S]at e;have q':oc=p.2:=Br e;exact d U (by rw[<-q'];exact ϓ)
theorem SJ(I:Inv X ζ σ H s)(hN:X.N.Nodup)(hi:X.N[i]?=some x)(l:Loc X.env.scope x)(r:RelV v u)
  (h:∀s',Inv X ζ (σ.set i (some v)) H s'->Q () s') (m:X.fn x=true∨X.env.scope.names.lookup x=some .local:=by first | exact .inl rfl | exact .inr rfl | assumption):Ao M A (rk X.env x u) Q E s:=
 UZ I hN hi l r (λs' o _=>h s' o) m
theorem Inv.call'(I:Inv X ζ σ H s)(ho:s'.os=s.os)(u:Un (frs X.stack) ch H H' s.heap s'.heap)(l:HOk X.prog X.w H' s'.heap)(m:LD s'.gens)
  (o:∀b∈ch,(b∈X.ex∨X.s₀.heap.objs.size<=b)/\b≠X.env.locals/\(∀x c,X.env.cells.lookup x=some c->c≠b)/\∀p∈X.pn++ζ,p.1≠b):Inv X ζ σ H' s':=by
 obtain⟨h',g',d',t',A⟩:=s';have e:A=s.os:=ho;subst e;exact I.call (g':=g') (t':=t') (d':=d') u l m o
end
noncomputable abbrev XK:=Value->Option Aa->Hp->Prop
noncomputable abbrev St:=List (Option V)
noncomputable abbrev VK:=V->Hp->Prop
noncomputable abbrev TE:=St->Hp->VK->Prop
noncomputable abbrev TT:=St->Hp->(Bool->Hp->Prop)->Prop
noncomputable abbrev TA:=St->Hp->(List V->Hp->Prop)->Prop
structure dC where
 nx:St->Hp->Prop
 rt:VK
 bk:St->Hp->Prop:=λ_ _=>False
 ct:St->Hp->Prop:=λ_ _=>False
noncomputable abbrev TS:=dC->St->Hp->Prop
noncomputable def EP(X:Cx)(m:List (Aa×Obj))(o:St)(Q:VK)(u:Value)(s':AS):Prop:=∃v l,Inv X m o l s'/\RelV v u/\Q v l
noncomputable def TP(X:Cx)(m:List (Aa×Obj))(o:St)(Q:Bool->Hp->Prop)(b:Bool)(s':AS):Prop:=∃l,Inv X m o l s'/\Q b l
noncomputable def AP(X:Cx)(o:List (Aa×Obj))(s:St)(Q:List V->Hp->Prop)(us:List Value)(s':AS):Prop:=∃l m,Inv X o s m s'/\CC l us/\Q l m
noncomputable def SP(X:Cx)(o:List (Aa×Obj))(D:dC)(f:Flow)(s':AS):Prop:=
 match f with
 | .next=>∃l m,Inv X o l m s'/\D.nx l m
 | .brk=>∃l m,Inv X o l m s'/\D.bk l m
 | .cont=>∃l m,Inv X o l m s'/\D.ct l m
 | .ret u=>∃v l m,Inv X o l m s'/\RelV v u/\D.rt v m
noncomputable def PE(X:Cx)(e:Expr)(t:TE):Prop:=
 ∀(m:List (Aa×Obj)) (s:AS) (l:St) (H:Hp) (Q:VK),Inv X m l H s->t l H Q->Ao (Ac X.prog X.w) X.A (Ci e X.env) (EP X m l Q) X.xe s
noncomputable def PT(X:Cx)(e:Expr)(t:TT):Prop:=
 ∀(m:List (Aa×Obj)) (s:AS) (l:St) (H:Hp) (Q:Bool->Hp->Prop),Inv X m l H s->t l H Q->Ao (Ac X.prog X.w) X.A (nI e X.env (Ci e X.env)) (TP X m l Q) X.xe s
noncomputable def PW(X:Cx)(e:Expr)(t:TT):Prop:=
 ∀(l:Sem Value) (o:List (Aa×Obj)) (s:AS) (m:St) (H:Hp) (Q:Bool->Hp->Prop),Inv X o m H s->t m H Q->Ao (Ac X.prog X.w) X.A (nI e X.env l) (TP X o m Q) X.xe s
theorem PW.pt(h:PW X e t):PT X e t:=h _
noncomputable def PA(X:Cx)(es:List Expr)(t:TA):Prop:=
 ∀(l:Pos) (o:List (Aa×Obj)) (s:AS) (m:St) (H:Hp) (Q:List V->Hp->Prop),Inv X o m H s->t m H Q->Ao (Ac X.prog X.w) X.A (spliced (FB l (Ag es X.env))) (AP X o m Q) X.xe s
noncomputable def PS(X:Cx)(st:DZ)(t:TS):Prop:=
 ∀(l:List (Aa×Obj)) (s:AS) (m:St) (H:Hp) (D:dC),Inv X l m H s->t D m H->Ao (Ac X.prog X.w) X.A (exec st X.env) (SP X l D) X.xe s
noncomputable def PSs(X:Cx)(st:List DZ)(t:TS):Prop:=
 ∀(l:List (Aa×Obj)) (s:AS) (m:St) (H:Hp) (D:dC),Inv X l m H s->t D m H->Ao (Ac X.prog X.w) X.A (execs st X.env) (SP X l D) X.xe s
theorem thn{l:Type}{t:Sem l}{Q m:l->AS->Prop}{M:Model}{A:Ce}{E:Value->AS->Prop}{s:AS}(h:Ao M A t Q E s)(o:∀a s,Q a s->m a s):Ao M A t m E s:=G2 h o λ_ _ x=>x
section
variable{X:Cx}
noncomputable def oH(i:Nat):TE:=λl H Q=>∃v,l[i]?=some (some v)/\Q v H
noncomputable def tC(v:V):TE:=λ_ H Q=>Q v H
theorem pB(hN:X.N[i]?=some x)(E:Vis X.env.scope x)(A:(x==("__debug__" : Str))=false:=by decide) (G:(x==("__classdict__" : Str))=false:=by decide):PE X (.Name x pos) (oH i):=by
 intro J s L H Q I h;obtain⟨v,e,h⟩:=h;obtain⟨m,O,P⟩:=I.loc;obtain⟨u,r,l⟩:=P i x v hN e E;have fin:EP X J L Q u s:=⟨v,H,I,r,h⟩
 rcases l with⟨o,R⟩ | ⟨o,c,B,C⟩
 ·exact nG (i5 I.ok.kind o O R fin) A
 ·rcases o with o | o
  ·exact nG (mM I.ok.kind o B C fin) A
  ·exact nG (wpAny_loadName_free I.ok.kind o B C fin G) A
theorem pI{i j pos}:PE X (.Constant (.int i) j pos) (tC (.int i)):=λ_ _ _ H _ I h=>wpAny_Constant_int ⟨.int i,H,I.tok _,⟨_,rfl⟩,h⟩
theorem mw{b j pos}:PE X (.Constant (.bool b) j pos) (tC (.bl b)):=λ_ _ _ H _ I h=>Constant_bool ⟨.bl b,H,I,rfl,h⟩
theorem pG{j pos}:PE X (.Constant .none j pos) (tC .non):=λ_ _ _ H _ I h=>Constant_none ⟨.non,H,I,rfl,h⟩
theorem pD{x j pos}:PE X (.Constant (.str x) j pos) (tC (.str x)):=λ_ _ _ H _ I h=>Calls.Constant_str ⟨.str x,H,I.tok _,⟨_,rfl⟩,h⟩
noncomputable def Gl(X:Cx)(x:Str):Prop:=X.env.kindOf x=some .globalImplicit
theorem WD(I:Inv X B C H s)(l:Gl X x)(m:X.mg x=some u)(h:Q u s)
  (o:(x==("__debug__" : Str))=false:=by decide):Ao (Ac X.prog X.w) X.A (Ci (.Name x pos) X.env) Q E s:=
 Tv I.ok.kind l (Calls.loadGlobal_global (by rw[I.ok.glob];exact I.mod.glob.keeps I.bk) m h) o
theorem OU(I:Inv X L N H s)(l:Gl X x)(m:X.mg x=none)(o:HA x=some u)(h:Q u s)
  (B:x≠"__name__":=by decide) (C:(x==("__debug__" : Str))=false:=by decide):Ao (Ac X.prog X.w) X.A (Ci (.Name x pos) X.env) Q E s:=by
 obtain⟨O,G,J⟩:=I.mod.blt;exact Tv I.ok.kind l (Calls.loadGlobal_builtin (by rw[I.ok.glob];exact I.mod.glob.keeps I.bk) m (by rw[I.ok.blt];exact G.keeps I.bk) ((J x B).trans o) h) C
theorem kc(l:Gl X x)(m:X.mg x=some u)(r:RelV v u)(o:(x==("__debug__" : Str))=false:=by decide):PE X (.Name x pos) (tC v):=
 λ_ _ _ H _ I h=>WD I l m ⟨v,H,I,r,h⟩ o
variable{a b:Expr}{ta tb:TE}{pos:Pos}
noncomputable def PC(X:Cx)(C:CmpOp)(a b:Expr)(t:TE):Prop:=
 ∀(B:List (Aa×Obj)) (s:AS) (o:St) (H:Hp) (Q:VK),Inv X B o H s->t o H Q ->
  Ao (Ac X.prog X.w) X.A (Ci a X.env) (λv l=>Ao (Ac X.prog X.w) X.A (Ci b X.env) (λu m=>Ao (Ac X.prog X.w) X.A (CN C v u) (EP X B o Q) X.xe m) X.xe l) X.xe s
noncomputable def tB(t:TE):TT:=λl H Q=>t l H λx m=>∃c,x=.bl c/\Q c m
theorem pK(h:PC X l a b t)(m:Ct l b=false:=by first | exact nobehind _ (by decide) (by decide) | rfl):PE X (.Compare a [l] [b] pos) t:=λo s A H Q I hw=>wpAny_Compare1 (h o s A H Q I hw) m
theorem fP(h:PC X m a b t)(l:Ct m b=false:=by first | exact nobehind _ (by decide) (by decide) | rfl):PT X (.Compare a [m] [b] pos) (tB t):=by
 intro o s A H Q I hw;refine io (thn (h o s A H _ I hw) λv L l=>thn l λu N B=>thn B λc O ⟨x,C,E,G,J⟩=>?_) l;obtain⟨d,rfl,q⟩:=J;cases G;exact Dc ⟨C,E,q⟩
variable{tA Ζ:TT}{rest:List Expr}
noncomputable def sj(t u:TT):TT:=λl H Q=>t l H λc m=>if c=true then u l m Q else Q false m
noncomputable def tOr(t u:TT):TT:=λl H Q=>t l H λc m=>if c=true then Q true m else u l m Q
noncomputable def tNot(t:TT):TT:=λl H Q=>t l H λc m=>Q (!c) m
theorem kE(l:PT X a tA):PW X (.BoolOp .And [a] pos) tA:=by
 intro A m s o H Q I h;refine isTrue_and (thn (l m s o H Q I h) λc B e=>?_)
 cases c with
 | true=>exact isTrue_and_nil e
 | false=>exact e
theorem oi(l:PT X a tA):PW X (.BoolOp .Or [a] pos) tA:=by
 intro A m s o H Q I h;refine isTrue_or (thn (l m s o H Q I h) λc B e=>?_)
 cases c with
 | false=>exact isTrue_or_nil e
 | true=>exact e
theorem oj(C:PT X a tA)(hb:PW X (.BoolOp .And (b :: rest) pos) Ζ):PW X (.BoolOp .And (a :: b :: rest) pos) (sj tA Ζ):=by
 intro E l s m H Q I h;refine isTrue_and (thn (C l s m H _ I h) λc G ⟨o,A,B⟩=>?_)
 cases c with
 | true=>exact hb E l G m o Q A B
 | false=>exact⟨o,A,B⟩
theorem tI(C:PT X a tA)(hb:PW X (.BoolOp .Or (b :: rest) pos) Ζ):PW X (.BoolOp .Or (a :: b :: rest) pos) (tOr tA Ζ):=by
 intro E l s m H Q I h;refine isTrue_or (thn (C l s m H _ I h) λc G ⟨o,A,B⟩=>?_)
 cases c with
 | true=>exact⟨o,A,B⟩
 | false=>exact hb E l G m o Q A B
theorem om(l:PT X a tA):PT X (.UnaryOp .Not a pos) (tNot tA):=by
 intro m s o H Q I h;exact isTrue_not (l m s o H (λc A=>Q (!c) A) I h)
noncomputable def tOrV(ta tb:TE):TE:=λl H Q=>ta l H λx m=>∃c,x=.bl c/\if c=true then Q (.bl true) m else tb l m Q
noncomputable def sX(ta:TE):TE:=λl H Q=>ta l H λx m=>∃c,x=.bl c/\Q (.bl (!c)) m
theorem pE{l}{t}(h:PE X a t):PE X (.BoolOp l [a] pos) t:=λm s o H Q I hw=>BoolOp_one (h m s o H Q I hw)
theorem tL(C:PE X a ta)(hb:PE X (.BoolOp .Or (b :: rest) pos) tb):PE X (.BoolOp .Or (a :: b :: rest) pos) (tOrV ta tb):=by
 intro m s o H Q I h;refine BoolOp_or (thn (C m s o H _ I h) λv E ⟨x,A,B,G,l⟩=>?_);obtain⟨c,rfl,l⟩:=l;cases G;refine Dc ?_
 cases c with
 | false=>exact hb m E o A Q B l
 | true=>exact⟨.bl true,A,B,rfl,l⟩
theorem pF(m:PE X a ta):PE X (.UnaryOp .Not a pos) (sX ta):=by
 intro o s A H Q I h;refine UnaryOp_ (thn (m o s A H _ I h) λv G ⟨x,B,C,E,l⟩=>?_);obtain⟨c,rfl,l⟩:=l;cases E;exact not_of (Dc ⟨.bl (!c),B,C,rfl,l⟩)
noncomputable def tIf(t:TT)(ta tb:TE):TE:=λl H Q=>t l H λc m=>if c=true then ta l m Q else tb l m Q
theorem fb(E:PT X c tA)(G:PE X a ta)(hb:PE X b tb):PE X (.IfExp c a b pos) (tIf tA ta tb):=by
 intro l s m H Q I h;refine wpAny_IfExp (thn (E l s m H _ I h) λd o ⟨A,B,C⟩=>?_)
 cases d with
 | true=>exact G l o m A Q B C
 | false=>exact hb l o m A Q B C
end
noncomputable def SqL(K:AG)(H:Hp)(a:Aa)(xs:List V):Prop:=
 Rd H a (.lst xs) ∨
  ∃(o:Obj) (l:Array Value) (n:Nat),K.lookup a=some o/\o.cls=.type "list"/\o.dict=none/\o.data=.seq l n/\l.size<=sizeLine/\CC xs l.toList
noncomputable def SqT(K:AG)(H:Hp)(a:Aa)(xs:List V):Prop:=
 Rd H a (.tup xs) ∨
  ∃(o:Obj) (l:Array Value) (n:Nat),K.lookup a=some o/\o.cls=.type "tuple"/\o.data=.seq l n/\l.size<=sizeLine/\CC xs l.toList
noncomputable def absV:Value->Option V
 | .none=>some .non
 | .bool b=>some (.bl b)
 | .int i _=>some (.int i)
 | .str x _=>some (.str x)
 | .bytes b _=>some (.byt b)
 | .float b _=>some (.flt b)
 | .ref a=>some (.ref a)
 | .type n=>some (.ty n)
 | _=>none
theorem RelV.abs(r:RelV x u):absV u=some x:=by
 cases x with
 | non=>cases r;rfl
 | bl _=>cases r;rfl
 | int _=>obtain⟨t,rfl⟩:=r;rfl
 | str _=>obtain⟨t,rfl⟩:=r;rfl
 | byt _=>obtain⟨t,rfl⟩:=r;rfl
 | flt _=>obtain⟨t,rfl⟩:=r;rfl
 | ref _=>cases r;rfl
 | ty _=>cases r;rfl
theorem RelV.inj(r:RelV x u)(q:RelV y u):x=y:=Br (r.abs.symm.trans q.abs)
theorem CC.inj:∀{xs l:List V} {us:List Value},CC xs us->CC l us->xs=l
 | _,_,_,.nil,.nil=>rfl
 | _,_,_,.cons r t,.cons m o=>by rw[r.inj m,CC.inj t o]
section
variable{X:Cx}{ζ:List (Aa×Obj)}{σ:St}{H:Hp}{s:AS}{a:Aa}{xs ys:List V}
theorem Inv.list(I:Inv X ζ σ H s)(h:SqL X.K H a xs):∃l:List Value,CC xs l/\PlainL s.heap a l.toArray/\xs.length<=sizeLine:=by
 rcases h with h | ⟨o,l,n,m,A,B,C,E,r⟩
 ·obtain⟨z,l,n,r,e⟩:=h.ok I.hok
  exact⟨l,r,⟨_,n,e,rfl,rfl,rfl⟩,z⟩
 ·refine⟨l.toList,r,⟨o,n,I.kIn a o m,A,B,by simpa using C⟩,?_⟩
  have e:=r.length;simp only[Be]at e
  lia
theorem Inv.tuple(I:Inv X ζ σ H s)(h:SqT X.K H a xs):∃l:List Value,CC xs l/\jK s.heap a l.toArray/\xs.length<=sizeLine:=by
 rcases h with h | ⟨o,l,n,m,A,B,C,r⟩
 ·obtain⟨z,l,r,p⟩:=h.ok I.hok
  exact⟨l,r,p,z.1⟩
 ·refine⟨l.toList,r,⟨o,I.kIn a o m,A,n,by simpa using B⟩,?_⟩
  have e:=r.length;simp only[Be]at e
  lia
theorem Inv.list_inj(I:Inv X ζ σ H s)(h:SqL X.K H a xs)(h':SqL X.K H a ys):xs=ys:=by
 obtain⟨A,r,⟨o,n,e,_,_,d⟩,_⟩:=I.list h;obtain⟨its',B,⟨C,E,l,_,_,m⟩,_⟩:=I.list h';rw[e]at l;cases l;rw[d]at m
 injection m with d1 _
 have:A=its':=by simpa using congrArg nS d1
 subst this;exact r.inj B
theorem Inv.tuple_inj(I:Inv X ζ σ H s)(h:SqT X.K H a xs)(h':SqT X.K H a ys):xs=ys:=by
 obtain⟨A,r,⟨o,e,_,n,d⟩,_⟩:=I.tuple h;obtain⟨its',B,⟨C,l,_,E,m⟩,_⟩:=I.tuple h';rw[e]at l;cases l;rw[d]at m
 injection m with d1 _
 have:A=its':=by simpa using congrArg nS d1
 subst this;exact r.inj B
end
section
variable{X:Cx}{st:DZ}{rest:List DZ}{t u:TS}{e:Expr}{te:TE}{pos:Pos}
noncomputable def sY:TS:=λD l H=>D.nx l H
noncomputable def tSeq(t u:TS):TS:=λD l H=>t { D with nx:=u D } l H
theorem kH:PSs X [] sY:=λ_ _ l H _ I h=>Of ⟨l,H,I,h⟩
theorem fR(o:PS X st t)(A:PSs X rest u):PSs X (st :: rest) (tSeq t u):=by
 intro m s B H D I h;refine rf (thn (o m s B H { D with nx:=u D } I h) λf C q=>?_)
 cases f with
 | next=>
  obtain⟨l,E,G,q⟩:=q;exact A m C l E D G q
 | ret v=>exact q
 | brk=>exact q
 | cont=>exact q
theorem kG(l:PS X st t):PSs X [st] t:=by
 intro m s o H D I h;refine rf (thn (l m s o H D I h) λf A q=>?_)
 cases f with
 | next=>exact Of q
 | ret v=>exact q
 | brk=>exact q
 | cont=>exact q
theorem Inv.quiet(I:Inv X l m H s):interactive X.env=false:=by simp[interactive,I.ok.kind]
noncomputable def sd(te:TE):TS:=λD l H=>te l H λ_ m=>D.nx l m
theorem kI(m:PE X e te)(o:G9 e none pos.line X.env=pure false:=by rfl):PS X (.Expr e pos) (sd te):=by
 intro A s l H D I h;exact wpAny_Expr_any (thn (m A s l H _ I h) λv G ⟨x,B,C,J,E⟩=>⟨l,B,C,E⟩) I.quiet o
noncomputable def tRet(te:TE):TS:=λD l H=>te l H D.rt
theorem oq(m:PE X e te):PS X (.Return (some e) pos) (tRet te):=by
 intro o s l H D I h;exact wpAny_Return_some (thn (m o s l H _ I h) λv G ⟨x,A,B,C,E⟩=>⟨x,l,A,B,C,E⟩)
noncomputable def tIfS(c:TT)(t u:TS):TS:=λD l H=>c l H λb m=>if b=true then t D l m else u D l m
theorem tJ(E:PT X c tc)(G:PSs X a t)(hb:PSs X b u):PS X (.If c a b pos) (tIfS tc t u):=by
 intro l s m H D I h;refine wpAny_If (thn (E l s m H _ I h) λd o ⟨A,B,C⟩=>?_)
 cases d with
 | true=>exact G l o m A D B C
 | false=>exact hb l o m A D B C
noncomputable def oJ:TS:=λ_ _ _=>False
theorem fU:PS X st oJ:=λ_ _ _ _ _ _ h=>h.elim
end
noncomputable abbrev TG:=V->St->Hp->(St->Hp->Prop)->Prop
noncomputable abbrev TGs:=List V->St->Hp->(St->Hp->Prop)->Prop
noncomputable def PG(X:Cx)(C:Expr)(t:TG):Prop:=
 ∀(m:List (Aa×Obj)) (s:AS) (o:St) (H:Hp) (v:V) (u:Value) (Q:St->Hp->Prop),Inv X m o H s->RelV v u->t v o H Q ->
  Ao (Ac X.prog X.w) X.A (Rr C X.env u) (λ_ E=>∃l B,Inv X m l B E/\Q l B) X.xe s
noncomputable def PGs(X:Cx)(ts:List Expr)(t:TGs):Prop:=
 ∀(m:List (Aa×Obj)) (s:AS) (o:St) (H:Hp) (B:List V) (C:List Value) (Q:St->Hp->Prop),Inv X m o H s->CC B C->t B o H Q ->
  Ao (Ac X.prog X.w) X.A (assignInOrder ((Fq ts X.env).map (·.2)) C) (λ_ G=>∃l E,Inv X m l E G/\Q l E) X.xe s
noncomputable abbrev uW:=V->V->V->Hp->(Hp->Prop)->Prop
noncomputable def ud(X:Cx)(t:uW):Prop:=
 ∀(l:List (Aa×Obj)) (s:AS) (m:St) (H:Hp) (o i v:V) (B C u:Value) (Q:Hp->Prop),Inv X l m H s->RelV o B->RelV i C->RelV v u->t o i v H Q ->
  Ao (Ac X.prog X.w) X.A (rK B C u) (λ_ G=>∃E,Inv X l m E G/\Q E) X.xe s
noncomputable abbrev TIp:=V->V->Hp->VK->Prop
noncomputable def PIp(X:Cx)(o:Operator)(t:TIp):Prop:=
 ∀(l:List (Aa×Obj)) (s:AS) (m:St) (H:Hp) (x y:V) (v u:Value) (Q:VK),Inv X l m H s->RelV x v->RelV y u->t x y H Q ->
  Ao (Ac X.prog X.w) X.A (inplaceOp o v u) (EP X l m Q) X.xe s
section
variable{X:Cx}{pos:Pos}
noncomputable def au(i:Nat):TG:=λv l H Q=>Q (l.set i (some v)) H
theorem kY(hN:X.N.Nodup)(hi:X.N[i]?=some x)(l:Loc X.env.scope x)(m:X.fn x=true∨X.env.scope.names.lookup x=some .local:=by first | exact .inl rfl | exact .inr rfl | assumption):PG X (.Name x pos) (au i):=by
 intro A s B H v u Q I r h;exact rF (SJ I hN hi l r (λC o=>⟨_,H,o,h⟩) m)
noncomputable def gNil:TGs:=λl m H Q=>l=[]/\Q m H
noncomputable def uM(t:TG)(u:TGs):TGs:=λm o H Q=>∃v r,m=v :: r/\t v o H λl s=>u r l s Q
theorem kX:PGs X [] gNil:=by
 intro m s l H o A Q I r h;obtain⟨e,h⟩:=h;subst e;cases r;exact assignInOrder_nil ⟨l,H,I,h⟩
theorem fY(o:PG X e t)(A:PGs X es u)
  (B:(Fq (e :: es) X.env).map (·.2)=Rr e X.env :: (Fq es X.env).map (·.2):=by rfl):PGs X (e :: es) (uM t u):=by
 intro m s C H P R Q I r h;obtain⟨v,S,E,h⟩:=h;subst E
 cases r with
 | cons r G=>
  rw[B];refine assignInOrder_cons (thn (o m s C H _ _ _ I r h) λ_ J ⟨l,L,N,O⟩=>?_);exact A m J l L _ _ Q N G O
noncomputable def gTup(K:AG)(n:Nat)(t:TGs):TG:=λv m H Q=>∃a l,v=.ref a/\SqT K H a l/\l.length=n/\t l m H Q
theorem pA(B:X.calm=true)(h:PGs X es t)
  (C:(Fq es X.env).length=n:=by rfl) (E:(Fq es X.env).findIdx? (·.1)=none:=by rfl):PG X (.Tuple es k pos) (gTup X.K n t):=by
 intro l s m H v u Q I r hw;obtain⟨a,G,J,L,N,hw⟩:=hw;subst J;cases r;obtain⟨T,A,O,U⟩:=I.tuple L
 refine assign_Tuple_tuple (I.ok.hd B) O (by simp[C,<-N,A.length]) E λP R=>?_
 have S:Inv X l m H { s with heap:=P }:=I.kept (t':=s.toks) λb o e=>R b o (BJ (Ak e)) e
 exact h l _ m H G _ Q S (by simpa using A) hw
noncomputable def oO(te:TE)(g:TG):TS:=λD l H=>te l H λx m=>g x l m D.nx
theorem oy(o:PE X e te)(A:PG X tg g)(B:swapsWithSole [tg] e pos.line X.env=pure false:=by rfl)(hw:swappedStores [tg] e X.env=pure none:=by rfl)
  (C:(Fq [tg] X.env).map (·.2)=[Rr tg X.env]:=by rfl):PS X (.Assign [tg] e pos) (oO te g):=by
 intro l s m H D I h;refine wpAny_Assign_stores (thn (o l s m H _ I h) λv E ⟨x,G,J,L,N⟩=>?_) B hw;rw[C]
 exact thn (A l E m G x v _ J L N) λ_ O q=>q
theorem oo(hN:X.N.Nodup)(hi:X.N[i]?=some x)(m:Loc X.env.scope x)(o:PE X e te)(A:G9 e (some (.Name x l)) pos.line X.env=pure false:=by rfl)(B:X.fn x=true∨X.env.scope.names.lookup x=some .local:=by first | exact .inl rfl | exact .inr rfl | assumption) :
  PS X (.Assign [.Name x l] e pos) (oO te (au i)):=by
 intro C s E H D I h;refine wpAny_Assign_Name (thn (o C s E H _ I h) λv Q ⟨y,G,J,L,O⟩=>?_) A;exact SJ J hN hi m L (λR P=>⟨_,G,P,O⟩) B
noncomputable def tAug(i:Nat)(te:TE)(m:TIp):TS:=λD l H=>∃x,l[i]?=some (some x)/\te l H λy o=>m x y o λz s=>D.nx (l.set i (some z)) s
theorem ox(hN:X.N.Nodup)(hi:X.N[i]?=some x)(E:Loc X.env.scope x)(Q:PE X e te)(ho:PIp X L R)(S:X.fn x=true∨X.env.scope.names.lookup x=some .local:=by first | exact .inl rfl | exact .inr rfl | assumption) :
  PS X (.AugAssign (.Name x O) L e pos) (tAug i te R):=by
 intro G s P H D I h;obtain⟨v,T,h⟩:=h;obtain⟨m,U,Y⟩:=I.loc
 have J:Vis X.env.scope x:=by rcases E with k | k;exact .inl k;exact .inr (.inl k)
 obtain⟨u,r,l⟩:=Y i x v hi T J;refine wpAny_AugAssign_Name ?_
 have go:Ao (Ac X.prog X.w) X.A (Ci e X.env) (λw B=>Ao (Ac X.prog X.w) X.A (inplaceOp L u w) (λr C=>Ao (Ac X.prog X.w) X.A (rk X.env x r) (λ_=>SP X G D .next) X.xe C) X.xe B) X.xe s:=by
  refine thn (Q G s P H _ I h) λw Z ⟨y,H1,I1,r1,q1⟩=>?_
  refine thn (ho G Z P H1 v y u w _ I1 r r1 q1) λz s2 ⟨zv,H2,I2,r2,q2⟩=>?_
  exact SJ I2 hN hi E r2 (λs3 I3=>⟨_,H2,I3,q2⟩) S
 rcases l with⟨o,hm⟩ | ⟨o,c,hc,vx⟩
 ·exact i5 I.ok.kind o U hm go
 ·rcases o with o | o
  ·exact mM I.ok.kind o hc vx go
  ·rcases E with k | k
   ·have:X.env.scope.names.lookup x=some .free:=o
    rw[k]at this;cases this
   ·have:X.env.scope.names.lookup x=some .free:=o
    rw[k]at this;cases this
noncomputable def si(to m te:TE)(s:V->V->Hp->VK->Prop)(A:TIp)(B:uW):TS:=λD l H=>to l H λo C=>m l C λi E=>s o i E λx G=>te l G λy I=>A x y I λz J=>B o i z J λL=>D.nx l L
noncomputable def ue(X:Cx)(t:V->V->Hp->VK->Prop):Prop:=
 ∀(l:List (Aa×Obj)) (s:AS) (m:St) (H:Hp) (o i:V) (B C:Value) (Q:VK),Inv X l m H s->RelV o B->RelV i C->t o i H Q ->
  Ao (Ac X.prog X.w) X.A (K6 B C) (EP X l m Q) X.xe s
theorem kL(ho:PE X o to)(hi:PE X i N)(O:ue X P)(Q:PE X e te)(R:PIp X S T)(U:ud X Y)
  (Z:∀l m new,augStore i l m new=(do YH [new,l,m] (rK l m new);release [new,l,m] [];pure .next):=by intros;rfl):PS X (.AugAssign (.Subscript o i tpos) S e pos) (si to N te P T Y):=by
 intro B s A H D I h;refine wpAny_AugAssign_SubscriptAny (thn (ho B s A H _ I h) λl s1 ⟨E,H1,I1,G,q1⟩=>?_) Z
 refine thn (hi B s1 A H1 _ I1 q1) λm s2 ⟨J,H2,I2,L,q2⟩=>?_
 refine thn (O B s2 A H2 E J l m _ I2 G L q2) λC s3 ⟨x3,H3,I3,r3,q3⟩=>?_
 refine thn (Q B s3 A H3 _ I3 q3) λv s4 ⟨x4,H4,I4,r4,q4⟩=>?_
 refine thn (R B s4 A H4 x3 x4 C v _ I4 r3 r4 q4) λnew s5 ⟨x5,H5,I5,r5,q5⟩=>?_
 exact thn (U B s5 A H5 E J x5 l m new _ I5 G L r5 q5) λ_ s6 ⟨H6,I6,q6⟩=>⟨A,H6,I6,q6⟩
noncomputable def ipI(f:Int->Int->Int):TIp:=λx y H Q=>∃i j,x=.int i/\y=.int j/\Q (.int (f i j)) H
theorem qH:PIp X .Add (ipI λi j=>i+j):=by
 intro B s C H x y v u Q I l m h;obtain⟨i,j,o,A,q⟩:=h;subst o;subst A;obtain⟨t,rfl⟩:=l;obtain⟨E,rfl⟩:=m;exact iadd_int ⟨.int _,H,I.tok _,⟨_,rfl⟩,q⟩
noncomputable def oG(c:TT)(C:TS):TS:=λD l H=>∃W:Nat->St->Hp->Prop,(∃m,W m l H)/\∀m l H,W m l H ->
 c l H λb s=>if b=true then ∃N:St->Hp->Prop,(∀o A,N o A->∃B,B < m/\W B o A)/\C { D with nx:=N,ct:=N,bk:=D.nx } l s else D.nx l s
theorem fS(S:VV (Ac X.prog X.w) X.A X.env X.xe)(hc:PT X c tc)(hb:PSs X body tb):PS X (.While c body [] pos) (oG tc tb):=by
 intro J s σ H D I h;obtain⟨W,⟨m0,w0⟩,o⟩:=h;refine wpAny_While (codeAny_whileLoop (λn s'=>∃B T,Inv X J B T s'/\W n B T) ?_ m0 ⟨σ,H,I,w0⟩);rintro n s1 ⟨m,U,I1,w1⟩;refine GR S (thn (hc J s1 m U _ I1 (o n m U w1)) λb s2 ⟨Y,Z,E⟩=>?_)
 cases b with
 | true=>
  obtain⟨N,hN,E⟩:=E;rw[qX rfl];refine GR S (thn (hb J s2 m Y _ Z E) λf s3 G=>?_)
  cases f with
  | next=>
   obtain⟨l,C,L,O⟩:=G;obtain⟨P,Q,R⟩:=hN l C O;exact⟨P,Q,l,C,L,R⟩
  | cont=>
   obtain⟨l,C,L,O⟩:=G;obtain⟨P,Q,R⟩:=hN l C O;exact⟨P,Q,l,C,L,R⟩
  | brk=>exact G
  | ret v=>exact G
 | false=>
  rw[qY AH];exact Of ⟨m,Y,Z,E⟩
end
structure It where
 go:Nat->Hp->Prop
 yld:Nat->Hp->V->Hp->Prop
 stop:Nat->Hp->Prop
noncomputable def Oc(X:Cx)(l:List (Aa×Obj))(H:Hp)(b:Aa):Prop:=
 H b=none/\b≠X.env.locals/\b∉X.fs/\(b∈X.ex∨X.s₀.heap.objs.size<=b)/\(∀x c,X.env.cells.lookup x=some c->c≠b)/\∀p∈X.pn++l,p.1≠b
theorem Inv.fpOk(I:Inv X l B H s)(hb:s.heap.objs.size<=b)(m:o b=none):Oc X l o b:=by
 refine⟨m,FS (AY I.lt hb),I.nofs hb,.inr (Au I.sz hb),λx c e z=>?_,λp A z=>?_⟩
 ·obtain⟨v,q⟩:=I.cell x c e
  exact zX (AY q.lt (by rw[z];exact hb)) (EX _)
 ·exact zX (AY (Ak (I.pin p A).1) (by rw[z];exact hb)) (EX _)
structure UN(P:Bs)(w:CQ)(K:AG)(tg:Expr)(J:It)(fp:List Aa)(it:Aa)(tn:Nat->DS->Prop):Prop where
 mem:it∈fp
 obj:∀i h,tn i h->∀b∈fp,∃o,h.get? b=some o/\∀v,o.data≠.cell v
 keep:∀i h h',tn i h->(∀b∈fp,∀o,h.get? b=some o->h'.get? b=some o)->tn i h'
 item:∀(X:Cx),X.prog=P->X.w=w->X.K=K->X.calm=true->∀(i:Nat) (ζ:List (Aa×Obj)) (s:AS) (σ:St) (H:Hp) (E:Value->AS->Prop),Inv X ζ σ H s->(∀b∈fp,Oc X ζ H b)->tn i s.heap->J.go i H ->
  Ao (Ac P w) X.A (VN (.ref it)) (λr s1=>∃u,r=some u /\
   Ao (Ac P w) X.A (Og tg (.ref it) u) (λ_ s2=>∃x H',Inv X ζ σ H' s2/\RelV x u/\J.yld i H x H'/\tn (i+1) s2.heap/\∀b∈fp,H' b=none) E s1) E s
 done:∀(X:Cx),X.prog=P->X.w=w->X.K=K->X.calm=true->∀(i:Nat) (ζ:List (Aa×Obj)) (s:AS) (σ:St) (H:Hp) (E:Value->AS->Prop),Inv X ζ σ H s->(∀b∈fp,Oc X ζ H b)->tn i s.heap->J.stop i H ->
  Ao (Ac P w) X.A (VN (.ref it)) (λr s1=>r=none/\Inv X ζ σ H s1) E s
 self:∀(A:Ce) (i:Nat) (s:AS) (Q:Value->AS->Prop) (E:Value->AS->Prop),tn i s.heap->Q (.ref it) s->Ao (Ac P w) A (nH (.ref it)) Q E s
noncomputable abbrev TI:=St->Hp->(It->Hp->Prop)->Prop
noncomputable def PIE(X:Cx)(m:List (Aa×Obj))(B:St)(tg:Expr)(R:It->Hp->Prop)(C:Value)(o:AS):Prop:=
 ∃(it:Aa) (s:List Aa) (A:Nat->DS->Prop) (J:It) (l:Hp),C=.ref it/\Inv X m B l o/\UN X.prog X.w X.K tg J s it A/\A 0 o.heap/\(∀b∈s,Oc X m l b)/\R J l
noncomputable def PI(X:Cx)(tg iter:Expr)(o:TI):Prop:=
 ∀(m:List (Aa×Obj)) (s:AS) (l:St) (H:Hp) (R:It->Hp->Prop),Inv X m l H s->o l H R ->
  Ao (Ac X.prog X.w) X.A (Ci iter X.env) (λv B=>Ao (Ac X.prog X.w) X.A (nH v) (PIE X m l tg R) X.xe B) X.xe s
theorem X0(ho:s.heap.get? it=some o)(m:o.cls=.type n)(B:o.data=.fields vs)
  (C:["enumerate", "zip", "dict_itemiterator", "dict_reverseitemiterator", "odict_iterator", "itertools.zip_longest", "itertools.pairwise"].contains n=false) (l:Q () s):Ao M A (Og tg (.ref it) u) Q E s:=by
 unfold Og
 cases tg <;> first
  | exact AL l
  | (cases u <;> first
    | exact AL l
    | (refine AB (wpAny_load ho ?_)
       rw[m,B];show Ao M A (if (["enumerate", "zip", "dict_itemiterator", "dict_reverseitemiterator", "odict_iterator", "itertools.zip_longest", "itertools.pairwise"].contains n&&vs[0]?==some (Pm _))=true then _ else _) Q E s;rw[qY (by intro h;rw[C,Bool.false_and]at h;cases h)]
       exact AL l))
noncomputable def Itl(K:AG)(a:Aa):It:=
 ⟨λi H=>∃l x,SqL K H a l/\l[i]?=some x,λi H x m=>m=H/\∀l,SqL K H a l->l[i]?=some x,λi H=>∃l,SqL K H a l/\l.length<=i⟩
noncomputable def Itt(K:AG)(a:Aa):It:=
 ⟨λi H=>∃l x,SqT K H a l/\l[i]?=some x,λi H x m=>m=H/\∀l,SqT K H a l->l[i]?=some x,λi H=>∃l,SqT K H a l/\l.length<=i⟩
noncomputable def Itr(lo:Int)(n:Nat):It:=⟨λi _=>i < n,λi H x l=>l=H/\x=.int (lo+i),λi _=>n<=i⟩
theorem bi{P}{w}{K}{tg}(a it:Aa):UN P w K tg (Itl K a) [it] it (λi h=>h.IsListIter it a i) where
 mem:=by simp
 obj:=λi h st b hb=>by
  have e:b=it:=by simpa using hb
  subst e;obtain⟨o,e,c,d⟩:=st;exact⟨o,e,λv z=>by rw[d]at z;cases z⟩
 keep:=λi h m st k=>st.at λo e=>k it (by simp) o e
 item:=by
  intro X C hw G U i Y s Z H E I A st J;subst C hw G;obtain⟨xs,x,B,L⟩:=J;obtain⟨i',N,p,hz⟩:=I.list B;obtain⟨u,hu,ru⟩:=N.get L;obtain⟨O,Q,f2,R,S,T⟩:=A it (by simp)
  refine wpAny_pyNext_list_item st p.isList (x:=u) (by simpa using hu) λm l sb=>?_
  have I1:Inv X Y Z H { s with heap:=m }:=I.turned (t':=s.toks) (λb o hb e=>(sb.2 b hb).trans e) O Q R S T;obtain⟨o,e,c,d⟩:=id l;exact⟨u,rfl,X0 (s:={ s with heap:=m }) e c d (by decide) ⟨x,H,I1,ru,⟨rfl,λys hy=>by rw[I.list_inj hy B];exact L⟩,l,λb hb=>(A b hb).1⟩⟩
 done:=by
  intro X C hw G U i Y s Z H E I A st J;subst C hw G;obtain⟨xs,B,L⟩:=J;obtain⟨i',N,p,hz⟩:=I.list B;obtain⟨O,Q,f2,R,S,T⟩:=A it (by simp);have hl:=N.length
  exact wpAny_pyNext_list_end (I.ok.hd U) st p.isList (by simp;lia) λm eb=>⟨rfl,I.turned (t':=s.toks) (λb o hb e=>eb b o hb e) O Q R S T⟩
 self:=λ_ _ _ _ _ st h=>wpAny_pyIter_listiter st h
theorem Yj{P}{w}{K}{tg}(a it:Aa):UN P w K tg (Itt K a) [it] it (λi h=>h.IsTupleIter it a i) where
 mem:=by simp
 obj:=λi h st b hb=>by
  have e:b=it:=by simpa using hb
  subst e;obtain⟨o,e,c,d⟩:=st;exact⟨o,e,λv z=>by rw[d]at z;cases z⟩
 keep:=λi h m st k=>st.at λo e=>k it (by simp) o e
 item:=by
  intro X C hw G Y i Z s σ H E I A st J;subst C hw G;obtain⟨xs,x,B,L⟩:=J;obtain⟨N,O,p,hz⟩:=I.tuple B;obtain⟨u,hu,ru⟩:=O.get L;obtain⟨Q,R,f2,S,T,U⟩:=A it (by simp)
  refine wpAny_pyNext_tuple_item st (show s.heap.IsTuple a N.toArray from p) (x:=u) (by simpa using hu) λm l sb=>?_
  have I1:Inv X Z σ H { s with heap:=m }:=I.turned (t':=s.toks) (λb o hb e=>(sb.2 b hb).trans e) Q R S T U;obtain⟨o,e,c,d⟩:=id l;exact⟨u,rfl,X0 (s:={ s with heap:=m }) e c d (by decide) ⟨x,H,I1,ru,⟨rfl,λys hy=>by rw[I.tuple_inj hy B];exact L⟩,l,λb hb=>(A b hb).1⟩⟩
 done:=by
  intro X C hw G Y i Z s σ H E I A st J;subst C hw G;obtain⟨xs,B,L⟩:=J;obtain⟨N,O,p,hz⟩:=I.tuple B;obtain⟨Q,R,f2,S,T,U⟩:=A it (by simp);have hl:=O.length
  exact wpAny_pyNext_tuple_end (I.ok.hd Y) st (show s.heap.IsTuple a N.toArray from p) (by simp;lia) λm eb=>⟨rfl,I.turned (t':=s.toks) (λb o hb e=>eb b o hb e) Q R S T U⟩
 self:=λ_ _ _ _ _ st h=>wpAny_pyIter_tupleiter st h
theorem Yk{P}{w}{K}{tg}(it:Aa)(lo:Int)(n:Nat):UN P w K tg (Itr lo n) [it] it (λi h=>IsRangeIter h it (lo+(i:Nat) * 1) ((n:Int) - (i:Nat)) 1) where
 mem:=by simp
 obj:=λi h st b hb=>by
  have e:b=it:=by simpa using hb
  subst e
  exact⟨_,st,λv z=>by
   have Y:Zs _=iy v:=z
   cases Y⟩
 keep:=λi h m st k=>k it (by simp) _ st
 item:=by
  intro X B hw C G i S s T H E I A st J;subst B hw C;obtain⟨L,N,Z,O,Q,R⟩:=A it (by simp);have W:=Walks.range (prog:=X.prog) (w:=X.w) (I.ok.hd G) it lo 1 n
  refine W.item i s _ _ J st λv m U hv l kk=>?_
  obtain⟨t,rfl⟩:=hv;have I1:Inv X S T H { s with heap:=m,toks:=U }:=I.turned (λb o hb e=>kk b o (by simpa using hb) e) L N O Q R;refine⟨_,rfl,X0 (s:={ s with heap:=m,toks:=U }) (n:="range_iterator") l rfl rfl (by decide) ⟨.int (lo+i),H,I1,⟨t,?_⟩,⟨rfl,rfl⟩,l,λb hb=>(A b hb).1⟩⟩;rw[Int.mul_one]
 done:=by
  intro X B hw C G i S s T H E I A st J;subst B hw C;obtain⟨L,N,Z,O,Q,R⟩:=A it (by simp)
  exact wpAny_pyNext_range_end (I.ok.hd G) st (by have:n<=i:=J;lia) λm eb=>⟨rfl,I.turned (t':=s.toks) (λb o hb e=>eb b o hb e) L N O Q R⟩
 self:=λ_ _ _ _ _ st h=>wpAny_pyIter_rangeiter st h
section
variable{X:Cx}
noncomputable def uE(K:AG)(m:TE):TI:=λo H R=>m o H λx l=>∃a,x=.ref a/\(∃s,SqL K l a s)/\R (Itl K a) l
noncomputable def iTup(K:AG)(m:TE):TI:=λo H R=>m o H λx l=>∃a,x=.ref a/\(∃s,SqT K l a s)/\R (Itt K a) l
theorem kQ{l}{B}(C:PE X l B):PI X tg l (uE X.K B):=by
 intro E s G H R I h
 refine thn (C E s G H _ I h) λv m ⟨x,J,A,L,N⟩=>?_
 obtain⟨a,e,⟨P,O⟩,q⟩:=N;subst e;cases L;obtain⟨Q,S,p,T⟩:=A.list O;refine wpAny_pyIter_list p.isList ?_;refine⟨m.heap.objs.size,[m.heap.objs.size],_,_,J,rfl,A.kept (t':=m.toks) λb o e=>AO _ e,bi a _,⟨_,An _ rfl,rfl,rfl⟩,λb hb=>?_,q⟩
 have e:b=m.heap.objs.size:=by simpa using hb
 subst e;exact A.fpOk (AJ _) (A.hok.fresh (AJ _))
theorem oz{l}{B}(C:PE X l B):PI X tg l (iTup X.K B):=by
 intro E s G H R I h
 refine thn (C E s G H _ I h) λv m ⟨x,J,A,L,N⟩=>?_
 obtain⟨a,e,⟨Q,O⟩,q⟩:=N;subst e;cases L;obtain⟨P,S,p,T⟩:=A.tuple O;refine LX (show m.heap.IsTuple a P.toArray from p) ?_;refine⟨m.heap.objs.size,[m.heap.objs.size],_,_,J,rfl,A.kept (t':=m.toks) λb o e=>AO _ e,Yj a _,⟨_,An _ rfl,rfl,rfl⟩,λb hb=>?_,q⟩
 have e:b=m.heap.objs.size:=by simpa using hb
 subst e;exact A.fpOk (AJ _) (A.hok.fresh (AJ _))
theorem Xc{l}{m}{H}{s}{R}{E}{lo hi}{t u v}{B}(I:Inv X l m H s)(G:-(2 ^ 62)<=lo)(J:lo < 2 ^ 62)(L:-(2 ^ 62)<=hi)(N:hi < 2 ^ 62)
  (q:R (Itr lo (hi - lo).toNat) H):Ao (Ac X.prog X.w) X.A (nH (.ref s.heap.objs.size)) (PIE X l m tg R) E { s with heap:=s.heap.push { cls:=.type "range",data:=.fields #[.int lo t,.int hi u,.int 1 v] },toks:=B }:=by
 refine wpAny_pyIter_range (IsRange.new ..) (small_one G J L N) ?_
 have C:Inv X l m H { s with heap:=s.heap.push { cls:=.type "range",data:=.fields #[.int lo t,.int hi u,.int 1 v] },toks:=B }:=I.kept λb o e=>AO _ e
 refine⟨(s.heap.push { cls:=.type "range",data:=.fields #[.int lo t,.int hi u,.int 1 v] }).objs.size,[(s.heap.push { cls:=.type "range",data:=.fields #[.int lo t,.int hi u,.int 1 v] }).objs.size],_,_,H,rfl,
  C.kept (t':=B) λb o e=>AO _ e,Yk _ lo (hi - lo).toNat,?_,λb hb=>?_,q⟩
 ·have O:lo+((0:Nat):Int) * 1=lo:=by simp
  have P:(((hi - lo).toNat:Nat):Int) - ((0:Nat):Int)=sM lo hi 1:=by rw[rangeSize_one];split <;> lia
  show IsRangeIter _ _ (lo+((0:Nat):Int) * 1) ((((hi - lo).toNat:Nat):Int) - ((0:Nat):Int)) 1;rw[O,P];exact An _ rfl
 ·have e:b=(s.heap.push { cls:=.type "range",data:=.fields #[.int lo t,.int hi u,.int 1 v] }).objs.size:=by simpa using hb
  subst e;exact C.fpOk (AJ _) (C.hok.fresh (AJ _))
noncomputable def uB(l:TA):TI:=λm H R=>l m H λo s=>∃j:Int,o=[.int j]/\-(2 ^ 62)<=j/\j < 2 ^ 62/\R (Itr 0 j.toNat) s
noncomputable def uA(l:TA):TI:=λm H R=>l m H λo s=>∃i j:Int,o=[.int i,.int j]/\(-(2 ^ 62)<=i/\i < 2 ^ 62/\-(2 ^ 62)<=j/\j < 2 ^ 62)/\R (Itr i (j - i).toNat) s
theorem cJ{a}{m}{p pos}(o:Gl X "range") (A:X.mg "range" = none) (B:PA X [a] m) (C:Ag [a] X.env=[(false,Ci a X.env)]:=by rfl):PI X tg (.Call (.Name "range" p) [a] [] pos) (uB m):=by
 intro E s G H R I h;refine Call_ (OU I o A boot_range (Dt (thn (B pos E s G H _ I h) λP Q ⟨S,T,J,L,l⟩=>?_) C rfl));obtain⟨j,e,l,N,q⟩:=l;subst e
 cases L with
 | cons r O=>
  cases O;obtain⟨t,rfl⟩:=r;exact call_range_1 (Xc J (by lia) (by lia) l N (by simpa using q))
theorem cI(A:Gl X "range") (B:X.mg "range" = none) (C:PA X [a,b] E) (G:Ag [a,b] X.env=[(false,Ci a X.env),(false,Ci b X.env)]:=by rfl) (o:Ag [b] X.env=[(false,Ci b X.env)]:=by rfl) :
  PI X tg (.Call (.Name "range" p) [a,b] [] pos) (uA E):=by
 intro J s L H R I h;refine Call_ (OU I A B boot_range (Dt (thn (C pos J s L H _ I h) λU Y ⟨Z,H1,N,O,l⟩=>?_) (by rw[G,o]) (by rw[o];rfl)));obtain⟨i,j,e,⟨l,P,Q,S⟩,q⟩:=l;subst e
 cases O with
 | cons r m=>
  cases m with
  | cons T m=>
   cases m;obtain⟨t,rfl⟩:=r;obtain⟨t',rfl⟩:=T;exact call_range_2 (Xc N l P Q S q)
noncomputable def tFor(C:TI)(g:TG)(E:TS):TS:=λD l H=>C l H λJ G=>∃W:Nat->Nat->St->Hp->Prop,(∃m,W 0 m l G)/\∀i m l H,W i m l H ->
 (J.stop i H/\D.nx l H)∨(J.go i H/\∃N:St->Hp->Prop,(∀o s,N o s->∃B,B < m/\W (i+1) B o s)/\∀x s,J.yld i H x s->g x l s λA I=>E { D with nx:=N,ct:=N,bk:=D.nx } A I)
noncomputable def Sb(fp:List Aa)(h:DS):List (Aa×Obj):=fp.filterMap λb=>(h.get? b).map λo=>(b,o)
theorem L9(hb:b∈fp)(e:h.get? b=some o):(b,o)∈Sb fp h:=dM.mpr ⟨b,hb,by rw[e];rfl⟩
theorem cM(l:p∈Sb fp h):p.1∈fp/\h.get? p.1=some p.2:=by
 obtain⟨b,hb,e⟩:=dM.mp l
 cases q:h.get? b with
 | none=>rw[q]at e;cases e
 | some o=>
  rw[q]at e;have m:(b,o)=p:=Br e;subst m;exact⟨hb,q⟩
theorem Inv.pinned(I:Inv X l A H s)(B:∀b∈fp,Oc X l H b)(ho:∀b∈fp,∃o,s.heap.get? b=some o/\∀v,o.data≠.cell v):Inv X (l++Sb fp s.heap) A H s:=
 I.pins_of λp C=>(Ay.mp C).elim (λz=>I.pin p (BW _ z)) λz=>by
  obtain⟨hb,e⟩:=cM z;obtain⟨E,G,J,_⟩:=B p.1 hb;obtain⟨o,m,d⟩:=ho p.1 hb;rw[e]at m;cases m;exact⟨e,E,G,J,d⟩
theorem Inv.unpinned(I:Inv X (l++pl) m H s):Inv X l m H s:=I.pins_of λp o=>I.pin p (BW _ (BO _ o))
theorem ot(P:VV (Ac X.prog X.w) X.A X.env X.xe)(hc:X.calm=true)(hi:PI X tg iter wi)(hg:PG X tg g)(hb:PSs X body tb)
  (hs:∀x,Gg iter X.env x=pure x:=by intro _;rfl):PS X (.For tg iter body [] pos) (tFor wi g tb):=by
 intro O s σ H D I h;refine wpAny_For (thn (hi O s σ H _ I h) λv s1 h1=>thn h1 λΗ s2 h2=>?_) hs;obtain⟨it,Q,tn,J,H2,e,I2,T,j',f2,W,⟨m0,w0⟩,R⟩:=h2;subst e
 have wd:∀{H':Hp},(∀b∈Q,H' b=none)->∀b∈Q,Oc X O H' b:=λhn b hb=>⟨hn b hb,(f2 b hb).2⟩
 refine codeAny_forLoop_any (λn s'=>∃i B H',Inv X O B H' s'/\tn i s'.heap/\(∀b∈Q,H' b=none)/\W i n B H') ?_ m0 ⟨0,σ,H2,I2,j',λb hb=>(f2 b hb).1,w0⟩;rintro n s3 ⟨i,C,Z,I3,vZ,S,w3⟩
 rcases R i n C Z w3 with⟨U,qn⟩ | ⟨go,N,hN,step⟩
 ·refine GR P (thn (T.done X rfl rfl rfl hc i O s3 C Z X.xe I3 (wd S) vZ U) λr s4 ⟨hr,I4⟩=>?_)
  subst hr;exact Of ⟨C,Z,I4,qn⟩
 ·refine GR P (thn (T.item X rfl rfl rfl hc i O s3 C Z X.xe I3 (wd S) vZ go) λr s4 ⟨u,hr,h4⟩=>?_)
  subst hr;refine GR P (thn h4 λ_ s5 ⟨x,H5,I5,r5,y5,xx,fr5⟩=>?_);have ϕ:=I5.pinned (wd fr5) (T.obj _ _ xx);refine GR P (thn (hg _ s5 C H5 x u _ ϕ r5 (step x H5 y5)) λ_ s6 ⟨σ6,H6,I6,q6⟩=>?_);refine GR P (thn (hb _ s6 σ6 H6 _ I6 q6) λf s7 L=>?_)
  have rP:∀{l:St} {E:Hp},Inv X (O++Sb Q s5.heap) l E s7->N l E->∃m,m < n/\∃i B H',Inv X O B H' s7/\tn i s7.heap/\(∀b∈Q,H' b=none)/\W i m B H':=λ{l E} G Y=>by
   obtain⟨m',hm,w7⟩:=hN l E Y;refine⟨m',hm,i+1,l,E,G.unpinned,T.keep _ _ _ xx λb hb o e=>(G.pin (b,o) (BW _ (BW _ (L9 hb e)))).1,λb hb=>?_,w7⟩;obtain⟨o,e,d⟩:=T.obj _ _ xx b hb;exact(G.pin (b,o) (BW _ (BW _ (L9 hb e)))).2.1
  cases f with
  | next=>obtain⟨l,E,G,Y⟩:=L;exact rP G Y
  | cont=>obtain⟨l,E,G,Y⟩:=L;exact rP G Y
  | brk=>obtain⟨l,E,G,L⟩:=L;exact⟨l,E,G.unpinned,L⟩
  | ret v=>obtain⟨x7,l,E,G,r7,L⟩:=L;exact⟨x7,l,E,G.unpinned,r7,L⟩
end
noncomputable abbrev R2:=V->V->Hp->VK->Prop
noncomputable def OpR(X:Cx)(f:Value->Value->Sem Value)(r:R2):Prop:=
 ∀(l:List (Aa×Obj)) (s:AS) (m:St) (H:Hp) (x y:V) (v u:Value) (Q:VK),Inv X l m H s->RelV x v->RelV y u->r x y H Q ->
  Ao (Ac X.prog X.w) X.A (f v u) (EP X l m Q) X.xe s
noncomputable def UnR(X:Cx)(f:Value->Sem Value)(r:V->Hp->VK->Prop):Prop:=
 ∀(l:List (Aa×Obj)) (s:AS) (m:St) (H:Hp) (x:V) (v:Value) (Q:VK),Inv X l m H s->RelV x v->r x H Q ->
  Ao (Ac X.prog X.w) X.A (f v) (EP X l m Q) X.xe s
noncomputable def LS(X:Cx)(f:Value)(r:List V->Hp->VK->Prop):Prop:=
 ∀(l:List (Aa×Obj)) (s:AS) (m:St) (H:Hp) (o:List V) (B:List Value) (Q:VK),Inv X l m H s->CC o B->r o H Q ->
  Ao (Ac X.prog X.w) X.A (call f B) (EP X l m Q) X.xe s
noncomputable def TruR(X:Cx)(r:V->Hp->(Bool->Hp->Prop)->Prop):Prop:=
 ∀(l:List (Aa×Obj)) (s:AS) (m:St) (H:Hp) (x:V) (v:Value) (Q:Bool->Hp->Prop),Inv X l m H s->RelV x v->r x H Q ->
  Ao (Ac X.prog X.w) X.A (truthy v) (TP X l m Q) X.xe s
noncomputable def tOp(r:R2)(m o:TE):TE:=λl H Q=>m l H λx s=>o l s λy A=>r x y A Q
noncomputable def tUn(r:V->Hp->VK->Prop)(l:TE):TE:=λm H Q=>l m H λx o=>r x o Q
noncomputable def rI(C:Int->Int->Prop)(g:Int->Int->V):R2:=λx y H Q=>∃i j,x=.int i/\y=.int j/\C i j/\Q (g i j) H
noncomputable def rI0(g:Int->Int->V):R2:=λx y H Q=>∃i j,x=.int i/\y=.int j/\Q (g i j) H
noncomputable def rU(g:Int->V):V->Hp->VK->Prop:=λx H Q=>∃i,x=.int i/\Q (g i) H
section
variable{X:Cx}{a b:Expr}{ta tb:TE}{pos:Pos}
theorem qy(J:PE X a ta)(hb:PE X b tb){C:List (Aa×Obj)}{s:AS}{l:St}{H:Hp}{R:V->V->Hp->Prop}(I:Inv X C l H s)
  (h:ta l H λx G=>tb l G λy m=>R x y m) {Q:Value->AS->Prop} {f:Value->Value->Sem Value}
  (L:∀v u E x y m,Inv X C l m E->RelV x v->RelV y u->R x y m->Ao (Ac X.prog X.w) X.A (f v u) Q X.xe E) :
  Ao (Ac X.prog X.w) X.A (Ci a X.env) (λv o=>Ao (Ac X.prog X.w) X.A (Ci b X.env) (λu B=>Ao (Ac X.prog X.w) X.A (f v u) Q X.xe B) X.xe o) X.xe s:=by
 refine thn (J C s l H _ I h) λv N ⟨x,G,O,P,S⟩=>?_
 refine thn (hb C N l G _ O S) λu E ⟨y,m,T,U,Y⟩=>?_
 exact L v u E x y m T P U Y
theorem tM{l:Operator}{r:R2}(ho:OpR X (DR l) r)(m:PE X a ta)(hb:PE X b tb):PE X (.BinOp a l b pos) (tOp r ta tb):=by
 intro o s A H Q I h;exact wpAny_BinOp (qy m hb I h λv u B x y C E G J q=>ho o B A C x y v u Q E G J q)
theorem tK(ho:UnR X (unaryOp o) r)(A:PE X a ta):PE X (.UnaryOp o a pos) (tUn r ta):=by
 intro l s m H Q I h;exact UnaryOp_ (thn (A l s m H _ I h) λv B ⟨x,C,E,G,J⟩=>ho l B m C x v Q E G J)
theorem opI{f:Value->Value->Sem Value}{C:Int->Int->Prop}{g:Int->Int->Int}
  (rule:∀(i j:Int) (t u:Tok) (s:AS) (Q:Value->AS->Prop) (E:Value->AS->Prop),C i j->Q (.int (g i j) s.toks) { s with toks:=s.toks+1 }->Ao (Ac X.prog X.w) X.A (f (.int i t) (.int j u)) Q E s) :
  OpR X f (rI C λi j=>.int (g i j)):=by
 intro G s J H x y v u Q I l m h;obtain⟨i,j,rfl,rfl,o,q⟩:=h;obtain⟨t,rfl⟩:=l;obtain⟨B,rfl⟩:=m;exact rule i j t B s _ _ o ⟨.int (g i j),H,I.tok _,⟨_,rfl⟩,q⟩
theorem pW{f:Value->Value->Sem Value}{g:Int->Int->Int}
  (rule:∀(i j:Int) (t u:Tok) (s:AS) (Q:Value->AS->Prop) (E:Value->AS->Prop),Q (.int (g i j) s.toks) { s with toks:=s.toks+1 }->Ao (Ac X.prog X.w) X.A (f (.int i t) (.int j u)) Q E s) :
  OpR X f (rI0 λi j=>.int (g i j)):=by
 intro B s C H x y v u Q I l m h;obtain⟨i,j,rfl,rfl,q⟩:=h;obtain⟨t,rfl⟩:=l;obtain⟨o,rfl⟩:=m;exact rule i j t o s _ _ ⟨.int (g i j),H,I.tok _,⟨_,rfl⟩,q⟩
theorem ku{f:Value->Value->Sem Value}{g:Int->Int->Bool}
  (rule:∀(i j:Int) (t u:Tok) (s:AS) (Q:Value->AS->Prop) (E:Value->AS->Prop),Q (.bool (g i j)) s->Ao (Ac X.prog X.w) X.A (f (.int i t) (.int j u)) Q E s) :
  OpR X f (rI0 λi j=>.bl (g i j)):=by
 intro B s C H x y v u Q I l m h;obtain⟨i,j,rfl,rfl,q⟩:=h;obtain⟨t,rfl⟩:=l;obtain⟨o,rfl⟩:=m;exact rule i j t o s _ _ ⟨.bl (g i j),H,I,rfl,q⟩
noncomputable def im(i j:Int):Prop:=0 < j/\j < 1073741824
noncomputable def il(i j:Int):Prop:=0<=j/\j<=1000000/\i.natAbs < 2 ^ 64
noncomputable def dD(i j:Int):Prop:=(-(2 ^ 64) < i/\i < 2 ^ 64)∨(-(2 ^ 64) < j/\j < 2 ^ 64)
theorem dD.ok(h:dD i j):IntMulOk i j:=by
 rcases h with⟨l,m⟩ | ⟨l,m⟩
 ·exact .of_left (intBits_le_64 l m)
 ·exact .of_right (intBits_le_64 l m)
theorem Yi(k:Nat):(0:Int)<=2 ^ k:=by
 rw[two_pow_cast];exact Kb _
theorem pV:OpR X (DR .Add) (rI0 λi j=>.int (i+j)):=pW λ_ _ _ _ _ _ _ q=>add_int q
theorem pO:OpR X (DR .Sub) (rI0 λi j=>.int (i - j)):=pW λ_ _ _ _ _ _ _ q=>sub_int q
theorem pR:OpR X (DR .Mult) (rI dD λi j=>.int (i * j)):=opI λ_ _ _ _ _ _ _ l q=>mul_int q l.ok
theorem ko:OpR X (DR .FloorDiv) (rI im λi j=>.int (i / j)):=opI λi j _ _ _ _ _ l q=>by
 have m:(0:Int) < j:=l.1;have o:j < 1073741824:=l.2;exact floordiv_int (by lia) (by rw[VY i (by lia)];exact q) (.inl (PyProof.noPylong_small (by omega)))
theorem pS:OpR X (DR .Mod) (rI (λ_ j=>0 < j) λi j=>.int (i % j)):=opI λi j _ _ _ _ _ l q=>by
 have m:(0:Int) < j:=l;exact mod_int' (by lia) (by rw[Int.fmod_eq_emod_of_nonneg i (by lia)];exact q)
theorem pQ:OpR X (DR .LShift) (rI il λi j=>.int (i * 2 ^ j.toNat)):=opI λ_ _ _ _ _ _ _ l q=>lshift_int_small l.1 l.2.1 l.2.2 q
theorem pP:OpR X (DR .RShift) (rI (λ_ j=>0<=j) λi j=>.int (i / 2 ^ j.toNat)):=opI λi j _ _ _ _ _ l q=>
 rshift_int l (by rw[VY i (Yi _)];exact q)
theorem pU:OpR X (DR .BitAnd) (rI0 λi j=>.int (Bg i j)):=pW λ_ _ _ _ _ _ _ q=>and_int q
theorem unI{f:Value->Sem Value}{g:Int->Int}
  (rule:∀(i:Int) (t:Tok) (s:AS) (Q:Value->AS->Prop) (E:Value->AS->Prop),Q (.int (g i) s.toks) { s with toks:=s.toks+1 }->Ao (Ac X.prog X.w) X.A (f (.int i t)) Q E s) :
  UnR X f (rU λi=>.int (g i)):=by
 intro m s o H x v Q I l h;obtain⟨i,rfl,q⟩:=h;obtain⟨t,rfl⟩:=l;exact rule i t s _ _ ⟨.int (g i),H,I.tok _,⟨_,rfl⟩,q⟩
theorem oC:UnR X (unaryOp .USub) (rU λi=>.int (-i)):=unI λ_ _ _ _ _ q=>neg_int q
end
section
variable{X:Cx}{a b c:Expr}{ta tb tc:TE}{pos:Pos}
theorem qg(I:Inv X l m H s)(q:Q (.bl k) H)(e:k=o):EP X l m Q (.bool o) s:=by
 subst e;exact⟨.bl k,H,I,rfl,q⟩
theorem tP:OpR X (CN .Lt) (rI0 λi j=>.bl (decide (i < j))):=ku λ_ _ _ _ _ _ _ q=>lt_int q
theorem tQ:OpR X (CN .LtE) (rI0 λi j=>.bl (decide (i<=j))):=ku λ_ _ _ _ _ _ _ q=>le_int q
theorem tR:OpR X (CN .Gt) (rI0 λi j=>.bl (decide (j < i))):=ku λ_ _ _ _ _ _ _ q=>gt_int q
theorem tS:OpR X (CN .GtE) (rI0 λi j=>.bl (decide (j<=i))):=ku λ_ _ _ _ _ _ _ q=>ge_int q
theorem kn:OpR X (CN .IsNot) (λx y H Q=>y=.non/\Q (.bl (!decide (x=.non))) H):=by
 intro o s A H x y v u Q I l m h;obtain⟨rfl,q⟩:=h;cases m;refine isnot_none_gen (qg I q ?_)
 cases x <;> first
  | (cases l;rfl)
  | (obtain⟨t,rfl⟩:=l;rfl)
theorem OpR.or(h:OpR X f r)(h':OpR X f B):OpR X f (λx y H Q=>r x y H Q∨B x y H Q):=by
 intro l s m H x y v u Q I o A q
 rcases q with q | q
 ·exact h l s m H x y v u Q I o A q
 ·exact h' l s m H x y v u Q I o A q
theorem DV(b:Expr)(h:l≠.In:=by decide)(m:l≠.NotIn:=by decide):Ct l b=false:=by
 have o:(l==CmpOp.In)=false:=by cases l <;> first | rfl | exact zX rfl h
 have s:(l==CmpOp.NotIn)=false:=by cases l <;> first | rfl | exact zX rfl m
 cases b <;> simp[Ct,o,s]
theorem kg{l:CmpOp}{r:R2}(ho:OpR X (CN l) r)(m:PE X a ta)(hb:PE X b tb)(o:Ct l b=false):PE X (.Compare a [l] [b] pos) (tOp r ta tb):=by
 intro A s B H Q I h;exact wpAny_Compare1 (qy m hb I h λv u C x y E G J L q=>ho A C B E x y v u Q G J L q) o
noncomputable def me(t:TE):TT:=λl H Q=>t l H λx m=>∃k,x=.bl k/\Q k m
theorem kF(ho:OpR X (CN o) r)(A:PE X a ta)(hb:PE X b tb)(B:Ct o b=false):PT X (.Compare a [o] [b] pos) (me (tOp r ta tb)):=by
 intro l s m H Q I h
 refine io (thn (A l s m H _ I h) λv C ⟨x,E,G,J,L⟩=>thn (hb l C m E _ G L) λu N ⟨y,O,P,R,S⟩=>
  thn (ho l N m O x y v u _ P J R S) λc s3 ⟨z,T,U,Y,k,e,Z⟩=>?_) B
 subst e;cases Y;exact Dc ⟨T,U,Z⟩
noncomputable def eu(r o:R2)(ta tb tc:TE):TE:=λl H Q=>ta l H λx s=>tb l s λy A=>r x y A λz m=>∃k,z=.bl k /\
 (if k=true then tc l m λB C=>o y B C Q else Q (.bl false) m)
theorem fQ(ho:OpR X (CN A) r)(J:OpR X (CN l) L)(N:PE X a ta)(hb:PE X b tb)(O:PE X c tc)
  (P:lastMarks [A,l] [b,c]=false:=by with_unfolding_all rfl):PT X (.Compare a [A,l] [b,c] pos) (me (eu r L ta tb tc)):=by
 intro m s o H Q I h
 refine isTrue_chain (thn (N m s o H _ I h) λv R ⟨x,S,T,U,Y⟩=>test_link (thn (hb m R o S _ T Y) λu Z ⟨y,H2,I2,B,q2⟩=>
  thn (ho m Z o H2 x y v u _ I2 U B q2) λd s3 ⟨z,C,E,r3,k,e,G⟩=>?_)) P
 subst e;cases r3;refine Dc ?_
 cases k with
 | false=>
  obtain⟨k',e',q'⟩:=G;cases e';exact ite_ff ⟨C,E,q'⟩
 | true=>
  refine ite_tt (test_last (thn (O m s3 o C _ E G) λw' s4 ⟨z',H4,I4,r4,q4⟩=>thn (J m s4 o H4 y z' u w' _ I4 B r4 q4) λd' s5 ⟨z2,H5,I5,r5,k2,e2,q5⟩=>?_));subst e2;cases r5;exact Dc ⟨H5,I5,q5⟩
noncomputable def rA(K:AG)(x:V)(H:Hp)(k:Bool):Prop:=
 match x with
 | .non=>k=false
 | .bl b=>k=b
 | .int i=>k=(i != 0)
 | .str y=>y.length<=sizeLine/\k=((y.length:Int) != 0)
 | .byt y=>y.size<=sizeLine/\k=((y.size:Int) != 0)
 | .ref p=>(∃l,SqL K H p l/\k = !l.isEmpty)∨(∃l,SqT K H p l/\k = !l.isEmpty)∨∃m,H p=some (.dK m)/\k = !m.isEmpty
 | _=>False
theorem ZO{l:Type}{m:List (l×V)}{vs:List (l×Value)}(r:KV m vs):(!vs.isEmpty) = !m.isEmpty:=by
 cases r <;> rfl
theorem Sx(r:CC xs i'):(!i'.toArray.isEmpty) = !xs.isEmpty:=by
 cases r <;> simp
theorem QK:(sizeLine:Nat) < 2 ^ 63:=by rw[i6];decide
theorem oE:TruR X (λx H Q=>∃k,rA X.K x H k/\Q k H):=by
 intro R s S H x v Q I B h;obtain⟨k,e,q⟩:=h;have T:=QK;have U:sizeLine=16777216:=i6
 cases x with
 | non=>
  cases B;have l:k=false:=e;subst l;exact truthy_none ⟨H,I,q⟩
 | bl b=>
  cases B;have l:k=b:=e;subst l;exact Dc ⟨H,I,q⟩
 | int i=>
  obtain⟨t,rfl⟩:=B;have l:k=(i != 0):=e;subst l;exact PySem.P.truthy_int ⟨H,I,q⟩
 | str y=>
  obtain⟨t,rfl⟩:=B;obtain⟨L,l⟩:y.length<=sizeLine/\k=((y.length:Int) != 0):=e;subst l;exact PySem.P.truthy_str (by lia) ⟨H,I.tok _,q⟩
 | byt y=>
  obtain⟨t,rfl⟩:=B;obtain⟨L,l⟩:y.size<=sizeLine/\k=((y.size:Int) != 0):=e;subst l;exact PySem.W.truthy_bytes (by lia) ⟨H,I.tok _,q⟩
 | ref p=>
  cases B
  have l:(∃A,SqL X.K H p A/\k = !A.isEmpty)∨(∃A,SqT X.K H p A/\k = !A.isEmpty)∨∃C,H p=some (.dK C)/\k = !C.isEmpty:=e
  rcases l with⟨A,E,l⟩ | ⟨A,E,l⟩ | ⟨C,E,l⟩
  ·subst l
   obtain⟨N,r,G,J⟩:=I.list E;have o:=r.length;exact wpAny_truthy_list G.isList (by simp only[Aj];lia) ⟨H,I.tok _,by rw[Sx r];exact q⟩
  ·subst l
   obtain⟨N,r,G,J⟩:=I.tuple E;have o:=r.length;exact truthy_tuple G (by simp only[Aj];lia) ⟨H,I.tok _,by rw[Sx r];exact q⟩
  ·subst l
   obtain⟨J,O,vs,r,m⟩:C.length<=sizeLine/\(p==EJ)=false/\∃vs,KV C vs/\s.heap.DictOf (E0 X.prog X.w) p vs:=I.hok p _ E
   have o:C.length=vs.length:=FR r;exact wpAny_truthy_dict O m (by lia) ⟨H,I.tok _,by rw[ZO r];exact q⟩
 | _=>exact(show False from e).elim
theorem fO(B:PE X a ta)(C:∀l,nI a X.env l=(do let v <-l;rH a.pos;YH [v] (truthy v))) :
  PT X a (λm H Q=>ta m H λx o=>∃k,rA X.K x o k/\Q k o):=by
 intro A s m H Q I h;exact isTrue_plain (thn (B A s m H _ I h) λv E ⟨x,G,J,L,N⟩=>oE A E m G x v Q J L N) (C _)
theorem vals1(r:CC [x] us):∃u,us=[u]/\RelV x u:=by
 cases r with
 | cons l m=>cases m;exact⟨_,rfl,l⟩
theorem vals2(r:CC [x,y] us):∃u w',us=[u,w']/\RelV x u/\RelV y w':=by
 cases r with
 | cons l m=>
  cases m with
  | cons o s=>cases s;exact⟨_,_,rfl,l,o⟩
theorem c9(m:X.calm=true):LS X (.builtin "max") (λxs H Q=>∃i j,xs=[.int i,.int j]/\Q (.int (if j > i then j else i)) H):=by
 intro o s A H xs B Q I r h;obtain⟨i,j,rfl,q⟩:=h;obtain⟨u,C,rfl,⟨t,rfl⟩,⟨E,rfl⟩⟩:=vals2 r
 refine max_two_ints (I.ok.hd m) λG J k=>⟨_,H,I.kept k,?_,q⟩
 by_cases l:j > i
 ·rw[qX l,qX l];exact⟨_,rfl⟩
 ·rw[qY l,qY l];exact⟨_,rfl⟩
theorem c8(m:X.calm=true):LS X (.builtin "min") (λxs H Q=>∃i j,xs=[.int i,.int j]/\Q (.int (if j < i then j else i)) H):=by
 intro o s A H xs B Q I r h;obtain⟨i,j,rfl,q⟩:=h;obtain⟨u,C,rfl,⟨t,rfl⟩,⟨E,rfl⟩⟩:=vals2 r
 refine min_two_ints (I.ok.hd m) λG J k=>⟨_,H,I.kept k,?_,q⟩
 by_cases l:j < i
 ·rw[qX l,qX l];exact⟨_,rfl⟩
 ·rw[qY l,qY l];exact⟨_,rfl⟩
theorem dA:LS X (.type "int") (λxs H Q=>(∃i,xs=[.int i]/\Q (.int i) H)∨∃k,xs=[.bl k]/\Q (.int (if k then 1 else 0)) H):=by
 intro m s o H xs A Q I r h
 rcases h with⟨i,rfl,q⟩ | ⟨k,rfl,q⟩
 ·obtain⟨u,rfl,t,rfl⟩:=vals1 r
  exact call_int_int ⟨.int i,H,I,⟨_,rfl⟩,q⟩
 ·obtain⟨u,rfl,l⟩:=vals1 r
  cases l;exact call_int_bool ⟨.int (if k then 1 else 0),H,I.tok _,⟨_,rfl⟩,q⟩
end
structure Zk(h:DS)(x dx C:Aa)(mA:Str->Option Value):Prop where
 obj:h.get? x=some (El C dx)
 ns:h.Ns1 dx mA
 ne:dx≠x
theorem cQ{h:DS}{l:Aa}{m:Str->Option Value}(n:h.Ns1 l m):∃s,h.get? l=some s/\∀name,Mq name s=some (m name):=by
 obtain⟨o,A,L,B,C,E,_,G⟩:=n;refine⟨o,B,λname=>?_⟩;have e:=G name;unfold nsFind findBy at e;rw[<-Array.find?_toList]at e;unfold Mq;rw[C];dsimp only;split
 ·rename_i y q
  rw[q]at e;exact congrArg some e
 ·rename_i q
  rw[q]at e
  have a:A.toList.any (·.refKey)=false:=by
   rw[dZ];intro y H;obtain⟨z,t,I⟩:=E y (BZ.mp H);simp[Qh.refKey,I]
  have J:¬A.toList.any (·.refKey)=true:=by rw[a];exact AH
  rw[qY J];exact congrArg some e
theorem Zk.look{h}{x m C}{o}(I:Zk h x m C o):∃l,PySem.W.InstAt h x (El C m) C (some l)/\∀name,Mq name l=some (o name):=
 let ⟨l,s,A⟩:=cQ I.ns
 ⟨l,⟨I.obj,rfl,rfl,s⟩,A⟩
section
variable{prog:Bs}{w:CQ}{A:Ce}{E:Value->AS->Prop}{s:AS}{K:AG}{x dx C f:Aa}{mA:Str->Option Value}{name:Str}{v:Value}
theorem lQ(X:K.In s.heap)(I:Zk s.heap x dx C mA)(l:K9 K C name=true)(m:On K C=true)
  (o:EK K (.ref C) name=some none) (B:mA name=some v) (G:bP v=true) (h:Q v { s with toks:=s.toks+1 }) :
  Ao (Ac prog w) A (getAttr (.ref x) name expr) Q E s:=by
 obtain⟨L,J,H⟩:=I.look;exact PySem.W.get_value X J (Nu l).1 (PySem.W.findObj_own m o rfl (by rw[H,B])) G h
theorem gx(X:K.In s.heap)(I:Zk s.heap x dx C mA)(l:K9 K C name=true)
  (m:EK K (.ref C) name=some (some (.ref f))) (o:VQ K (.ref f)=true) (B:mA name=none) (h:Q (.ref f,[.ref x]) s) :
  Ao (Ac prog w) A (dE (.ref x) name pl) Q E s:=by
 obtain⟨G,J,H⟩:=I.look;exact PySem.W.method_fn X J (Nu l).1 (Nu l).2 m (beq_iff_eq.mp o) (by show(Mq name G).map (·.isSome)=some false;rw[H,B];rfl) h
theorem j7(X:K.In s.heap)(I:Zk s.heap x dx C mA)
  (H:EK K (.ref C) "__setattr__" = some (some (.builtin "object.__setattr__"))) (L:Zm K C=true) (N:Qx K C name=some none) (O:On K C=true)
  (hw:Wu mA ns) (hsz:ns.length<=sizeLine)
  (h:∀h',Zk h' x dx C (λy=>if y=name then some v else mA y)->FK dx s.heap h'->Q () { s with heap:=h',toks:=s.toks+2 }) :
  Ao (Ac prog w) A (setAttr (.ref x) name v) Q E s:=by
 obtain⟨Y,J,Z⟩:=I.look;refine PySem.W.set_plain X J H (PySem.W.osa_open (s:={ s with toks:=s.toks+1 }) (r:=none) X J L N λb=>?_);obtain⟨cd,P,R⟩:=PySem.W.any_some O;have S:s.heap.get? x=some ⟨.ref C,some dx,.plain,#[]⟩:=I.obj;refine AB (AL (AB (AB (wpAny_loadPart S (AB (rm (s:={ s with toks:=s.toks+1 }) (PySem.W.looks_clsIn X P) ?_))))));rw[R];refine AL (a:=some dx) (AB (AL (AB ?_)))
 refine wpAny_nsSet1 (s:={ s with toks:=s.toks+1 }) I.ns λh' B G=>?_
 obtain⟨oD,T,U,l,m,o⟩:=B.count (uj name v hw);refine AB (wpAny_lookBehind l (by rw[m];exact pastItsLine_dict (Au o (by rw[At];lia))) ?_);exact AL (h _ ⟨(G.2 _ (Ch I.ne)).trans I.obj,B,I.ne⟩ G)
theorem gV(X:K.In s.heap)(o:dH K C=true)
  (hi:EK K (.ref C) "__init__" = some (some (.ref f))) (B:PySem.W.typeIn K (.ref f)=some (.type "function"))
  (h:OF (Ac prog w) (A.under (.builtin "type.__call__" ⟨.ref C :: vs,m⟩)) (.call (.ref f) ⟨.ref (s.heap.objs.size+1) :: vs,m⟩) (PySem.W.InitBack (s.heap.objs.size+1) R)
   { s with heap:=(s.heap.push DK).push (El C s.heap.objs.size) }) :
  OF (Ac prog w) A (.call (.ref C) ⟨vs,m⟩) R s:=by
 obtain⟨G,g,d,t,os⟩:=s;exact PySem.W.make_core (PySem.W.makes_of X o) (PySem.W.looks_findIn X hi) (λl=>PySem.W.bind_fn X l B) (.inl rfl) h
end
noncomputable def putF(f:Str)(v:V):List (Str×V)->List (Str×V)
 | []=>[(f,v)]
 | (g,x) :: r=>if g=f then(g,v) :: r else(g,x) :: putF f v r
theorem Qs(f g:Str)(v:V):∀fs:List (Str×V),(putF f v fs).lookup g=if g=f then some v else fs.lookup g
 | []=>by
  show JG g [(f,v)]=_
  by_cases h:g=f
  ·have hb:(g==f)=true:=beq_iff_eq.mpr h
   simp only[JG,hb,qX h]
  ·have hb:(g==f)=false:=beq_eq_false_iff_ne.mpr h
   simp only[JG,hb,qY h]
 | (k,x) :: r=>by
  have m:=Qs f g v r;rw[show putF f v ((k,x) :: r)=(if k=f then(k,v) :: r else(k,x) :: putF f v r)from rfl]
  by_cases l:k=f
  ·rw[qX l]
   by_cases h:g=k
   ·have hb:(g==k)=true:=beq_iff_eq.mpr h
    simp only[JG,hb,qX (h.trans l)]
   ·have hb:(g==k)=false:=beq_eq_false_iff_ne.mpr h
    simp only[JG,hb,qY (λe:g=f=>h (e.trans l.symm))]
  ·rw[qY l]
   by_cases h:g=k
   ·have hb:(g==k)=true:=beq_iff_eq.mpr h
    simp only[JG,hb,qY (λe:g=f=>l (h.symm.trans e))]
   ·have hb:(g==k)=false:=beq_eq_false_iff_ne.mpr h
    simp only[JG,hb];exact m
theorem QM(f:Str)(v:V):∀fs:List (Str×V),f∈(putF f v fs).map (·.1)/\∀g,g∈fs.map (·.1)->g∈(putF f v fs).map (·.1)
 | []=>⟨by simp[putF],λg h=>by simp at h⟩
 | (k,x) :: r=>by
  obtain⟨m,o⟩:=QM f v r;rw[show putF f v ((k,x) :: r)=(if k=f then(k,v) :: r else(k,x) :: putF f v r)from rfl]
  by_cases l:k=f
  ·rw[qX l]
   subst l;exact⟨by simp,λg h=>by simpa using h⟩
  ·rw[qY l]
   refine⟨?_,λg h=>?_⟩
   ·rw[BA]
    exact AN _ m
   ·rw[BA]at h ⊢
    rcases Ae.mp h with e | e
    ·exact Ae.mpr (.inl e)
    ·exact AN _ (o g e)
theorem Qu(f:Str)(v:V):∀fs:List (Str×V),(putF f v fs).length<=fs.length+1
 | []=>by simp[putF]
 | (k,x) :: r=>by
  have m:=Qu f v r;rw[show putF f v ((k,x) :: r)=(if k=f then(k,v) :: r else(k,x) :: putF f v r)from rfl]
  by_cases l:k=f
  ·rw[qX l,At,At];lia
  ·rw[qY l,At,At];lia
theorem N1.some_of(r:N1 (some v) o):∃u,o=some u/\RelV v u:=by
 cases o with
 | none=>exact(show False from r).elim
 | some u=>exact⟨u,rfl,r⟩
theorem N1.none_of(r:N1 none o):o=none:=by
 cases o with
 | none=>rfl
 | some u=>exact(show False from r).elim
theorem cY(r:RelV v u):bP u=true:=by
 cases v with
 | non=>cases(show u=Ed from r);rfl
 | bl b=>cases(show u=D0 b from r);rfl
 | int i=>obtain⟨t,e⟩:=(show ∃t,u=Wm i t from r);cases e;rfl
 | str x=>obtain⟨t,e⟩:=(show ∃t,u=Wl x t from r);cases e;rfl
 | byt b=>obtain⟨t,e⟩:=(show ∃t,u=rW b t from r);cases e;rfl
 | flt b=>obtain⟨t,e⟩:=(show ∃t,u=rT b t from r);cases e;rfl
 | ref a=>cases(show u=Ba a from r);rfl
 | ty n=>cases(show u=Dz n from r);rfl
section
variable{P:Bs}{w:CQ}{H:Hp}{h:DS}{a C dx:Aa}{fs:List (Str×V)}
theorem WG(m:HOk P w H h)(e:H a=some (.ins C dx fs)):∃l,Zk h a dx C l/\(∀f,N1 (fs.lookup f) (l f))/\Wu l (fs.map (·.1))/\fs.length<=1000/\H dx=some (.own a):=by
 obtain⟨d,z,o,s,l,n,r,q⟩:=(show Dj P w H h a (.ins C dx fs)from m a _ e);exact⟨l,⟨s,n,o⟩,r,q,z,d⟩
end
structure Cls(K:AG)(C:Aa):Prop where
 pg:K9 K C Str.empty=true
 hd:On K C=true
 po:Zm K C=true
 sa:EK K (.ref C) "__setattr__" = some (some (.builtin "object.__setattr__"))
theorem Cls.get{K}{C}(c:Cls K C)(f:Str):K9 K C f=true:=c.pg
noncomputable def FY(K:AG)(C:Aa)(f:Str):Prop:=EK K (.ref C) f=some none
theorem FY.taker{K}{C}{f}(n:FY K C f):Qx K C f=some none:=by
 unfold Qx;rw[show EK K (.ref C) f=some none from n];rfl
structure Wg(K:AG)(C:Aa)(m:Str)(f:Aa):Prop where
 at_:EK K (.ref C) m=some (some (.ref f))
 fn:VQ K (.ref f)=true
 kp:Fs K (.ref f)=true
section
variable{X:Cx}{ζ:List (Aa×Obj)}{σ:St}{H:Hp}{s:AS}{a C dx:Aa}{fs:List (Str×V)}{f:Str}{v:V}{A:Ce}{E:Value->AS->Prop}
theorem ZS(I:Inv X ζ σ H s)(e:H a=some (.ins C dx fs))(c:Cls X.K C)(n:FY X.K C f)(l:fs.lookup f=some v)
  (h:∀u s',Inv X ζ σ H s'->RelV v u->Q u s'):Ao (Ac X.prog X.w) A (getAttr (.ref a) f b) Q E s:=by
 obtain⟨B,O,r,_,_,_⟩:=WG I.hok e;obtain⟨u,G,m⟩:=N1.some_of (v:=v) (o:=B f) (by rw[<-l];exact r f);exact lQ I.kIn O (c.get f) c.hd n G (cY m) (h u _ (I.tok _) m)
theorem ZR(I:Inv X ζ σ H s)(e:H a=some (.ins C dx fs))(c:Cls X.K C)(k:Wg X.K C m g)(l:fs.lookup m=none)
  (h:Q (.ref g,[.ref a]) s):Ao (Ac X.prog X.w) A (dE (.ref a) m pl) Q E s:=by
 obtain⟨o,O,r,_,_,_⟩:=WG I.hok e;have B:o m=none:=N1.none_of (by rw[<-l];exact r m);exact gx I.kIn O (c.get m) k.at_ k.fn B h
theorem Yx(I:Inv X ζ σ H s)(e:H a=some (.ins C dx fs))(c:Cls X.K C)(n:FY X.K C f)(U:fs.length < 1000)(J:RelV y u)
  (h:∀s',Inv X ζ σ (upd H a (.ins C dx (putF f y fs))) s'->Q () s'):Ao (Ac X.prog X.w) A (setAttr (.ref a) f u) Q E s:=by
 obtain⟨m,O,r,B,_,G⟩:=WG I.hok e
 have L:(fs.map (·.1)).length<=sizeLine:=by rw[AD,i6];lia
 refine j7 I.kIn O c.sa c.po n.taker c.hd B L λN l P=>h _ ?_
 have R:∃o,N.get? dx=some o:=let ⟨o,_,_,S,_⟩:=l.ns;⟨o,S⟩
 refine I.write (x:=a) (e:=dx) (by rw[e];exact Ml) (.inr G) (λb q hb z=>(P.2 b hb).trans z) R ?_;refine⟨by rw[Bo O.ne];exact G,?_,O.ne,l.obj,_,l.ns,λg=>?_,λg T=>?_⟩
 ·have:=Qu f y fs;lia
 ·show N1 ((putF f y fs).lookup g) (if g=f then some u else m g)
  rw[Qs]
  by_cases q:g=f
  ·rw[qX q,qX q];exact J
  ·rw[qY q,qY q];exact r g
 ·by_cases q:g=f
  ·rw[q];exact(QM f y fs).1
  ·refine(QM f y fs).2 g (B g λz=>T ?_)
   show(if g=f then some u else m g)=none;rw[qY q];exact z
theorem Inv.made(I:Inv X ζ σ H s):Inv X ζ σ (upd (upd H s.heap.objs.size (.own (s.heap.objs.size+1))) (s.heap.objs.size+1) (.ins C s.heap.objs.size []))
  { s with heap:=(s.heap.push DK).push (El C s.heap.objs.size) }:=by
 have l:(s.heap.push DK).get? s.heap.objs.size=some DK:=An s.heap rfl
 have B:((s.heap.push DK).push (El C s.heap.objs.size)).get? (s.heap.objs.size+1)=some (El C s.heap.objs.size):=by
  have:=An (s.heap.push DK) (o:=El C s.heap.objs.size) rfl;rwa [E9]at this
 have G:(s.heap.push DK).Ns s.heap.objs.size (λ_=>none):=⟨DK,#[],_,l,rfl,(λe J=>zX J (by simp)),λ_=>rfl⟩;have L:=I.laid (a:=s.heap.objs.size) (o:=.own (s.heap.objs.size+1)) (h':=s.heap.push DK) (t':=s.toks) (λb u q=>AO _ q) (AJ _) ⟨_,l⟩;refine L.laid (a:=s.heap.objs.size+1) (o:=.ins C s.heap.objs.size []) (t':=s.toks) (λb u q=>AO _ q) (rq (E9 _ _)) ?_;have m:s.heap.objs.size≠s.heap.objs.size+1:=BJ (Dm _);refine⟨by rw[Bo m,CA],Cw _,m,B,λ_=>none,(DS.Ns1.of_empty G).at λo q=>AO _ q,λ_=>Ml,λy N=>zX rfl N⟩
theorem mD(hb:GZ e f env (Ci e env)=Ci e env)
  (h:Ao (Ac prog w) A (Ci e env) (λo l=>Ao (Ac prog w) A (getAttr o f true) Q E l) E s):Ao (Ac prog w) A (Ci (.Attribute e f pos) env) Q E s:=
 Attribute_any_ h (by rw[arm_eval_Attribute,hb])
end
noncomputable def tFld(K:AG)(m:TE)(f:Str):TE:=λo H Q=>m o H λx l=>∃a C s fs v,x=.ref a/\l a=some (.ins C s fs)/\Cls K C/\FY K C f/\fs.lookup f=some v/\Q v l
noncomputable def sFld(K:AG)(s A:TE)(f:Str):TS:=λD l H=>A l H λy B=>s l B λx m=>∃a C o fs,x=.ref a/\m a=some (.ins C o fs)/\Cls K C/\FY K C f/\fs.length < 1000 /\
 D.nx l (upd m a (.ins C o (putF f y fs)))
section
variable{X:Cx}{o e value:Expr}{f:Str}{pos pos':Pos}{ta tv:TE}
theorem pJ(m:PE X e ta)(hb:GZ e f X.env (Ci e X.env)=Ci e X.env):PE X (.Attribute e f pos) (tFld X.K ta f):=by
 intro A s B H Q I h;refine mD hb (thn (m A s B H _ I h) λu P ⟨x,E,G,J,a,C,R,fs,v,ex,L,c,n,l,q⟩=>?_);subst ex;obtain rfl:u=Ba a:=J
 exact ZS G L c n l λS T N O=>⟨v,E,N,O,q⟩
theorem ou(B:PE X o ta)(E:PE X value tv)(G:G9 value (some (.Attribute o f pos')) pos.line X.env=pure false):PS X (.Assign [.Attribute o f pos'] value pos) (sFld X.K ta tv f):=by
 intro A s m H D I h;refine plainObj_wpAny_Assign_Attribute (thn (E A s m H _ I h) λu J ⟨y,L,N,O,q⟩=>thn (B A J m L _ N q) λP Y ⟨x,Z,Q,R,a,C,dx,fs,ex,S,c,n,l,T⟩=>?_) G;subst ex;obtain rfl:P=Ba a:=R
 exact Yx Q S c n l O λs3 U=>⟨m,_,U,T⟩
end
structure Ht(k:Nat)(A:Ce):Prop where
 hd:A.handled=none
 dp:A.depth+3 * k+5 < recursionLimit
 un:A.units+16 * k+200 < Fj
theorem Ht.mono(r:Ht k A)(h:j<=k):Ht j A:=⟨r.hd,by have:=r.dp;lia,by have:=r.un;lia⟩
theorem Ht.deeper(r:Ht (k+1) A)(env:Env):Ht k (A.deeper env):=
 ⟨r.hd,by have:=r.dp;show A.depth+1+3 * k+5 < _;lia,by have:=r.un;show A.units+3+16 * k+200 < _;lia⟩
theorem ZG{A:Ce}{C:Aa}{us:List Value}{l:List (Str×Value)}:(A.under (.builtin "type.__call__" ⟨.ref C :: us,l⟩)).depth=A.depth+1:=by
 first | rfl | simp[Wr,Code.weight,Code.isCreation,Code.isGuard,Code.isCaller,sH,YO,guardIds]
theorem ZF{A:Ce}{C:Aa}{us:List Value}{l:List (Str×Value)}:(A.under (.builtin "type.__call__" ⟨.ref C :: us,l⟩)).units=A.units+1:=by
 first | rfl | simp[Wr,Code.cUnits,sH,YO]
theorem Ht.make{k}{A}(r:Ht (k+1) A)(C:Aa)(us:List Value)(l:List (Str×Value)):Ht k (A.under (.builtin "type.__call__" ⟨.ref C :: us,l⟩)):=
 ⟨r.hd,by have:=r.dp;rw[ZG];lia,by have:=r.un;rw[ZF];lia⟩
theorem Ht.depth(r:Ht k A):A.depth < recursionLimit:=by have:=r.dp;lia
theorem Ht.units(r:Ht k A):A.units+64 < Fj:=by have:=r.un;lia
noncomputable def tNil:TA:=λ_ H Q=>Q [] H
noncomputable def sg(m:TE)(o:TA):TA:=λl H Q=>m l H λx s=>o l s λA B=>Q (x :: A) B
section
variable{X:Cx}{e:Expr}{es:List Expr}{te:TE}{t:TA}{pos:Pos}
theorem JA:PA X [] tNil:=λ_ _ _ _ H Q I h=>Calls.spliced_nil ⟨[],H,I,.nil,h⟩
theorem Gy(o:PE X e te)(A:PA X es t)(B:Ag (e :: es) X.env=(false,Ci e X.env) :: Ag es X.env:=by rfl):PA X (e :: es) (sg te t):=by
 intro pos l s m H Q I h;rw[B];show Ao _ _ (spliced ((false,Ci e X.env) :: FB pos (Ag es X.env))) _ _ s;refine Calls.spliced_cons (thn (o l s m H _ I h) λu C ⟨x,E,G,J,L⟩=>?_)
 exact thn (A pos l C m E _ G L) λT U ⟨N,O,P,R,S⟩=>⟨x :: N,O,P,.cons J R,S⟩
noncomputable def tTup(t:TA):TE:=λo H Q=>t o H λl m=>l.length<=sizeLine/\∀p,m p=none->Q (.ref p) (upd m p (.tup l))
noncomputable def tLst(t:TA):TE:=λo H Q=>t o H λl m=>l.length<=sizeLine/\∀p,m p=none->Q (.ref p) (upd m p (.lst l))
theorem pC{A}(h:PA X es t):PE X (.Tuple es A pos) (tTup t):=by
 intro B s C H Q I E;refine wpAny_Tuple_spliced (thn (h pos B s C H _ I E) λG l ⟨J,m,o,r,z,q⟩=>⟨by rw[<-r.length];exact z,?_⟩);have L:m l.heap.objs.size=none:=o.hok.fresh (AJ _);refine⟨.ref l.heap.objs.size,upd m l.heap.objs.size (.tup J),o.laid (t':=l.toks) (λb u e=>AO _ e) (AJ _) ?_,rfl,q _ L⟩;exact⟨⟨z,⟨_,An _ rfl,rfl⟩⟩,G,r,⟨_,An _ rfl,rfl,_,rfl⟩⟩
theorem pH(h:PA X es t):PE X (.List es pos) (tLst t):=by
 intro A s B H Q I C;refine wpAny_List_spliced (thn (h pos A s B H _ I C) λE l ⟨G,m,o,r,z,q⟩=>⟨by rw[<-r.length];exact z,?_⟩);have J:m l.heap.objs.size=none:=o.hok.fresh (AJ _);refine⟨.ref l.heap.objs.size,upd m l.heap.objs.size (.lst G),o.laid (t':=l.toks) (λb u e=>AO _ e) (AJ _) ?_,rfl,q _ J⟩;exact⟨z,E,0,r,An _ rfl⟩
end
noncomputable abbrev Sp:=List V->Hp->VK->XK->Prop
noncomputable abbrev CXT:=List Env->Hp->AS->XK->Value->AS->Prop
structure Zl(P:Bs)(w:CQ)(K:AG)(mg:Str->Option Value)(base:DS)(A:Ce)(outer:List Env)(s:AS)(H:Hp):Prop where
 frames:A.frames=some outer
 mod:Mod K mg base
 bs:∀b o,base.get? b=some o->s.heap.get? b=some o/\H b=none
 bsz:base.objs.size<=s.heap.objs.size
 funs:s.heap.FunFrames base outer
 frf:∀b∈frs outer,H b=none
 hok:HOk P w H s.heap
 bare:LD s.gens
noncomputable def CE(l:List Env)(P:Bs)(w:CQ)(H:Hp)(s:AS)(Q:VK)(u:Value)(s':AS):Prop:=
 ∃v m,s'.os=s.os/\LD s'.gens/\Un (frs l) [] H m s.heap s'.heap/\HOk P w m s'.heap/\RelV v u/\Q v m
noncomputable def CR(CX:CXT)(l:List Env)(P:Bs)(w:CQ)(H:Hp)(s:AS)(Q:VK)(E:XK)(r:Result)(s':AS):Prop:=
 match r with
 | .ok (.ret u)=>CE l P w H s Q u s'
 | .ok _=>False
 | .error e=>CX l H s E e s'
structure DD(P:Bs)(w:CQ)(K:AG)(mg:Str->Option Value)(base:DS)(CX:CXT)(k:Nat)(f:Aa)(fd:Ld)(ps:List Str)(sp:Sp):Prop where
 len:∀vs H Q E,sp vs H Q E->vs.length=ps.length
 run:∀(A:Ce) (outer:List Env) (s:AS) (H:Hp) (args:Args) (us:List Value) (vs:List V) (Q:VK) (E:XK),Ht k A->Zl P w K mg base A outer s H->YQ s fd args (ps.zip us)->CC vs us->sp vs H Q E ->
  OF (Ac P w) A (.call (.ref f) args) (CR CX outer P w H s Q E) s
theorem DD.imp{P}{w}{K}{o}{base}{CX}{k}{f}{fd}{ps}{sp sp'}(F:DD P w K o base CX k f fd ps sp)
  (h:∀vs H Q E,sp' vs H Q E->sp vs H Q E):DD P w K o base CX k f fd ps sp':=
 ⟨λvs H Q E q=>F.len vs H Q E (h _ _ _ _ q),λA l s H m B vs Q E C G hb I J=>F.run A l s H m B vs Q E C G hb I (h _ _ _ _ J)⟩
theorem Zl.make{P}{w}{K}{m}{base}{A}{l}{s}{H}(e:Zl P w K m base A l s H)(C:Aa)(us:List Value)(o:List (Str×Value)) :
  Zl P w K m base (A.under (.builtin "type.__call__" ⟨.ref C :: us,o⟩)) l s H:=⟨by first | exact e.frames | (simpa[Wr,Code.envs,YO,pushEnvs]using e.frames),e.mod,e.bs,e.bsz,e.funs,e.frf,e.hok,e.bare⟩
section
variable{X:Cx}{ζ:List (Aa×Obj)}{σ:St}{H:Hp}{s s':AS}
theorem Inv.env0(I:Inv X ζ σ H s):Zl X.prog X.w X.K X.mg X.base X.A X.stack s H:=
 ⟨I.ok.frames,I.ok.mod,I.bs,Au I.ok.bsz I.sz,I.stack,I.stkFree,I.hok,I.bare⟩
theorem Inv.after(I:Inv X ζ σ H s)(h:CE X.stack X.prog X.w H s Q u s'):EP X ζ σ Q u s':=by
 obtain⟨v,A,os,l,un,m,r,q⟩:=h;obtain⟨B,g,d,t,o⟩:=s';obtain rfl:o=s.os:=os;exact⟨v,A,I.call (h':=B) (g':=g) (d':=d) (t':=t) (ch:=[]) un m l (λb z=>zX z (by simp)),r,q⟩
end
noncomputable def sh(sp:Sp)(m:List V)(E:St->XK)(t:TA):TE:=λl H Q=>t l H λo s=>sp (o++m) s Q (E l)
noncomputable def mf(C:Aa)(m:Str)(sp:Sp)(s:List V)(E:St->XK)(A:TE)(t:TA):TE:=λl H Q=>A l H λx o=>∃a B fs,x=.ref a/\o a=some (.ins C B fs)/\fs.lookup m=none /\
 t l o λG I=>sp (x :: (G++s)) I Q (E l)
noncomputable def sZ(C:Aa)(sp:Sp)(s:List V)(E:St->XK)(t:TA):TE:=λo H Q=>t o H λA m=>∀x l,m x=none->m l=none->l≠x ->
 sp (.ref x :: (A++s)) (upd (upd m l (.own x)) x (.ins C l [])) (λv B=>v=.non/\Q (.ref x) B) (E o)
noncomputable def Binds(K:AG)(fd:Ld)(ps:List Str)(ds:List Value):Prop:=
 ∀(s:AS) (l:List Value),K.In s.heap->(l++ds).length=ps.length->YQ s fd ⟨l,[]⟩ (ps.zip (l++ds))
theorem Binds.all{K}{fd}{ps}(h:∀us:List Value,us.length=ps.length->jA fd ⟨us,[]⟩=pure (ps.zip us)):Binds K fd ps []:=λs us _ l=>by
 rw[CB]at l ⊢;exact .of_eq (h us l)
noncomputable def MQ(CX:CXT)(X:Cx)(E:St->XK):Prop:=∀(o:List (Aa×Obj)) (l:St) (H:Hp) (s:AS) (e:Value) (m:AS),Inv X o l H s->CX X.stack H s (E l) e m->X.xe e m
section
variable{X:Cx}{k:Nat}{f C:Aa}{fd:Ld}{ps:List Str}{sp:Sp}{E:St->XK}{x m:Str}{p pos apos:Pos}{e o:Expr}{es:List Expr}{ta:TE}{t:TA}
theorem fJ(F:DD X.prog X.w X.K X.mg X.base CX k f fd ps sp)(N:Ht k X.A)(hb:Binds X.K fd ps ds)(O:CC G ds)(P:MQ CX X E)
  (I:Inv X J B H s) (r:CC vs us) (h:sp (vs++G) H Q (E B)):Ao (Ac X.prog X.w) X.A (call (.ref f) us) (EP X J B Q) X.xe s:=by
 have L:CC (vs++G) (us++ds):=r.append O
 have R:(us++ds).length=ps.length:=by rw[<-L.length];exact F.len _ _ _ _ h
 refine wpAny_call (Tp (F.run X.A X.stack s H ⟨us,[]⟩ (us++ds) (vs++G) Q (E B) N I.env0 (hb s us I.kIn R) L h) λr S l=>?_)
 cases r with
 | error e=>exact P J B H s e S I l
 | ok T=>
  cases T with
  | ret u=>exact I.after l
  | next=>exact Ey l
  | brk=>exact Ey l
  | cont=>exact Ey l
theorem kh(F:DD X.prog X.w X.K X.mg X.base CX k f fd ps sp)(B:Ht k X.A)(G:Gl X x)(J:X.mg x=some (.ref f))(L:Fs X.K (.ref f)=true)(hb:Binds X.K fd ps ds)(N:CC O ds)(P:MQ CX X E)
  (R:PA X (e :: es) t) (S:(x==("__debug__" : Str))=false:=by decide) (T:Ag (e :: es) X.env=(false,Ci e X.env) :: Ag es X.env:=by rfl) (U:(FB pos (Ag es X.env)).any (·.1)=false:=by rfl) :
  PE X (.Call (.Name x p) (e :: es) [] pos) (sh sp O E t):=by
 intro Y s Z H Q I h;refine IA (WD I G J ?_ S);refine OG (h₀:=X.base) I.ok.mod.kin L (thn (R pos Y s Z H _ I h) λus s1 ⟨vs,H1,l,r,q⟩=>⟨l.kIn,?_⟩) T U;exact fJ F B hb N P l r q
theorem ka(P:PE X o ta)(c:Cls X.K C)(B:Wg X.K C m f)(F:DD X.prog X.w X.K X.mg X.base CX k f fd ps sp)(R:Ht k X.A)(hb:Binds X.K fd ps ds)(S:CC T ds)(U:MQ CX X E)(Y:PA X (e :: es) t)
  (Z:Ag (e :: es) X.env=(false,Ci e X.env) :: Ag es X.env:=by rfl) (vB:(FB pos (Ag es X.env)).any (·.1)=false:=by rfl)
  (ht:Ci (.Call (.Attribute o m apos) (e :: es) [] pos) X.env=(do
   let G <-Ci o X.env
   rH apos.atName
   let (f,fts) <-YH [G] (dE G m pl)
   callWith pos f fts (FB pos (Ag (e :: es) X.env)) (YU pos (Pn [] X.env))):=by rfl) :
  PE X (.Call (.Attribute o m apos) (e :: es) [] pos) (mf C m sp T E ta t):=by
 intro J s L H Q I h;refine PySem.W.methodCall_KW (pl:=pl) (thn (P J s L H _ I h) λu s1 ⟨x,H1,N,rx,a,dx,fs,ex,ea,l,q⟩=>?_) ht;subst ex;obtain rfl:u=Ba a:=rx;refine ZR N ea c B l ?_;refine OG (first:=[.ref a]) (h₀:=X.base) I.ok.mod.kin B.kp (thn (Y pos J s1 L H1 _ N q) λus s2 ⟨vs,H2,O,r,q2⟩=>⟨O.kIn,?_⟩) Z vB;exact fJ (us:=.ref a :: us) (vs:=.ref a :: vs) F R hb S U O (.cons rfl r) q2
structure Mk(K:AG)(C f:Aa):Prop where
 makes:dH K C=true
 init:EK K (.ref C) "__init__" = some (some (.ref f))
 fn:VQ K (.ref f)=true
 kp:Fs K (.ref C)=true
theorem fI(M:Mk X.K C f)(F:DD X.prog X.w X.K X.mg X.base CX k f fd ps sp)(R:Ht (k+1) X.A)(hb:Binds X.K fd ps ds)(S:CC L ds)
  (T:MQ CX X E) (I:Inv X N B H s) (r:CC vs us)
  (h:∀x G,H x=none->H G=none->G≠x->sp (.ref x :: (vs++L)) (upd (upd H G (.own x)) x (.ins C G [])) (λv U=>v=.non/\Q (.ref x) U) (E B)) :
  Ao (Ac X.prog X.w) X.A (call (.ref C) us) (EP X N B Q) X.xe s:=by
 have O:=h (s.heap.objs.size+1) s.heap.objs.size (I.hok.fresh (OH _)) (I.hok.fresh (AJ _)) (BJ (Dm _));have J:=Inv.made (C:=C) I;have P:CC (V.ref (s.heap.objs.size+1) :: (vs++L)) (Ba (s.heap.objs.size+1) :: (us++ds)):=.cons rfl (r.append S)
 have Y:(Ba (s.heap.objs.size+1) :: us++ds).length=ps.length:=by
  have e:=P.length;rw[F.len _ _ _ _ O]at e;exact e.symm
 refine wpAny_call (gV (f:=f) I.kIn M.makes M.init (beq_iff_eq.mp M.fn) (Tp (F.run _ X.stack _ _ ⟨Ba (s.heap.objs.size+1) :: us,[]⟩ (Ba (s.heap.objs.size+1) :: (us++ds)) _ _ (E B) (R.make C us [])
  (J.env0.make C us []) (hb _ (Ba (s.heap.objs.size+1) :: us) J.kIn Y) P O) λr Z l=>?_))
 cases r with
 | error e=>exact T N B _ _ e Z J l
 | ok fl=>
  cases fl with
  | ret u=>
   obtain⟨v,H',I3,rv,ev,q3⟩:=J.after l;subst ev;exact⟨rv,⟨V.ref (s.heap.objs.size+1),H',I3,rfl,q3⟩⟩
  | next=>exact Ey l
  | brk=>exact Ey l
  | cont=>exact Ey l
theorem kb(M:Mk X.K C f)(F:DD X.prog X.w X.K X.mg X.base CX k f fd ps sp)(B:Ht (k+1) X.A)(G:Gl X x)(J:X.mg x=some (.ref C))(hb:Binds X.K fd ps ds)(L:CC N ds)(O:MQ CX X E)
  (P:PA X (e :: es) t) (R:(x==("__debug__" : Str))=false:=by decide) (S:Ag (e :: es) X.env=(false,Ci e X.env) :: Ag es X.env:=by rfl) (T:(FB pos (Ag es X.env)).any (·.1)=false:=by rfl) :
  PE X (.Call (.Name x p) (e :: es) [] pos) (sZ C sp N E t):=by
 intro U s Y H Q I h;refine IA (WD I G J ?_ R);refine OG (h₀:=X.base) I.ok.mod.kin M.kp (thn (P pos U s Y H _ I h) λZ s1 ⟨vs,H1,l,r,q⟩=>⟨l.kIn,?_⟩) S T;exact fI M F B hb L O l r q
end
structure Bk(N P:List Str)(sc:Tr):Prop where
 kind:sc.kind=.function
 co:sc.isCoroutine=false
 gen:sc.isGenerator=false
 nd:N.Nodup
 pre:N.take P.length=P
 par:∀x∈P,sc.names.lookup x=some .local∨sc.names.lookup x=some .cell
 nofree:∀y∈sc.names,y.2≠.free
theorem U9{kindOf}{x}:∀{binds:List (Str×Value)} {m:Str->Option Value},(∀v,(x,v)∉binds)->dF kindOf binds m x=m x
 | [],_,_=>rfl
 | (n,v) :: r,m,h=>by
  unfold dF;rw[U9 λw hw=>h w (AN _ hw)];split
  ·have:x≠n:=by rintro rfl;exact h v AX
   simp[this]
  ·rfl
theorem VD{kindOf}{x}:∀{binds:List (Str×Value)} {m:Str->Option Value},(∀v,(x,v)∉binds)->dG kindOf binds m x=m x
 | [],_,_=>rfl
 | (n,v) :: r,m,h=>by
  unfold dG;rw[VD λw hw=>h w (AN _ hw)];split
  ·rfl
  ·have:x≠n:=by rintro rfl;exact h v AX
   simp[this]
theorem VC{kindOf}{x}{v}:∀{P:List Str} {vs:List Value} {i:Nat} {m:Str->Option Value},P.Nodup->P[i]?=some x->vs[i]?=some v->kindOf x=some .local ->
  dF kindOf (P.zip vs) m x=some v
 | [],_,_,_,_,h,_,_=>by simp at h
 | _ :: _,[],_,_,_,_,h,_=>by simp at h
 | p :: P,w :: vs,0,m,s,l,o,A=>by
  simp at l o;subst l;subst o;show dF kindOf ((p,w) :: P.zip vs) m p=_;unfold dF;rw[U9 λv B=>(Bf.mp s).1 (JS B).1,qX A];simp
 | p :: P,w :: vs,i+1,m,s,l,o,A=>by
  show dF kindOf ((p,w) :: P.zip vs) m x=_;unfold dF;exact VC (i:=i) (Bf.mp s).2 (by simpa using l) (by simpa using o) A
theorem VH{kindOf}{x}{v}:∀{P:List Str} {vs:List Value} {i:Nat} {m:Str->Option Value},P.Nodup->P[i]?=some x->vs[i]?=some v->kindOf x≠some .local ->
  dG kindOf (P.zip vs) m x=some v
 | [],_,_,_,_,h,_,_=>by simp at h
 | _ :: _,[],_,_,_,_,h,_=>by simp at h
 | p :: P,w :: vs,0,m,s,l,o,A=>by
  simp at l o;subst l;subst o;show dG kindOf ((p,w) :: P.zip vs) m p=_;unfold dG;rw[VD λv B=>(Bf.mp s).1 (JS B).1,qY A];simp
 | p :: P,w :: vs,i+1,m,s,l,o,A=>by
  show dG kindOf ((p,w) :: P.zip vs) m x=_;unfold dG;exact VH (i:=i) (Bf.mp s).2 (by simpa using l) (by simpa using o) A
noncomputable def start(N:List Str)(vs:List V):St:=vs.map some++By (N.length - vs.length) none
noncomputable def ZW(CX:CXT)(P:Bs)(w:CQ)(K:AG)(mg:Str->Option Value)(base:DS)(N:List Str)(l:Str)(scope:Tr)(f:Aa)(m:Value)(A:Ce)(outer:List Env)(s:AS)(H:Hp)(E:XK):Cx where
 prog:=P
 w:=w
 K:=K
 mg:=mg
 base:=base
 A:=A.deeper (OE l scope s.heap.objs.size f m)
 N:=N
 s₀:=s
 H₀:=H
 env:=OE l scope s.heap.objs.size f m
 outer:=outer
 stack:=OE l scope s.heap.objs.size f m :: outer
 ex:=[]
 calm:=true
 fn:=λ_=>true
 pn:=[]
 xe:=λe B=>Ao (Ac P w) (A.deeper (OE l scope s.heap.objs.size f m)) (leaving (OE l scope s.heap.objs.size f m) e) (λ_ o=>CX outer H s E e o) (λC o=>CX outer H s E C o) B
theorem X8{l:Tr}{n:Nat}{x:Str}(h:l.names.lookup x=some .cell):∃c,(CV n l.names []).lookup x=some c:=by
 have q:=VR l.names n [] (.inl h);exact CD.mp q
theorem cV{CX:CXT}{P:Bs}{w:CQ}{K:AG}{Q:Str->Option Value}{base:DS}{N ps:List Str}{m:Str}{scope:Tr}{f:Aa}{J:Value}{A:Ce}{l:List Env}{s s1:AS}{H:Hp}{E:XK}{us:List Value}{vs:List V}
  (S:Bk N ps scope) (X:A.handled=none) (B:Zl P w K Q base A l s H) (hl:vs.length=ps.length) (r:CC vs us)
  (x:InCallC s s.heap.objs.size (dF (OE m scope s.heap.objs.size f J).kindOf (ps.zip us) λ_=>none) (CV (s.heap.objs.size+1) scope.names []) (dG (OE m scope s.heap.objs.size f J).kindOf (ps.zip us) λ_=>none) s1) :
  Inv (ZW CX P w K Q base N m scope f J A l s H E) [] (start N vs) H s1:=by
 have vB:ps.length<=N.length:=by have:=congrArg HF S.pre;rw[Dk]at this;lia
 obtain⟨L,tk,rfl,T⟩:=x.done
 have R:∀b:Aa,b∉(ZW CX P w K Q base N m scope f J A l s H E).ex:=λb z=>zX (show b∈([]:List Aa)from z) (by simp)
 refine⟨⟨B.mod,S.kind,rfl,rfl,AJ _,λy z c L o=>?_,λy C=>?_,λy c _ h=>?_,λ_=>X,Ce.frames_deeper B.frames,.inr ⟨rfl,rfl⟩,λb z=>zX z (R b),B.bs,B.bsz,λb _ _=>R b,λb z=>zX z (R b),B.funs,B.frf⟩,
  rfl,B.bare,Un.kept T,⟨_,x.toInCall.ns,λi y v L o h3=>?_⟩,λy c h=>⟨_,x.cell y c h⟩,B.hok.fresh (AJ _),λy c h=>?_,λp G=>zX (show p∈([]:List (Aa×Obj))from G) (by simp),B.hok.kept T,?_⟩
 ·exact name_of_addr x.apart (D7 L) (D7 o)
 ·have C:scope.names.lookup y=some .cell∨scope.names.lookup y=some .free:=C
  rcases C with C | C
  ·exact X8 C
  ·exact zX rfl (S.nofree _ (D7 C))
 ·exact Mr (x.above y c (D7 h))
 ·have O:i < vs.length:=by
   unfold start at o
   by_cases O:i < vs.length
   ·exact O
   ·rw[Bj (by simpa using O)]at o
    rw[D2]at o
    split at o <;> cases o
  have Y:vs[i]?=some v:=by
   unfold start at o;rw[Ap (by simpa using O),Ai]at o
   cases e:vs[i]? with
   | none=>rw[e]at o;cases o
   | some a=>rw[e]at o;cases o;rfl
  obtain⟨u,U,Z⟩:=r.get Y
  have G:ps[i]?=some y:=by
   rw[<-S.pre,Wn (by lia)];exact L
  have I:ps.Nodup:=by rw[<-S.pre];exact S.nd.sublist (dU _ _)
  refine⟨u,Z,?_⟩
  rcases S.par y (BN G)with k | k
  ·exact .inl ⟨k,VC I G U k⟩
  ·obtain⟨c,e⟩:=X8 (n:=s.heap.objs.size+1) k
   refine .inr ⟨.inl k,c,e,?_⟩;have q:=x.cell y c e;rw[VH I G U (by show scope.names.lookup y≠_;rw[k];decide)]at q;exact q
 ·exact B.hok.fresh (Mr (x.above y c (D7 h)))
 ·unfold start
  show _=N.length;rw[AZ,AD,Nd]
  lia
theorem uN{CX}{P}{w}{K}{T}{base}{k}{f}{name m}{params}{body}{scope}{Z kV O pm G ct oc}{an od}
  {wK} {N ps} {sp} (lk:K.lookup f=some ⟨oc,od,.func (JL name m params body scope Z kV O pm an G ct),wK⟩) (wA:Rs K G m=true) (S:Bk N ps scope)
  (len:∀vs H Q E,sp vs H Q E->vs.length=ps.length)
  (w9:∀(A:Ce) (l:List Env) (s:AS) (H:Hp) (vs:List V) (Q:VK) (E:XK),Ht k (A.deeper (OE m scope s.heap.objs.size f G))->sp vs H Q E ->
   ∃t,PSs (ZW CX P w K T base N m scope f G A l s H E) body t/\t { nx:=λ_ C=>Q .non C,rt:=Q } (start N vs) H) :
  DD P w K T base CX (k+1) f (JL name m params body scope Z kV O pm an G ct) ps sp:=by
 refine⟨len,λA l s H args us vs Q E U R hb r yS=>?_⟩;have hl:=len _ _ _ _ yS
 have KX:K.In s.heap:=R.mod.kin.keeps λb o e=>(R.bs b o e).1
 have X:s.heap.NoLimit:=R.mod.nolimit.keeps λb o e=>(R.bs b o e).1
 have zh:∀y∈ps.zip us,scope.names.lookup y.1=some .local∨(scope.names.lookup y.1=some .cell/\((CV (s.heap.objs.size+1) scope.names []).lookup y.1).isSome=true):=by
  rintro ⟨n,v⟩ hy
  rcases S.par n (JS hy).1 with q | q
  ·exact .inl q
  ·exact .inr ⟨q,VR _ _ _ (.inl q)⟩
 refine codeAny_call_function U.depth (KX _ _ lk) rfl S.co S.gen rfl (PySem.W.codeRec_of KX wA) (hb _ _ _ _ ?_)
 refine wpAny_newFunctionEnv_cells S.kind zh λenv he s1 x=>?_
 subst he;refine⟨X.keeps x.toInCall.keep,codeAny_func ?_⟩;obtain⟨t,ht,hq⟩:=w9 A l s H vs Q E (U.deeper _) yS;have I:Inv (ZW CX P w K T base N m scope f G A l s H E) [] (start N vs) H s1:=cV S U.hd R hl r x
 refine G2 (ht [] s1 (start N vs) H _ I hq) (λfl s' L=>?_) λe s' L=>L
 have fin:∀{B:St} {C:Hp} {v:V} {u:Value},Inv (ZW CX P w K T base N m scope f G A l s H E) [] B C s'->RelV v u->Q v C->CE l P w H s Q u s':=
  λ{B C v u} J Y q=>⟨v,C,J.os,J.bare,J.base,J.hok,Y,q⟩
 cases fl with
 | ret u=>
  obtain⟨v,B,C,J,Y,q⟩:=L;exact fin J Y q
 | next=>
  obtain⟨B,C,J,q⟩:=L;exact fin (v:=V.non) (u:=Ed) J rfl q
 | brk=>
  obtain⟨_,_,_,q⟩:=L;exact Ey q
 | cont=>
  obtain⟨_,_,_,q⟩:=L;exact Ey q
section
variable{X:Cx}{x:Str}{p pos:Pos}{e:Expr}{es:List Expr}{t:TA}{id T:String}{r:List V->Hp->VK->Prop}
noncomputable def tCB(r:List V->Hp->VK->Prop)(t:TA):TE:=λl H Q=>t l H λm o=>r m o Q
theorem O7(o:LS X (.builtin id) r)(A:Gl X x)(B:X.mg x=none)(C:HA x=some (.builtin id))(E:PA X (e :: es) t)(G:x≠"__name__":=by decide) (J:(x==("__debug__" : Str))=false:=by decide)
  (L:Ag (e :: es) X.env=(false,Ci e X.env) :: Ag es X.env:=by rfl) (N:(FB pos (Ag es X.env)).any (·.1)=false:=by rfl):PE X (.Call (.Name x p) (e :: es) [] pos) (tCB r t):=by
 intro l s m H Q I h;refine IA (OU I A B C ?_ G J);exact uk (thn (E pos l s m H _ I h) λO P ⟨R,S,U,Y,Z⟩=>o l P m S R O Q U Y Z) L N
theorem QA(o:LS X (.type T) r)(A:Gl X x)(B:X.mg x=none)(C:HA x=some (.type T))(E:PA X (e :: es) t)(G:x≠"__name__":=by decide) (J:(x==("__debug__" : Str))=false:=by decide)
  (L:Ag (e :: es) X.env=(false,Ci e X.env) :: Ag es X.env:=by rfl) (N:(FB pos (Ag es X.env)).any (·.1)=false:=by rfl):PE X (.Call (.Name x p) (e :: es) [] pos) (tCB r t):=by
 intro l s m H Q I h;refine IA (OU I A B C ?_ G J);exact Dt (thn (E pos l s m H _ I h) λO P ⟨R,S,U,Y,Z⟩=>o l P m S R O Q U Y Z) L N
end
end L2
namespace HT
open PySem PyProof.Rows
section
variable{prog:Bs}{w:CQ}{A:Ce}{E:Value->AS->Prop}{s:AS}
theorem lw(P:jK s.heap t vs.toArray)(hb:jK s.heap b l.toArray)(G:vs≠[])
  (R:l=[]->Q (.ref t) s) (S:l≠[]->Q (.ref s.heap.objs.size) { s with heap:=s.heap.push { cls:=.type "tuple",data:=.seq (vs++l).toArray } })
  (hsz:vs.length+l.length<=sizeLine):Ao (Ac prog w) A (DR .Add (.ref t) (.ref b)) Q E s:=by
 obtain⟨⟨cls,H,data,sl⟩,C,I,n,J⟩:=id P;obtain⟨⟨L,o,data2,B⟩,m,N,O,hd2⟩:=id hb;simp only at I J N hd2;subst I J N hd2
 have e:vs.toArray++l.toArray=(vs++l).toArray:=by simp
 by_cases hw:l=[]
 ·exact dR ⟨_,C,rfl⟩ ⟨_,m,rfl⟩ VP bN Lb LA (KY _ _)
   (tuple_addW1 t b vs.toArray l.toArray n O H o sl B (by simpa using G) (by simp[hw])) ⟨C,m,R hw⟩
 ·refine dR ⟨_,C,rfl⟩ ⟨_,m,rfl⟩ VP bN Lb LA (KY _ _)
   (tuple_addW2 t b vs.toArray l.toArray n O H o sl B (by simpa using G) (by simpa using hw) (by rw[Aj,Aj];exact hsz)) ⟨C,m,?_⟩
  rw[e];exact S hw
noncomputable def sIx(n d:Nat):Option Int->Nat
 | none=>d
 | some v=>if v < 0 then(v+(n:Int)).toNat else min v.toNat n
theorem XV(n d:Nat):sIx n d none=d:=rfl
theorem aA(n d k:Nat):sIx n d (some (k:Int))=min k n:=by
 show(if (k:Int) < 0 then((k:Int)+(n:Int)).toNat else min (k:Int).toNat n)=min k n;rw[qY (by lia),A9]
theorem og(n d:Nat)(m:d<=n)(o:Option Int):sIx n d o<=n:=by
 cases o with
 | none=>exact m
 | some v=>
  show(if v < 0 then(v+(n:Int)).toNat else min v.toNat n)<=n
  by_cases l:v < 0
  ·rw[qX l];lia
  ·rw[qY l];exact jD _ _
theorem bF(v:Int)(n d:Nat):(if v < 0 then max (v+(n:Int)) 0 else min v (n:Int))=((sIx n d (some v):Nat):Int):=by
 show(if v < 0 then max (v+(n:Int)) 0 else min v (n:Int))=(((if v < 0 then(v+(n:Int)).toNat else min v.toNat n):Nat):Int)
 by_cases l:v < 0
 ·simp only[qX l];lia
 ·simp only[qY l];lia
theorem Zh(lo hi:Option Int)(n:Nat):Iw lo hi 1 (n:Int)=(((sIx n 0 lo:Nat):Int),((sIx n n hi:Nat):Int)):=by
 have l:¬((1:Int) < 0):=by lia
 unfold Iw;simp only[l,if_false];refine UR ?_ ?_
 ·cases lo with
  | none=>rfl
  | some v=>exact bF v n 0
 ·cases hi with
  | none=>rfl
  | some v=>exact bF v n n
theorem Y5(i j:Nat):FZ (i:Int) (j:Int) 1=j - i:=by
 unfold FZ
 have l:(1:Int) > 0:=by lia
 simp only[l,if_true,Int.ediv_one]
 split <;> lia
theorem SM(p:Ps v o)(h:Q o s):Ao (Ac prog w) A (sK v) Q E s:=by
 cases p with
 | none=>exact slicePart_none h
 | int i t=>exact slicePart_int h
theorem LH{sl:Aa}{l m:Value}{lo hi:Option Int}{n:Nat}{Q:Int×Int×Nat->AS->Prop}(C:s.heap.IsSliceOf sl l m .none)(pl:Ps l lo)(G:Ps m hi)
  (h:Q (((sIx n 0 lo:Nat):Int),1,sIx n n hi - sIx n 0 lo) s):Ao (Ac prog w) A (Os (.ref sl) (pure (n:Int))) Q E s:=by
 obtain⟨os,o,H,B⟩:=id C;unfold Os sL;refine AB (AB (IM o B (x:=l) rfl (AB (IM o B (x:=m) rfl (AB (IM o B (x:=.none) rfl (AL ?_)))))));refine AB (slicePart_none ?_);show Ao _ _ (if ((1:Int)==0)=true then _ else _) _ _ s;rw[qY (by decide)];refine AB (SM pl (AB (SM G (AB (AL ?_)))));show Ao _ _ (match Iw lo hi 1 (n:Int)with | (lo,hi)=>pure (lo,(1:Int),FZ lo hi 1)) _ _ s;rw[Zh lo hi n];show Ao _ _ (pure (((sIx n 0 lo:Nat):Int),(1:Int),FZ ((sIx n 0 lo:Nat):Int) ((sIx n n hi:Nat):Int) 1)) _ _ s;rw[Y5];exact AL h
theorem fX(xs:Array Value)(i k:Nat):((D4 k).filterMap λ(m:Nat)=>xs[((i:Int)+(m:Int) * 1).toNat]?).toArray=((xs.toList.drop i).take k).toArray:=by
 have e:(λ(m:Nat)=>xs[((i:Int)+(m:Int) * 1).toNat]?)=λm=>xs[i+m]?:=by
  funext m
  have:((i:Int)+(m:Int) * 1).toNat=i+m:=by lia
  rw[this]
 rw[e];have:=pick_run xs i k;rw[List.filterMap_map]at this
 have l:((λx=>xs[x]?)∘λx=>i+x)=λm=>xs[i+m]?:=rfl
 rw[l]at this;rw[this]
theorem PU{t sl}{items}{vl vu}{lo hi}{Q}(ht:jK s.heap t items)(hs:s.heap.IsSliceOf sl vl vu .none)(pl:Ps vl lo)(pu:Ps vu hi)
  (hw:¬(sIx items.size 0 lo=0/\sIx items.size items.size hi=items.size))
  (h:Q (.ref s.heap.objs.size) { s with heap:=s.heap.push { cls:=.type "tuple",data:=.seq ((items.toList.drop (sIx items.size 0 lo)).take (sIx items.size items.size hi - sIx items.size 0 lo)).toArray } })
  (hsz:items.size<=sizeLine):Ao (Ac prog w) A (K6 (.ref t) (.ref sl)) Q E s:=by
 have wo:sizeOk (.seq ((items.toList.drop (sIx items.size 0 lo)).take (sIx items.size items.size hi - sIx items.size 0 lo)).toArray):=by
  show((items.toList.drop (sIx items.size 0 lo)).take (sIx items.size items.size hi - sIx items.size 0 lo)).toArray.size<=sizeLine;rw[Aj,Dk,Io,Be];omega
 have hj:sIx items.size items.size hi<=items.size:=og _ _ (AJ _) hi;obtain⟨os,xO,yt,zi⟩:=id hs;have Ϙ:s.TypeIs (.ref sl) "slice":=⟨os,xO,yt⟩;unfold K6
 try with_reducible refine Hq ?_
 first | refine AB (AL ?_) | skip
 refine AB (rE ht.typeIs (by decide) ?_)
 refine AB (DQ (name:=FQ "__getitem__") ht.typeIs Cc
  (DP Cc ht.typeIs mO ?_ (nK _ _)))
 show Ao _ _ (Oq (.ref t) >>= _) _ _ s;refine AB (tupleItemsOf_ ht ?_);refine AB (Ti Ϙ ?_);rw[qX (by decide)];refine AB (LH hs pl pu ?_)
 have ϙ:¬((((sIx items.size 0 lo:Nat):Int)==0&&(1:Int)==1&&(sIx items.size items.size hi - sIx items.size 0 lo)==items.size)=true):=by
  intro q;rw[DI,DI]at q;have q1:((sIx items.size 0 lo:Nat):Int)=0:=eq_of_beq q.1.1;have q2:sIx items.size items.size hi - sIx items.size 0 lo=items.size:=eq_of_beq q.2;exact hw ⟨by lia,by omega⟩
 show Ao _ _ (if (((sIx items.size 0 lo:Nat):Int)==0&&(1:Int)==1&&(sIx items.size items.size hi - sIx items.size 0 lo)==items.size)=true then _ else _) _ _ s;rw[qY ϙ,fX]
 first
  | exact AB (m:=Fu _) (DA (AL ⟨_,rfl,AL h⟩) wo)
  | exact AB (m:=Fu _) (DA (AB (AL (AL ⟨_,rfl,AL h⟩))) wo)
  | exact AB (AB (m:=Fu _) (DA (AL (AL ⟨_,rfl,AL h⟩)) wo))
  | exact AB (AB (m:=Fu _) (DA (AL ⟨_,rfl,AL h⟩) wo))
end
end HT
namespace L2
open PySem PySem.Spec PyProof.Rows
section
noncomputable abbrev TO:=St->Hp->(Option Int->Hp->Prop)->Prop
noncomputable def PO(X:Cx)(e:Option Expr)(t:TO):Prop:=
 ∀(m:List (Aa×Obj)) (s:AS) (l:St) (H:Hp) (Q:Option Int->Hp->Prop),Inv X m l H s->t l H Q ->
  Ao (Ac X.prog X.w) X.A (evalPart e X.env) (λu C=>∃o B,Inv X m l B C/\Ps u o/\Q o B) X.xe s
noncomputable def jx:TO:=λ_ H Q=>Q none H
noncomputable def sW(t:TE):TO:=λl H Q=>t l H λx m=>∃i,x=.int i/\Q (some i) m
theorem intsAre_of:∀{us:List Value},CC (ns.map V.int) us->HC us ns:=by
 induction ns with
 | nil=>intro us r;rw[Mm]at r;cases r;exact .nil
 | cons n ns l=>
  intro us r;rw[BA]at r
  cases r with
  | cons m o=>
   obtain⟨t,e⟩:=m;subst e;exact .cons n t (l o)
section
variable{κ:Type}[DecidableEq κ]
noncomputable def Ln(l:List (κ×V))(k:κ):Option V:=(l.find? λm=>decide (m.1=k)).map (·.2)
noncomputable def Md(m:List (κ×V))(k:κ)(v:V):List (κ×V):=
 if (m.any λl=>decide (l.1=k))=true then m.map (λl=>if l.1=k then(l.1,v)else l)else m++[(k,v)]
theorem SB{p:κ×V}{r:List (κ×V)}{k:κ}(e:p.1=k):Ln (p :: r) k=some p.2:=by simp[Ln,CY,e]
theorem SC{p:κ×V}{r:List (κ×V)}{k:κ}(e:¬p.1=k):Ln (p :: r) k=Ln r k:=by simp[Ln,CY,e]
theorem XB(k:κ):∀l:List (κ×V),(l.any λm=>decide (m.1=k))=(Ln l k).isSome
 | []=>rfl
 | p :: r=>by
  rw[Iv]
  by_cases e:p.1=k
  ·simp only[SB e,wX e,Bool.true_or,Zn]
  ·rw[SC e,wY e,nR];exact XB k r
theorem Qt(l:List (κ×V))(k:κ)(v:V):(Md l k v).length<=l.length+1:=by
 unfold Md;split
 ·rw[AD];lia
 ·rw[AZ,At,Ms];lia
theorem N1.isSome_eq(r:N1 o u):o.isSome=u.isSome:=by
 cases o with
 | none=>cases u with
  | none=>rfl
  | some _=>exact(show False from r).elim
 | some _=>cases u with
  | none=>exact(show False from r).elim
  | some _=>rfl
theorem KV.val{o:List (κ×V)}{vs:List (κ×Value)}(r:KV o vs)(k:κ):N1 (Ln o k) (Tl vs k):=by
 unfold KV at r
 induction r with
 | nil=>exact Ml
 | @cons p q C l h t A=>
  obtain⟨s,B⟩:=h
  by_cases e:p.1=k
  ·have m:q.1=k:=s.symm.trans e
   have b:Tl (q :: l) k=some q.2:=by simp[Tl,CY,m]
   rw[SB e,b];exact B
  ·have m:¬q.1=k:=λz=>e (s.trans z)
   have b:Tl (q :: l) k=Tl l k:=by simp[Tl,CY,m]
   rw[SC e,b];exact A
theorem KV.any(r:KV m vs)(k:κ):(m.any λl=>decide (l.1=k))=vs.any λl=>decide (l.1=k):=by
 unfold KV at r
 induction r with
 | nil=>rfl
 | cons h t o=>rw[Iv,Iv,o,h.1]
theorem KV.repl(r:KV o vs)(k:κ)(s:RelV y u) :
  KV (o.map λl=>if l.1=k then(l.1,y)else l) (vs.map λl=>if l.1=k then(l.1,u)else l):=by
 unfold KV at r ⊢
 induction r with
 | nil=>exact .nil
 | @cons p q C E h t A=>
  rw[BA,BA];refine .cons ?_ A;obtain⟨m,B⟩:=h
  by_cases e:p.1=k
  ·rw[qX e,qX (m.symm.trans e)];exact⟨m,s⟩
  ·rw[qY e,qY (λz=>e (m.trans z))];exact⟨m,B⟩
theorem KV.put(r:KV m vs)(k:κ)(l:RelV y u):KV (Md m k y) (stored vs k u):=by
 unfold Md stored;rw[r.any k]
 by_cases e:(vs.any λo=>decide (o.1=k))=true
 ·rw[qX e,qX e];exact r.repl k l
 ·rw[qY e,qY e];exact YJ r ⟨rfl,l⟩
theorem KV.length(r:KV l vs):l.length=vs.length:=FR r
end
theorem Xy(r:RelV (kV k) u):(E0 P w).is k u=true:=by
 cases k with
 | inl i=>obtain⟨t,e⟩:=(show ∃t,u=Wm i t from r);subst e;exact Xo P w i t
 | inr x=>obtain⟨t,e⟩:=(show ∃t,u=Wl x t from r);subst e;exact Xn P w x t
theorem Uo:∀{l:List Key} {us:List Value},CC (l.map kV) us->ItemsAre (E0 P w) l us
 | [],_,r=>by rw[Mm]at r;cases r;exact .nil
 | k :: l,_,r=>by
  rw[BA]at r
  cases r with
  | cons h t=>exact .cons (Xy h) (Uo t)
noncomputable abbrev KT(H:Hp):List (List Key×V)->List (List Key×Aa×Value)->Prop:=G3 λp q=>p.1=q.1/\H q.2.1=some (.tup (p.1.map kV))/\RelV p.2 q.2.2
theorem KT.val{H:Hp}{o:List (List Key×V)}{xs:List (List Key×Aa×Value)}(r:KT H o xs)(k:List Key):N1 (Ln o k) ((YV xs k).map (·.2)):=by
 induction r with
 | nil=>exact Ml
 | @cons p q C l h t A=>
  obtain⟨s,_,B⟩:=h
  by_cases e:p.1=k
  ·have m:q.1=k:=s.symm.trans e
   have b:YV (q :: l) k=some q.2:=by simp[YV,CY,m]
   rw[SB e,b];exact B
  ·have m:¬q.1=k:=λz=>e (s.trans z)
   have b:YV (q :: l) k=YV l k:=by simp[YV,CY,m]
   rw[SC e,b];exact A
theorem KT.repl(r:KT H s xs)(k:List Key)(A:RelV y u) :
  KT H (s.map λm=>if m.1=k then(m.1,y)else m) (xs.map (putAt k u)):=by
 induction r with
 | nil=>exact .nil
 | @cons p q E G h t B=>
  rw[BA,BA];refine .cons ?_ B;obtain⟨l,o,C⟩:=h;unfold putAt
  by_cases e:p.1=k
  ·rw[qX e,qX (l.symm.trans e)];exact⟨l,o,A⟩
  ·rw[qY e,qY (λz=>e (l.trans z))];exact⟨l,o,C⟩
theorem KT.put(r:KT H l xs)(k:List Key)(hb:H b=some (.tup (k.map kV)))(m:RelV y u) :
  KT H (Md l k y) (storedH xs k b u):=by
 have e:(l.any λo=>decide (o.1=k))=(YV xs k).isSome:=by
  rw[XB,(r.val k).isSome_eq,Hn]
 unfold Md storedH;rw[e]
 by_cases q:(YV xs k).isSome=true
 ·rw[qX q,qX q];exact r.repl k m
 ·rw[qY q,qY q];exact YJ r ⟨rfl,hb,m⟩
theorem KT.keeps(r:KT H m xs)(o:∀b l,H b=some (.tup l)->s b=some (.tup l)):KT s m xs:=
 G3.mapP r λ_ _ z=>⟨z.1,o _ _ z.2.1,z.2.2⟩
variable{X:Cx}{e:Expr}{lo hi:Option Expr}{pos p2:Pos}
theorem kO:PO X none jx:=by
 intro l s m H Q I h;rw[evalPart_none];exact AL ⟨none,H,I,.none,h⟩
theorem kM(h:PE X e te):PO X (some e) (sW te):=by
 intro l s m H Q I hw;rw[evalPart_some]
 refine thn (h l s m H _ I hw) λu E ⟨x,o,A,B,C⟩=>?_
 obtain⟨i,rfl,q⟩:=C;obtain⟨t,rfl⟩:=B;exact⟨some i,o,A,.int i t,q⟩
noncomputable def SlR(X:Cx)(r:V->Option Int->Option Int->Hp->VK->Prop):Prop:=
 ∀(l:List (Aa×Obj)) (s:AS) (m:St) (H:Hp) (x:V) (v o B:Value) (lo hi:Option Int) (sl:Aa) (Q:VK),Inv X l m H s->RelV x v->s.heap.IsSliceOf sl o B .none->Ps o lo->Ps B hi->r x lo hi H Q ->
  ∃T id,typeLookup (.type T) "__getitem__" = pure (some (.builtin id))/\s.TypeIs v T/\Ao (Ac X.prog X.w) X.A (K6 v (.ref sl)) (EP X l m Q) X.xe s
theorem SlR.or(h:SlR X r)(h':SlR X J):SlR X (λx lo hi H Q=>r x lo hi H Q∨J x lo hi H Q):=by
 intro l s m H x v o A lo hi sl Q I B C E G q
 rcases q with q | q
 ·exact h l s m H x v o A lo hi sl Q I B C E G q
 ·exact h' l s m H x v o A lo hi sl Q I B C E G q
noncomputable def tSl(r:V->Option Int->Option Int->Hp->VK->Prop)(te:TE)(o s:TO):TE:=λm H Q=>te m H λx A=>o m A λl B=>s m B λu C=>r x l u C Q
theorem Xd(J:SlR X r)(L:PE X e te)(N:PO X lo O)(P:PO X hi R):PE X (.Subscript e (.Slice lo hi none p2) pos) (tSl r te O R):=by
 intro o s B H Q I h;refine nL (thn (L o s B H _ I h) λv S ⟨x,U,Y,Z,q1⟩=>?_);refine wpAny_Slice (thn (N o S B U _ Y q1) λC s2 ⟨l,H2,I2,pl,q2⟩=>thn (P o s2 B H2 _ I2 q2) λE m ⟨u,G,I3,pu,q3⟩=>?_);rw[evalPart_none];refine AL ?_
 have I4:Inv X o B G { m with heap:=m.heap.push { cls:=.type "slice",data:=.fields #[C,E,.none] } }:=I3.kept (t':=m.toks) λb ob q=>AO _ q
 obtain⟨T,id,hT,ht,hg⟩:=J o { m with heap:=m.heap.push { cls:=.type "slice",data:=.fields #[C,E,.none] } } B G x v C E l u m.heap.objs.size Q I4 Z (rc ..) pl pu q3;show Ao (Ac X.prog X.w) X.A (bM e (.Slice lo hi none p2) v (.ref m.heap.objs.size)) (EP X o B Q) X.xe { m with heap:=m.heap.push { cls:=.type "slice",data:=.fields #[C,E,.none] } };exact tail_any (ops:=[.ref m.heap.objs.size,v]) ht hT hg (by with_unfolding_all rfl)
noncomputable def RJ(xs:List V)(lo hi:Option Int):List V:=(xs.drop (HT.sIx xs.length 0 lo)).take (HT.sIx xs.length xs.length hi - HT.sIx xs.length 0 lo)
theorem Qv(xs:List V)(lo hi:Option Int):(RJ xs lo hi).length<=xs.length:=by
 unfold RJ;rw[Dk,Io]
 lia
noncomputable def rSlT(K:AG):V->Option Int->Option Int->Hp->VK->Prop:=λx lo hi H Q=>∃a l,x=.ref a/\SqT K H a l /\
 ¬(HT.sIx l.length 0 lo=0/\HT.sIx l.length l.length hi=l.length)/\∀p,H p=none->Q (.ref p) (upd H p (.tup (RJ l lo hi)))
theorem fF:SlR X (rSlT X.K):=by
 intro O s P H x v R S lo hi sl Q I C E G J h;obtain⟨a,m,rfl,L,hw,q⟩:=h;cases C;obtain⟨N,r,A,B⟩:=I.tuple L
 have l:N.toArray.size=m.length:=by rw[Aj];exact r.length.symm
 refine⟨"tuple",_,Cc.lookup,A.typeIs,?_⟩;refine HT.PU A E G J (by rw[l];exact hw) ?_ (by rw[l];exact B);rw[l];refine⟨.ref s.heap.objs.size,_,I.laid (t':=s.toks) (o:=.tup (RJ m lo hi)) (λb T q=>AO _ q) (AJ _) ?_,rfl,q _ (I.hok.fresh (AJ _))⟩;exact⟨⟨Au (Qv m lo hi) B,⟨_,An _ rfl,rfl⟩⟩,_,(r.drop (HT.sIx m.length 0 lo)).take (HT.sIx m.length m.length hi - HT.sIx m.length 0 lo),da _ _⟩
noncomputable def tF(K:AG):R2:=λx y H Q=>∃a b m l,x=.ref a/\y=.ref b/\SqT K H a m/\SqT K H b l/\m≠[]/\m.length+l.length<=sizeLine /\
 (l=[]->Q (.ref a) H)/\(l≠[]->∀p,H p=none->Q (.ref p) (upd H p (.tup (m++l))))
theorem CC.nil_iff(r:CC xs us):us=[]↔xs=[]:=by
 cases r with
 | nil=>simp
 | cons _ _=>simp
theorem kr:OpR X (DR .Add) (tF X.K):=by
 intro R s S H x y v u Q I B C h;obtain⟨a,b,E,G,rfl,rfl,J,hb,L,A,N,O⟩:=h;cases B;cases C;obtain⟨T,m,P,_⟩:=I.tuple J;obtain⟨U,l,p2,_⟩:=I.tuple hb;refine HT.lw P p2 (λz=>L (m.nil_iff.mp z)) (λz=>⟨.ref a,H,I,rfl,N (l.nil_iff.mp z)⟩) (λz=>?_) (by rw[<-m.length,<-l.length];exact A);refine⟨.ref s.heap.objs.size,_,I.laid (t':=s.toks) (o:=.tup (E++G)) (λb Y q=>AO _ q) (AJ _) ?_,rfl,O (λw=>z (l.nil_iff.mpr w)) _ (I.hok.fresh (AJ _))⟩;exact⟨⟨by rw[AZ];exact A,⟨_,An _ rfl,rfl⟩⟩,_,m.append l,da _ _⟩
end
section
noncomputable def ixN(n:Nat)(i:Int):Option Nat:=if 0<=i then(if i < n then some i.toNat else none)else if -(n:Int)<=i then some (i+n).toNat else none
noncomputable def atI{α:Type}(xs:List α)(i:Int):Option α:=(ixN xs.length i).bind λj=>xs[j]?
theorem aZ(h:ixN n i=some j):seqIndex? i n=some j/\j < n/\-(n:Int)<=i/\i < n:=by
 unfold ixN at h
 by_cases m:0<=i
 ·rw[qX m]at h
  by_cases l:i < n
  ·rw[qX l]at h
   have e:i.toNat=j:=Br h;exact⟨by rw[i7 m l,e],by lia,by lia,l⟩
  ·rw[qY l]at h;cases h
 ·rw[qY m]at h
  by_cases l:-(n:Int)<=i
  ·rw[qX l]at h
   have e:(i+n).toNat=j:=Br h;exact⟨by rw[seqIndex_neg (by lia) l,e],by lia,l,by lia⟩
  ·rw[qY l]at h;cases h
theorem bI{l:Type}{xs:List l}{i:Int}{v:l}(h:atI xs i=some v):∃j,seqIndex? i xs.length=some j/\xs[j]?=some v/\j < xs.length/\-(xs.length:Int)<=i/\i < xs.length:=by
 unfold atI at h
 cases e:ixN xs.length i with
 | none=>rw[e]at h;cases h
 | some j=>
  rw[e]at h;obtain⟨m,o,s,A⟩:=aZ e;exact⟨j,m,h,o,s,A⟩
noncomputable def Wf(b:Expr):Prop:=∀o i,Wi b false o i=operate [o,i] (K6 o i)
noncomputable def IxR(X:Cx)(r:R2):Prop:=
 ∀(value l:Expr) (m:List (Aa×Obj)) (s:AS) (o:St) (H:Hp) (x y:V) (v u:Value) (Q:VK),Inv X m o H s->RelV x v->RelV y u->r x y H Q ->
  Wi l false v u=operate [v,u] (K6 v u)->Ao (Ac X.prog X.w) X.A (bM value l v u) (EP X m o Q) X.xe s
noncomputable def MtR(X:Cx)(id:String)(r:V->List V->Hp->VK->Prop):Prop:=
 ∀(l:List (Aa×Obj)) (s:AS) (m:St) (H:Hp) (x:V) (o:List V) (v:Value) (B:List Value) (Q:VK),Inv X l m H s->RelV x v->CC o B->r x o H Q ->
  Ao (Ac X.prog X.w) X.A (call (.builtin id) (v :: B)) (EP X l m Q) X.xe s
section
variable{P:Bs}{w:CQ}{H:Hp}{h:DS}{a:Aa}
theorem mj(ok:HOk P w H h)(e:Rd H a u):Dj P w H h a u:=e.ok ok
theorem X5(ok:HOk P w H h)(e:Rd H a (.dK l)):l.length<=sizeLine/\(a==EJ)=false/\∃vs,KV l vs/\h.DictOf (E0 P w) a vs:=
 show Dj P w H h a (.dK l)from mj ok e
theorem uQ(ok:HOk P w H h)(e:H a=some (.dK l)):l.length<=sizeLine/\(a==EJ)=false/\∃vs,KV l vs/\h.DictOf (E0 P w) a vs:=X5 ok (.inl e)
theorem Sw(ok:HOk P w H h)(e:H a=some (.tup (l.map kV))):(VM (E0 P w)).is h l a:=by
 obtain⟨_,m,r,o,s,A,n,B⟩:=(show Dj P w H h a (.tup (l.map kV))from ok a _ e);exact⟨o,m.toArray,n,s,A,B,by simpa using Uo r⟩
theorem X4(ok:HOk P w H h)(e:Rd H a (.dT A)):A.length<=sizeLine/\(a==EJ)=false /\
  ∃xs,KT H A xs/\h.DictOfH (VM (E0 P w)) a xs:=by
 obtain⟨z,y,xs,r,o,C,E,G,I,J,L,N⟩:=(show Dj P w H h a (.dT A)from mj ok e);refine⟨z,y,xs,r,o,C,E,G,I,J,L,λx s=>?_,N⟩
 have all:∀{l:List (List Key×V)} {m:List (List Key×Aa×Value)},KT H l m->∀x∈m,(VM (E0 P w)).is h x.1 x.2.1:=by
  intro l m q
  induction q with
  | nil=>intro x s;exact nomatch s
  | @cons p q Q R B t O=>
   intro x s
   rcases Ae.mp s with e | s
   ·subst e
    exact Sw ok (by rw[<-B.1];exact B.2.1)
   ·exact O x s
 exact all r x s
theorem uO(ok:HOk P w H h)(e:H a=some (.dT l)):l.length<=sizeLine/\(a==EJ)=false /\
  ∃xs,KT H l xs/\h.DictOfH (VM (E0 P w)) a xs:=X4 ok (.inl e)
end
noncomputable def Ph(H:Hp)(a:Aa)(y:V)(r:Option V):Prop:=
 (∃l k,Rd H a (.dK l)/\y=kV k/\r=Ln l k)∨∃l k b,Rd H a (.dT l)/\y=.ref b/\H b=some (.tup (k.map kV))/\r=Ln l k
noncomputable def YF(H:Hp)(a:Aa)(y v:V)(m:Hp):Prop:=
 (∃l k,H a=some (.dK l)/\y=kV k/\l.length < sizeLine/\m=upd H a (.dK (Md l k v))) ∨
 ∃l k b,H a=some (.dT l)/\y=.ref b/\H b=some (.tup (k.map kV))/\l.length < sizeLine/\m=upd H a (.dT (Md l k v))
theorem Ph.k{H}{a}{l}{k}(e:H a=some (.dK l)):Ph H a (kV k) (Ln l k):=.inl ⟨l,k,.inl e,rfl,rfl⟩
theorem Ph.t{H}{a b}{l}{k}(e:H a=some (.dT l))(eb:H b=some (.tup (k.map kV))):Ph H a (.ref b) (Ln l k):=.inr ⟨l,k,b,.inl e,rfl,eb,rfl⟩
theorem YF.k{H}{a}{l}{k}{v}(e:H a=some (.dK l))(m:l.length < sizeLine):YF H a (kV k) v (upd H a (.dK (Md l k v))):=.inl ⟨l,k,e,rfl,m,rfl⟩
theorem YF.t{H}{a b}{l}{k}{v}(e:H a=some (.dT l))(eb:H b=some (.tup (k.map kV)))(m:l.length < sizeLine) :
  YF H a (.ref b) v (upd H a (.dT (Md l k v))):=.inr ⟨l,k,b,e,rfl,eb,m,rfl⟩
variable{X:Cx}{a b:Expr}{ta tb:TE}{pos:Pos}
theorem IxR.or(h:IxR X r)(h':IxR X E):IxR X (λx y H Q=>r x y H Q∨E x y H Q):=by
 intro value l m s o H x y v u Q I A B q C
 rcases q with q | q
 ·exact h value l m s o H x y v u Q I A B q C
 ·exact h' value l m s o H x y v u Q I A B q C
theorem tO(l:IxR X r)(m:PE X a ta)(hb:PE X b tb)(o:Wf b):PE X (.Subscript a b pos) (tOp r ta tb):=by
 intro A s B H Q I h;exact nL (qy m hb I h λv u C x y E G J L q=>l a b A C B E x y v u Q G J L q (o _ _))
noncomputable def rIxL(K:AG):R2:=λx y H Q=>∃p l i v,x=.ref p/\y=.int i/\SqL K H p l/\atI l i=some v/\Q v H
noncomputable def rIxT(K:AG):R2:=λx y H Q=>∃p l i v,x=.ref p/\y=.int i/\SqT K H p l/\atI l i=some v/\Q v H
theorem ix_list:IxR X (rIxL X.K):=by
 intro value m B s C H x y v u Q I L N h E;obtain⟨p,xs,i,z,rfl,rfl,O,P,q⟩:=h;cases L;obtain⟨t,rfl⟩:=N;obtain⟨R,r,o,hz⟩:=I.list O;obtain⟨j,l,S,h3,T,U⟩:=bI P;obtain⟨w,G,Y⟩:=r.get S;have Z:=r.length;have hn:=QK;have fin:EP X B C Q w s:=⟨z,H,I,Y,q⟩
 by_cases J:0<=i
 ·have A:i.toNat=j:=by
   rw[i7 J U]at l;exact Br l
  exact item_listR o.isList J (by lia) (by rw[A];simpa using G) fin E
 ·have A:(i+(R.toArray.size:Int)).toNat=j:=by
   rw[seqIndex_neg (by lia) T]at l;rw[Aj,<-Z];exact Br l
  exact dP (x:=w) o.isList.typeIs rJ.lookup
   (wpAny_getItem_list_neg (Q:=λr s'=>r=w/\EP X B C Q r s') o.isList (by lia) (by rw[Aj] <;> lia) (by lia) (by rw[A];simpa using G) ⟨rfl,fin⟩) E
theorem qD:IxR X (rIxT X.K):=by
 intro value l m s o H x y v u Q I B C h E;obtain⟨p,T,i,z,rfl,rfl,G,J,q⟩:=h;cases B;obtain⟨t,rfl⟩:=C;obtain⟨U,r,A,Y⟩:=I.tuple G;obtain⟨j,L,N,Z,h4,h5⟩:=bI J;obtain⟨w,O,P⟩:=r.get N;have R:=r.length;have hn:=QK;have fin:EP X m o Q w s:=⟨z,H,I,P,q⟩
 exact dP (x:=w) A.typeIs slot_tuple_getitem.lookup
  (getItem_tuple (j:=j) (Q:=λr S=>r=w/\EP X m o Q r S) A (by lia) (by lia) (by rw[Aj,<-R];exact L) (by simpa using O) ⟨rfl,fin⟩) E
theorem ZE(l:List Value)(n j:Nat)(u:Value):D8 (·.setIfInBounds j u) { cls:=.type "list",data:=.seq l.toArray n }={ cls:=.type "list",data:=.seq (l.set j u).toArray n }:=by
 simp[D8]
theorem Inv.lst(I:Inv X m o H s)(h:H p=some (.lst xs)) :
  ∃(l:List Value) (n:Nat),CC xs l/\s.heap.get? p=some { cls:=.type "list",data:=.seq l.toArray n }/\xs.length<=sizeLine:=by
 obtain⟨z,l,n,r,e⟩:=I.hok p _ h;exact⟨l,n,r,e,z⟩
theorem Inv.lstUpd{o:List (Aa×Obj)}{A:St}{H:Hp}{s:AS}{p:Aa}{xs l:List V}{B its':List Value}{n m:Nat}{f:Obj->Obj}(I:Inv X o A H s)(h:H p=some (.lst xs))
  (ho:s.heap.get? p=some { cls:=.type "list",data:=.seq B.toArray n }) (C:f { cls:=.type "list",data:=.seq B.toArray n }={ cls:=.type "list",data:=.seq its'.toArray m }) (r:CC l its') (E:l.length<=sizeLine) (t:Nat) :
  Inv X o A (upd H p (.lst l)) { s with heap:=s.heap.update p f,toks:=t }:=by
 have e:(s.heap.update p f).get? p=some { cls:=.type "list",data:=.seq its'.toArray m }:=by
  rw[Nf f ho (by rw[C] <;> rfl),C]
 refine I.write (x:=p) (e:=p) (by rw[h];trivial) (.inl rfl) (λb u hb q=>(YN _ _ (Ch hb)).trans q) ⟨_,e⟩ ?_;exact⟨E,its',m,r,e⟩
noncomputable def sy:V->V->V->Hp->(Hp->Prop)->Prop:=λo i v H Q=>∃p l k j,o=.ref p/\i=.int k/\H p=some (.lst l)/\ixN l.length k=some j/\Q (upd H p (.lst (l.set j v)))
theorem fG:ud X sy:=by
 intro O s P H o i v ov iv u Q I R S T h;obtain⟨p,U,k,j,rfl,rfl,C,Y,q⟩:=h;cases R;obtain⟨t,rfl⟩:=S;obtain⟨E,n,r,m,Z⟩:=I.lst C;obtain⟨l,h2,G,J⟩:=aZ Y;have A:=r.length;have hn:=QK
 have L:Inv X O P (upd H p (.lst (U.set j v))) { s with heap:=s.heap.update p (D8 (·.setIfInBounds j u)) }:=
  I.lstUpd C m (ZE E n j u) (r.set T j) (by rw[D5];exact Z) s.toks
 by_cases N:0<=k
 ·have B:k.toNat=j:=by
   rw[i7 N J]at l;exact Br l
  exact PySem.W.ki_setAt m N (by lia) (by rw[Aj,<-A];exact J) (by rw[B];exact⟨_,L,q⟩)
 ·have B:(k+(E.toArray.size:Int)).toNat=j:=by
   rw[seqIndex_neg (by lia) G]at l;rw[Aj,<-A];exact Br l
  exact PySem.W.ki_setBack m (by lia) (by rw[Aj,<-A];exact G) (by lia) (by rw[B];exact⟨_,L,q⟩)
theorem Vm(lo hi:Option Int)(n:Nat):(J9 lo hi none n).1=((HT.sIx n 0 lo:Nat):Int)/\(J9 lo hi none n).2.1=((HT.sIx n n hi:Nat):Int)/\(J9 lo hi none n).2.2=1:=by
 refine⟨?_,?_,rfl⟩
 ·cases lo with
  | none=>simp[J9,HT.sIx]
  | some i=>
   simp only[J9,HT.sIx,dI,show(1:Int) > 0 by decide,if_true]
   by_cases h:i < 0
   ·simp only[h,if_true] <;> lia
   ·simp only[h,if_false] <;> lia
 ·cases hi with
  | none=>simp[J9,HT.sIx]
  | some i=>
   simp only[J9,HT.sIx,dI,show(1:Int) > 0 by decide,if_true]
   by_cases h:i < 0
   ·simp only[h,if_true] <;> lia
   ·simp only[h,if_false] <;> lia
theorem UA(l:List Value)(lo hi:Option Int):slicePick l.toArray lo hi none=((l.drop (HT.sIx l.length 0 lo)).take (HT.sIx l.length l.length hi - HT.sIx l.length 0 lo)).toArray:=by
 obtain⟨m,o,s⟩:=Vm lo hi l.toArray.size;unfold slicePick;rw[m,o,s]
 simp only[sliceRange_one,pick_run,Aj] <;> rfl
noncomputable def sx(K:AG):V->Option Int->Option Int->Hp->VK->Prop:=λx lo m H Q=>∃a l,x=.ref a/\SqL K H a l/\∀p,H p=none->Q (.ref p) (upd H p (.lst (RJ l lo m)))
theorem j5:SlR X (sx X.K):=by
 intro O s P H x v R S lo A sl Q I C E G J h;obtain⟨a,l,rfl,L,q⟩:=h;cases C;obtain⟨T,r,B,N⟩:=I.list L;have m:=r.length;refine⟨"list",_,rJ.lookup,B.isList.typeIs,?_⟩;refine wpAny_getItem_list_slice B.isList E G J .none (by simp) ?_ (by rw[Aj] <;> lia);rw[UA,<-m];refine⟨.ref s.heap.objs.size,_,I.laid (t':=s.toks) (o:=.lst (RJ l lo A)) (λb U q=>AO _ q) (AJ _) ?_,rfl,q _ (I.hok.fresh (AJ _))⟩;exact⟨Au (Qv l lo A) N,_,0,(r.drop (HT.sIx l.length 0 lo)).take (HT.sIx l.length l.length A - HT.sIx l.length 0 lo),An _ rfl⟩
theorem WZ:LS X (.builtin "len") (λxs H Q=>∃p m,xs=[.ref p]/\(SqL X.K H p m∨SqT X.K H p m)/\Q (.int m.length) H):=by
 intro J s L H xs N Q I r h;obtain⟨p,m,rfl,o,q⟩:=h;obtain⟨u,rfl,C⟩:=vals1 r;cases C;have O:=QK
 rcases o with o | o
 ·obtain⟨E,A,B,G⟩:=I.list o
  have l:=A.length;exact Calls.call_len_list B.isList (by simp only[Aj] <;> lia) ⟨.int m.length,H,I.tok _,⟨s.toks+1,by rw[Aj,l]⟩,q⟩
 ·obtain⟨E,A,B,G⟩:=I.tuple o
  have l:=A.length;exact len_tuple B (by simp only[Aj] <;> lia) ⟨.int m.length,H,I.tok _,⟨s.toks+1,by rw[Aj,l]⟩,q⟩
theorem WY:LS X (.type "list") (λxs H Q=>∃p B,xs=[.ref p]/\(SqL X.K H p B∨SqT X.K H p B)/\∀l,H l=none->Q (.ref l) (upd H l (.lst B))):=by
 intro T s U H xs Z Q I r h;obtain⟨p,B,rfl,G,q⟩:=h;obtain⟨u,rfl,Y⟩:=vals1 r;cases Y
 have fin:∀(A:List Value),CC B A->B.length<=sizeLine->∀(m:DS) (C:Nat),(∀b S,s.heap.get? b=some S->m.get? b=some S) ->
   m.get? s.heap.objs.size=some { cls:=.type "list",dict:=none,data:=.seq A.toArray C,slots:=#[] }->EP X T U Q (.ref s.heap.objs.size) { s with heap:=m }:=λA E J m C kp e=>
  ⟨.ref s.heap.objs.size,_,I.laid (t':=s.toks) kp (AJ _) (show Dj X.prog X.w _ m _ (.lst B)from⟨J,A,C,E,e⟩),rfl,q _ (I.hok.fresh (AJ _))⟩
 rcases G with G | G
 ·obtain⟨A,E,N,J⟩:=I.list G
  have L:=E.length;obtain⟨o,O,P,n,R⟩:=N.isList;exact call_list_seq p (.inl rfl) O P R (λm C kp e=>fin A E J m C kp e) (by simp only[Aj] <;> lia)
 ·obtain⟨A,E,N,J⟩:=I.tuple G
  have L:=E.length;obtain⟨o,O,P,n,R⟩:=N;exact call_list_seq p (.inr rfl) O P R (λm C kp e=>fin A E J m C kp e) (by simp only[Aj] <;> lia)
theorem UL:LS X (.type "tuple") (λxs H Q=>∃p m,xs=[.ref p]/\((SqL X.K H p m/\∀l,H l=none->Q (.ref l) (upd H l (.tup m)))∨(SqT X.K H p m/\Q (.ref p) H))):=by
 intro J s L H xs T Q I r h;obtain⟨p,m,rfl,h⟩:=h;obtain⟨u,rfl,R⟩:=vals1 r;cases R
 rcases h with⟨B,q⟩ | ⟨B,q⟩
 ·obtain⟨C,E,G,N⟩:=I.list B
  have O:=E.length;refine call_tuple_list G.isList (λA kp=>?_) (by simp only[Aj] <;> lia);have P:Inv X J L H { s with heap:=A }:=I.kept (t':=s.toks) kp
  have S:Inv X J L (upd H A.objs.size (.tup m)) { s with heap:=A.push { cls:=.type "tuple",data:=.seq C.toArray } }:=
   P.laid (t':=s.toks) (λb o e=>AO _ e) (AJ _) (show Dj X.prog X.w _ _ _ (.tup m)from⟨⟨N,⟨_,An _ rfl,rfl⟩⟩,C,E,da _ _⟩)
  exact⟨.ref A.objs.size,_,S,rfl,q _ (P.hok.fresh (AJ _))⟩
 ·obtain⟨C,E,G,N⟩:=I.tuple B
  exact call_tuple_same G ⟨.ref p,H,I,rfl,q⟩
noncomputable def tyV(K:AG)(T:String)(x:V)(H:Hp):Prop:=match x with
 | .str _=>T = "str"
 | .int _=>T = "int"
 | .ref p=>(T = "list"/\∃m,SqL K H p m)∨(T = "tuple"/\∃o,K.lookup p=some o/\o.cls=.type "tuple"/\o.dict=none) ∨
   (T = "dict"/\((∃l,H p=some (.dK l))∨∃l,H p=some (.dT l)))∨(T = "set"/\∃S n,H p=some (.set S n))
 | _=>False
theorem eX(I:Inv X L N H s)(r:RelV x v)(ty:tyV X.K T x H) :
  s.TypeIs v T/\∀a,v=.ref a->∃B,s.heap.get? a=some B/\B.dict=none:=by
 cases x with
 | str z=>
  obtain⟨t,rfl⟩:=r;cases(show T = "str" from ty);exact⟨typeIs_str s z t,λ_ e=>nomatch e⟩
 | int i=>
  obtain⟨t,rfl⟩:=r;cases(show T = "int" from ty);exact⟨typeIs_int s i t,λ_ e=>nomatch e⟩
 | ref p=>
  cases r
  rcases ty with⟨rfl,O,E⟩ | ⟨rfl,o,l,G,m⟩ | ⟨rfl,l⟩ | ⟨rfl,S,n,l⟩
  ·obtain⟨P,_,C,_⟩:=I.list E
   refine⟨C.isList.typeIs,λa e=>?_⟩;cases e;obtain⟨o,n,e,c,m,_⟩:=C;exact⟨o,e,m⟩
  ·refine⟨⟨o,I.kIn p o l,G⟩,λa e=>?_⟩
   cases e;exact⟨o,I.kIn _ o l,m⟩
  ·have z:∃o,s.heap.get? p=some o/\o.ExactDict:=by
    rcases l with⟨J,l⟩ | ⟨J,l⟩
    ·obtain⟨_,_,_,_,o,_,_,e,ex,_⟩:=I.hok p _ l
     exact⟨o,e,ex⟩
    ·obtain⟨_,_,_,_,o,_,_,e,ex,_⟩:=I.hok p _ l
     exact⟨o,e,ex⟩
   obtain⟨o,e,ex⟩:=z;refine⟨⟨o,e,ex.1⟩,λa A=>?_⟩;cases A;exact⟨o,e,ex.2.1⟩
  ·obtain⟨o,_,_,_,e,ex,_⟩:=I.hok p _ l
   refine⟨⟨o,e,ex.1⟩,λa A=>?_⟩;cases A;exact⟨o,e,ex.2.1⟩
 | _=>exact Ey ty
noncomputable def tBM0(K:AG)(T:String)(r:V->List V->Hp->VK->Prop)(to:TE):TE:=λm H Q=>to m H λx l=>tyV K T x l/\r x [] l Q
noncomputable def tBM(K:AG)(T:String)(r:V->List V->Hp->VK->Prop)(to:TE)(t:TA):TE:=λl H Q=>to l H λx m=>tyV K T x m/\t l m λo s=>r x o s Q
variable{o e:Expr}{es:List Expr}{to:TE}{t:TA}{name:Str}{apos vh:Pos}{T id:String}{r:V->List V->Hp->VK->Prop}
theorem pL(E:PlainAttrs T)(l:Slot T name id)(G:typeOf (.builtin id)=pure (.type "method_descriptor")) (J:MtR X id r) (ho:PE X o to)
  (L:GZ o name X.env (Ci o X.env)=Ci o X.env:=by rfl) (N:(apos.endLine==vh.line)=true:=by rfl):PE X (.Call (.Attribute o name apos) [] [] vh) (tBM0 X.K T r to):=by
 intro m s A H Q I h;refine wpAny_Call_method0_late L N (thn (ho m s A H _ I h) λv O ⟨x,P,B,C,ty,R⟩=>?_);obtain⟨S,U⟩:=eX B C ty;exact⟨T,id,E,l,G,S,U,Wy rfl (PySem.evalArgs_none (J m O A P x [] v [] Q B C .nil R))⟩
theorem mq(G:PlainAttrs T)(l:Slot T name id)(J:typeOf (.builtin id)=pure (.type "method_descriptor")) (L:MtR X id r) (ho:PE X o to) (N:PA X (e :: es) t)
  (O:GZ o name X.env (Ci o X.env)=Ci o X.env:=by rfl)
  (P:((FB vh (Ag (e :: es) X.env)).all (λx=>!x.1)&&(YU vh (Pn [] X.env)).all (λx=>x.1.isSome)
    &&decide ((e :: es).length+([]:List YM).length+(if ([]:List YM).isEmpty then 0 else 1) < 30))=true:=by rfl)
  (R:(apos.endLine==vh.line)=true:=by rfl) (S:Ag (e :: es) X.env=(false,Ci e X.env) :: Ag es X.env:=by rfl) (U:(FB vh (Ag es X.env)).any (·.1)=false:=by rfl) :
  PE X (.Call (.Attribute o name apos) (e :: es) [] vh) (tBM X.K T r to t):=by
 intro m s A H Q I h;refine wpAny_Call_method_late O P R rfl (thn (ho m s A H _ I h) λv Y ⟨x,Z,B,C,ty,q1⟩=>?_);obtain⟨h1,h2⟩:=eX B C ty;refine⟨T,id,G,l,J,h1,h2,?_⟩;have E:=N vh m Y A Z _ B q1;rw[S]at E ⊢;refine Wy (by show(false||(FB vh (Ag es X.env)).any (·.1))=false;rw[U] <;> rfl) (Calls.evalArgs_plain ?_)
 exact thn E λus s2 ⟨vs,H2,I2,r2,q2⟩=>L m s2 A H2 x vs v us Q I2 C r2 q2
end
section
noncomputable def MtM(X:Cx)(id:String)(r:V->List V->Hp->VK->Prop):Prop:=
 ∀(l:List (Aa×Obj)) (s:AS) (m:St) (H:Hp) (x:V) (o:List V) (v:Value) (B:List Value) (Q:VK),Inv X l m H s->RelV x v->CC o B->r x o H Q ->
  Ao (Ac X.prog X.w) X.A (call (.builtin id) (v :: B)) (EP X l m Q) X.xe s
theorem CC.one:∀{x:V} {us:List Value},CC [x] us->∃u,us=[u]/\RelV x u
 | _,_,.cons r .nil=>⟨_,rfl,r⟩
section
variable{X:Cx}{ζ:List (Aa×Obj)}{σ:St}{H:Hp}{s:AS}{a:Aa}{y v:V}{u r:Value}{o:Option V}{A:Ce}{E:Value->AS->Prop}
theorem Inv.big(I:Inv X ζ σ H s):EJ < s.heap.objs.size:=by
 have h:Bb < s.heap.objs.size:=(I.mod.glob.keeps I.bk).lt;exact rp (by decide) h
theorem cw(L:A.units+1 < Fj)(I:Inv X ζ σ H s)(g:Ph H a y (some v))(J:RelV y u)(h:∀m s',Inv X ζ σ H s'->RelV v m->Q m s') :
  Ao (Ac X.prog X.w) A (K6 (.ref a) u) Q E s:=by
 rcases g with⟨N,k,e,B,l⟩ | ⟨N,k,b,e,B,O,l⟩
 ·subst B
  obtain⟨z,P,R,rel,C⟩:=X5 I.hok e;obtain⟨m,hw,G⟩:=N1.some_of (v:=v) (o:=Tl R k) (by rw[l];exact rel.val k);exact wpAny_getItem_of (Xy J) C.mapOf hw (h m _ (I.tok _) G)
 ·subst B
  cases(show u=Ba b from J);obtain⟨z,P,S,rel,C⟩:=X4 I.hok e;obtain⟨m,hw,G⟩:=N1.some_of (v:=v) (o:=(YV S k).map (·.2)) (by rw[l];exact rel.val k);obtain⟨p,T,U⟩:=Hm.mp hw;refine wpAny_getItem_heap (LY L) (Sw I.hok O) C T ?_;rw[U];exact h m _ (I.tok _) G
theorem d_in(J:A.units+1 < Fj)(I:Inv X ζ σ H s)(g:Ph H a y o)(G:RelV y u)(h:∀s',Inv X ζ σ H s'->Q (.bool o.isSome) s') :
  Ao (Ac X.prog X.w) A (CN .In u (.ref a)) Q E s:=by
 rcases g with⟨L,k,e,m,l⟩ | ⟨L,k,b,e,m,N,l⟩
 ·subst m
  obtain⟨z,B,O,rel,C⟩:=X5 I.hok e;refine wpAny_in_of (Xy G) B C.mapOf ?_;rw[<-(rel.val k).isSome_eq,<-l];exact h _ (I.tok _)
 ·subst m
  cases(show u=Ba b from G);obtain⟨z,B,P,rel,C⟩:=X4 I.hok e;refine wpAny_in_heap (LY J) (Sw I.hok N) B C ?_;have q:=(rel.val k).isSome_eq;rw[Hn]at q;rw[<-q,<-l];exact h _ (I.tok _)
theorem lr(J:A.units+1 < Fj)(I:Inv X ζ σ H s)(g:Ph H a y o)(G:RelV y u)(h:∀s',Inv X ζ σ H s'->Q (.bool (!o.isSome)) s') :
  Ao (Ac X.prog X.w) A (CN .NotIn u (.ref a)) Q E s:=by
 rcases g with⟨L,k,e,m,l⟩ | ⟨L,k,b,e,m,N,l⟩
 ·subst m
  obtain⟨z,B,O,rel,C⟩:=X5 I.hok e;refine wpAny_notIn_of (Xy G) B C.mapOf ?_;rw[<-(rel.val k).isSome_eq,<-l];exact h _ (I.tok _)
 ·subst m
  cases(show u=Ba b from G);obtain⟨z,B,P,rel,C⟩:=X4 I.hok e;refine wpAny_notIn_heap (LY J) (Sw I.hok N) B C ?_;have q:=(rel.val k).isSome_eq;rw[Hn]at q;rw[<-q,<-l];exact h _ (I.tok _)
theorem bB(I:Inv X ζ σ H s)(m:Mut (H a))(B:FK a s.heap h')(C:∃q,h'.get? a=some q)(new:Dj X.prog X.w (upd H a l) h' a l) :
  Inv X ζ σ (upd H a l) { s with heap:=h',toks:=t' }:=
 I.write (x:=a) (e:=a) m (.inl rfl) (λb q hb z=>(B.2 b hb).trans z) C new
theorem qp(z:l.length<=sizeLine)(m:(a==EJ)=false)(rel:KV l vs)(B:h'.DictOf (E0 P w) a vs) :
  Dj P w C h' a (.dK l):=⟨z,m,vs,rel,B⟩
theorem cv(hu:A.units+1 < Fj)(I:Inv X ζ σ H s)(g:YF H a y v H')(S:RelV y u)(T:RelV v r)(h:∀s',Inv X ζ σ H' s'->Q () s') :
  Ao (Ac X.prog X.w) A (rK (.ref a) u r) Q E s:=by
 rcases g with⟨m,k,e,G,l,J⟩ | ⟨m,k,b,e,G,U,l,J⟩
 ·subst G J
  obtain⟨z,L,vs,rel,N⟩:=uQ I.hok e
  have O:vs.length<=sizeLine:=by rw[<-rel.length];exact z
  have P:(Md m k v).length<=sizeLine:=by have:=Qt m k v;lia
  refine wpAny_setItem_pairs (hsz:=O) (Xy S) N λY B R=>h _ ?_
  have he:∃q,Y.get? a=some q:=let ⟨q,_,_,C,_⟩:=B;⟨q,C⟩
  exact bB I (by rw[e];exact Ml) R he (qp P L (rel.put k T) B)
 ·subst G J
  cases(show u=Ba b from S);obtain⟨z,L,xs,rel,N⟩:=uO I.hok e
  have O:xs.length<=sizeLine:=by rw[<-FR rel];exact z
  have P:(Md m k v).length<=sizeLine:=by have:=Qt m k v;lia
  refine wpAny_setItem_heap (hsz:=O) (LY hu) (Sw I.hok U) N λY B R=>h _ ?_
  obtain⟨q,es,ep,C,h2,h3,h4,_,h5⟩:=B;refine bB I (by rw[e];exact Ml) R ⟨q,C⟩ ⟨P,L,_,(rel.put k U T).keeps λc ys Z=>?_,q,es,ep,C,h2,h3,h4,h5⟩;rw[Bo (tj Z e (λz=>nomatch z))];exact Z
variable{X:Cx}{ζ:List (Aa×Obj)}{σ:St}{H:Hp}{s:AS}{l:Aa}{xs ys:List V}
theorem Inv.lset{m its':List Value}{n:Nat}{f:Array Value->Array Value}{t':Nat}(I:Inv X ζ σ H s)(B:H l=some (.lst xs))
  (e:s.heap.get? l=some { cls:=.type "list",data:=.seq m.toArray n }) (C:f m.toArray=its'.toArray) (G:CC ys its') (J:ys.length<=sizeLine) :
  Inv X ζ σ (upd H l (.lst ys)) { s with heap:=s.heap.update l (D8 f),toks:=t' }:=by
 have q:=PySem.IsL.update e f;rw[C]at q;refine I.write (x:=l) (e:=l) (by rw[B];exact trivial) (.inl rfl) (λN u hb L=>(YN s.heap (D8 f) (Ch hb)).trans L) ⟨_,q⟩ ?_;exact⟨J,its',_,G,q⟩
theorem Inv.lnew(I:Inv X ζ σ H s)(B:CC ys m)(C:ys.length<=sizeLine) :
  Inv X ζ σ (upd H s.heap.objs.size (.lst ys)) { s with heap:=s.heap.push { cls:=.type "list",data:=.seq m.toArray },toks:=t' }:=
 I.laid (λ_ _ q=>AO _ q) (AJ _) ⟨C,m,0,B,An _ rfl⟩
theorem Inv.fresh(I:Inv X ζ σ H s):H s.heap.objs.size=none:=I.hok.fresh (AJ _)
theorem Inv.lstM(I:Inv X ζ σ H s)(B:H l=some (.lst xs)):xs.length<=sizeLine/\∃(m:List Value) (n:Nat),CC xs m/\xs.length=m.length/\s.heap.get? l=some { cls:=.type "list",data:=.seq m.toArray n }:=by
 obtain⟨z,m,n,r,e⟩:=I.hok l _ B;exact⟨z,m,n,r,r.length,e⟩
theorem gH(h:n<=sizeLine):JU n=false:=by
 unfold JU;exact wY (by lia)
end
noncomputable def rB(i:Expr):Prop:=∀l m,Wi i false l m=operate [l,m] (K6 l m)
theorem j0{prog}{w}{A}{E}{s}{env}{value l}{pos}{T id}{Q}
  (J:typeLookup (.type T) "__getitem__" = pure (some (.builtin id))) (L:rB l)
  (h:Ao (Ac prog w) A (Ci value env) (λo B=>Ao (Ac prog w) A (Ci l env) (λi s₂=>s₂.TypeIs o T/\Ao (Ac prog w) A (K6 o i) Q E s₂) E B) E s) :
  Ao (Ac prog w) A (Ci (.Subscript value l pos) env) Q E s:=by
 refine nL (G2 h (λo B G=>G2 G (λi s₂ m=>?_) λ_ _ x=>x) λ_ _ x=>x);obtain⟨I,m⟩:=m;unfold bM;refine AB ?_;rw[getitemInPython_of_ne I.not_modules];refine AB (wpAny_specialOf I J ?_)
 have fin:Ao (Ac prog w) A (Wi l false o i) (λr C=>Ao (Ac prog w) A (letTemporaryGo value o r >>= λ_=>pure r) Q E C) E s₂:=by
  rw[L o i];exact wpAny_operating (G2 m (λr C H=>AB (wpAny_letTemporaryGo (AL H))) λ_ _ x=>x)
 first
  | exact AL (AB fin)
  | exact AB (AL (AB fin))
  | exact AB fin
theorem X6(I:Inv X A B H s)(g:Ph H a y o):s.TypeIs (.ref a) "dict":=by
 rcases g with⟨m,k,e,_,_⟩ | ⟨m,k,b,e,_,_,_⟩
 ·obtain⟨_,_,C,_,l⟩:=X5 I.hok e
  exact l.typeIs
 ·obtain⟨_,_,E,_,l⟩:=X4 I.hok e
  exact l.typeIs
noncomputable def sf(o ty:TE):TE:=λl H Q=>o l H λx s=>ty l s λy m=>∃a v,x=.ref a/\Ph m a y (some v)/\Q v m
noncomputable def se(ty s:TE):TE:=λl H Q=>ty l H λy A=>s l A λx m=>∃a o,x=.ref a/\Ph m a y o/\Q (.bl o.isSome) m
noncomputable def Z6(ty s:TE):TE:=λl H Q=>ty l H λy A=>s l A λx m=>∃a o,x=.ref a/\Ph m a y o/\Q (.bl (!o.isSome)) m
noncomputable def sv(o ty s:TE):TS:=λD l H=>s l H λv A=>o l A λx B=>ty l B λy C=>∃a m,x=.ref a/\YF C a y v m/\D.nx l m
variable{X:Cx}
noncomputable def kD:V->List V->Hp->VK->Prop:=λx o H Q=>∃l m y,x=.ref l/\o=[y]/\H l=some (.lst m)/\m.length < sizeLine/\Q .non (upd H l (.lst (m++[y])))
theorem Uj:MtM X "list.append" kD:=by
 intro E s G H x J v L Q I A B h;obtain⟨l,N,y,rfl,rfl,m,O,q⟩:=h;cases A;obtain⟨u,rfl,C⟩:=B.one;obtain⟨z,o,n,r,P,e⟩:=I.lstM m;refine call_meets F.slot_list_append ⟨_,e,rfl⟩ F.entry_list_append (F.args_list_append_2 _ _) (PySem.list_append l o.toArray n u (by rw[Aj];lia)) ⟨e,?_⟩;refine⟨.non,_,I.lset (its':=o++[u]) m e (by simp) (r.append (.cons C .nil)) ?_,rfl,q⟩;rw[AZ,A0]
 lia
noncomputable def kC:V->List V->Hp->VK->Prop:=λx s H Q=>∃l b m o,x=.ref l/\s=[.ref b]/\H l=some (.lst m)/\H b=some (.lst o)/\m.length+o.length<=sizeLine/\Q .non (upd H l (.lst (m++o)))
theorem cO:MtM X "list.extend" kC:=by
 intro R s S H x T v U Q I C E h;obtain⟨l,b,Y,Z,rfl,rfl,B,G,hz,q⟩:=h;cases C;obtain⟨u,rfl,J⟩:=E.one;cases J;obtain⟨z,m,n,r,hl,e⟩:=I.lstM B;obtain⟨z2,o,L,N,wt,O⟩:=I.lstM G
 have A:m.toArray.size+o.toArray.size<=sizeLine:=by rw[Aj,Aj];lia
 have P:¬(!m.toArray.isEmpty&&JU (m.toArray.size+o.toArray.size))=true:=by
  rw[gH A,Bool.and_false];exact AH
 refine call_meets F.slot_list_extend ⟨_,e,rfl⟩ F.entry_list_extend (F.args_list_extend_2 _ _)
  (AutoSeq1.list_extend_list_list_0 l m.toArray n b o.toArray L P (by rw[Aj];lia) (by lia)) ⟨e,O,?_⟩
 refine⟨.non,_,I.lset (its':=m++o) B e (by simp) (r.append N) ?_,rfl,q⟩;rw[AZ];omega
noncomputable def rCat:R2:=λx y H Q=>∃l b m o,x=.ref l/\y=.ref b/\H l=some (.lst m)/\H b=some (.lst o)/\m.length+o.length<=sizeLine/\∀p,H p=none->Q (.ref p) (upd H p (.lst (m++o)))
theorem pT:OpR X (DR .Add) rCat:=by
 intro N s O H x y v u Q I A B h;obtain⟨l,b,R,S,rfl,rfl,C,E,T,q⟩:=h;cases A;cases B;obtain⟨z,m,n,r,U,e⟩:=I.lstM C;obtain⟨Y,o,Z,G,wt,J⟩:=I.lstM E;refine PySem.P.add_list e J ?_ (by rw[Aj,Aj];lia)
 have L:m.toArray++o.toArray=(m++o).toArray:=by simp
 rw[L];exact⟨.ref _,_,I.lnew (t':=s.toks) (r.append G) (by rw[AZ];omega),rfl,q _ I.fresh⟩
section
variable{X:Cx}{o i value:Expr}{pos pos':Pos}{td ty tv:TE}
theorem ke(C:X.A.units+1 < Fj)(ho:PE X o td)(hi:PE X i ty)(E:rB i):PE X (.Subscript o i pos) (sf td ty):=by
 intro l s m H Q I h;refine j0 PySem.F.slot_dict_getitem.lookup E (thn (ho l s m H _ I h) λu G ⟨x,J,L,N,O⟩=>thn (hi l G m J _ L O) λY Z ⟨y,P,B,R,a,v,ex,g,S⟩=>?_);subst ex;obtain rfl:u=Ba a:=N;exact⟨X6 B g,cw C B g R λw' s3 T U=>⟨v,P,T,U,S⟩⟩
theorem pM(B:X.A.units+1 < Fj)(hi:PE X i ty)(ho:PE X o td):PC X .In i o (se ty td):=by
 intro l s m H Q I h
 refine thn (hi l s m H _ I h) λU C ⟨y,E,G,J,L⟩=>thn (ho l C m E _ G L) λu Y ⟨x,N,O,P,a,R,ex,g,S⟩=>?_
 subst ex;obtain rfl:u=Ba a:=P
 exact d_in B O g J λZ T=>⟨.bl R.isSome,N,T,rfl,S⟩
theorem Uc(B:X.A.units+1 < Fj)(hi:PE X i ty)(ho:PE X o td):PC X .NotIn i o (Z6 ty td):=by
 intro l s m H Q I h
 refine thn (hi l s m H _ I h) λU C ⟨y,E,G,J,L⟩=>thn (ho l C m E _ G L) λu Y ⟨x,N,O,P,a,R,ex,g,S⟩=>?_
 subst ex;obtain rfl:u=Ba a:=P
 exact lr B O g J λZ T=>⟨.bl (!R.isSome),N,T,rfl,S⟩
theorem kJ(B:X.A.units+1 < Fj)(ho:PE X o td)(hi:PE X i ty)(C:PE X value tv)(E:G9 value (some (.Subscript o i pos')) pos.line X.env=pure false) :
  PS X (.Assign [.Subscript o i pos'] value pos) (sv td ty tv):=by
 intro m s l H D I h;refine wpAny_Assign_Subscript (thn (C m s l H _ I h) λr G ⟨v,J,L,N,O⟩=>thn (ho m G l J _ L O) λu P ⟨x,Q,R,S,T⟩=>thn (hi m P l Q _ R T) λiv s3 ⟨y,H3,U,Y,a,Z,ex,g,q3⟩=>?_) E;subst ex;obtain rfl:u=Ba a:=S
 exact cv B U g Y N λs4 I4=>⟨l,Z,I4,q3⟩
end
theorem iQ(h:DS)(hb:EJ < h.objs.size):Dj P w H (h.push { cls:=.type "dict",data:=.dict #[] }) h.objs.size (.dK []):=
 ⟨Cw _,beq_eq_false_iff_ne.mpr (Ch (BJ hb)),[],.nil,DS.DictOf.new h⟩
theorem iN(h:DS)(hb:EJ < h.objs.size):Dj P w H (h.push { cls:=.type "dict",data:=.dict #[] }) h.objs.size (.dT []):=
 ⟨Cw _,beq_eq_false_iff_ne.mpr (Ch (BJ hb)),[],.nil,_,#[],0,An _ rfl,⟨rfl,rfl,rfl⟩,rfl,rfl,Ee⟩
noncomputable def oM:TE:=λ_ H Q=>∀p,H p=none->Q (.ref p) (upd H p (.dK []))
noncomputable def oK:TE:=λ_ H Q=>∀p,H p=none->Q (.ref p) (upd H p (.dT []))
variable{s:AS}
section
variable{X:Cx}{pos:Pos}
theorem fg:PE X (.Dict [] [] pos) oM:=λl s m H Q I h=>
 rj ⟨.ref s.heap.objs.size,_,I.laid (a:=s.heap.objs.size) (o:=.dK []) (t':=s.toks) (λ_ _ q=>AO _ q) (AJ _) (iQ s.heap I.big),rfl,h _ (I.hok.fresh (AJ _))⟩
theorem ff:PE X (.Dict [] [] pos) oK:=λl s m H Q I h=>
 rj ⟨.ref s.heap.objs.size,_,I.laid (a:=s.heap.objs.size) (o:=.dT []) (t':=s.toks) (λ_ _ q=>AO _ q) (AJ _) (iN s.heap I.big),rfl,h _ (I.hok.fresh (AJ _))⟩
end
end
end L2
namespace Att
open PySem PySem.W PySem.Calls PyProof.Rows
theorem RH:∀(ns:ZLi) (vs:List Value),WellAll P h vs (ns.map ui)->HC vs ns:=by
 intro ns
 induction ns with
 | nil=>
  intro vs w;rw[Mm]at w;cases w;exact .nil
 | cons n ns l=>
  intro vs w;rw[BA]at w
  cases w with
  | cons a b=>
   cases a;exact .cons _ _ (l _ b)
theorem bw{l:OpenLaw}{n:Nat}(E:l.most=some n){P:Params}{h:DS}{args:List WData}{m:List Value}
  (B:l.row.toRowW.claim.pre args=true) (G:WellAll P h m args) :
  ∃a vs ns,m=[Ba a]/\args=[WData.list (ns.map ui)]/\h.get? a=some { cls:=.type "list",data:=.seq vs.toArray }/\HC vs ns/\ns.length<=n:=by
 have H:WShape.hasAll [] args [.list .int]=true:=(pre_splitW B).1;have C:l.pre.holds [] { args:=args }=true:=(pre_splitW B).2;obtain⟨d,r,rfl,I,J⟩:=hasAllW_cons H;obtain rfl:=hasAllW_nil J;obtain⟨T,rfl,L⟩:=hasW_list I;obtain⟨ns,rfl⟩:=items_int L
 have o:ns.length<=n:=by
  unfold OpenLaw.pre at C
  have s:(WTm.not (.lt (.lit (.int (n:Int))) (.len (.arg 0)))).holds [] { args:=[.list (ns.map .int)] }=true:=by
   have s:=(holds_andW C).1;rw[E]at s;exact s
  have A:=condW_of s (w_not (w_lt w_lit (w_len_list (w_arg rfl))));rw[AD]at A
  refine Rt λq=>?_
  have N:(n:Int) < ((ns.length:Nat):Int):=by omega
  first
   | (rw[wX N]at A;exact zX A (by decide))
   | (simp at A;omega)
 cases G with
 | cons O Q=>
  cases Q
  cases O with
  | list R S=>exact⟨_,_,ns,rfl,rfl,R,RH ns _ S,o⟩
theorem cH(l:OpenLaw)(args:List WData):l.row.toRowW.claim.post args (.bool true) args=true:=
 postW_of (r:=l.row.toRowW) (X:=(true==true))
  (show rR [] (.bool true) .bool=true by first | rfl | decide | simp[rR,WShape.arms,WShape.armsAll])
  (show(WTm.eq .res (.lit (.bool true))).value [] { args:=args,res:=some (.bool true),after:=args }=some (.bool (true==true))from w_eq_bool (w_res rfl) w_lit) rfl
theorem YB{l:OpenLaw}{n:Nat}{q:Bs}{s:List Str}{N:(Str->Option Value)->DS->Prop}{O:CQ->DS->Prop}{d:DefRec}
  (T:l.most=some n) (U:d.params.defaults=[])
  (call:∀(w:CQ) (A m:AS) (I mb:Str->Option Value) (E:Aa) (o:Obj) (L J B:Value) (a:Aa) (vs:List Value) (ns:ZLi),
   Ground q s [] N w A I mb m.heap->O w m.heap ->
   m.heap.get? E=some o->o.data=.func (docDef d.name d.params d.body d.scope L J B)->m.heap.CodeRec J d.name->I d.name=some (.ref E) ->
   m.heap.get? a=some { cls:=.type "list",data:=.seq vs.toArray }->HC vs ns->ns.length<=n->m.gens = #[] ->
   OF (Ac l.prog w) Tq (.call (.ref E) ⟨[.ref a],[]⟩) (λr s'=>r=.ok (.ret (.bool true))/\OldK m.heap s'.heap/\s'.os=m.os/\LD s'.gens) m) :
  WalkO q s N O l.row.toRowW d [] (λf vs=>bO f vs):=by
 intro w A m I mb G Y E o L J B X kV Z hd wA P yu hg Q R as xP S hrd ϛ xQ;obtain rfl:X=.none:=Dflts.none P U;obtain rfl:kV=.none:=Dflts.noKw P;obtain⟨a,vs,ns,rfl,rfl,yw,C,H⟩:=bw T xP ϛ;refine enter_call (Tp (call w A m I mb E o L J B a vs ns G Y Z (fd_plain hd) wA yu yw C H hg) λr s' hq=>?_);obtain⟨rfl,h2,h3,h4⟩:=hq;exact⟨.inl ⟨.bool true,.bool true,[],rfl,λ_=>rfl,.bool true,cH l _,λ_=>⟨sD,λ_ hm=>(nomatch hm)⟩⟩,h2,h3,h4⟩
end Att
namespace L2
open PySem PySem.Spec PyProof.Rows
theorem UY:∀{vs:List Value} {ns:ZLi},HC vs ns->CC (ns.map V.int) vs
 | _,_,.nil=>.nil
 | _,_,.cons n t h=>.cons ⟨t,rfl⟩ (UY h)
noncomputable def mJ(H:Hp):Prop:=∀b,H b=none∨∃o l,H b=some (.frz o (.lst l))
theorem gf{P}{w}{K}{A mb}{CX}{k}{N a}{fd}{x}{sp}{s₁}{vs}{ns}
  (S:K.In s₁.heap) (T:s₁.heap.Ns Bb A) (hb:s₁.heap.Ns YT mb) (O:∀x:Str,x≠"__name__"->mb x=HA x) (ϝ:s₁.heap.NoLimit) (hg:s₁.gens = #[])
  (J:s₁.heap.get? a=some { cls:=.type "list",data:=.seq vs.toArray }) (hi:HC vs ns) (U:ns.length<=sizeLine) (hr:Ht k Tq)
  (F:∀base:DS,K.In base->base.Ns Bb A->DD P w K A base CX k N fd [x] sp) (zm:∀(s:AS) (u:Value),YQ s fd ⟨[u],[]⟩ [(x,u)])
  (yS:∀H:Hp,mJ H->SqL K H a (ns.map V.int)->sp [.ref a] H (λv _=>v=.bl true) λ_ _ _=>False)
  (Ϟ:∀H e s',CX [] H s₁ (λ_ _ _=>False) e s'->False) :
  OF (Ac P w) Tq (.call (.ref N) ⟨[.ref a],[]⟩) (λr s'=>r=.ok (.ret (.bool true))/\OldK s₁.heap s'.heap/\s'.os=s₁.os/\LD s'.gens) s₁:=by
 have X:=UY hi;have ϟ:=hi.length
 have l:∀H:Hp,mJ H->SqL K H a (ns.map V.int)->HOk P w H s₁.heap->(∀b,H b≠none->b=a)->(H a≠none->K.lookup a=none) ->
   OF (Ac P w) Tq (.call (.ref N) ⟨[.ref a],[]⟩) (λr s'=>r=.ok (.ret (.bool true))/\OldK s₁.heap s'.heap/\s'.os=s₁.os/\LD s'.gens) s₁:=by
  intro H Y hS B Z hK
  have wu:∀{b:Aa} {o:Obj},s₁.heap.get? b=some o->H b=none->(WJ s₁.heap H).get? b=some o:=λe n=>gt e n
  have zg:∀{b:Aa} {o:Obj} {C:Array Qh} {ep:Nat},s₁.heap.get? b=some o->o.data=.dict C ep->H b=none:=λ{b o C ep} e d=>by
   cases q:H b with
   | none=>rfl
   | some u=>
    have Q:b=a:=Z b (by rw[q];simp);subst Q;rw[J]at e;cases e;have d':Data.seq vs.toArray _=Data.dict C ep:=d;cases d'
  have L:∀{b:Aa} {m:Str->Option Value},s₁.heap.Ns b m->(WJ s₁.heap H).Ns b m:=λ{b m} ⟨o,C,ep,e,d,r⟩=>⟨o,C,ep,wu e (zg e d),d,r⟩
  have E:K.In (WJ s₁.heap H):=λb o e=>wu (S b o e) (by
   cases q:H b with
   | none=>rfl
   | some u=>
    have Q:b=a:=Z b (by rw[q];simp);subst Q
    rw[hK (by rw[q];simp)]at e;cases e)
  have hM:Mod K A (WJ s₁.heap H):=⟨E,L T,⟨mb,L hb,O⟩,let ⟨mc,h1,h2⟩:=ϝ;⟨mc,L h1,h2⟩⟩;have e0:Zl P w K A (WJ s₁.heap H) Tq [] s₁ H:=⟨rfl,hM,λb o e=>k6 e,rq (cX _ _),trivial,λb hb=>zX (show b∈([]:List Aa)from hb) (by simp),B,.of_eq hg⟩
  refine Tp ((F _ E (L T)).run Tq [] s₁ H ⟨[.ref a],[]⟩ [.ref a] [.ref a] _ _ hr e0 (zm s₁ (.ref a)) (.cons rfl .nil) (yS H Y hS)) λr s' h=>?_
  cases r with
  | error e=>exact(Ϟ H e s' h).elim
  | ok fl=>
   cases fl with
   | next=>exact Ey h
   | brk=>exact Ey h
   | cont=>exact Ey h
   | ret u=>
    obtain⟨v,H',os,G,un,Ϡ,r',q⟩:=h;have q':v=.bl true:=q;subst q';obtain rfl:u=D0 true:=r';refine⟨rfl,OldK.of_keep λb o e=>?_,os,G⟩
    cases q:H b with
    | none=>exact un.keep b o e q (by intro z;exact zX (show b∈([]:List Aa)from z) (by simp)) (by simp)
    | some u=>
     rcases Y b with z | ⟨ob,xs,z⟩
     ·rw[q]at z;cases z
     ·have z2:=un.frzs b ob _ z
      obtain⟨e1,_⟩:=B b _ z;obtain⟨e2,_⟩:=Ϡ b _ z2;rw[e]at e1;cases e1;exact e2
 cases R:K.lookup a with
 | some o=>
  have e:=S a o R;rw[J]at e;cases e
  refine l (λ_=>none) (λ_=>.inl rfl) (.inr ⟨_,vs.toArray,_,R,rfl,rfl,rfl,by rw[Aj,ϟ];exact U,by simpa using X⟩) (λb u z=>by have I:(none:Option HO)=some u:=z;cases I) (λb z=>zX rfl z) λz=>zX rfl z
 | none=>
  refine l (λb=>if b=a then some (.frz { cls:=.type "list",data:=.seq vs.toArray } (.lst (ns.map V.int)))else none) (λb=>?_) (.inl (.inr ⟨{ cls:=.type "list",data:=.seq vs.toArray },qX rfl⟩)) (λb u z=>?_) (λb z=>?_) λ_=>R
  ·by_cases hb:b=a
   ·exact .inr ⟨_,_,qX hb⟩
   ·exact .inl (qY hb)
  ·by_cases hb:b=a
   ·have I:=(qX hb).symm.trans z
    cases I;subst hb;exact⟨J,by rw[AD];exact U,vs,_,X,J⟩
   ·have I:=(qY hb).symm.trans z
    cases I
  ·by_cases hb:b=a
   ·exact hb
   ·exact zX (qY hb) z
theorem jT{l:PySem.W.OpenLaw}{n k:Nat}{q:Bs}{A:List Str}{O:(Str->Option Value)->DS->Prop}{J:CQ->DS->Prop}{d:DefRec}{K:Params->AG}{CX:CQ->CXT}{sp:CQ->Sp}{x:Str}
  (P:l.most=some n) (Q:n<=sizeLine) (R:d.params.defaults=[]) (S:Ht k Tq)
  (U:∀(w:CQ) (h:DS),J w h->(K w.params).In h)
  (F:∀(w:CQ) (C:Str->Option Value) (I:Aa) (h:DS),(K w.params).In h->h.Ns Bb C->C d.name=some (.ref I) ->
   ∃fd:Ld,(∀(s:AS) (u:Value),YQ s fd ⟨[u],[]⟩ [(x,u)]) /\
    ∀base:DS,(K w.params).In base->base.Ns Bb C->DD l.prog w (K w.params) C base (CX w) k I fd [x] (sp w))
  (X:∀(w:CQ) (H:Hp) (a:Aa) (ns:ZLi),ns.length<=n->mJ H->SqL (K w.params) H a (ns.map V.int)->sp w [.ref a] H (λv _=>v=.bl true) λ_ _ _=>False)
  (Z:∀(w:CQ) (H:Hp) (s:AS) (e:Value) (s':AS),CX w [] H s (λ_ _ _=>False) e s'->False) :
  PySem.W.WalkO q A O J l.row.toRowW d [] (λf vs=>bO f vs):=by
 refine Att.YB P R λw L E C mb I o pm cd doc a vs ns G Y ho hd wA yu yw B m hg=>?_
 have N:=U w _ Y;obtain⟨fd,hb,hF⟩:=F w C I _ N G.T.g yu
 exact gf N G.T.g G.T.b G.T.builtins G.T.nolimit hg yw B (Au m Q) S hF hb (λH hO hS=>X w H a ns m hO hS) λH e s'=>Z w H E e s'
noncomputable def MA(s:DZ)(j:Nat):DZ:=match s with
 | .ClassDef _ _ _ body _ _ _ _ _ _ _=>body.getD j (.Pass ⟨0,0,0,0⟩)
 | _=>.Pass ⟨0,0,0,0⟩
noncomputable def MJ(s:DZ):Arguments:=match s with
 | .FunctionDef _ a _ _ _ _ _ _ _ _=>a
 | _=>{ posonlyargs:=[],args:=[],vararg:=none,kwonlyargs:=[],kw_defaults:=[],kwarg:=none,defaults:=[] }
noncomputable def JQ(s:DZ):List DZ:=match s with
 | .FunctionDef _ _ b _ _ _ _ _ _ _=>b
 | _=>[]
noncomputable def BG(s:DZ):Tr:=match s with
 | .FunctionDef _ _ _ _ _ _ l _ _ _=>l
 | _=>{ kind:=.function,names:=[],isGenerator:=false,isCoroutine:=false }
structure Fun(K:AG)(x qual:Str)(st:DZ)(f:Aa)(fd:Ld):Prop where
 ex:∃(oc:Value) (od:Option Aa) (kV doc pm:Value) (an:Option Aa) (vm ct:Value) (wK:Array (Option Value)),
  fd=JL x qual (MJ st) (JQ st) (BG st) .none kV doc pm an vm ct/\K.lookup f=some ⟨oc,od,.func fd,wK⟩/\Rs K vm qual=true
 kp:Fs K (.ref f)=true
section
variable{K:AG}
theorem Fun.binds{x l}{st}{f}{fd}{ps}(F:Fun K x l st f fd)
  (h:∀(kV m o:Value) (s:Option Aa) (A ct:Value) (us:List Value),us.length=ps.length->jA (JL x l (MJ st) (JQ st) (BG st) .none kV m o s A ct) ⟨us,[]⟩=pure (ps.zip us)):Binds K fd ps []:=by
 obtain⟨B,C,kV,m,o,s,A,ct,E,rfl,G,H⟩:=F.ex;exact .all (h kV m o s A ct)
theorem hW{x m}{st}{f}{C}{E A}{G}{kV o B s ct}(l:K.lookup f=some ⟨C,E,.func (JL x m (MJ st) (JQ st) (BG st) .none kV o B A s ct),G⟩)
  (c:Rs K s m=true) (k:Fs K (.ref f)=true):Fun K x m st f (JL x m (MJ st) (JQ st) (BG st) .none kV o B A s ct):=⟨⟨C,E,kV,o,B,A,s,ct,G,rfl,l,c⟩,k⟩
end
section
variable{X:Cx}
theorem pv(i:Nat)(hN:X.N[i]?=some x:=by rfl)(l:Vis X.env.scope x:=by first | exact Oh rfl | exact Nb (Oh rfl) | exact Nb (Nb rfl))(m:(x==("__debug__" : Str))=false:=by decide)
  (o:(x==("__classdict__" : Str))=false:=by decide):PE X (.Name x pos) (oH i):=pB hN l m o
end
inductive D where
 | non | bl (b:Bool) | int (i:Int) | str (x:Str) | tup (ds:List D) | fro (ds:List D) | ref (n:Nat) | exc (C:Aa)
noncomputable def UP(K:AG)(H:Hp)(a:Aa)(vs:List V):Prop:=
 (∃o,H a=some (.frz o (.lst vs))) ∨
  ∃(o:Obj) (l:Array Value) (n:Nat),K.lookup a=some o/\o.cls=.type "list"/\o.dict=none/\o.data=.seq l n/\l.size<=sizeLine/\CC vs l.toList
theorem UP.sq{K}{H}{a}{vs}(h:UP K H a vs):SqL K H a vs:=by
 rcases h with h | h
 ·exact .inl (.inr h)
 ·exact .inr h
noncomputable def ExcO(o:Obj)(C:Aa):Prop:=o.cls=.ref C/\o.dict=none/\∃l,o.data=.fields l
mutual
inductive CK(K:AG)(ρ:List Aa)(H:Hp):D->V->Prop where
 | non:CK K ρ H .non .non
 | bl (b:Bool):CK K ρ H (.bl b) (.bl b)
 | int (i:Int):CK K ρ H (.int i) (.int i)
 | str (x:Str):CK K ρ H (.str x) (.str x)
 | tup {ds:List D} {a:Aa} {vs:List V}:H a=some (.tup vs)->Ax K ρ H ds vs->CK K ρ H (.tup ds) (.ref a)
 | fro {ds:List D} {a:Aa} {vs:List V}:UP K H a vs->Ax K ρ H ds vs->CK K ρ H (.fro ds) (.ref a)
 | ref {n:Nat} {a:Aa}:ρ[n]?=some a->CK K ρ H (.ref n) (.ref a)
 | exc {C a:Aa} {o:Obj} {u:HO}:H a=some (.frz o u)->ExcO o C->CK K ρ H (.exc C) (.ref a)
inductive Ax(K:AG)(ρ:List Aa)(H:Hp):List D->List V->Prop where
 | nil:Ax K ρ H [] []
 | cons {d:D} {v:V} {ds:List D} {vs:List V}:CK K ρ H d v->Ax K ρ H ds vs->Ax K ρ H (d :: ds) (v :: vs)
end
structure Le(K:AG)(ρ:List Aa)(H:Hp)(ρ':List Aa)(H':Hp):Prop where
 pre:∀(n:Nat) a,ρ[n]?=some a->ρ'[n]?=some a
 tup:∀a xs,H a=some (.tup xs)->H' a=some (.tup xs)
 frz:∀a o u,H a=some (.frz o u)->H' a=some (.frz o u)
 oth:∀a o,H a=some o->(∀n:Nat,ρ[n]?≠some a)->H' a=some o/\∀n:Nat,ρ'[n]?≠some a
theorem UP.mono{K}{H m}{a}{xs}(l:∀a o u,H a=some (.frz o u)->m a=some (.frz o u))(h:UP K H a xs):UP K m a xs:=by
 rcases h with⟨o,h⟩ | h
 ·exact .inl ⟨o,l _ _ _ h⟩
 ·exact .inr h
section
variable{K:AG}{ρ ρ' ρ'':List Aa}{H H' xc:Hp}
theorem Le.fro(l:Le K ρ H ρ' H'):∀a xs,UP K H a xs->UP K H' a xs:=λ_ _ h=>h.mono l.frz
theorem Le.refl:Le K ρ H ρ H:=⟨λ_ _ h=>h,λ_ _ h=>h,λ_ _ _ h=>h,λ_ _ h n=>⟨h,n⟩⟩
theorem Le.trans(a:Le K ρ H ρ' H')(b:Le K ρ' H' ρ'' xc):Le K ρ H ρ'' xc:=
 ⟨λn x h=>b.pre n x (a.pre n x h),λx l h=>b.tup x l (a.tup x l h),λx o u h=>b.frz x o u (a.frz x o u h),λx o h n=>b.oth x o (a.oth x o h n).1 (a.oth x o h n).2⟩
mutual
theorem CK.mono(l:Le K ρ H ρ' H'):∀{d:D} {v:V},CK K ρ H d v->CK K ρ' H' d v
 | _,_,.non=>.non
 | _,_,.bl b=>.bl b
 | _,_,.int i=>.int i
 | _,_,.str x=>.str x
 | _,_,.tup h r=>.tup (l.tup _ _ h) (Ax.mono l r)
 | _,_,.fro h r=>.fro (l.fro _ _ h) (Ax.mono l r)
 | _,_,.ref h=>.ref (l.pre _ _ h)
 | _,_,.exc h e=>.exc (l.frz _ _ _ h) e
theorem Ax.mono(l:Le K ρ H ρ' H'):∀{ds:List D} {vs:List V},Ax K ρ H ds vs->Ax K ρ' H' ds vs
 | _,_,.nil=>.nil
 | _,_,.cons r t=>.cons (CK.mono l r) (Ax.mono l t)
end
mutual
theorem CK.more(l:∀(n:Nat) a,ρ[n]?=some a->ρ'[n]?=some a):∀{d:D} {v:V},CK K ρ H d v->CK K ρ' H d v
 | _,_,.non=>.non
 | _,_,.bl b=>.bl b
 | _,_,.int i=>.int i
 | _,_,.str x=>.str x
 | _,_,.tup h r=>.tup h (Ax.more l r)
 | _,_,.fro h r=>.fro h (Ax.more l r)
 | _,_,.ref h=>.ref (l _ _ h)
 | _,_,.exc h e=>.exc h e
theorem Ax.more(l:∀(n:Nat) a,ρ[n]?=some a->ρ'[n]?=some a):∀{ds:List D} {vs:List V},Ax K ρ H ds vs->Ax K ρ' H ds vs
 | _,_,.nil=>.nil
 | _,_,.cons r t=>.cons (CK.more l r) (Ax.more l t)
end
mutual
theorem CK.keep(m:∀a xs,H a=some (.tup xs)->H' a=some (.tup xs))(l:∀a o u,H a=some (.frz o u)->H' a=some (.frz o u)):∀{d:D} {v:V},CK K ρ H d v->CK K ρ H' d v
 | _,_,.non=>.non
 | _,_,.bl b=>.bl b
 | _,_,.int i=>.int i
 | _,_,.str x=>.str x
 | _,_,.tup h r=>.tup (m _ _ h) (Ax.keep m l r)
 | _,_,.fro h r=>.fro (h.mono l) (Ax.keep m l r)
 | _,_,.ref h=>.ref h
 | _,_,.exc h e=>.exc (l _ _ _ h) e
theorem Ax.keep(l:∀a xs,H a=some (.tup xs)->H' a=some (.tup xs))(m:∀a o u,H a=some (.frz o u)->H' a=some (.frz o u)):∀{ds:List D} {vs:List V},Ax K ρ H ds vs->Ax K ρ H' ds vs
 | _,_,.nil=>.nil
 | _,_,.cons r t=>.cons (CK.keep l m r) (Ax.keep l m t)
end
theorem Ax.length:∀{ds:List D} {vs:List V},Ax K ρ H ds vs->ds.length=vs.length
 | _,_,.nil=>rfl
 | _,_,.cons _ t=>by rw[At,At,Ax.length t]
theorem Ax.get:∀{ds:List D} {vs:List V} {i:Nat} {d:D},Ax K ρ H ds vs->ds[i]?=some d->∃v,vs[i]?=some v/\CK K ρ H d v
 | _,_,_,_,.nil,e=>by simp at e
 | _,_,0,_,.cons r _,e=>by simp at e;subst e;exact⟨_,rfl,r⟩
 | _,_,i+1,d,.cons _ t,e=>by
  obtain⟨v,l,m⟩:=Ax.get (i:=i) (d:=d) t (by simpa using e);exact⟨v,by simpa using l,m⟩
theorem Ax.get':∀{ds:List D} {vs:List V} {i:Nat} {v:V},Ax K ρ H ds vs->vs[i]?=some v->∃d,ds[i]?=some d/\CK K ρ H d v
 | _,_,_,_,.nil,e=>by simp at e
 | _,_,0,_,.cons r _,e=>by simp at e;subst e;exact⟨_,rfl,r⟩
 | _,_,i+1,d,.cons _ t,e=>by
  obtain⟨v,l,m⟩:=Ax.get' (i:=i) (v:=d) t (by simpa using e);exact⟨v,by simpa using l,m⟩
theorem Ax.append:∀{ds es:List D} {vs us:List V},Ax K ρ H ds vs->Ax K ρ H es us->Ax K ρ H (ds++es) (vs++us)
 | _,_,_,_,.nil,s=>s
 | _,_,_,_,.cons r t,s=>.cons r (Ax.append t s)
theorem Ax.take:∀{ds:List D} {vs:List V} (n:Nat),Ax K ρ H ds vs->Ax K ρ H (ds.take n) (vs.take n)
 | _,_,0,_=>.nil
 | _,_,_+1,.nil=>.nil
 | _,_,n+1,.cons r t=>.cons r (Ax.take n t)
theorem Ax.drop:∀{ds:List D} {vs:List V} (n:Nat),Ax K ρ H ds vs->Ax K ρ H (ds.drop n) (vs.drop n)
 | _,_,0,r=>r
 | _,_,_+1,.nil=>.nil
 | _,_,n+1,.cons _ t=>Ax.drop n t
theorem Ax.set(r:CK K ρ H d v):∀{ds:List D} {vs:List V} (i:Nat),Ax K ρ H ds vs->Ax K ρ H (ds.set i d) (vs.set i v)
 | _,_,_,.nil=>.nil
 | _,_,0,.cons _ t=>.cons r t
 | _,_,i+1,.cons q t=>.cons q (Ax.set r i t)
theorem Ax.reverse(h:Ax K ρ H ds vs):Ax K ρ H ds.reverse vs.reverse:=by
 induction ds generalizing vs with
 | nil=>cases h;exact .nil
 | cons d ds l=>
  cases h with
  | cons r t=>rw[dW,dW];exact(l t).append (.cons r .nil)
theorem Ax.of_ints:∀(ns:ZLi),Ax K ρ H (ns.map D.int) (ns.map V.int)
 | []=>.nil
 | n :: ns=>.cons (.int n) (Ax.of_ints ns)
theorem Ax.ints:∀{ns:ZLi} {vs:List V},Ax K ρ H (ns.map D.int) vs->vs=ns.map V.int
 | [],_,.nil=>rfl
 | n :: ns,_,.cons r t=>by
  cases r;rw[Ax.ints (ns:=ns) t];rfl
end
inductive Ob where
 | lst (ds:List D)
 | dK (f':List (Key×D))
 | dT (f':List (List Key×D))
 | ins (C:Aa) (fs:List (Str×D))
 | fK (f':List (Key×D))
 | fT (f':List (List Key×D))
 | mem (L:Key->Int)
noncomputable abbrev Sto:=List Ob
noncomputable def WA:List Key:=(D4 1000).map λ(i:Nat)=>Dh (i:Int)
noncomputable abbrev KVR{l:Type}(K:AG)(ρ:List Aa)(H:Hp):List (l×D)->List (l×V)->Prop:=G3 λ(p:l×D) (q:l×V)=>p.1=q.1/\CK K ρ H p.2 q.2
noncomputable def Eg(K:AG)(ρ:List Aa)(H:Hp)(a:Aa):Ob->Prop
 | .lst B=>∃s,H a=some (.lst s)/\Ax K ρ H B s
 | .dK m=>∃l,H a=some (.dK l)/\KVR K ρ H m l
 | .dT m=>∃l,H a=some (.dT l)/\KVR K ρ H m l
 | .ins C fs=>∃E A,H a=some (.ins C E A)/\KVR K ρ H fs A
 | .fK m=>∃o l,H a=some (.frz o (.dK l))/\KVR K ρ H m l
 | .fT m=>∃o l,H a=some (.frz o (.dT l))/\KVR K ρ H m l
 | .mem L=>∃l,H a=some (.dK l)/\(l.map (·.1)).Nodup/\∀x∈l,x.1∈WA/\x.2=V.int (L x.1)
structure CU(K:AG)(ρ:List Aa)(S:Sto)(H:Hp):Prop where
 len:ρ.length=S.length
 nd:∀(i j:Nat) a,ρ[i]?=some a->ρ[j]?=some a->i=j
 ob:∀(n:Nat) o a,S[n]?=some o->ρ[n]?=some a->Eg K ρ H a o
section
variable{K:AG}{ρ ρ':List Aa}{H H':Hp}{S:Sto}{a p:Aa}{o:Ob}{n:Nat}{ho:HO}
theorem KVR.mono{m:Type}(l:Le K ρ H ρ' H'){x:List (m×D)}{y:List (m×V)}(h:KVR K ρ H x y):KVR K ρ' H' x y:=G3.mapP h λ_ _ z=>⟨z.1,z.2.mono l⟩
theorem KVR.keys{l:Type}:∀{x:List (l×D)} {y:List (l×V)},KVR K ρ H x y->x.map (·.1)=y.map (·.1)
 | _,_,.nil=>rfl
 | _,_,.cons r t=>by rw[BA,BA,r.1,KVR.keys t]
theorem Eg.has(h:Eg K ρ H a o):H a≠none:=by
 cases o with
 | lst l=>obtain⟨_,e,_⟩:=h;rw[e];exact λz=>nomatch z
 | dK l=>obtain⟨_,e,_⟩:=h;rw[e];exact λz=>nomatch z
 | dT l=>obtain⟨_,e,_⟩:=h;rw[e];exact λz=>nomatch z
 | ins C fs=>obtain⟨_,_,e,_⟩:=h;rw[e];exact λz=>nomatch z
 | fK l=>obtain⟨_,_,e,_⟩:=h;rw[e];exact λz=>nomatch z
 | fT l=>obtain⟨_,_,e,_⟩:=h;rw[e];exact λz=>nomatch z
 | mem L=>obtain⟨_,e,_⟩:=h;rw[e];exact λz=>nomatch z
theorem Eg.mono(l:Le K ρ H ρ' H')(e:H' a=H a)(h:Eg K ρ H a o):Eg K ρ' H' a o:=by
 cases o with
 | lst E=>obtain⟨m,s,A⟩:=h;exact⟨m,e.trans s,A.mono l⟩
 | dK E=>obtain⟨m,s,A⟩:=h;exact⟨m,e.trans s,A.mono l⟩
 | dT E=>obtain⟨m,s,A⟩:=h;exact⟨m,e.trans s,A.mono l⟩
 | ins C fs=>obtain⟨B,m,s,A⟩:=h;exact⟨B,m,e.trans s,A.mono l⟩
 | fK E=>obtain⟨B,m,s,A⟩:=h;exact⟨B,m,e.trans s,A.mono l⟩
 | fT E=>obtain⟨B,m,s,A⟩:=h;exact⟨B,m,e.trans s,A.mono l⟩
 | mem L=>obtain⟨m,s,A⟩:=h;exact⟨m,e.trans s,A⟩
theorem Eg.keep(A:∀a xs,H a=some (.tup xs)->H' a=some (.tup xs))(B:∀a o u,H a=some (.frz o u)->H' a=some (.frz o u))(e:H' a=H a)(h:Eg K ρ H a o):Eg K ρ H' a o:=by
 cases o with
 | lst G=>obtain⟨l,m,s⟩:=h;exact⟨l,e.trans m,s.keep A B⟩
 | dK G=>obtain⟨l,m,s⟩:=h;exact⟨l,e.trans m,G3.mapP s λ_ _ z=>⟨z.1,z.2.keep A B⟩⟩
 | dT G=>obtain⟨l,m,s⟩:=h;exact⟨l,e.trans m,G3.mapP s λ_ _ z=>⟨z.1,z.2.keep A B⟩⟩
 | ins C fs=>obtain⟨E,l,m,s⟩:=h;exact⟨E,l,e.trans m,G3.mapP s λ_ _ z=>⟨z.1,z.2.keep A B⟩⟩
 | fK G=>obtain⟨E,l,m,s⟩:=h;exact⟨E,l,e.trans m,G3.mapP s λ_ _ z=>⟨z.1,z.2.keep A B⟩⟩
 | fT G=>obtain⟨E,l,m,s⟩:=h;exact⟨E,l,e.trans m,G3.mapP s λ_ _ z=>⟨z.1,z.2.keep A B⟩⟩
 | mem L=>obtain⟨l,m,s⟩:=h;exact⟨l,e.trans m,s⟩
theorem Eg.mono'(l:∀(n:Nat) a,ρ[n]?=some a->ρ'[n]?=some a)(h:Eg K ρ H a o):Eg K ρ' H a o:=by
 cases o with
 | lst E=>obtain⟨m,s,A⟩:=h;exact⟨m,s,A.more l⟩
 | dK E=>obtain⟨m,s,A⟩:=h;exact⟨m,s,G3.mapP A λ_ _ z=>⟨z.1,z.2.more l⟩⟩
 | dT E=>obtain⟨m,s,A⟩:=h;exact⟨m,s,G3.mapP A λ_ _ z=>⟨z.1,z.2.more l⟩⟩
 | ins C fs=>obtain⟨B,m,s,A⟩:=h;exact⟨B,m,s,G3.mapP A λ_ _ z=>⟨z.1,z.2.more l⟩⟩
 | fK E=>obtain⟨B,m,s,A⟩:=h;exact⟨B,m,s,G3.mapP A λ_ _ z=>⟨z.1,z.2.more l⟩⟩
 | fT E=>obtain⟨B,m,s,A⟩:=h;exact⟨B,m,s,G3.mapP A λ_ _ z=>⟨z.1,z.2.more l⟩⟩
 | mem L=>exact h
theorem HY(m:H p=none∨Mut (H p)):(∀a xs,H a=some (.tup xs)->upd H p ho a=some (.tup xs))/\∀a o u,H a=some (.frz o u)->upd H p ho a=some (.frz o u):=by
 have l:∀a u,H a=some u->¬Mut (some u)->a≠p:=λa u e s z=>by
  subst z
  rcases m with h | h
  ·rw[e]at h;cases h
  ·rw[e]at h;exact s h
 refine⟨λa xs e=>?_,λa o u e=>?_⟩
 ·rw[Bo (l a _ e λz=>z)];exact e
 ·rw[Bo (l a _ e λz=>z)];exact e
theorem Le.fresh(l:H p=none):Le K ρ H ρ (upd H p ho):=
 ⟨λ_ _ h=>h,(HY (.inl l)).1,(HY (.inl l)).2,λa o e n=>⟨by rw[Bo (Cr e l)];exact e,n⟩⟩
theorem Le.write(m:ρ[n]?=some p)(l:Mut (H p)):Le K ρ H ρ (upd H p ho):=
 ⟨λ_ _ h=>h,(HY (.inr l)).1,(HY (.inr l)).2,λa o e h=>⟨by rw[Bo λz=>h n (by rw[z];exact m)];exact e,h⟩⟩
theorem Ju{s:Type}{l:List s}{x:s}{m:Nat}{a:s}(e:(l++[x])[m]?=some a):(l[m]?=some a/\m < l.length)∨(m=l.length/\a=x):=by
 by_cases A:m < l.length
 ·rw[Ap A]at e;exact .inl ⟨e,A⟩
 ·rw[Bj (by lia)]at e
  have:m - l.length=0:=by
   have:=(AF.mp e).1;simp at this;omega
  rw[this]at e;exact .inr ⟨by lia,by simpa using e.symm⟩
theorem Le.alloc(l:H p=none):Le K ρ H (ρ++[p]) (upd H p ho):=by
 refine⟨λn a h=>by rw[Ap (AF.mp h).1];exact h,(HY (.inl l)).1,(HY (.inl l)).2,λa o e h=>⟨by rw[Bo (Cr e l)];exact e,λn q=>?_⟩⟩
 rcases Ju q with⟨q,_⟩ | ⟨_,q⟩
 ·exact h n q
 ·exact Cr e l q
theorem CU.at(h:CU K ρ S H)(e:S[n]?=some o):∃a,ρ[n]?=some a/\Eg K ρ H a o:=by
 have l:n < ρ.length:=by rw[h.len];exact(AF.mp e).1
 exact⟨ρ[n],by simp[l],h.ob n o _ e (by simp[l])⟩
theorem CU.there(h:CU K ρ S H){m:Nat}(e:ρ[m]?=some a):∃o,S[m]?=some o/\Eg K ρ H a o:=by
 have l:m < S.length:=by rw[<-h.len];exact(AF.mp e).1
 exact⟨S[m],by simp[l],h.ob m _ a (by simp[l]) e⟩
theorem CU.notIn(h:CU K ρ S H)(l:H p=none){m:Nat}(e:ρ[m]?=some p):False:=by
 obtain⟨o,_,r⟩:=h.there e;exact r.has l
theorem CU.alloc(h:CU K ρ S H)(B:H p=none)(G:Eg K (ρ++[p]) (upd H p ho) p o):CU K (ρ++[p]) (S++[o]) (upd H p ho)/\Le K ρ H (ρ++[p]) (upd H p ho)/\(ρ++[p])[S.length]?=some p:=by
 have le:Le K ρ H (ρ++[p]) (upd H p ho):=Le.alloc B
 have at':∀(m:Nat) a,(ρ++[p])[m]?=some a->(ρ[m]?=some a/\m < ρ.length)∨(m=ρ.length/\a=p):=λm a e=>Ju e
 refine⟨⟨by simp[h.len],λi j a I J=>?_,λm L a A N=>?_⟩,le,by rw[<-h.len];simp⟩
 ·rcases at' i a I with⟨C,_⟩ | ⟨C,O⟩ <;> rcases at' j a J with⟨l,_⟩ | ⟨l,E⟩
  ·exact h.nd i j a C l
  ·rw[E]at C;exact(h.notIn B C).elim
  ·rw[O]at l;exact(h.notIn B l).elim
  ·lia
 ·rcases at' m a N with⟨s,P⟩ | ⟨rfl,rfl⟩
  ·rw[Ap (by rw[<-h.len];exact P)]at A
   refine(h.ob m L a A s).mono le (Bo λz=>?_);rw[z]at s;exact h.notIn B s
  ·rw[h.len]at A
   simp at A;subst A;exact G
theorem CU.write(h:CU K ρ S H)(s:ρ[n]?=some a)(A:Eg K ρ (upd H a ho) a o)(le:Le K ρ H ρ (upd H a ho)):CU K ρ (S.set n o) (upd H a ho)/\Le K ρ H ρ (upd H a ho):=by
 refine⟨⟨by simp[h.len],h.nd,λm B b l hb=>?_⟩,le⟩
 by_cases e:m=n
 ·subst e
  rw[s]at hb;cases hb;rw[As (by rw[<-h.len];exact(AF.mp s).1)]at l;cases l;exact A
 ·rw[Ah (Ch e)]at l
  refine(h.ob m B b l hb).mono le (Bo λz=>?_);subst z;exact e (h.nd m n b hb s)
theorem Le.back{B:Sto}(l:Le K ρ H ρ' H')(s:CU K ρ S H)(s':CU K ρ' B H')(A:H' p=none):H p=none:=by
 cases q:H p with
 | none=>rfl
 | some o=>
  by_cases m:∃n:Nat,ρ[n]?=some p
  ·obtain⟨n,m⟩:=m
   exact(s'.notIn A (l.pre n p m)).elim
  ·have:=(l.oth p o q λn h=>m ⟨n,h⟩).1
   rw[A]at this;cases this
theorem CU.adopt(h:CU K ρ S H)(E:∀m:Nat,ρ[m]?≠some p)(G:Eg K (ρ++[p]) H p o):CU K (ρ++[p]) (S++[o]) H/\(ρ++[p])[S.length]?=some p:=by
 have le:∀a ob,Eg K ρ H a ob->Eg K (ρ++[p]) H a ob:=λa ob r=>by
  have I:∀(n:Nat) a,ρ[n]?=some a->(ρ++[p])[n]?=some a:=λn a h=>by rw[Ap (AF.mp h).1];exact h
  exact r.mono' I
 refine⟨⟨by simp[h.len],λi j a J L=>?_,λm ob a s B=>?_⟩,by rw[<-h.len];simp⟩
 ·rcases Ju J with⟨A,_⟩ | ⟨A,N⟩ <;> rcases Ju L with⟨l,_⟩ | ⟨l,C⟩
  ·exact h.nd i j a A l
  ·rw[C]at A;exact(E i A).elim
  ·rw[N]at l;exact(E j l).elim
  ·lia
 ·rcases Ju B with⟨B,O⟩ | ⟨rfl,rfl⟩
  ·rw[Ap (by rw[<-h.len];exact O)]at s
   exact le a ob (h.ob m ob a s B)
  ·rw[h.len]at s
   simp at s;subst s;exact G
end
inductive Res(α:Type) where
 | ok (a:α) (S:Sto) | err (c:Aa) (S:Sto) | bad
noncomputable def Res.bind{l β:Type}(r:Res l)(f:l->Sto->Res β):Res β:=match r with
 | .ok a S=>f a S
 | .err c S=>.err c S
 | .bad=>.bad
noncomputable abbrev Lo:=List (Option D)
noncomputable abbrev ME:=Lo->Sto->Res D
noncomputable abbrev MT:=Lo->Sto->Res Bool
noncomputable abbrev ML:=Lo->Sto->Res (List D)
inductive Fl where
 | nx (e:Lo) | rt (d:D) | bk (e:Lo) | ct (e:Lo) | ex (c:Aa) (e:Lo)
noncomputable abbrev MS:=Lo->Sto->Res Fl
noncomputable abbrev MG:=D->Lo->Sto->Res Lo
noncomputable abbrev QX:=Sto->Option (List D)
noncomputable abbrev MI:=Lo->Sto->Res QX
structure Gu(K:AG)(ρ:List Aa)(H:Hp)(e:Lo)(σ:St):Prop where
 len:e.length=σ.length
 at':∀(i:Nat) d,e[i]?=some (some d)->∃v,σ[i]?=some (some v)/\CK K ρ H d v
section
variable{K:AG}{ρ ρ':List Aa}{H H':Hp}{e:Lo}{σ:St}
theorem Gu.mono(l:Le K ρ H ρ' H')(h:Gu K ρ H e σ):Gu K ρ' H' e σ:=⟨h.len,λi d q=>by
 obtain⟨v,m,o⟩:=h.at' i d q
 exact⟨v,m,o.mono l⟩⟩
theorem Gu.set(h:Gu K ρ H e σ)(r:CK K ρ H d v)(i:Nat):Gu K ρ H (e.set i (some d)) (σ.set i (some v)):=by
 refine⟨by simp[h.len],λj o q=>?_⟩
 by_cases l:i=j
 ·subst l
  have m:i < e.length:=by
   have:=(AF.mp q).1;simpa using this
  rw[As m]at q;cases q;exact⟨v,by rw[As (by rw[<-h.len];exact m)],r⟩
 ·rw[Ah l]at q ⊢
  exact h.at' j o q
end
noncomputable abbrev EW:=Aa->St->Hp->Prop
noncomputable abbrev EH:=Aa->Hp->Prop
noncomputable abbrev noE:EW:=λ_ _ _=>False
noncomputable abbrev noH:EH:=λ_ _=>False
noncomputable def Cg{o:Type}(K:AG)(E:EH)(ρ:List Aa)(H:Hp)(r:Res o)(k:o->Sto->Prop):Prop:=match r with
 | .ok a S=>k a S
 | .err c S=>∀l m,Le K ρ H l m->CU K l S m->E c m
 | .bad=>False
section
variable{K:AG}{E:EH}{ρ ρ1:List Aa}{H H1:Hp}
theorem Cg.seq(h:Cg K E ρ H (r.bind F) k)(f:∀a S,Cg K E ρ H (F a S) k->k' a S):Cg K E ρ H r k':=by
 cases r with
 | ok a S=>exact f a S h
 | err c S=>exact h
 | bad=>exact h
theorem Cg.later(h:Cg K E ρ H r k)(l:Le K ρ H ρ1 H1):Cg K E ρ1 H1 r k:=by
 cases r with
 | ok a S=>exact h
 | err c S=>exact λm o s=>h m o (l.trans s)
 | bad=>exact h
theorem Cg.imp(h:Cg K E ρ H r k)(f:∀a S,k a S->k' a S):Cg K E ρ H r k':=by
 cases r with
 | ok a S=>exact f a S h
 | err c S=>exact h
 | bad=>exact h
theorem Cg.go(h:Cg K E ρ H r k)(l:Le K ρ H ρ1 H1)(f:∀a S,k a S->k' a S):Cg K E ρ1 H1 r k':=(h.later l).imp f
end
noncomputable def okR{l:Type}:Res l->Res l
 | .ok a S=>.ok a S
 | _=>.bad
theorem Cg.okR{l:Type}{K:AG}{E:EH}{ρ:List Aa}{H:Hp}{r:Res l}{k:l->Sto->Prop}(h:Cg K E ρ H (L2.okR r) k):∃a S,r=.ok a S/\k a S:=by
 cases r with
 | ok a S=>exact⟨a,S,rfl,h⟩
 | err c S=>exact h.elim
 | bad=>exact h.elim
section
variable(K:AG)(E:EW)
noncomputable def gE(m:ME):TE:=λA H Q=>∃o e S,Gu K o H e A/\CU K o S H/\Cg K (λc=>E c A) o H (m e S) λd B=>∀l s x,Le K o H l s->CU K l B s->CK K l s d x->Q x s
noncomputable def gT(m:MT):TT:=λA H Q=>∃o e S,Gu K o H e A/\CU K o S H/\Cg K (λc=>E c A) o H (m e S) λb B=>∀l s,Le K o H l s->CU K l B s->Q b s
noncomputable def gA(m:ML):TA:=λA H Q=>∃o e S,Gu K o H e A/\CU K o S H/\Cg K (λc=>E c A) o H (m e S) λC G=>∀l s B,Le K o H l s->CU K l G s->Ax K l s C B->Q B s
noncomputable def gL(m:ML):TE:=λA H Q=>∃s e S,Gu K s H e A/\CU K s S H/\Cg K (λc=>E c A) s H (m e S) λC G=>∀l o p B,Le K s H l o->CU K l G o->Ax K l o C B->o p=some (.lst B)->(∀n:Nat,l[n]?≠some p)->H p=none->Q (.ref p) o
noncomputable def gQ(m:ML):TE:=λB H Q=>∃s e S,Gu K s H e B/\CU K s S H/\Cg K (λc=>E c B) s H (m e S) λC G=>∀l o p A,Le K s H l o->CU K l G o->Ax K l o C A->(SqL K o p A∨SqT K o p A)->Q (.ref p) o
noncomputable def RI(K:AG)(E:EW)(ρ:List Aa)(H:Hp)(A:Sto)(D:dC):Fl->Prop
 | .ex c s=>∀l m o,Le K ρ H l m->CU K l A m->Gu K l m s o->E c o m
 | .nx s=>∀l m o,Le K ρ H l m->CU K l A m->Gu K l m s o->D.nx o m
 | .bk s=>∀l m o,Le K ρ H l m->CU K l A m->Gu K l m s o->D.bk o m
 | .ct s=>∀l m o,Le K ρ H l m->CU K l A m->Gu K l m s o->D.ct o m
 | .rt d=>∀l m x,Le K ρ H l m->CU K l A m->CK K l m d x->D.rt x m
noncomputable def gS(m:MS):TS:=λD o H=>∃l e S,Gu K l H e o/\CU K l S H/\Cg K noH l H (m e S) λs A=>RI K E l H A D s
noncomputable def gG(m:MG):TG:=λv B H Q=>∃o e S d,CK K o H d v/\Gu K o H e B/\CU K o S H/\Cg K noH o H (m d e S) λC G=>∀l A s,Le K o H l A->CU K l G A->Gu K l A C s->Q s A
noncomputable def Na(o:List Aa)(B:Hp)(J:It)(v:QX):Prop:=∀s H S A (i:Nat),Le K o B s H->CU K s S H->v S=some A ->
 (A[i]?=none->J.stop i H)/\∀d,A[i]?=some d->J.go i H/\∀x m,J.yld i H x m->∃l,Le K s H l m/\CU K l S m/\CK K l m d x
noncomputable def gI(m:MI):TI:=λA H R=>∃o e S,Gu K o H e A/\CU K o S H/\Cg K (λc=>E c A) o H (m e S) λv B=>∀l s J,Le K o H l s->CU K l B s->Na K l s J v->R J s
end
noncomputable abbrev GE(X:Cx)(E:EW)(e:Expr)(m:ME):Prop:=PE X e (gE X.K E m)
noncomputable abbrev GT(X:Cx)(E:EW)(e:Expr)(m:MT):Prop:=PT X e (gT X.K E m)
noncomputable abbrev GA(X:Cx)(E:EW)(es:List Expr)(m:ML):Prop:=PA X es (gA X.K E m)
noncomputable abbrev GL(X:Cx)(E:EW)(e:Expr)(m:ML):Prop:=PE X e (gL X.K E m)
noncomputable abbrev GQ(X:Cx)(E:EW)(e:Expr)(m:ML):Prop:=PE X e (gQ X.K E m)
noncomputable abbrev GS(X:Cx)(E:EW)(s:DZ)(m:MS):Prop:=PS X s (gS X.K E m)
noncomputable abbrev GSs(X:Cx)(E:EW)(s:List DZ)(m:MS):Prop:=PSs X s (gS X.K E m)
noncomputable abbrev GG(X:Cx)(t:Expr)(m:MG):Prop:=PG X t (gG X.K m)
noncomputable abbrev GI(X:Cx)(E:EW)(tg t:Expr)(m:MI):Prop:=PI X tg t (gI X.K E m)
theorem PE.imp(h:PE X e t)(i:∀l H Q,t' l H Q->t l H Q):PE X e t':=λm s l H Q I q=>h m s l H Q I (i l H Q q)
theorem PT.imp(h:PT X e t)(i:∀l H Q,t' l H Q->t l H Q):PT X e t':=λm s l H Q I q=>h m s l H Q I (i l H Q q)
theorem PW.imp(h:PW X e t)(i:∀l H Q,t' l H Q->t l H Q):PW X e t':=λm o s l H Q I q=>h m o s l H Q I (i l H Q q)
theorem PA.imp(h:PA X e t)(i:∀l H Q,t' l H Q->t l H Q):PA X e t':=λm o s l H Q I q=>h m o s l H Q I (i l H Q q)
theorem PS.imp(h:PS X e t)(i:∀D l H,t' D l H->t D l H):PS X e t':=λm s l H D I q=>h m s l H D I (i D l H q)
theorem PSs.imp(h:PSs X e t)(i:∀D l H,t' D l H->t D l H):PSs X e t':=λm s l H D I q=>h m s l H D I (i D l H q)
theorem PG.imp(h:PG X e t)(i:∀v l H Q,t' v l H Q->t v l H Q):PG X e t':=λm s l H v u Q I r q=>h m s l H v u Q I r (i v l H Q q)
theorem PI.imp(h:PI X tg e t)(i:∀l H R,t' l H R->t l H R):PI X tg e t':=λm s l H R I q=>h m s l H R I (i l H R q)
theorem OpR.imp(h:OpR X f r)(i:∀x y H Q,r' x y H Q->r x y H Q):OpR X f r':=λl s m H x y v u Q I o A q=>h l s m H x y v u Q I o A (i x y H Q q)
theorem IxR.imp(h:IxR X r)(i:∀x y H Q,r' x y H Q->r x y H Q):IxR X r':=λl sl m s o H x y v u Q I A B q=>h l sl m s o H x y v u Q I A B (i x y H Q q)
noncomputable def AC(i:Nat):ME:=λe S=>match e[i]? with
 | some (some d)=>.ok d S
 | _=>.bad
noncomputable def mC(d:D):ME:=λ_ S=>.ok d S
section
variable{X:Cx}{E:EW}{e a b:Expr}{pos:Pos}{ma mb:ME}
theorem AA(h:PE X e (oH i)):GE X E e (AC i):=h.imp<|by
 rintro I H Q ⟨o,l,S,s,A,m⟩
 unfold AC at m;split at m
 ·rename_i J B
  obtain⟨v,C,G⟩:=s.at' i _ B;exact⟨v,C,m o H v .refl A G⟩
 ·exact m.elim
theorem g9(h:PE X e (tC v))(m:∀ρ H,CK X.K ρ H d v):GE X E e (mC d):=h.imp<|by
 rintro A H Q ⟨ρ,l,S,B,o,s⟩
 exact s ρ H v .refl o (m _ _)
theorem ge_int{i j pos}:GE X E (.Constant (.int i) j pos) (mC (.int i)):=g9 pI λ_ _=>.int i
theorem Jw{b j pos}:GE X E (.Constant (.bool b) j pos) (mC (.bl b)):=g9 mw λ_ _=>.bl b
theorem g8{j pos}:GE X E (.Constant .none j pos) (mC .non):=g9 pG λ_ _=>.non
theorem WL{x j pos}:GE X E (.Constant (.str x) j pos) (mC (.str x)):=g9 pD λ_ _=>.str x
theorem X2(l:Gl X x)(m:X.mg x=some (.int i o))(s:(x==("__debug__" : Str))=false:=by decide):GE X E (.Name x pos) (mC (.int i)):=
 g9 (kc (v:=.int i) l m ⟨o,rfl⟩ s) λ_ _=>.int i
noncomputable def m2(f:D->D->Sto->Res D)(ma mb:ME):ME:=λe S=>(ma e S).bind λx l=>(mb e l).bind λy m=>okR (f x y m)
noncomputable def rD(K:AG)(f:D->D->Sto->Res D):R2:=λu v H Q=>∃m S x y d s,CU K m S H/\CK K m H x u/\CK K m H y v/\f x y S=.ok d s /\
 ∀l o z,Le K m H l o->CU K l s o->CK K l o d z->Q z o
theorem OI{K:AG}{f:D->D->Sto->Res D}{C:St}{H:Hp}{Q:VK}(h:gE K E (m2 f ma mb) C H Q):tOp (rD K f) (gE K E ma) (gE K E mb) C H Q:=by
 obtain⟨J,l,S,G,L,m⟩:=h;refine⟨J,l,S,G,L,m.seq λx N m o H1 u s O P=>⟨o,l,N,G.mono s,O,(m.later s).seq λy R m A H2 v I T U=>?_⟩⟩;obtain⟨d,Y,e,k⟩:=m.okR;exact⟨A,R,x,y,d,Y,T,P.mono I,U,e,λB Z z l' s' r'=>k B Z z (s.trans (I.trans l')) s' r'⟩
theorem BK(ho:OpR X (DR l) (rD X.K f))(m:GE X E a ma)(hb:GE X E b mb):GE X E (.BinOp a l b pos) (m2 f ma mb):=(tM ho m hb).imp λ_ _ _ h=>OI h
theorem WM(ho:OpR X (CN l) (rD X.K f))(m:GE X E a ma)(hb:GE X E b mb)(o:Ct l b=false):GE X E (.Compare a [l] [b] pos) (m2 f ma mb):=(kg ho m hb o).imp λ_ _ _ h=>OI h
theorem uK(ho:IxR X (rD X.K f))(l:GE X E a ma)(hb:GE X E b mb)(m:Wf b:=by intro _ _;rfl):GE X E (.Subscript a b pos) (m2 f ma mb):=(tO ho l hb m).imp λ_ _ _ h=>OI h
noncomputable def mB(m:ME):MT:=λe S=>(m e S).bind λd l=>match d with
 | .bl b=>.ok b l
 | _=>.bad
noncomputable def Qq(d:D)(S:Sto):Option Bool:=match d with
 | .non=>some false
 | .bl b=>some b
 | .int i=>some (i != 0)
 | .tup l=>some (!l.isEmpty)
 | .fro l=>some (!l.isEmpty)
 | .ref n=>match S[n]? with
  | some (.lst l)=>some (!l.isEmpty)
  | some (.dK m)=>some (!m.isEmpty)
  | _=>none
 | _=>none
noncomputable def GK(m:ME):MT:=λe S=>(m e S).bind λd l=>match Qq d l with
 | some b=>.ok b l
 | none=>.bad
theorem Ax.empty{K}{ρ}{H}{ds}{vs}(h:Ax K ρ H ds vs):ds.isEmpty=vs.isEmpty:=by cases h <;> rfl
theorem KVR.empty{l:Type}{K:AG}{ρ:List Aa}{H:Hp}{x:List (l×D)}{y:List (l×V)}(h:KVR K ρ H x y):x.isEmpty=y.isEmpty:=by cases h <;> rfl
theorem ju{K:AG}{ρ:List Aa}{H:Hp}{S:Sto}{d:D}{x:V}{b:Bool}(B:CU K ρ S H)(r:CK K ρ H d x)(h:Qq d S=some b):rA K x H b:=by
 cases r with
 | non=>cases h;rfl
 | bl c=>cases h;rfl
 | int i=>cases h;rfl
 | str x=>cases h
 | tup l m=>cases h;rw[m.empty];exact .inr (.inl ⟨_,.inl (.inl l),rfl⟩)
 | fro l m=>cases h;rw[m.empty];exact .inl ⟨_,l.sq,rfl⟩
 | exc _ _=>cases h
 | @ref n a G=>
  obtain⟨o,I,A⟩:=B.there G;unfold Qq at h;simp only[I]at h
  cases o with
  | lst N=>cases h;obtain⟨J,e,s⟩:=A;rw[s.empty];exact .inl ⟨_,.inl (.inl e),rfl⟩
  | dK L=>cases h;obtain⟨J,e,s⟩:=A;rw[KVR.empty s];exact .inr (.inr ⟨_,e,rfl⟩)
  | dT L=>cases h
  | ins C fs=>cases h
  | fK _=>cases h
  | fT _=>cases h
  | mem _=>cases h
theorem E4(h:GE X E e ma)(B:∀m,nI e X.env m=(do let v <-m;rH e.pos;YH [v] (truthy v)):=by intro _;rfl):GT X E e (GK ma):=(fO h B).imp<|by
 rintro P H Q ⟨C,l,S,G,I,o⟩
 refine⟨C,l,S,G,I,o.seq λd J o s L x N A O=>?_⟩
 cases hb:Qq d J with
 | none=>rw[hb]at o;exact o.elim
 | some c=>
  rw[hb]at o;exact⟨c,ju A O hb,o s L N A⟩
theorem Df{o}{f}(ho:OpR X (CN o) (rD X.K f))(A:GE X E a ma)(hb:GE X E b mb)(m:Ct o b=false):GT X E (.Compare a [o] [b] pos) (mB (m2 f ma mb)):=(kF ho A hb m).imp<|by
 rintro P H Q ⟨B,l,S,C,G,m⟩
 refine OI (Q:=λx I=>∃k,x=.bl k/\Q k I) ⟨B,l,S,C,G,m.seq λd R m s J x L N O=>?_⟩
 cases d <;> first | exact m.elim | skip
 cases O;exact⟨_,rfl,m s J L N⟩
noncomputable def QJ(m:MT):MT:=λe S=>(m e S).bind λb l=>.ok (!b) l
noncomputable def RG(ma mb:MT):MT:=λe S=>(ma e S).bind λb l=>if b=true then mb e l else .ok false l
noncomputable def mOr(ma mb:MT):MT:=λe S=>(ma e S).bind λb l=>if b=true then .ok true l else mb e l
variable{ta tb:MT}{rest:List Expr}
theorem QN(h:GT X E a ta):GT X E (.UnaryOp .Not a pos) (QJ ta):=(om h).imp<|by
 rintro J H Q ⟨s,l,S,A,B,m⟩
 exact⟨s,l,S,A,B,m.seq λd L m o C G I=>m o C G I⟩
theorem jz{K}{B}{H}{Q}(h:gT K E (RG ta tb) B H Q):sj (gT K E ta) (gT K E tb) B H Q:=by
 obtain⟨I,l,S,C,J,m⟩:=h;refine⟨I,l,S,C,J,m.seq λc L m o N s G=>?_⟩
 cases c with
 | true=>rw[qX rfl]at m ⊢;exact⟨o,l,L,C.mono s,G,m.go s λ_ _ k A O P R=>k A O (s.trans P) R⟩
 | false=>rw[qY AH]at m ⊢;exact m o N s G
theorem oI{K}{B}{H}{Q}(h:gT K E (mOr ta tb) B H Q):tOr (gT K E ta) (gT K E tb) B H Q:=by
 obtain⟨I,l,S,C,J,m⟩:=h;refine⟨I,l,S,C,J,m.seq λc L m o N s G=>?_⟩
 cases c with
 | false=>rw[qY AH]at m ⊢;exact⟨o,l,L,C.mono s,G,m.go s λ_ _ k A O P R=>k A O (s.trans P) R⟩
 | true=>rw[qX rfl]at m ⊢;exact m o N s G
noncomputable abbrev GW(X:Cx)(E:EW)(e:Expr)(m:MT):Prop:=PW X e (gT X.K E m)
theorem WK(l:GT X E a ta):GW X E (.BoolOp .And [a] pos) ta:=kE l
theorem ZP(l:GT X E a ta):GW X E (.BoolOp .Or [a] pos) ta:=oi l
theorem ZQ(l:GT X E a ta)(hb:GW X E (.BoolOp .And (b :: rest) pos) tb):GW X E (.BoolOp .And (a :: b :: rest) pos) (RG ta tb):=(oj l hb).imp λ_ _ _ h=>jz h
theorem ai(l:GT X E a ta)(hb:GW X E (.BoolOp .Or (b :: rest) pos) tb):GW X E (.BoolOp .Or (a :: b :: rest) pos) (mOr ta tb):=(tI l hb).imp λ_ _ _ h=>oI h
theorem cZ(h:GW X E e t):GT X E e t:=PW.pt h
noncomputable def gW(ma mb:ME):ME:=λe S=>(ma e S).bind λd l=>match d with
 | .bl true=>.ok (.bl true) l
 | .bl false=>mb e l
 | _=>.bad
noncomputable def aN(ma:ME):ME:=λe S=>(ma e S).bind λd l=>match d with
 | .bl c=>.ok (.bl (!c)) l
 | _=>.bad
theorem qU{l}(h:GE X E a ma):GE X E (.BoolOp l [a] pos) ma:=pE h
theorem uJ(G:GE X E a ma)(hb:GE X E (.BoolOp .Or (b :: rest) pos) mb):GE X E (.BoolOp .Or (a :: b :: rest) pos) (gW ma mb):=(tL G hb).imp<|by
 rintro Y H Q ⟨I,l,S,B,J,m⟩
 refine⟨I,l,S,B,J,m.seq λc L m o N x s C O=>?_⟩
 cases c with
 | bl c=>
  cases O;refine⟨c,rfl,?_⟩
  cases c with
  | false=>rw[qY AH];exact⟨o,l,L,B.mono s,C,m.go s λ_ _ k A P z R T U=>k A P z (s.trans R) T U⟩
  | true=>rw[qX rfl];exact m o N _ s C (.bl true)
 | _=>exact m.elim
theorem qV(s:GE X E a ma):GE X E (.UnaryOp .Not a pos) (aN ma):=(pF s).imp<|by
 rintro N H Q ⟨A,l,S,B,C,m⟩
 refine⟨A,l,S,B,C,m.seq λc O m o G x I J L=>?_⟩
 cases c with
 | bl c=>cases L;exact⟨c,rfl,m o G _ I J (.bl _)⟩
 | _=>exact m.elim
noncomputable def UH(t:MT)(ma mb:ME):ME:=λe S=>(t e S).bind λb l=>if b=true then ma e l else mb e l
theorem PY(O:GT X E c ta)(P:GE X E a ma)(hb:GE X E b mb):GE X E (.IfExp c a b pos) (UH ta ma mb):=(fb O P hb).imp<|by
 rintro U H Q ⟨R,l,S,B,T,o⟩
 refine⟨R,l,S,B,T,o.seq λc L o A Y s N=>?_⟩
 cases c with
 | true=>rw[qX rfl]at o ⊢;exact⟨A,l,L,B.mono s,N,o.go s λ_ _ k m C z G I J=>k m C z (s.trans G) I J⟩
 | false=>rw[qY AH]at o ⊢;exact⟨A,l,L,B.mono s,N,o.go s λ_ _ k m C z G I J=>k m C z (s.trans G) I J⟩
noncomputable def m3(f g:D->D->Sto->Res D)(ma mb m:ME):ME:=λe S=>(ma e S).bind λx o=>(mb e o).bind λy s=>(okR (f x y s)).bind λz l=>match z with
 | .bl true=>(m e l).bind λw A=>okR (g y w A)
 | .bl false=>.ok (.bl false) l
 | _=>.bad
noncomputable def BL:ML:=λ_ S=>.ok [] S
noncomputable def AR(m:ME)(r:ML):ML:=λe S=>(m e S).bind λd l=>(r e l).bind λo s=>.ok (d :: o) s
variable{es:List Expr}{ml:ML}
theorem Aq:GA X E [] BL:=JA.imp<|by
 rintro A H Q ⟨m,l,S,B,o,s⟩
 exact s m H [] .refl o .nil
theorem AK(I:GE X E e ma)(J:GA X E es ml)(o:Ag (e :: es) X.env=(false,Ci e X.env) :: Ag es X.env:=by rfl):GA X E (e :: es) (AR ma ml):=(Gy I J o).imp<|by
 rintro Z H Q ⟨L,l,S,C,o,m⟩
 exact⟨L,l,S,C,o,m.seq λd N m s H1 x A O P=>⟨s,l,N,C.mono A,O,(m.later A).seq λvW S2 m B R T G U Y=>m B R (x :: T) (A.trans G) U (.cons (P.mono G) Y)⟩⟩
noncomputable def Hr(m:ML):ME:=λe S=>(m e S).bind λl o=>if l.length<=sizeLine then .ok (.tup l) o else .bad
theorem IQ{K}{ρ}{H}{S}{p}{ho}(l:CU K ρ S H)(m:H p=none):CU K ρ S (upd H p ho)/\Le K ρ H ρ (upd H p ho):=by
 have le:Le K ρ H ρ (upd H p ho):=Le.fresh m;refine⟨⟨l.len,l.nd,λn o a A s=>(l.ob n o a A s).mono le (Bo λz=>?_)⟩,le⟩;subst z;exact l.notIn m s
theorem FF{B}(h:GA X E es ml):GE X E (.Tuple es B pos) (Hr ml):=(pC h).imp<|by
 rintro T H Q ⟨C,l,S,G,I,m⟩
 refine⟨C,l,S,G,I,m.seq λU Y m o Z J L N s=>?_⟩;split at m
 ·rename_i O
  refine⟨by rw[<-s.length];exact O,λp P=>?_⟩;obtain⟨R,A⟩:=IQ (ho:=.tup J) N P;exact m o _ _ (L.trans A) R (.tup CA (s.mono A))
 ·exact m.elim
noncomputable def Ev(m:ML):ML:=λe S=>(m e S).bind λl o=>if l.length<=sizeLine then .ok l o else .bad
theorem Ge(h:GA X E es ml):GL X E (.List es pos) (Ev ml):=(pH h).imp<|by
 rintro R H Q ⟨L,l,S,N,B,m⟩
 refine⟨L,l,S,N,B,m.seq λT U m o Y C G s I=>?_⟩;split at m
 ·rename_i O
  refine⟨by rw[<-I.length];exact O,λp A=>?_⟩;obtain⟨P,J⟩:=IQ (ho:=.lst C) s A;exact m o _ p C (G.trans J) P (I.mono J) CA (λn q=>s.notIn A q) (G.back B s A)
 ·exact m.elim
noncomputable def ED(m:ML):ME:=λe S=>(m e S).bind λo l=>.ok (.ref l.length) (l++[.lst o])
theorem Cn(h:GL X E e ml):GE X E e (ED ml):=PE.imp h<|by
 rintro Z H Q ⟨G,l,S,I,J,A⟩
 refine⟨G,l,S,I,J,A.seq λL S1 A m H1 p N s O P R T U=>?_⟩
 have C:∀(n:Nat) a,m[n]?=some a->(m++[p])[n]?=some a:=λn a h=>by rw[Ap (AF.mp h).1];exact h
 obtain⟨Y,B⟩:=O.adopt (o:=.lst L) T ⟨N,R,P.more C⟩;refine A _ _ _ ⟨λn a h=>C n a (s.pre n a h),s.tup,s.frz,λa o e h=>⟨(s.oth a o e h).1,λn q=>?_⟩⟩ Y (.ref B)
 rcases Ju q with⟨q,_⟩ | ⟨_,q⟩
 ·exact(s.oth a o e h).2 n q
 ·exact Cr e U q
noncomputable def Gc(d:D)(S:Sto):Option (List D):=match d with
 | .tup l=>some l
 | .fro l=>some l
 | .ref n=>match S[n]? with
  | some (.lst l)=>some l
  | _=>none
 | _=>none
noncomputable def Xq(m:ME):ML:=λe S=>(m e S).bind λd l=>match Gc d l with
 | some o=>.ok o l
 | none=>.bad
theorem RX{K}{ρ}{H}{S}{d}{x}{ds}(s:CU K ρ S H)(r:CK K ρ H d x)(h:Gc d S=some ds):∃p xs,x=.ref p/\Ax K ρ H ds xs/\(SqL K H p xs∨SqT K H p xs):=by
 cases r with
 | tup l m=>cases h;exact⟨_,_,rfl,m,.inr (.inl (.inl l))⟩
 | fro l m=>cases h;exact⟨_,_,rfl,m,.inl l.sq⟩
 | @ref n a A=>
  obtain⟨o,B,C⟩:=s.there A;unfold Gc at h;simp only[B]at h
  cases o with
  | lst es=>cases h;obtain⟨I,e,G⟩:=C;exact⟨_,_,rfl,G,.inl (.inl (.inl e))⟩
  | _=>cases h
 | _=>cases h
theorem nD(h:GE X E e ma):GQ X E e (Xq ma):=PE.imp h<|by
 rintro R H Q ⟨B,l,S,C,G,m⟩
 refine⟨B,l,S,C,G,m.seq λx I m o J v L A N=>?_⟩
 cases s:Gc x I with
 | none=>rw[s]at m;exact m.elim
 | some T=>
  rw[s]at m;obtain⟨p,O,rfl,P,sq⟩:=RX A N s;exact m o J p O L A P sq
end
noncomputable def Res.lift{l:Type}(r:Res l)(e:Lo)(f:l->Sto->Res Fl):Res Fl:=match r with
 | .ok a S=>f a S
 | .err c S=>.ok (.ex c e) S
 | .bad=>.bad
theorem Cg.lift{s:Type}{K:AG}{E:EW}{ρ m:List Aa}{H o:Hp}{A:St}{e:Lo}{D:dC}{r:Res s}{F:s->Sto->Res Fl}{k':s->Sto->Prop}(h:Cg K noH m o (r.lift e F) λB C=>RI K E ρ H C D B)(J:Gu K m o e A)(l:Le K ρ H m o)
  (f:∀a S,(Cg K noH m o (F a S) λB C=>RI K E ρ H C D B)->k' a S):Cg K (λc=>E c A) m o r k':=by
 cases r with
 | ok a S=>exact f a S h
 | err c S=>exact λG L I N=>h G L A (l.trans I) N (J.mono I)
 | bad=>exact h
noncomputable def sNx:MS:=λe S=>.ok (.nx e) S
noncomputable def SW:MS:=λ_ _=>.bad
noncomputable def BH(a b:MS):MS:=λe S=>(a e S).bind λf l=>match f with
 | .nx m=>b m l
 | f=>.ok f l
noncomputable def Ii(m:ME):MS:=λe S=>(m e S).lift e λ_ l=>.ok (.nx e) l
noncomputable def DG(m:ME):MS:=λe S=>(m e S).lift e λd l=>.ok (.rt d) l
noncomputable def sIf(t:MT)(a b:MS):MS:=λe S=>(t e S).lift e λc l=>if c=true then a e l else b e l
noncomputable def Y3(m:ME)(g:MG):MS:=λe S=>(m e S).lift e λd l=>(g d e l).bind λo s=>.ok (.nx o) s
noncomputable def tgN(i:Nat):MG:=λd e S=>.ok (e.set i (some d)) S
noncomputable def CT(i:Nat)(m:ME):MS:=Y3 m (tgN i)
section
variable{X:Cx}{E:EW}{st:DZ}{rest:List DZ}{e:Expr}{pos:Pos}{a b:MS}{t:MT}
theorem RI.later{K}{ρ B}{H C}{S}{D}{f}(l:Le K ρ H B C)(h:RI K E ρ H S D f):RI K E B C S D f:=by
 cases f with
 | nx e=>exact λm s o A=>h m s o (l.trans A)
 | bk e=>exact λm s o A=>h m s o (l.trans A)
 | ct e=>exact λm s o A=>h m s o (l.trans A)
 | ex c e=>exact λm s o A=>h m s o (l.trans A)
 | rt d=>exact λm s x A=>h m s x (l.trans A)
theorem CG:GSs X E [] sNx:=kH.imp<|by
 rintro D m H ⟨o,l,S,s,A,B⟩
 exact B o H m .refl A s
theorem AM(A:GS X E st a)(B:GSs X E rest b):GSs X E (st :: rest) (BH a b):=(fR A B).imp<|by
 rintro D Q H ⟨C,l,S,G,I,m⟩
 refine⟨C,l,S,G,I,m.seq λg J m=>?_⟩
 cases g with
 | nx L=>exact λo R N s O P=>⟨o,L,J,P,O,m.go s λ_ _ k=>k.later s⟩
 | rt d=>exact m
 | bk d=>exact m
 | ct d=>exact m
 | ex c d=>exact m
theorem Af(l:GS X E st a):GSs X E [st] a:=kG l
theorem Js:GS X E st SW:=(fU (X:=X) (st:=st)).imp λD o H ⟨s,l,S,A,B,m⟩=>m.elim
theorem JO(G:GE X E e m)(o:G9 e none pos.line X.env=pure false:=by rfl):GS X E (.Expr e pos) (Ii m):=(kI G o).imp<|by
 rintro D I H ⟨J,l,S,s,o,A⟩
 exact⟨J,l,S,s,o,A.lift s .refl λd O A B L x C N P=>A B L I C N (s.mono C)⟩
theorem Bp(B:GE X E e m):GS X E (.Return (some e) pos) (DG m):=(oq B).imp<|by
 rintro D O H ⟨C,l,S,A,G,o⟩
 exact⟨C,l,S,A,G,o.lift A .refl λd P o s I x J L N=>o s I x J L N⟩
theorem Dw{c}{B C}(J:GT X E c t)(L:GSs X E B a)(hb:GSs X E C b):GS X E (.If c B C pos) (sIf t a b):=(tJ J L hb).imp<|by
 rintro D P H ⟨N,l,S,A,O,m⟩
 refine⟨N,l,S,A,O,m.lift A .refl λc G m s Q o I=>?_⟩
 cases c with
 | true=>rw[qX rfl]at m ⊢;exact⟨s,l,G,A.mono o,I,m.go o λ_ _ k=>k.later o⟩
 | false=>rw[qY AH]at m ⊢;exact⟨s,l,G,A.mono o,I,m.go o λ_ _ k=>k.later o⟩
theorem lP(h:PG X tg (au i)):GG X tg (tgN i):=h.imp<|by
 rintro v C H Q ⟨m,l,S,d,o,s,A,B⟩
 exact B m H _ .refl A (s.set o i)
theorem gw{tg:Expr}{g:MG}(J:GE X E e m)(L:GG X tg g)(s:swapsWithSole [tg] e pos.line X.env=pure false:=by rfl)(hw:swappedStores [tg] e X.env=pure none:=by rfl)
  (N:(Fq [tg] X.env).map (·.2)=[Rr tg X.env]:=by rfl):GS X E (.Assign [tg] e pos) (Y3 m g):=(oy J L s hw N).imp<|by
 rintro D σ H ⟨O,l,S,A,s,o⟩
 exact⟨O,l,S,A,s,o.lift A .refl λd P o B H1 x C Q R=>⟨B,l,P,d,R,A.mono C,Q,(o.later C).seq λe1 S2 o G T I U Y Z=>o G T I (C.trans U) Y Z⟩⟩
theorem qN{i}{x}{o}(hN:X.N.Nodup)(hi:X.N[i]?=some x)(I:Loc X.env.scope x)(J:GE X E e m)(s:G9 e (some (.Name x o)) pos.line X.env=pure false:=by rfl)
  (L:X.fn x=true∨X.env.scope.names.lookup x=some .local:=by first | exact .inl rfl | exact .inr rfl | assumption):GS X E (.Assign [.Name x o] e pos) (CT i m):=(oo hN hi I J s L).imp<|by
 rintro D T H ⟨O,l,S,A,s,B⟩
 exact⟨O,l,S,A,s,B.lift A .refl λd U B C P x G Q R=>B C P _ G Q ((A.mono G).set R i)⟩
noncomputable def Mf(v:QX)(g:MG)(b:MS):Nat->Nat->Lo->Sto->Res Fl
 | k,i,e,S=>match v S with
  | none=>.bad
  | some o=>match o[i]? with
   | none=>.ok (.nx e) S
   | some d=>match k with
    | 0=>.bad
    | k+1=>(g d e S).bind λs A=>(b s A).bind λf m=>match f with
     | .nx l=>Mf v g b k (i+1) l m
     | .ct l=>Mf v g b k (i+1) l m
     | .bk l=>.ok (.nx l) m
     | .rt d=>.ok (.rt d) m
     | .ex c l=>.ok (.ex c l) m
noncomputable def EY(v:QX)(S:Sto):Nat:=match v S with
 | none=>0
 | some l=>l.length
noncomputable def FV(m:MI)(g:MG)(b:MS):MS:=λe S=>(m e S).lift e λv l=>Mf v g b (EY v l) 0 e l
theorem DH{tg iter}{body}{mi}{g}(hp:VV (Ac X.prog X.w) X.A X.env X.xe)(hc:X.calm=true)(hi:GI X E tg iter mi)(hg:GG X tg g)(hb:GSs X E body b)
  (hs:∀x,Gg iter X.env x=pure x:=by intro _;rfl):GS X E (.For tg iter body [] pos) (FV mi g b):=(ot hp hc hi hg hb hs).imp<|by
 rintro D σ H ⟨ρ,l,S,hl,hs,hm⟩
 refine⟨ρ,l,S,hl,hs,hm.lift hl .refl λv S1 hm N H1 J Z s1 vo=>?_⟩;refine⟨λi n O P=>∃m Q G,Le X.K N H1 m P/\Gu X.K m P Q O/\CU X.K m G P/\Cg X.K noH m P (Mf v g b n i Q G) λfl S'=>RI X.K E ρ H S' D fl,⟨EY v S1,N,l,S1,.refl,hl.mono Z,s1,hm.later Z⟩,?_⟩;rintro i n O P ⟨m,Q,G,R,r2,s2,o⟩;unfold Mf at o
 cases hv:v G with
 | none=>rw[hv]at o;exact o.elim
 | some ds=>
  rw[hv]at o;dsimp only at o;obtain⟨v1,v2⟩:=vo m P G ds i R s2 hv
  cases hd:ds[i]? with
  | none=>
   rw[hd]at o;exact .inl ⟨v1 hd,o m P O (Z.trans R) s2 r2⟩
  | some d=>
   rw[hd]at o;dsimp only at o;obtain⟨go,yl⟩:=v2 d hd
   cases n with
   | zero=>exact o.elim
   | succ n=>
    dsimp only at o;refine .inr ⟨go,λσ' T=>∃m Q G,Le X.K N H1 m T/\Gu X.K m T Q σ'/\CU X.K m G T/\Cg X.K noH m T (Mf v g b n (i+1) Q G) λfl S'=>RI X.K E ρ H S' D fl,λσ' T q=>⟨n,Dm n,q⟩,λx T y=>?_⟩;obtain⟨ρ3,U,s3,rd⟩:=yl x T y;refine⟨ρ3,Q,G,d,rd,r2.mono U,s3,(o.later U).seq λe3 S3 o ρ4 H4 σ4 l4 s4 r4=>?_⟩;refine⟨ρ4,e3,S3,r4,s4,(o.later l4).seq λf4 S4 o=>?_⟩
    cases f4 with
    | nx e5=>exact λs Y B C I L=>⟨s,e5,S4,R.trans (U.trans (l4.trans C)),L,I,o.later C⟩
    | ct e5=>exact λs Y B C I L=>⟨s,e5,S4,R.trans (U.trans (l4.trans C)),L,I,o.later C⟩
    | bk e5=>exact λs Y B C I L=>o s Y B (Z.trans (R.trans (U.trans (l4.trans C)))) I L
    | ex c e5=>exact λs Y B C I L=>o s Y B (Z.trans (R.trans (U.trans (l4.trans C)))) I L
    | rt d5=>exact λs Y x5 C I L=>o s Y x5 (Z.trans (R.trans (U.trans (l4.trans C)))) I L
noncomputable def Iz(c:MT)(b:MS):Nat->MS
 | 0=>λ_ _=>.bad
 | n+1=>λe S=>(c e S).lift e λt o=>if t=true then(b e o).bind λf m=>match f with
   | .nx l=>Iz c b n l m
   | .ct l=>Iz c b n l m
   | .bk l=>.ok (.nx l) m
   | .rt d=>.ok (.rt d) m
   | .ex c l=>.ok (.ex c l) m
  else .ok (.nx e) o
theorem Xz{c}{body}(N:Nat)(hp:VV (Ac X.prog X.w) X.A X.env X.xe)(hc:GT X E c t)(hb:GSs X E body b):GS X E (.While c body [] pos) (Iz t b N):=(fS hp hc hb).imp<|by
 rintro D σ H ⟨T,l,S,hl,hs,hm⟩
 refine⟨λn O U=>∃m L P,Le X.K T H m U/\Gu X.K m U L O/\CU X.K m P U/\Cg X.K noH m U (Iz t b n L P) λfl S'=>RI X.K E T H S' D fl,⟨N,T,l,S,.refl,hl,hs,hm⟩,?_⟩;rintro n O U ⟨m,L,P,Q,r2,s2,s⟩
 cases n with
 | zero=>exact s.elim
 | succ n=>
  refine⟨m,L,P,r2,s2,s.lift r2 Q λtc S3 s Y H3 G s3=>?_⟩
  cases tc with
  | false=>rw[qY AH]at s ⊢;exact s Y H3 O (Q.trans G) s3 (r2.mono G)
  | true=>
   rw[qX rfl]at s ⊢;refine⟨λZ H'=>∃m L P,Le X.K T H m H'/\Gu X.K m H' L Z/\CU X.K m P H'/\Cg X.K noH m H' (Iz t b n L P) λfl S'=>RI X.K E T H S' D fl,λZ H' q=>⟨n,Dm n,q⟩,?_⟩;refine⟨Y,L,S3,r2.mono G,s3,(s.later G).seq λf4 S4 s=>?_⟩
   cases f4 with
   | nx e5=>exact λo R B C I J=>⟨o,e5,S4,Q.trans (G.trans C),J,I,s.later C⟩
   | ct e5=>exact λo R B C I J=>⟨o,e5,S4,Q.trans (G.trans C),J,I,s.later C⟩
   | bk e5=>exact λo R B C I J=>s o R B (Q.trans (G.trans C)) I J
   | ex c e5=>exact λo R B C I J=>s o R B (Q.trans (G.trans C)) I J
   | rt d5=>exact λo R x5 C I J=>s o R x5 (Q.trans (G.trans C)) I J
end
section
variable{X:Cx}{E:EW}{tg e:Expr}{m:ME}{K:AG}
noncomputable def Qj(d:D):QX:=λS=>match d with
 | .ref n=>match S[n]? with
  | some (.lst l)=>some l
  | _=>none
 | .fro l=>some l
 | _=>none
noncomputable def Hw(ds:List D):QX:=λ_=>some ds
noncomputable def uD(m:ME):MI:=λe S=>(m e S).bind λd l=>match Qj d l with
 | some _=>.ok (Qj d) l
 | none=>.bad
noncomputable def nC(m:ME):MI:=λe S=>(m e S).bind λd l=>match d with
 | .tup o=>.ok (Hw o) l
 | _=>.bad
theorem R5(s:CU K ρ S H)(r:CK K ρ H d (.ref a))(l:Qj d S=some ds):∃xs,SqL K H a xs/\Ax K ρ H ds xs:=by
 cases r with
 | tup A B=>cases l
 | exc _ _=>cases l
 | fro A B=>cases l;exact⟨_,A.sq,B⟩
 | @ref n _ C=>
  obtain⟨o,G,I⟩:=s.there C;unfold Qj at l;simp only[G]at l
  cases o with
  | lst N=>
   cases l;obtain⟨J,e,L⟩:=I;exact⟨J,.inl (.inl e),L⟩
  | _=>cases l
theorem R3(r:CK K ρ H d (.ref a)):Na K ρ H (Itl K a) (Qj d):=by
 intro o O S P i l s G;obtain⟨A,sq,B⟩:=R5 s (r.mono l) G;refine⟨λI=>⟨A,sq,by rw[<-B.length];exact Er.mp I⟩,λd J=>?_⟩;obtain⟨x,C,L⟩:=B.get J;refine⟨⟨A,x,sq,C⟩,λy Q ⟨e,N⟩=>?_⟩;subst e;have:=N A sq;rw[C]at this;cases this;exact⟨o,.refl,s,L⟩
theorem qR(h:GE X E e m):GI X E tg e (uD m):=(kQ h).imp<|by
 rintro Q H R ⟨G,l,S,I,J,o⟩
 refine⟨G,l,S,I,J,o.seq λd L o A N x O C B=>?_⟩
 cases s:Qj d L with
 | none=>rw[s]at o;exact o.elim
 | some T=>
  rw[s]at o
  have:∃a,x=.ref a:=by
   cases B <;> first | exact⟨_,rfl⟩ | (cases s;done)
  obtain⟨a,rfl⟩:=this;obtain⟨P,sq,_⟩:=R5 C B s;exact⟨a,rfl,⟨P,sq⟩,o A N _ O C (R3 B)⟩
theorem Ry(C:H a=some (.tup xs))(G:Ax K ρ H ds xs):Na K ρ H (Itt K a) (Hw ds):=by
 intro o I S Q i l s J;cases J;have A:=G.mono l;have sq:SqT K I a xs:=.inl (.inl (l.tup _ _ C));refine⟨λL=>⟨xs,sq,by rw[<-A.length];exact Er.mp L⟩,λd N=>?_⟩;obtain⟨x,B,O⟩:=A.get N;refine⟨⟨xs,x,sq,B⟩,λy R ⟨e,P⟩=>?_⟩;subst e;have:=P xs sq;rw[B]at this;cases this;exact⟨o,.refl,s,O⟩
theorem qP(h:GE X E e m):GI X E tg e (nC m):=(oz h).imp<|by
 rintro P H R ⟨B,l,S,C,G,o⟩
 refine⟨B,l,S,C,G,o.seq λd Q o s I x J L N=>?_⟩
 cases d <;> first | exact o.elim | skip
 cases N with
 | tup A O=>exact⟨_,rfl,⟨_,.inl (.inl A)⟩,o s I _ J L (Ry A O)⟩
noncomputable def Jk(lo:Int)(n:Nat):List D:=(D4 n).map λi:Nat=>D.int (lo+i)
theorem Ub(lo:Int)(n i:Nat):(Jk lo n)[i]?=if i < n then some (.int (lo+i))else none:=by
 unfold Jk;rw[Ai]
 by_cases h:i < n
 ·rw[E6 h,qX h];rfl
 ·rw[qY h,Er.mpr (by simpa using h)];rfl
theorem Rz(lo:Int)(n:Nat):Na K ρ H (Itr lo n) (Hw (Jk lo n)):=by
 intro o I S J i l s C;cases C;rw[Ub];refine⟨λB=>?_,λd A=>?_⟩
 ·split at B
  ·cases B
  ·rename_i h;exact Rt h
 ·split at A
  ·rename_i h
   cases A;refine⟨h,λy L ⟨e,G⟩=>?_⟩;subst e;subst G;exact⟨o,.refl,s,.int _⟩
  ·cases A
noncomputable def iR1(ml:ML):MI:=λe S=>(ml e S).bind λl o=>match l with
 | [.int j]=>if -(2 ^ 62)<=j/\j < 2 ^ 62 then .ok (Hw (Jk 0 j.toNat)) o else .bad
 | _=>.bad
noncomputable def iR2(ml:ML):MI:=λe S=>(ml e S).bind λl o=>match l with
 | [.int i,.int j]=>if -(2 ^ 62)<=i/\i < 2 ^ 62/\-(2 ^ 62)<=j/\j < 2 ^ 62 then .ok (Hw (Jk i (j - i).toNat)) o else .bad
 | _=>.bad
theorem EF(C:Gl X "range") (o:X.mg "range" = none) (G:GA X E [a] ml) (s:Ag [a] X.env=[(false,Ci a X.env)]:=by rfl):GI X E tg (.Call (.Name "range" p) [a] [] pos) (iR1 ml):=(cJ C o G s).imp<|by
 rintro Q H R ⟨I,l,S,J,s,o⟩
 refine⟨I,l,S,J,s,o.seq λT U o A L Y N O P=>?_⟩;split at o
 ·rename_i j
  split at o
  ·rename_i B
   cases P with
   | cons r t=>
    cases t;cases r;exact⟨j,rfl,B.1,B.2,o A L _ N O (Rz 0 j.toNat)⟩
  ·exact o.elim
 ·exact o.elim
theorem JX(B:Gl X "range") (o:X.mg "range" = none) (C:GA X E [a,b] ml) (s:Ag [a,b] X.env=[(false,Ci a X.env),(false,Ci b X.env)]:=by rfl) (G:Ag [b] X.env=[(false,Ci b X.env)]:=by rfl) :
  GI X E tg (.Call (.Name "range" p) [a,b] [] pos) (iR2 ml):=(cI B o C s G).imp<|by
 rintro U H R ⟨I,l,S,J,s,o⟩
 refine⟨I,l,S,J,s,o.seq λY Z o A L xs N O P=>?_⟩;split at o
 ·rename_i i j
  split at o
  ·rename_i Q
   cases P with
   | cons r t=>
    cases t with
    | cons T t=>
     cases t;cases r;cases T;exact⟨i,j,rfl,Q,o A L _ N O (Rz i _)⟩
  ·exact o.elim
 ·exact o.elim
end
noncomputable def JI:List D->Lo->Sto->Res Lo
 | [],e,S=>.ok e S
 | _,_,_=>.bad
noncomputable def Cp(g:MG)(r:List D->Lo->Sto->Res Lo):List D->Lo->Sto->Res Lo
 | d :: l,e,S=>(g d e S).bind λm o=>r l m o
 | [],_,_=>.bad
noncomputable def Ig(n:Nat)(r:List D->Lo->Sto->Res Lo):MG:=λd e S=>match d with
 | .tup l=>if l.length=n then r l e S else .bad
 | _=>.bad
section
variable{X:Cx}
noncomputable def gGs(K:AG)(r:List D->Lo->Sto->Res Lo):TGs:=λB C H Q=>∃m e S A,Ax K m H A B/\Gu K m H e C/\CU K m S H/\Cg K noH m H (r A e S) λE G=>∀l s o,Le K m H l s->CU K l G s->Gu K l s E o->Q o s
noncomputable abbrev GGs(X:Cx)(ts:List Expr)(r:List D->Lo->Sto->Res Lo):Prop:=PGs X ts (gGs X.K r)
theorem PGs.imp(h:PGs X ts t)(i:∀vs l H Q,t' vs l H Q->t vs l H Q):PGs X ts t':=λm s l H vs o Q I r q=>h m s l H vs o Q I r (i vs l H Q q)
theorem MB:GGs X [] JI:=kX.imp<|by
 rintro G s H Q ⟨A,l,S,m,B,C,E,o⟩
 cases m with
 | nil=>cases B;exact⟨rfl,o A H s .refl E C⟩
 | cons d m=>exact o.elim
theorem EU(G:GG X e g)(I:GGs X es r)
  (o:(Fq (e :: es) X.env).map (·.2)=Rr e X.env :: (Fq es X.env).map (·.2):=by rfl):GGs X (e :: es) (Cp g r):=(fY G I o).imp<|by
 rintro vs σ H Q ⟨J,l,S,s,L,N,o,m⟩
 cases s with
 | nil=>exact m.elim
 | cons d s=>
  cases L with
  | cons O P=>
   exact⟨_,_,rfl,J,l,S,d,O,N,o,m.seq λR T m A H1 U B Y Z=>⟨A,R,T,s,P.mono B,Z,Y,m.go B λ_ _ k C H2 E l2 s2 r2=>k C H2 E (B.trans l2) s2 r2⟩⟩
theorem OX(A:X.calm=true)(h:GGs X es r)
  (B:(Fq es X.env).length=n:=by rfl) (C:(Fq es X.env).findIdx? (·.1)=none:=by rfl):GG X (.Tuple es k pos) (Ig n r):=(pA A h B C).imp<|by
 rintro v O H Q ⟨E,l,S,d,G,I,J,m⟩
 cases d <;> first | exact m.elim | skip
 rename_i L
 cases G with
 | tup N s=>
  unfold Ig at m;dsimp only at m;split at m
  ·rename_i o
   exact⟨_,_,rfl,.inl (.inl N),by rw[<-s.length];exact o,E,l,S,L,s,I,J,m⟩
  ·exact m.elim
end
noncomputable def spM(K:AG)(n:Nat)(f:List D->Sto->Res D):Sp:=λA H Q E=>∃o s S,s.length=n/\Ax K o H s A/\CU K o S H/\Cg K (λc m=>E (.ref c) none m) o H (f s S) λd B=>
 ∀l m x,Le K o H l m->CU K l B m->CK K l m d x->Q x m
theorem spM.len{K}{n}{f}{vs}{H}{Q}{E}(h:spM K n f vs H Q E):vs.length=n:=by
 obtain⟨o,s,S,l,m,_⟩:=h;rw[<-m.length];exact l
noncomputable def Cd(n:Nat)(f:List D->Sto->Res D)(m:ML):ME:=λe S=>(m e S).bind λl o=>if l.length=n then f l o else .bad
noncomputable def Qr(C:Aa)(n:Nat)(f:List D->Sto->Res D)(m:ML):ME:=λe S=>(m e S).bind λo l=>if o.length+1=n then(f (.ref l.length :: o) (l++[.ins C []])).bind (λd s=>match d with
  | .non=>.ok (.ref l.length) s
  | _=>.bad)else .bad
noncomputable def Va(E:EW)(l:St):XK:=λv o H=>o=none/\∃c,v=.ref c/\E c l H
section
variable{X:Cx}{E:EW}{k n:Nat}{x:Str}{e:Expr}{es:List Expr}
theorem Cg.xk{B:Type}{K:AG}{C:St}{ρ m:List Aa}{H G:Hp}{r:Res B}{k k':B->Sto->Prop}(h:Cg K (λc=>E c C) ρ H r k)(l:Le K ρ H m G)(f:∀a S,k a S->k' a S):Cg K (λc o=>Va E C (.ref c) none o) m G r k':=by
 cases r with
 | ok a S=>exact f a S h
 | err c S=>exact λA o I s=>⟨rfl,c,rfl,h A o (l.trans I) s⟩
 | bad=>exact h
theorem WN(F:DD X.prog X.w X.K X.mg X.base CX k f fd ps (spM X.K n g))(G:MQ CX X (Va E))(I:Ht k X.A)(J:Gl X x)(m:X.mg x=some (.ref f))(L:Fs X.K (.ref f)=true)(hb:Binds X.K fd ps [])
  (N:GA X E (e :: es) ml) (O:(x==("__debug__" : Str))=false:=by decide) (P:Ag (e :: es) X.env=(false,Ci e X.env) :: Ag es X.env:=by rfl) (R:(FB pos (Ag es X.env)).any (·.1)=false:=by rfl) :
  GE X E (.Call (.Name x p) (e :: es) [] pos) (Cd n g ml):=(kh (E:=Va E) F I J m L hb .nil G N O P R).imp<|by
 rintro σ H Q ⟨T,l,S,U,Y,m⟩
 refine⟨T,l,S,U,Y,m.seq λZ S1 m s H1 xs C s1 r1=>?_⟩;split at m
 ·rename_i o
  rw[CB];exact⟨s,Z,S1,o,r1,s1,m.xk C λ_ _ k B H' z l' s' r'=>k B H' z (C.trans l') s' r'⟩
 ·exact m.elim
theorem am(M:Mk X.K C f)(F:DD X.prog X.w X.K X.mg X.base CX k f fd ps (spM X.K n g))(Y:MQ CX X (Va E))(Z:Ht (k+1) X.A)(hg:Gl X x)(m:X.mg x=some (.ref C))(hb:Binds X.K fd ps [])
  (G:GA X E (e :: es) ml) (vV:(x==("__debug__" : Str))=false:=by decide) (he:Ag (e :: es) X.env=(false,Ci e X.env) :: Ag es X.env:=by rfl) (vB:(FB pos (Ag es X.env)).any (·.1)=false:=by rfl) :
  GE X E (.Call (.Name x p) (e :: es) [] pos) (Qr C n g ml):=(kb (E:=Va E) M F Z hg m hb .nil Y G vV he vB).imp<|by
 rintro σ H Q ⟨ρ,l,S,hl,hs,m⟩
 refine⟨ρ,l,S,hl,hs,m.seq λds R m I H1 xs T s1 r1 a J G L vq=>?_⟩;split at m
 ·rename_i s
  rw[CB];obtain⟨s2,N⟩:=IQ (ho:=.own a) s1 L
  have Κ:upd H1 J (.own a) a=none:=by rw[Bo (Ch vq)];exact G
  obtain⟨s3,O,B⟩:=s2.alloc (p:=a) (ho:=.ins C J []) (o:=.ins C []) Κ ⟨J,[],CA,.nil⟩;refine⟨I++[a],.ref R.length :: ds,R++[.ins C []],by simpa using s,.cons (.ref B) (r1.mono (N.trans O)),s3,Cg.xk (m.seq λz S2 m=>m) (T.trans (N.trans O)) λz S2 m P H' y U s' r'=>?_⟩
  cases z <;> first | exact m.elim | skip
  cases r';exact⟨rfl,m P H' _ (T.trans (N.trans (O.trans U))) s' (.ref (U.pre _ _ B))⟩
 ·exact m.elim
end
theorem KVR.lookup{K}{ρ}{H}(f:Str):∀{x:List (Str×D)} {y:List (Str×V)} {d:D},KVR K ρ H x y->x.lookup f=some d->∃v,y.lookup f=some v/\CK K ρ H d v
 | _,_,_,.nil,h=>by simp at h
 | (g,a) :: x,(s,b) :: y,d,.cons r t,h=>by
  obtain⟨l,m⟩:=r;dsimp only at l m;subst l;rw[Bd]at h ⊢
  cases o:(f==g)with
  | true=>rw[o]at h;cases h;exact⟨b,rfl,m⟩
  | false=>rw[o]at h;exact KVR.lookup f t h
noncomputable def KB(f:Str)(v:D):List (Str×D)->List (Str×D)
 | []=>[(f,v)]
 | (g,x) :: r=>if g=f then(g,v) :: r else(g,x) :: KB f v r
theorem KVR.putF{K}{ρ}{H}(f:Str){d}{v}(m:CK K ρ H d v):∀{x:List (Str×D)} {y:List (Str×V)},KVR K ρ H x y->KVR K ρ H (KB f d x) (putF f v y)
 | _,_,.nil=>.cons ⟨rfl,m⟩ .nil
 | (g,a) :: x,(A,b) :: y,.cons r t=>by
  obtain⟨o,s⟩:=r;dsimp only at o s;subst o;unfold KB L2.putF
  by_cases l:g=f
  ·rw[qX l,qX l];exact .cons ⟨rfl,m⟩ t
  ·rw[qY l,qY l];exact .cons ⟨rfl,s⟩ (KVR.putF f m t)
theorem KVR.length{l:Type}{K:AG}{ρ:List Aa}{H:Hp}{x:List (l×D)}{y:List (l×V)}(h:KVR K ρ H x y):x.length=y.length:=FR h
noncomputable def EE(C:Aa)(f:Str)(m:ME):ME:=λe S=>(m e S).bind λd l=>match d with
 | .ref n=>match l[n]? with
  | some (.ins o fs)=>if o=C then(match fs.lookup f with | some v=>.ok v l | none=>.bad)else .bad
  | _=>.bad
 | _=>.bad
noncomputable def KL(C:Aa)(f:Str)(mo mv:ME):MS:=λe S=>(mv e S).lift e λv m=>(mo e m).lift e λd l=>match d with
 | .ref n=>match l[n]? with
  | some (.ins o fs)=>if o=C/\fs.length < 1000 then .ok (.nx e) (l.set n (.ins C (KB f v fs)))else .bad
  | _=>.bad
 | _=>.bad
section
variable{X:Cx}{E:EW}{o e value:Expr}{m mv:ME}
theorem Dg(J:Cls X.K C)(L:FY X.K C f)(N:GE X E e m)(hb:GZ e f X.env (Ci e X.env)=Ci e X.env:=by rfl):GE X E (.Attribute e f pos) (EE C f m):=(pJ N hb).imp<|by
 rintro σ H Q ⟨O,l,S,P,R,s⟩
 refine⟨O,l,S,P,R,s.seq λx T s B U v Y I Z=>?_⟩
 cases x <;> first | exact s.elim | skip
 rename_i n;dsimp only at s
 cases A:T[n]? with
 | none=>rw[A]at s;exact s.elim
 | some ob=>
  rw[A]at s
  cases ob <;> first | exact s.elim | skip
  rename_i C' fs;dsimp only at s;split at s
  ·rename_i hC
   rw[hC]at A
   cases Z with
   | ref vU=>
    obtain⟨dx,xy,e1,e2⟩:=I.ob n _ _ A vU
    cases G:fs.lookup f with
    | none=>rw[G]at s;exact s.elim
    | some w=>
     rw[G]at s;obtain⟨v,h3,h4⟩:=KVR.lookup f e2 G;exact⟨_,_,dx,xy,v,rfl,e1,J,L,h3,s B U v Y I h4⟩
  ·exact s.elim
theorem Kk(hc:Cls X.K C)(hn:FY X.K C f)(ha:GE X E o m)(hv:GE X E value mv)(N:G9 value (some (.Attribute o f G)) pos.line X.env=pure false:=by rfl):GS X E (.Assign [.Attribute o f G] value pos) (KL C f m mv):=(ou ha hv N).imp<|by
 rintro D σ H ⟨ρ,l,S,I,N,s⟩
 refine⟨ρ,l,S,I,N,s.lift I .refl λv S1 s O H1 y B s1 r1=>⟨O,l,S1,I.mono B,s1,(s.later B).lift (I.mono B) B λx S2 s A U u P Y r2=>?_⟩⟩
 cases x <;> first | exact s.elim | skip
 rename_i n;dsimp only at s
 cases ho:S2[n]? with
 | none=>rw[ho]at s;exact s.elim
 | some ob=>
  rw[ho]at s
  cases ob <;> first | exact s.elim | skip
  rename_i C' fs;dsimp only at s;split at s
  ·rename_i Q
   obtain⟨Q,J⟩:=Q;rw[Q]at ho
   cases r2 with
   | ref R=>
    obtain⟨L,T,Z,e2⟩:=Y.ob n _ _ ho R;have le:Le X.K A U A (upd U _ (.ins C L (putF f y T))):=Le.write R (by rw[Z];trivial);obtain⟨s3,l3⟩:=Y.write (ho:=.ins C L (putF f y T)) (o:=.ins C (KB f v fs)) R ⟨L,_,CA,(KVR.putF f (r1.mono P) e2).mono le⟩ le;refine⟨_,C,L,T,rfl,Z,hc,hn,by rw[<-KVR.length e2];exact J,?_⟩;exact s A _ σ (B.trans (P.trans l3)) s3 (I.mono (B.trans (P.trans l3)))
  ·exact s.elim
end
noncomputable def ExAt(s:Aa->Prop)(F:Option Value->Prop)(l C:Aa)(H:Hp)(h:DS):Prop:=
 H l=none/\s l/\∃(m:Obj) (o:Array Value) (G:Value),h.get? l=some m/\m.cls=.ref C/\(m.dict=none/\m.data=.fields o)/\o[0]?=some G /\
  ((F none/\o[1]?=some .none)∨∃(T:Aa) (A:Obj) (B:Array Value) (E:Value),F (some E)/\o[1]?=some (.ref T)/\T≠l/\H T=none/\s T/\h.get? T=some A/\A.data=.fields B/\B[3]?=some E)
noncomputable def CXG(P:Bs)(w:CQ):CXT:=λl H s E e m=>∃A C o,e=.ref A/\m.os=s.os/\LD m.gens/\Un (frs l) [] H o s.heap m.heap/\HOk P w o m.heap/\ExAt (λb=>s.heap.get? b=none) (· = some .none) A C o m.heap/\E (.ref C) none o
theorem Inv.with(I:Inv X N O H s)(z:Value->AS->Prop):Inv { X with xe:=z } N O H s:=by
 obtain⟨ok,a,b,c,d,e,f,g,i,j,l⟩:=I;obtain⟨P,Q,R,S,T,U,Y,Z,o9,m,o,A,B,C,E,G,J,L⟩:=ok;exact⟨⟨P,Q,R,S,T,U,Y,Z,o9,m,o,A,B,C,E,G,J,L⟩,a,b,c,d,e,f,g,i,j,l⟩
theorem Inv.without(I:Inv { X with xe:=z } l m H s):Inv X l m H s:=by
 have:=I.with X.xe
 exact this
structure Good(X:Cx)(E:EW):Prop where
 pass:MQ (CXG X.prog X.w) X (Va E)
 own:VV (Ac X.prog X.w) X.A X.env X.xe
 made:∀(ζ:List (Aa×Obj)) (σ:St) (H:Hp) (s:AS) (h':DS) (ea C:Aa) (args:List Value),Inv X ζ σ H s->E C σ H->DS.MadeExcOf s.heap h' ea (.ref C) args->X.xe (.ref ea) { s with heap:=h' }
theorem good_none(m:X.xe=λ_ _=>False):Good X noE:=by
 refine⟨λA B H s e E I h=>?_,by rw[m];exact VV.never,λ_ _ _ _ _ _ _ _ _ w _=>w.elim⟩;obtain⟨G,C,J,rfl,os,l,un,o,x,_,c,L,w⟩:=h;exact w.elim
noncomputable def Ix(n:Nat)(ds:List D):Lo:=ds.map some++By (n - ds.length) none
theorem Ys{K}{ρ}{H}{N}{ds}{vs}(r:Ax K ρ H ds vs):Gu K ρ H (Ix N.length ds) (start N vs):=by
 refine⟨by simp[Ix,start,r.length],λi d q=>?_⟩;unfold Ix at q;unfold start
 by_cases l:i < ds.length
 ·rw[Ap (by simpa using l),Ai]at q
  rw[Ap (by rw[AD,<-r.length];exact l),Ai]
  cases e:ds[i]? with
  | none=>rw[e]at q;cases q
  | some s=>
   rw[e]at q;cases q;obtain⟨v,m,o⟩:=r.get e;exact⟨v,by rw[m];rfl,o⟩
 ·rw[Bj (by simpa using l),D2]at q
  split at q <;> cases q
section
variable{X:Cx}
noncomputable def intOp(C:Int->Int->Prop)[∀i j,Decidable (C i j)](g:Int->Int->D):D->D->Sto->Res D
 | .int i,.int j,S=>if C i j then .ok (g i j) S else .bad
 | _,_,_=>.bad
theorem gn[∀i j,Decidable (C i j)](h:intOp C g a b S=.ok d l):∃i j,a=.int i/\b=.int j/\C i j/\d=g i j/\l=S:=by
 unfold intOp at h;split at h
 ·split at h
  ·rename_i i j _ m
   cases h;exact⟨_,_,rfl,rfl,m,rfl,rfl⟩
  ·cases h
 ·cases h
theorem QF[∀i j,Decidable (C i j)](l:∀ρ H i j,CK X.K ρ H (g i j) (v i j))(h:OpR X f (rI C v)):OpR X f (rD X.K (intOp C g)):=h.imp<|by
 rintro x y H Q ⟨ρ,S,a,b,d,E,m,o,s,A,k⟩
 obtain⟨i,j,rfl,rfl,B,rfl,rfl⟩:=gn A;cases o;cases s;exact⟨i,j,rfl,rfl,B,k ρ H _ .refl m (l _ _ _ _)⟩
theorem Nn(l:∀ρ H i j,CK X.K ρ H (g i j) (v i j))(h:OpR X f (rI0 v)):OpR X f (rD X.K (intOp (λ_ _=>True) g)):=
 QF (C:=λ_ _=>True) l (h.imp λx y H Q ⟨i,j,m,o,_,q⟩=>⟨i,j,m,o,q⟩)
noncomputable instance(i j:Int):Decidable (im i j):=inferInstanceAs (Decidable (_/\_))
noncomputable instance(i j:Int):Decidable (il i j):=inferInstanceAs (Decidable (_/\_/\_))
noncomputable instance(i j:Int):Decidable (dD i j):=inferInstanceAs (Decidable (_∨_))
noncomputable abbrev Q0:=intOp (λ_ _=>True) λi j=>.int (i - j)
noncomputable abbrev lB:=intOp dD λi j=>.int (i * j)
noncomputable abbrev OA:=intOp im λi j=>.int (i / j)
noncomputable abbrev OS:=intOp (λ_ j=>0 < j) λi j=>.int (i % j)
noncomputable abbrev ltD:=intOp (λ_ _=>True) λi j=>.bl (decide (i < j))
noncomputable abbrev leD:=intOp (λ_ _=>True) λi j=>.bl (decide (i<=j))
noncomputable abbrev gtD:=intOp (λ_ _=>True) λi j=>.bl (decide (j < i))
noncomputable abbrev geD:=intOp (λ_ _=>True) λi j=>.bl (decide (j<=i))
theorem Kj:OpR X (DR .Sub) (rD X.K Q0):=Nn (λ_ _ _ _=>.int _) pO
theorem fy:OpR X (DR .Mult) (rD X.K lB):=QF (λ_ _ _ _=>.int _) pR
theorem No:OpR X (DR .FloorDiv) (rD X.K OA):=QF (λ_ _ _ _=>.int _) ko
theorem Jm:OpR X (DR .Mod) (rD X.K OS):=QF (λ_ _ _ _=>.int _) pS
theorem Xi:OpR X (CN .Lt) (rD X.K ltD):=Nn (λ_ _ _ _=>.bl _) tP
theorem Xj:OpR X (CN .LtE) (rD X.K leD):=Nn (λ_ _ _ _=>.bl _) tQ
theorem tW:OpR X (CN .Gt) (rD X.K gtD):=Nn (λ_ _ _ _=>.bl _) tR
theorem gB:OpR X (CN .GtE) (rD X.K geD):=Nn (λ_ _ _ _=>.bl _) tS
noncomputable def Fh:D->D->Sto->Res D
 | .int i,.int j,S=>.ok (.int (i+j)) S
 | .tup m,.tup o,S=>if m.length+o.length<=sizeLine then .ok (.tup (m++o)) S else .bad
 | .ref l,.ref b,S=>match S[l]?,S[b]? with
  | some (.lst m),some (.lst o)=>if m.length+o.length<=sizeLine then .ok (.ref S.length) (S++[.lst (m++o)])else .bad
  | _,_=>.bad
 | _,_,_=>.bad
noncomputable def tG(K:AG):R2:=λx y H Q=>∃a b l m,x=.ref a/\y=.ref b/\H a=some (.tup l)/\H b=some (.tup m)/\l.length+m.length<=sizeLine /\
 (l=[]->Q (.ref b) H)/\(m=[]->Q (.ref a) H)/\(∀p,H p=none->Q (.ref p) (upd H p (.tup (l++m))))
theorem kt:OpR X (DR .Add) (tG X.K):=by
 intro P s R H x y v u Q I S T h;obtain⟨a,b,xs,B,rfl,rfl,C,hb,U,Y,Z,q2⟩:=h;cases S;cases T;obtain⟨E,r1,p1,_⟩:=I.tuple (a:=a) (xs:=xs) (.inl (.inl C));obtain⟨vn,r2,p2,_⟩:=I.tuple (a:=b) (xs:=B) (.inl (.inl hb))
 by_cases m:xs=[]
 ·obtain⟨⟨cls,dd,data,sl⟩,G,J,n,L⟩:=id p1
  obtain⟨⟨N,o,data2,A⟩,l,O,n2,hd2⟩:=id p2;simp only at J L O hd2;subst J L O hd2;have hi:E=[]:=r1.nil_iff.mpr m
  exact dR ⟨_,G,rfl⟩ ⟨_,l,rfl⟩ VP bN Lb LA (KY _ _)
   (tuple_addW0 a b E.toArray vn.toArray n n2 dd o sl A (by simp[hi])) ⟨G,l,⟨.ref b,H,I,rfl,Y m⟩⟩
 ·exact kr P s R H (.ref a) (.ref b) _ _ Q I rfl rfl ⟨a,b,xs,B,rfl,rfl,.inl (.inl C),.inl (.inl hb),m,U,Z,λ_ p hp=>q2 p hp⟩
theorem Ax.nil_of{K}{ρ}{H}{xs}{vs}(r:Ax K ρ H xs vs)(e:vs=[]):xs=[]:=by
 subst e;cases r;rfl
theorem Dp:OpR X (DR .Add) (rD X.K Fh):=(pV.or (kt.or pT)).imp<|by
 rintro x y H Q ⟨A,S,a,b,d,S',s,ra,L,l,k⟩
 cases ra with
 | int i=>
  cases L <;> first | (cases l;done) | skip
  cases l;exact .inl ⟨_,_,rfl,rfl,k A H _ .refl s (.int _)⟩
 | @tup R a1 C E B=>
  cases L with
  | @tup T b1 ws U G=>
   unfold Fh at l;dsimp only at l;split at l
   ·rename_i N
    cases l;refine .inr (.inl ⟨_,_,_,_,rfl,rfl,E,U,by rw[<-B.length,<-G.length];exact N,λe=>?_,λe=>?_,λp I=>?_⟩)
    ·rw[B.nil_of e,jH]at k
     exact k A H _ .refl s (.tup U G)
    ·rw[G.nil_of e,CB]at k
     exact k A H _ .refl s (.tup E B)
    ·obtain⟨O,J⟩:=IQ (ho:=.tup (C++ws)) s I
     exact k A _ _ J O (.tup CA ((B.append G).mono J))
   ·cases l
  | _=>cases l
 | @ref n a1 hn=>
  cases L with
  | @ref m b1 vU=>
   unfold Fh at l;dsimp only at l;split at l
   ·rename_i R T E B
    split at l
    ·rename_i N
     cases l;obtain⟨C,e1,Y⟩:=s.ob _ _ _ E hn;obtain⟨Z,e2,r2⟩:=s.ob _ _ _ B vU;refine .inr (.inr ⟨_,_,_,_,rfl,rfl,e1,e2,by rw[<-Y.length,<-r2.length];exact N,λp I=>?_⟩);have le:Le X.K A H (A++[p]) (upd H p (.lst (C++Z))):=Le.alloc I;obtain⟨O,J,P⟩:=s.alloc (ho:=.lst (C++Z)) (o:=.lst (R++T)) I ⟨_,CA,(Y.append r2).mono le⟩;exact k _ _ _ J O (.ref P)
    ·cases l
   ·cases l
  | _=>cases l
 | _=>cases l
noncomputable def ixD:D->D->Sto->Res D:=λa b S=>match Gc a S,b with
 | some l,.int i=>match atI l i with
  | some d=>.ok d S
  | none=>.bad
 | _,_=>.bad
theorem mE{K}{ρ}{H}{ds}{vs}{i}{d}(r:Ax K ρ H ds vs)(h:atI ds i=some d):∃v,atI vs i=some v/\CK K ρ H d v:=by
 unfold atI at h ⊢;rw[<-r.length]
 cases l:ixN ds.length i with
 | none=>rw[l]at h;cases h
 | some j=>
  rw[l]at h;exact r.get h
theorem tU:IxR X (rD X.K ixD):=(ix_list.or qD).imp<|by
 rintro x y H Q ⟨o,S,a,b,d,L,m,C,E,l,k⟩
 unfold ixD at l;split at l
 ·rename_i N i G
  split at l
  ·rename_i O I
   cases l;cases E;obtain⟨p,s,rfl,J,sq⟩:=RX m C G;obtain⟨v,A,B⟩:=mE J I
   rcases sq with sq | sq
   ·exact .inl ⟨p,s,_,v,rfl,rfl,sq,A,k o H v .refl m B⟩
   ·exact .inr ⟨p,s,_,v,rfl,rfl,sq,A,k o H v .refl m B⟩
  ·cases l
 ·cases l
noncomputable def qE(neg:Bool)(x y:D)(S:Sto):Res D:=match y with
 | .non=>match x with
  | .non=>.ok (.bl (!neg)) S
  | _=>.ok (.bl neg) S
 | _=>.bad
theorem k9:OpR X (CN .IsNot) (rD X.K (qE true)):=kn.imp<|by
 rintro x y H Q ⟨m,S,a,b,d,B,o,s,A,l,k⟩
 cases A <;> first | (cases l;done) | skip
 refine⟨rfl,?_⟩
 cases s <;> (cases l;exact k m H _ .refl o (.bl _))
end
noncomputable def mQ(f:List D->Sto->Res D)(m:ML):ME:=λe S=>(m e S).bind λl o=>okR (f l o)
section
variable{X:Cx}{E:EW}{e:Expr}{es:List Expr}{x:Str}{p pos:Pos}{ml:ML}{id T:String}{r:List V->Hp->VK->Prop}{f:List D->Sto->Res D}
noncomputable def uZ(K:AG)(r:List V->Hp->VK->Prop)(f:List D->Sto->Res D):Prop:=∀o H S A q s d B (Q:VK),CU K o S H->Ax K o H A s->(SqL K H q s∨SqT K H q s)->f A S=.ok d B ->
 (∀l m z,Le K o H l m->CU K l B m->CK K l m d z->Q z m)->r [.ref q] H Q
noncomputable def rC(K:AG)(r:List V->Hp->VK->Prop)(f:List D->Sto->Res D):Prop:=∀o H S s A d B (Q:VK),CU K o S H->Ax K o H s A->f s S=.ok d B ->
 (∀l m z,Le K o H l m->CU K l B m->CK K l m d z->Q z m)->r A H Q
noncomputable def uY(K:AG)(r:List V->Hp->VK->Prop)(f:List D->Option (List D)):Prop:=∀o H S A q s es (Q:VK),CU K o S H->Ax K o H A s->(SqL K H q s∨SqT K H q s)->f A=some es ->
 (∀l m p B,Le K o H l m->CU K l S m->Ax K l m es B->m p=some (.lst B)->(∀n:Nat,l[n]?≠some p)->H p=none->Q (.ref p) m)->r [.ref q] H Q
theorem lR(B:LS X (.builtin id) r)(C:uZ X.K r f)(G:Gl X x)(m:X.mg x=none)(I:HA x=some (.builtin id))(h:GQ X E e ml)(J:x≠"__name__":=by decide) (L:(x==("__debug__" : Str))=false:=by decide)
  (A:Ag [e] X.env=(false,Ci e X.env) :: Ag [] X.env:=by rfl):GE X E (.Call (.Name x p) [e] [] pos) (mQ f ml):=(O7 B G m I (Gy h JA A) J L A rfl).imp<|by
 rintro σ H Q ⟨N,l,S,O,P,m⟩
 refine⟨N,l,S,O,P,m.seq λR U m o Y q Z l1 s1 r1 sq=>?_⟩;obtain⟨d,S',e,k⟩:=m.okR
 exact C o Y U R q Z d S' Q s1 r1 sq e λs H' z l' s' r'=>k s H' z (l1.trans l') s' r'
theorem ap(A:LS X (.builtin id) r)(B:rC X.K r f)(C:Gl X x)(m:X.mg x=none)(G:HA x=some (.builtin id))(h:GA X E (e :: es) ml)(I:x≠"__name__":=by decide) (J:(x==("__debug__" : Str))=false:=by decide)
  (L:Ag (e :: es) X.env=(false,Ci e X.env) :: Ag es X.env:=by rfl) (N:(FB pos (Ag es X.env)).any (·.1)=false:=by rfl):GE X E (.Call (.Name x p) (e :: es) [] pos) (mQ f ml):=(O7 A C m G h I J L N).imp<|by
 rintro σ H Q ⟨O,l,S,P,R,m⟩
 refine⟨O,l,S,P,R,m.seq λU Y m o Z xs l1 s1 r1=>?_⟩;obtain⟨d,S',e,k⟩:=m.okR
 exact B o Z Y U xs d S' Q s1 r1 e λs H' z l' s' r'=>k s H' z (l1.trans l') s' r'
noncomputable def mN(f:List D->Option (List D))(m:ML):ML:=λe S=>(m e S).bind λl o=>match f l with
 | some es=>.ok es o
 | none=>.bad
theorem lN{f}(N:LS X (.type T) r)(O:uY X.K r f)(P:Gl X x)(m:X.mg x=none)(R:HA x=some (.type T))(h:GQ X E e ml)(o:x≠"__name__":=by decide) (U:(x==("__debug__" : Str))=false:=by decide)
  (C:Ag [e] X.env=(false,Ci e X.env) :: Ag [] X.env:=by rfl):GL X E (.Call (.Name x p) [e] [] pos) (mN f ml):=(QA N P m R (Gy h JA C) o U C rfl).imp<|by
 rintro σ H Q ⟨Y,l,S,Z,G,m⟩
 refine⟨Y,l,S,Z,G,m.seq λI S1 m s H1 q xs J L r1 sq=>?_⟩
 cases A:f I with
 | none=>rw[A]at m;exact m.elim
 | some es=>
  rw[A]at m
  exact O s H1 S1 I q xs es Q L r1 sq A λB H' p ys l' s' r' hp o yx=>m B H' p ys (J.trans l') s' r' hp o (J.back G L yx)
noncomputable def tw(ds:List D)(S:Sto):Res D:=.ok (.int ds.length) S
theorem oW:uZ X.K (λxs H Q=>∃p l,xs=[.ref p]/\(SqL X.K H p l∨SqT X.K H p l)/\Q (.int l.length) H) tw:=λm H S B q xs d C Q o s sq A k=>by
 cases A;exact⟨q,xs,rfl,sq,k m H _ .refl o (by rw[s.length];exact .int _)⟩
noncomputable def Qp:List D->Sto->Res D
 | [.int i,.int j],S=>.ok (.int (if j < i then j else i)) S
 | _,_=>.bad
noncomputable def Ul:List D->Sto->Res D
 | [.int i,.int j],S=>.ok (.int (if j > i then j else i)) S
 | _,_=>.bad
theorem mG:rC X.K (λxs H Q=>∃i j,xs=[.int i,.int j]/\Q (.int (if j < i then j else i)) H) Qp:=λm H S A xs d B Q o s l k=>by
 unfold Qp at l;split at l
 ·cases l
  cases s with
  | cons a t=>
   cases t with
   | cons b t=>
    cases t;cases a;cases b;exact⟨_,_,rfl,k m H _ .refl o (.int _)⟩
 ·cases l
theorem mH:rC X.K (λxs H Q=>∃i j,xs=[.int i,.int j]/\Q (.int (if j > i then j else i)) H) Ul:=λm H S A xs d B Q o s l k=>by
 unfold Ul at l;split at l
 ·cases l
  cases s with
  | cons a t=>
   cases t with
   | cons b t=>
    cases t;cases a;cases b;exact⟨_,_,rfl,k m H _ .refl o (.int _)⟩
 ·cases l
noncomputable def aW(ds:List D):Option (List D):=some ds
theorem j4:uY X.K (λxs H Q=>∃p m,xs=[.ref p]/\(SqL X.K H p m∨SqT X.K H p m)/\∀l,H l=none->Q (.ref l) (upd H l (.lst m))) aW:=λB H S J q xs es Q s C sq G k=>by
 cases G;refine⟨q,xs,rfl,sq,λl o=>?_⟩;obtain⟨I,A⟩:=IQ (ho:=.lst xs) s o;exact k B _ l xs A I (C.mono A) CA (λn e=>s.notIn o e) o
end
noncomputable def Ew(X:Cx)(scope:Tr)(N':List Str)(o:List (Str×Aa))(C:Aa)(l:AS)(m:Hp)(ex:List Aa)(pn:List (Aa×Obj)):Cx where
 prog:=X.prog
 w:=X.w
 K:=X.K
 mg:=X.mg
 base:=X.base
 A:=X.A
 N:=N'
 s₀:=l
 H₀:=m
 env:=compEnvC scope o C X.env
 outer:=X.stack
 stack:=X.stack
 ex:=ex
 fn:=λx=>scope.names.lookup x==some .cell
 calm:=X.calm
 pn:=pn
 xe:=λ_ _=>False
theorem WU:∀(names:List (Str×Pr)) (acc:List (Str×Aa)),(∀y∈names,y.2=.free->∃c,env.cells.lookup y.1=some c)->(∀n c,acc.lookup n=some c->env.cells.lookup n=some c) ->
  ∃cl,(forIn names acc (λ(x:Str×Pr) (cs:List (Str×Aa))=>match x with | (name,kind)=>if (kind==Gh)=true then do let a <-cellOf env name;pure (Ie ((name,a) :: cs))else pure (Ie cs)):Sem (List (Str×Aa)))=pure cl /\
   (∀n c,cl.lookup n=some c->env.cells.lookup n=some c)/\(∀n c,acc.lookup n=some c->∃c',cl.lookup n=some c')/\∀y∈names,y.2=.free->∃c,cl.lookup y.1=some c
 | [],acc,_,ha=>⟨acc,rfl,ha,λn c h=>⟨c,h⟩,λ_ h=>nomatch h⟩
 | (n,k) :: r,acc,h,ha=>by
  rw[jI]
  by_cases hk:k=.free
  ·subst hk
   obtain⟨c,hc⟩:=h (n,.free) AX rfl
   obtain⟨cl,e,h1,h2,h3⟩:=WU r ((n,c) :: acc) (λy hy=>h y (AN _ hy)) (λm d hm=>by
    rw[Bd]at hm
    cases hq:(m==n)with
    | true=>rw[hq]at hm;cases hm;rw[eq_of_beq hq];exact hc
    | false=>rw[hq]at hm;exact ha m d hm)
   have e0:cellOf env n=pure c:=by unfold cellOf;rw[hc]
   refine⟨cl,?_,h1,λm d hm=>h2 m (if m==n then c else d) ?_,λy hy hf=>?_⟩
   ·simp only[beq_self_eq_true,if_true,e0,pure_bind]
    exact e
   ·rw[Bd]
    cases hq:(m==n)with
    | true=>rfl
    | false=>exact hm
   ·rcases Ae.mp hy with rfl | hy
    ·exact h2 n c (by rw[Bd,beq_self_eq_true])
    ·exact h3 y hy hf
  ·have hb:(k==Gh)=false:=by simpa using hk
   obtain⟨cl,e,h1,h2,h3⟩:=WU r acc (λy hy=>h y (AN _ hy)) ha;refine⟨cl,?_,h1,h2,λy hy hf=>?_⟩
   ·simp only[hb,CI,if_false,pure_bind]
    exact e
   ·rcases Ae.mp hy with rfl | hy
    ·exact(hk hf).elim
    ·exact h3 y hy hf
theorem bE(h:∀y∈scope.names,y.2=.free->∃c,env.cells.lookup y.1=some c):∃l,closureFor scope env=pure l /\
  (∀n c,l.lookup n=some c->env.cells.lookup n=some c)/\∀y∈scope.names,y.2=.free->∃c,l.lookup y.1=some c:=by
 obtain⟨l,e,m,_,o⟩:=WU scope.names [] h (λn c z=>by simp at z);refine⟨l,?_,m,o⟩;unfold closureFor;exact(congrArg (λz=>z >>= λs=>pure s) e).trans (by rw[pure_bind])
noncomputable def Zj(X:Cx)(l:List Expr)(t:TT):Prop:=
 ∀(o:List (Aa×Obj)) (s:AS) (m:St) (H:Hp) (Q:Bool->Hp->Prop),Inv X o m H s->t m H Q ->
  Ao (Ac X.prog X.w) X.A (forIn l true λc r=>if r=true then do let ok <-nI c X.env (Ci c X.env);pure (Ie ok)else pure (Ie r)) (TP X o m Q) X.xe s
theorem fW:Zj X [] (λ_ H Q=>Q true H):=λl s m H Q I h=>wpAny_tests_nil ⟨H,I,h⟩
theorem fV(h:PT X c t):Zj X [c] t:=λl s m H Q I q=>wpAny_tests_one (h l s m H Q I q)
structure Od(X:Cx)(scope:Tr)(own N':List Str):Prop where
 kind:scope.kind=.function
 names:∀y∈scope.names,y.2=.local->scope.names.lookup y.1=some .local
 free:∀y∈scope.names,y.2=.free->X.env.kindOf y.1=some .cell∨X.env.kindOf y.1=some .free
 len:N'.length=own.length+X.N.length
 up:∀i x,N'[own.length+i]?=some x->Vis (K5 scope X.env) x->(X.N[i]?=some x/\Vis X.env.scope x/\((K5 scope X.env).names.lookup x=some .cell∨(K5 scope X.env).names.lookup x=some .free)/\X.env.kindOf x≠some .local)/\(x,DJ)∉scope.names/\(x,Gh)∈scope.names
 vis:∀x,((K5 scope X.env).names.lookup x=some .cell∨(K5 scope X.env).names.lookup x=some .free)->(x,Gh)∈scope.names∨(x,DJ)∈scope.names
theorem GX:∀(names:List (Str×Pr)) (n:Nat) (m:List (Str×Aa)) (x:Str) (c:Aa),(CV n names m).lookup x=some c ->
  ((x,DJ)∈names/\n<=c)∨m.lookup x=some c
 | [],_,_,_,_,h=>.inr h
 | (y,k) :: r,n,m,x,c,h=>by
  unfold CV at h;split at h
  ·rename_i o
   have o:k=.cell:=by simpa using o
   subst o
   rcases GX r (n+1) _ x c h with⟨l,s⟩ | l
   ·exact .inl ⟨AN _ l,Qy s⟩
   ·rw[Bd]at l
    cases hb:x==y with
    | true=>rw[hb]at l;cases l;rw[beq_iff_eq.mp hb];exact .inl ⟨AX,AJ _⟩
    | false=>rw[hb]at l;exact .inr l
  ·rcases GX r n m x c h with⟨l,s⟩ | l
   ·exact .inl ⟨AN _ l,s⟩
   ·exact .inr l
theorem Dq:∀(names:List (Str×Pr)) (n:Nat) (l:List (Str×Aa)) (x:Str),(∃c,l.lookup x=some c)->∃c,(CV n names l).lookup x=some c
 | [],_,_,_,h=>h
 | (y,k) :: r,n,l,x,h=>by
  unfold CV;split
  ·refine Dq r (n+1) _ x ?_
   rw[Bd]
   cases hb:x==y with
   | true=>exact⟨_,rfl⟩
   | false=>exact h
  ·exact Dq r n l x h
theorem Eo:∀(names:List (Str×Pr)) (n:Nat) (l:List (Str×Aa)) (x:Str),(x,DJ)∈names->∃c,(CV n names l).lookup x=some c/\n<=c
 | (y,k) :: r,n,l,x,h=>by
  unfold CV
  by_cases o:(x,DJ)∈r
  ·split
   ·obtain⟨c,m,A⟩:=Eo r (n+1) ((y,n) :: l) x o
    exact⟨c,m,Qy A⟩
   ·exact Eo r n l x o
  ·rcases Ae.mp h with e | e
   ·cases e
    rw[qX (show(DJ==DJ)=true from rfl)];obtain⟨c,s⟩:=Dq r (n+1) ((y,n) :: l) y ⟨n,by rw[Bd,beq_self_eq_true]⟩
    rcases GX r (n+1) _ y c s with⟨m,_⟩ | m
    ·exact(o m).elim
    ·rw[Bd,beq_self_eq_true]at m
     cases m;exact⟨n,s,AJ _⟩
   ·exact(o e).elim
theorem Nz(s:(x,DJ)∉names)(h:l.lookup x=some c):(CV n names l).lookup x=some c:=by
 obtain⟨A,o⟩:=Dq names n l x ⟨c,h⟩
 rcases GX names n l x A o with⟨m,_⟩ | m
 ·exact(s m).elim
 ·rw[h]at m;cases m;exact o
theorem Kt:∀(names:List (Str×Pr)) (n:Nat) (l:List (Str×Aa)),(∀x c,l.lookup x=some c->c < n)->(∀x y c,l.lookup x=some c->l.lookup y=some c->x=y) ->
  ∀x y c,(CV n names l).lookup x=some c->(CV n names l).lookup y=some c->x=y
 | [],_,_,_,h=>h
 | (z,k) :: r,n,l,o,h=>by
  unfold CV;split
  ·have m:∀x c,((z,n) :: l).lookup x=some c->(x=z/\c=n)∨l.lookup x=some c:=λx c q=>by
    rw[Bd]at q
    cases hb:x==z with
    | true=>rw[hb]at q;cases q;exact .inl ⟨beq_iff_eq.mp hb,rfl⟩
    | false=>rw[hb]at q;exact .inr q
   refine Kt r (n+1) _ (λx c q=>?_) λx y c B C=>?_
   ·rcases m x c q with⟨_,rfl⟩ | e
    ·exact Dm _
    ·exact LV (o x c e)
   ·rcases m x c B with⟨e,E⟩ | e <;> rcases m y c C with⟨s,A⟩ | s
    ·rw[e,s]
    ·subst E;exact zX (o _ _ s) (EX _)
    ·subst A;exact zX (o _ _ e) (EX _)
    ·exact h x y c e s
  ·exact Kt r n l o h
theorem Ks:∀(names:List (Str×Pr)) (h:DS) (m:List (Str×Aa)) (x:Str) (c:Aa),(CV h.objs.size names m).lookup x=some c->m.lookup x=some c∨((FP h names).IsCell c none/\h.objs.size<=c)
 | [],_,_,_,_,q=>.inl q
 | (y,k) :: r,h,m,x,c,q=>by
  unfold CV at q;unfold FP;split at q
  ·rename_i o
   rw[qX o];have:=Ks r (h.push { cls:=.type "cell",data:=.cell none }) ((y,h.objs.size) :: m) x c (by rw[E9];exact q)
   rcases this with e | ⟨e,l⟩
   ·rw[Bd]at e
    cases hb:x==y with
    | true=>
     rw[hb]at e;cases e;exact .inr ⟨⟨_,Wt _ _ _ _ (An _ rfl),rfl⟩,AJ _⟩
    | false=>rw[hb]at e;exact .inl e
   ·exact .inr ⟨e,by rw[E9]at l;exact Qy l⟩
  ·rename_i o
   rw[qY o];exact Ks r h m x c q
theorem YY
  (h:Q (newEnv scope s.heap.objs.size globals (CV (s.heap.push { cls:=.type "dict",data:=.dict #[] }).objs.size scope.names H) m none .none (some l) YT) { s with heap:=FP (s.heap.push { cls:=.type "dict",data:=.dict #[] }) scope.names }) :
  Ao M A (YS scope globals H [] m none .none (some l)) Q E s:=by
 simp only[YS,Zn,if_true];refine AB (wpAny_alloc ?_);refine AB (wpAny_layCells _ (λG o B=>by cases C:o==DJ <;> simp[C]) _ _ _ _ ?_);rw[UT];exact AB (AL (AL h))
section
theorem ZX(P:Od X scope own N')(I:Inv X ζ S Q E)(G:∀b∈fp,Oc X ζ Q b)(wL:∀b∈fp,b < E.heap.objs.size)
  (l:∀n c,B.lookup n=some c->X.env.cells.lookup n=some c) (c2:∀y∈scope.names,y.2=.free->∃c,B.lookup y.1=some c)
  (T:E.heap.objs.size<=n) (U:∀x c,(CV n scope.names B).lookup x=some c->B.lookup x=some c∨(s.heap.IsCell c none/\n<=c)) (Λ:∀c,n<=c->H c=none)
  (Y:E.heap.objs.size<=C) (hn:s.heap.Ns C m) (xO:s.os=E.os) (hg:LD s.gens)
  (u:Un (frs X.stack) fp Q H E.heap s.heap) (Z:HOk X.prog X.w H s.heap) (yc:H C=none) :
  Inv (Ew X scope N' (CV n scope.names B) C E Q fp (X.pn++ζ)) [] (By own.length none++S) H s:=by
 have A:∀x c v,B.lookup x=some c->E.heap.IsCell c v->s.heap.IsCell c v:=by
  rintro x c v e ⟨o,ho,hd⟩
  obtain⟨sl,q⟩:=u.any ho (I.freeC x c (l x c e)) λz=>(G c z).2.2.2.2.1 x c (l x c e) rfl
  exact⟨_,q,hd⟩
 have clt:∀x c,B.lookup x=some c->c < n:=λx c e=>by
  obtain⟨v,z⟩:=I.cell x c (l x c e);exact AY z.lt T
 have ok':(Ew X scope N' (CV n scope.names B) C E Q fp (X.pn++ζ)).Ok:=by
  refine⟨I.ok.mod,P.kind,I.ok.glob,I.ok.blt,Y,Kt _ _ _ clt λx y c h1 h2=>I.ok.inj x y c (l x c h1) (l y c h2),λx hx=>?_,λx c z q=>?_,I.ok.hd,I.ok.frames,.inl rfl,λb hb=>?_,I.bs,Au I.ok.bsz I.sz,λb o e hb=>?_,λb hb ve=>?_,I.stack,I.stkFree⟩
  ·rcases P.vis x hx with h | h
   ·exact Dq _ _ _ _ (c2 _ h rfl)
   ·obtain⟨c,hc,_⟩:=Eo scope.names n B x h
    exact⟨c,hc⟩
  ·have z:(scope.names.lookup x==some .cell)=true:=z
   obtain⟨c',J,hl⟩:=Eo scope.names n B x (D7 (beq_iff_eq.mp z));have q:(CV n scope.names B).lookup x=some c:=q;rw[J]at q;cases q;exact Au T hl
  ·refine⟨BJ (AY (wL b hb) Y),λx c e=>?_⟩
   rcases U x c e with e | ⟨_,e⟩
   ·exact(G b hb).2.2.2.2.1 x c (l x c e)
   ·exact FS (AY (wL b hb) (Au T e))
  ·obtain⟨_,_,_,z,_⟩:=G b hb
   rcases z with z | z
   ·exact I.ok.noex b o e z
   ·exact zX (AY (Ak (I.ok.bs b o e).1) z) (EX _)
  ·obtain⟨_,z1,z2,_⟩:=G b hb
   rcases Ae.mp (I.stkSub b ve)with e | e
   ·exact z1 e
   ·exact z2 e
 refine⟨ok',xO,hg,u,⟨m,hn,λi x v e1 R e3=>?_⟩,λx c e=>?_,yc,λx c e=>?_,λp hp=>?_,Z,?_⟩
 ·have hi:own.length<=i:=by
   apply Rt
   intro vw;rw[Ap (by simpa using vw),D2,qX vw]at R;cases R
  obtain⟨j,rfl⟩:∃j,i=own.length+j:=⟨i - own.length,by lia⟩
  rw[Bj (by simp)]at R
  have e2':S[j]?=some (some v):=by simpa using R
  obtain⟨⟨n1,n2,n3,n4⟩,n5,n6⟩:=P.up j x e1 e3;obtain⟨m0,zp,hl⟩:=I.loc;obtain⟨w',r,lk⟩:=hl j x v n1 e2' n2;refine⟨w',r,.inr ⟨n3,?_⟩⟩
  rcases lk with⟨k,_⟩ | ⟨_,c,hc,vx⟩
  ·exact(n4 k).elim
  ·obtain⟨c',J⟩:=c2 _ n6 rfl
   have e:=l x c' J;rw[hc]at e;cases e;exact⟨c,Nz n5 J,A x c _ J vx⟩
 ·rcases U x c e with e | ⟨e,_⟩
  ·obtain⟨v,z⟩:=I.cell x c (l x c e)
   exact⟨v,A x c v e z⟩
  ·exact⟨none,e⟩
 ·rcases U x c e with e | ⟨_,e⟩
  ·obtain⟨v,o,ho,hd⟩:=I.cell x c (l x c e)
   exact u.free c o ho (I.freeC x c (l x c e)) λz=>(G c z).2.2.2.2.1 x c (l x c e) rfl
  ·exact Λ c e
 ·have L:p∈X.pn++ζ:=by
   have hp:p∈(X.pn++ζ)++[]:=hp;rwa [CB]at hp
  obtain⟨e,n,ne,nf,d⟩:=I.pin p L
  have N:p.1∉frs X.stack:=λz=>(Ae.mp (I.stkSub _ z)).elim ne nf
  have O:p.1∉fp:=λz=>(G _ z).2.2.2.2.2 p L rfl
  exact⟨u.keep p.1 p.2 e n N O,u.free p.1 p.2 e n O,BJ (AY (Ak e) Y),N,d⟩
 ·show(By own.length none++S).length=N'.length
  rw[AZ,Nd,I.len,P.len]
noncomputable def en(k:Nat)(N:TI)(g:TG)(tc:TT)(te:TE):TE:=λC H Q=>N C H λJ E=>∀p,E p=none->∃W:Nat->Nat->St->Hp->List V->Prop,(∃m,W 0 m (By k none++C) (upd E p (.lst [])) []) /\
 ∀i m A s o,W i m A s o->s p=some (.lst o)/\((J.stop i s/\Q (.ref p) s)∨(J.go i s/\o.length < sizeLine/\∀x G,J.yld i s x G->g x A G λl O=>tc l O λb I=>
  if b=true then te l I λy L=>L p=some (.lst o)/\∃B,B < m/\W (i+1) B l (upd L p (.lst (o++[y]))) (o++[y])else ∃B,B < m/\W (i+1) B l I o))
theorem cy{X':Cx}{L ϖ iter:Expr}{N:List Expr}{pos:Pos}{J:It}{it p:Aa}{tn:Nat->DS->Prop}{g:TG}{tc:TT}{te:TE}{R:Result->AS->Prop}{Q:Hp->Prop}
  (hc:X'.calm=true) (hx:X'.xe=λ_ _=>False) (T:UN X'.prog X'.w X'.K ϖ J fp it tn) (hg:PG X' ϖ g) (xf:Zj X' N tc) (he:PE X' L te)
  (W:Nat->Nat->St->Hp->List V->Prop) (turn:∀i m l B xs,W i m l B xs->B p=some (.lst xs)/\((J.stop i B/\Q B)∨(J.go i B/\xs.length < sizeLine/\∀x xc,J.yld i B x xc->g x l xc λH H2=>tc H H2 λb H3=>
   if b=true then te H H3 λy H4=>H4 p=some (.lst xs)/\∃G,G < m/\W (i+1) G H (upd H4 p (.lst (xs++[y]))) (xs++[y])else ∃G,G < m/\W (i+1) G H H3 xs)))
  (fin:∀l B s',Inv X' [] l B s'->Q B->R (.ok .next) s')
  {m0:Nat} {O:St} {H0:Hp} {s0:AS} (I0:Inv X' [] O H0 s0) (st0:tn 0 s0.heap) (f0:∀b∈fp,Oc X' [] H0 b) (w0:W 0 m0 O H0 []) :
  OF (Ac X'.prog X'.w) X'.A (.compLoop (.ListComp L [⟨ϖ,iter,N,0⟩] scope pos) 0 (.ref it) (.ref p) X'.env) R s0:=by
 have wd:∀{B:Hp},(∀b∈fp,B b=none)->∀b∈fp,Oc X' [] B b:=λhn b hb=>⟨hn b hb,(f0 b hb).2⟩
 refine codeAny_loop rfl (λn s'=>∃i l B xs,Inv X' [] l B s'/\tn i s'.heap/\(∀b∈fp,B b=none)/\W i n l B xs) (λn s1 hI=>?_) m0 ⟨0,O,H0,[],I0,st0,λb hb=>(f0 b hb).1,w0⟩;obtain⟨i,C,H1,xs,I1,vk,fr1,w1⟩:=hI;show Ao _ X'.A ((compTurn (.ListComp L [⟨ϖ,iter,N,0⟩] scope pos) 0 (.ref it) (.ref p) X'.env).onRaise (λx=>do noteFrame x X'.env;theTreesLotGoes x)) _ _ s1;refine wpAny_noted ?_;rw[compTurn_list]
 have up:∀{α:Type} {t:Sem α} {P:α->AS->Prop} {E:Value->AS->Prop} {s:AS},Ao (Ac X'.prog X'.w) X'.A t P X'.xe s->Ao (Ac X'.prog X'.w) X'.A t P E s:=λh=>G2 h (λ_ _ z=>z) λ_ _ z=>by rw[hx]at z;exact z.elim
 obtain⟨hp,zq⟩:=turn i n C H1 xs w1;refine AB (wpAny_standAt (AB ?_))
 rcases zq with⟨stop,q⟩ | ⟨go,hz,step⟩
 ·refine up (thn (T.done X' rfl rfl rfl hc i [] s1 C H1 X'.xe I1 (wd fr1) vk stop) λr s4 ⟨hr,I4⟩=>?_)
  subst hr;exact AL (fin C H1 s4 I4 q)
 ·refine up (thn (T.item X' rfl rfl rfl hc i [] s1 C H1 X'.xe I1 (wd fr1) vk go) λr s4 ⟨u,hr,h4⟩=>?_)
  subst hr;refine AB (up (thn h4 λ_ s5 ⟨x,H5,I5,r5,y5,xx,fr5⟩=>?_));have ϕ:=I5.pinned (wd fr5) (T.obj _ _ xx);refine AB (up (thn (hg _ s5 C H5 x u _ ϕ r5 (step x H5 y5)) λ_ s6 ⟨S,H6,I6,q6⟩=>?_))
  have rP:∀{U:AS} {I:St} {Y:Hp} {ys:List V},Inv X' ([]++Sb fp s5.heap) I Y U->(∃G,G < n/\W (i+1) G I Y ys)->∃m,m < n/\∃i l B xs,Inv X' [] l B U/\tn i U.heap/\(∀b∈fp,B b=none)/\W i m l B xs:=λ{U I Y ys} Z ⟨G,hm,w7⟩=>by
   refine⟨G,hm,i+1,I,Y,ys,Z.unpinned,T.keep _ _ _ xx λb hb o e=>(Z.pin (b,o) (BW _ (BW _ (L9 hb e)))).1,λb hb=>?_,w7⟩;obtain⟨o,e,d⟩:=T.obj _ _ xx b hb;exact(Z.pin (b,o) (BW _ (BW _ (L9 hb e)))).2.1
  refine AB (up (thn (xf _ s6 S H6 _ I6 q6) λok U ⟨Y,Z,q7⟩=>?_))
  cases ok with
  | false=>
   rw[qY AH]at q7;exact AL ⟨rfl,rP Z q7⟩
  | true=>
   rw[qX rfl]at q7;refine AB (AB (up (thn (he _ U S Y _ Z q7) λyv s8 ⟨y,H8,I8,r8,hp8,q8⟩=>?_)));refine AB (up (thn (Uj (X:=X') _ s8 S H8 (.ref p) [y] (.ref p) [yv] (λv H9=>v=.non/\H9=upd H8 p (.lst (xs++[y]))) I8 rfl (.cons r8 .nil) ⟨p,xs,y,rfl,rfl,hp8,hz,rfl,rfl⟩) λv9 s9 ⟨v,H9,I9,r9,e9,e10⟩=>?_));subst e10;exact AL (AL ⟨rfl,rP I9 q8⟩)
end
section
theorem U0(N:Inv X G O B m)(J:Inv (Ew X scope N' cl C m B fp (X.pn++G)) [] P s s')(Q:m.heap.objs.size<=C)(R:∀b∈fp,Oc X G B b)
  (E:FK C s'.heap h'):Inv X G O s { s' with heap:=h' }:=by
 have H:∀b o,m.heap.get? b=some o->b≠C:=λb o e=>BJ (AY (Ak e) Q)
 have l:Un (frs X.stack) fp B s m.heap s'.heap:=J.base
 have u:Un (frs X.stack) fp B s m.heap h':=by
  refine⟨λb o e n hb A=>(E.2 b (H b o e)).trans (l.keep b o e n hb A),λb o e n hb A=>?_,l.free,λb o e A=>?_,l.tups,l.frzs,l.tbls⟩
  ·obtain⟨sl,q⟩:=l.slot b o e n hb A
   exact⟨sl,(E.2 b (H b o e)).trans q⟩
  ·obtain⟨S,q⟩:=l.there b o e A
   exact⟨S,(E.2 b (H b o e)).trans q⟩
 have L:s C=none:=J.free
 have I:HOk X.prog X.w s h':=λa o e=>(J.hok a o e).stay (λb u hb q=>(E.2 b λz=>by
  subst z
  rcases hb with z | z
  ·subst z;rw[L]at e;cases e
  ·rw[L]at z;cases z).trans q) (λ_ q=>q) λ_ _ q=>q
 exact N.call' (s':={ s' with heap:=h' }) (ch:=fp) J.os u I J.bare λb hb=>by
  obtain⟨_,T,z2,U,Y,Z⟩:=R b hb;exact⟨U,T,Y,Z⟩
theorem TQ{σ:St}{E:Value->AS->Prop}{Qf:Aa->Hp->Prop}{RR:Value->Aa->Result->AS->Prop}{it:Aa}{J:It}{tn:Nat->DS->Prop}(hc:X.calm=true)(Sc:Od X scope own N')
  (hg:∀I C B G ex pn,PG (Ew X scope N' I C B G ex pn) ϖ g) (xf:∀I C B G ex pn,Zj (Ew X scope N' I C B G ex pn) ifs tc) (he:∀I C B G ex pn,PE (Ew X scope N' I C B G ex pn) elt te)
  (c1:∀n c,I.lookup n=some c->X.env.cells.lookup n=some c) (c2:∀y∈scope.names,y.2=.free->∃c,I.lookup y.1=some c)
  (Z:Inv X ζ σ L s2) (T:UN X.prog X.w X.K ϖ J fp it tn) (j':tn 0 s2.heap) (f2:∀b∈fp,Oc X ζ L b)
  (q2:∀p,L p=none->∃W:Nat->Nat->St->Hp->List V->Prop,(∃m,W 0 m (By own.length none++σ) (upd L p (.lst [])) []) /\
   ∀i m N O xs,W i m N O xs->O p=some (.lst xs)/\((J.stop i O/\Qf p O)∨(J.go i O/\xs.length < sizeLine/\∀x xc,J.yld i O x xc->g x N xc λP L=>tc P L λb H=>
    if b=true then te P H λy l=>l p=some (.lst xs)/\∃m',m' < m/\W (i+1) m' P (upd l p (.lst (xs++[y]))) (xs++[y])else ∃m',m' < m/\W (i+1) m' P H xs)))
  (hRR:∀D C I N O s',s2.heap.objs.size<=C->Inv (Ew X scope N' I C s2 L fp (X.pn++ζ)) [] N O s'->Qf D O->RR (.ref D) C (.ok .next) s') :
  Ao (Ac X.prog X.w) X.A (newList []) (λacc s₃=>Ao (Ac X.prog X.w) X.A (YS scope X.env.globals I [] X.env.qual none .none (some X.env)) (λzt s₄=>
   OF (Ac X.prog X.w) X.A (.compStart (.ListComp elt [⟨ϖ,iter,ifs,0⟩] scope pos) 0 (.ref it) acc { zt with scope:=K5 scope X.env }) (RR acc zt.locals) s₄) E s₃) E s2:=by
 have wL:∀b∈fp,b < s2.heap.objs.size:=λb hb=>by
  obtain⟨o,e,_⟩:=T.obj _ _ j' b hb;exact Ak e
 refine DA (YY ?_);dsimp only;generalize U:s2.heap.push { cls:=.type "list",dict:=none,data:=.seq ([]:List Value).toArray }=H;generalize Y:H.push { cls:=.type "dict",data:=.dict #[] }=l
 have hC:H.objs.size=s2.heap.objs.size+1:=by rw[<-U,E9]
 have hC4:l.objs.size=H.objs.size+1:=by rw[<-Y,E9]
 have hDC:s2.heap.objs.size≠H.objs.size:=by rw[hC];exact BJ (Dm _)
 have xR:s2.heap.objs.size<=H.objs.size:=by rw[hC];exact OH _
 have zu:s2.heap.objs.size<=l.objs.size:=by rw[hC4];exact Nat.le_succ_of_le xR
 have zw:∀b o,H.get? b=some o->(FP l scope.names).get? b=some o:=λb o e=>Wt _ _ _ _ (Y▸AO _ e)
 have R:∀b o,s2.heap.get? b=some o->(FP l scope.names).get? b=some o:=λb o e=>zw b o (U▸AO _ e)
 have Ϣ:(FP l scope.names).get? s2.heap.objs.size=some { cls:=.type "list",dict:=none,data:=.seq ([]:List Value).toArray }:=zw _ _ (U▸An _ rfl)
 have ϣ:(FP l scope.names).Ns H.objs.size λ_=>none:=by
  have:=(DS.Ns.new H (.type "dict")).keeps (Wt scope.names (H.push { cls:=.type "dict",data:=.dict #[] }));rw[Y]at this;exact this
 have hD:L s2.heap.objs.size=none:=Z.hok.fresh (AJ _);have u:Un (frs X.stack) fp L (upd L s2.heap.objs.size (.lst [])) s2.heap (FP l scope.names):=Un.laid R (AJ _) hD;have hok:HOk X.prog X.w (upd L s2.heap.objs.size (.lst [])) (FP l scope.names):=Z.hok.laid R (AJ _) ⟨Cw _,[],0,.nil,Ϣ⟩
 have Λ:∀c,s2.heap.objs.size < c->upd L s2.heap.objs.size (.lst []) c=none:=λc h=>by rw[Bo (FS h)];exact Z.hok.fresh (Mr h)
 have yc:upd L s2.heap.objs.size (.lst []) H.objs.size=none:=Λ _ (by rw[hC];exact Dm _)
 have yd:∀x c,(CV l.objs.size scope.names I).lookup x=some c->I.lookup x=some c∨((FP l scope.names).IsCell c none/\l.objs.size<=c):=λx c e=>Ks scope.names l I x c e
 obtain⟨W,⟨m0,w0⟩,turn⟩:=q2 s2.heap.objs.size hD
 have S:∀s₃:AS,s₃={ s2 with heap:=FP l scope.names } ->
   OF (Ac X.prog X.w) X.A (.compLoop (.ListComp elt [⟨ϖ,iter,ifs,0⟩] scope pos) 0 (.ref it) (.ref s2.heap.objs.size) (compEnvC scope (CV l.objs.size scope.names I) H.objs.size X.env))
    (RR (.ref s2.heap.objs.size) H.objs.size) s₃:=by
  rintro s₃ rfl
  have J0:Inv (Ew X scope N' (CV l.objs.size scope.names I) H.objs.size s2 L fp (X.pn++ζ)) [] (By own.length none++σ) (upd L s2.heap.objs.size (.lst [])) { s2 with heap:=FP l scope.names }:=
   ZX (s:={ s2 with heap:=FP l scope.names }) Sc Z f2 wL c1 c2 zu yd (λc h=>Λ c (by lia)) xR ϣ rfl Z.bare u hok yc
  refine cy (X':=Ew X scope N' (CV l.objs.size scope.names I) H.objs.size s2 L fp (X.pn++ζ)) (fp:=fp) (Q:=Qf s2.heap.objs.size) hc rfl T (hg _ _ _ _ _ _) (xf _ _ _ _ _ _) (he _ _ _ _ _ _) W turn (λN O s' J q=>hRR _ _ _ N O s' xR J q) J0 (T.keep _ _ _ j' λb _ o e=>R b o e) (λb hb=>?_) w0;obtain⟨z0,z1,z2,z3,z4,z5⟩:=f2 b hb;refine⟨by rw[Bo (BJ (wL b hb))];exact z0,BJ (AY (wL b hb) xR),λz=>?_,.inl hb,λx c e=>?_,λp hp=>?_⟩
  ·exact(Ae.mp (Z.stkSub _ z)).elim z1 z2
  ·rcases yd x c e with e | ⟨_,e⟩
   ·exact z4 x c (c1 x c e)
   ·exact FS (AY (wL b hb) (Au zu e))
  ·have hp:p∈(X.pn++ζ)++[]:=hp
   rw[CB]at hp;exact z5 p hp
 exact codeAny_compStart_list (S _ rfl) (T.self X.A 0 _ _ _ (T.keep _ _ _ j' λb _ o e=>R b o e) (S _ rfl))
theorem kf(hc:X.calm=true)(G:Od X scope own N')(hi:PI X R iter wi)
  (hg:∀B C l o ex E,PG (Ew X scope N' B C l o ex E) R g) (xf:∀B C l o ex E,Zj (Ew X scope N' B C l o ex E) L tc) (he:∀B C l o ex E,PE (Ew X scope N' B C l o ex E) N te)
  (hs:∀x,Gg iter X.env x=pure x:=by intro _;rfl):PE X (.ListComp N [⟨R,iter,L,0⟩] scope pos) (en own.length wi g tc te):=by
 intro S s U H Q I h;rw[eval_ListComp];obtain⟨B,xg,c1,c2⟩:=bE (scope:=scope) (env:=X.env) (λy hy hf=>I.ok.has y.1 (G.free y hy hf));refine bL (use:=none) rfl hs xg G.kind G.names (thn (hi S s U H _ I h) λv s1 h1=>thn h1 λΗ s2 h2=>?_);obtain⟨it,fp,tn,J,H2,rfl,Y,T,j',Z,q2⟩:=h2
 refine TQ (Qf:=λp O=>Q (.ref p) O) (RR:=λP C=>compPost (Ac X.prog X.w) X.A X.xe none (EP X S U Q) P C) hc G hg xf he c1 c2 Y T j' Z q2 λD C cl' σ' O s' hC J q=>?_
 obtain⟨m,hn,_⟩:=J.loc;exact⟨m,hn,λh' sb=>⟨.ref D,O,U0 Y J hC Z sb,rfl,q⟩⟩
theorem kK{i:Nat}{y:Str}{L xS:Pos}(hc:X.calm=true)(Ϥ:G9 (.ListComp E [⟨Y,iter,G,0⟩] scope pos) (some (.Name y L)) xS.line X.env=pure true)
  (hN:X.N.Nodup) (hy:X.N[i]?=some y) (yy:Loc X.env.scope y) (Z:Od X scope own N') (hi:PI X Y iter wi)
  (hg:∀O C l B ex R,PG (Ew X scope N' O C l B ex R) Y g) (xf:∀O C l B ex R,Zj (Ew X scope N' O C l B ex R) G tc) (he:∀O C l B ex R,PE (Ew X scope N' O C l B ex R) E te)
  (hs:∀x,Gg iter X.env x=pure x:=by intro _;rfl) (hf:X.fn y=true∨X.env.scope.names.lookup y=some .local:=by first | exact .inl rfl | exact .inr rfl | assumption) :
  PS X (.Assign [.Name y L] (.ListComp E [⟨Y,iter,G,0⟩] scope pos) xS) (oO (en own.length wi g tc te) (au i)):=by
 intro ζ s σ H D I h;rw[exec_Assign_Name_used _ _ _ _ Ϥ];refine AB (wpAny_standAt (AB ?_));show Ao _ X.A (do let _ <-comprehension (.ListComp E [⟨Y,iter,G,0⟩] scope pos) scope X.env _ (newList []) false (Ci iter X.env) (some (Rr (.Name y L) X.env))) _ _ s;obtain⟨O,xg,c1,c2⟩:=bE (scope:=scope) (env:=X.env) (λy hy hf=>I.ok.has y.1 (Z.free y hy hf))
 refine AB (G2 (bL (use:=some (Rr (.Name y L) X.env)) (Q:=λ_ s'=>SP X ζ D .next s') rfl hs xg Z.kind Z.names
  (thn (hi ζ s σ H _ I h) λv s1 h1=>thn h1 λΗ s2 h2=>?_)) (λ_ s' hq=>AL (AL hq)) λ_ _ e=>e)
 obtain⟨it,fp,tn,J,H2,rfl,P,T,j',f2,q2⟩:=h2
 refine TQ (Qf:=λp S=>D.nx (σ.set i (some (.ref p))) S) (RR:=λacc C=>compPost (Ac X.prog X.w) X.A X.xe (some (Rr (.Name y L) X.env)) (λ_ s'=>SP X ζ D .next s') acc C) hc Z hg xf he c1 c2 P T j' f2 q2 λA C cl' σ' S s' U J q=>?_
 obtain⟨m,hn,_⟩:=J.loc;have I3:Inv X ζ σ S s':=U0 P J U f2 (uy ..);have yc:S C=none:=J.free
 have vx:∀x c,X.env.cells.lookup x=some c->c≠C:=λx c e z=>by
  obtain⟨v,q⟩:=P.cell x c e;exact zX (AY q.lt (by rw[z];exact U)) (EX _)
 have ye:C≠X.env.locals:=FS (AY P.lt U);show Ao _ X.A (Rr (.Name y L) X.env (.ref A)) _ _ s';refine rF (UZ (v:=.ref A) I3 hN hy yy rfl (λs4 I4 ⟨a,sb,ha⟩=>?_) hf)
 have haC:C≠a:=by
  rcases ha with e | e
  ·rw[e];exact ye
  ·exact Ch (vx _ _ e)
 refine⟨m,hn.sameBut sb haC,λh' sb'=>⟨_,S,?_,q⟩⟩
 refine I4.turned (t':=s4.toks) (it:=C) (λb o hb e=>(sb'.2 b hb).trans e) yc ye (.inr (Au P.sz U)) vx λp hp z=>?_
 exact zX (AY (Ak (P.pin p hp).1) (by rw[z];exact U)) (EX _)
end
noncomputable def G8(v:QX)(g:MG)(c:MT)(m:ME):Nat->Nat->Lo->Sto->List D->Res (List D)
 | k,i,e,S,l=>match v S with
  | none=>.bad
  | some A=>match A[i]? with
   | none=>.ok l S
   | some d=>match k with
    | 0=>.bad
    | k+1=>if l.length < sizeLine then(okR (g d e S)).bind λo B=>(okR (c o B)).bind λb s=>if b=true then(okR (m o s)).bind λy C=>G8 v g c m k (i+1) o C (l++[y])else G8 v g c m k (i+1) o s l else .bad
noncomputable def EQ(n:Nat)(mi:MI)(g:MG)(c:MT)(m:ME):ML:=λe S=>(mi e S).bind λv l=>G8 v g c m (EY v l) 0 (By n none++e) l []
noncomputable def Gs:MT:=λ_ S=>.ok true S
section
noncomputable abbrev mL(X:Cx)(E:EW)(l:List Expr)(c:MT):Prop:=Zj X l (gT X.K E c)
theorem ET:mL X E [] Gs:=by
 rintro m s o H Q I ⟨A,l,S,G,B,C⟩
 exact fW m s o H Q I (C A H .refl B)
theorem Jt(h:GT X E e c):mL X E [e] c:=fV h
theorem Gu.grow{K}{ρ}{H}{e}{m}(n:Nat)(h:Gu K ρ H e m):Gu K ρ H (By n none++e) (By n none++m):=by
 refine⟨by simp[h.len],λi d q=>?_⟩
 by_cases l:i < n
 ·rw[Ap (by simpa using l),D2,qX l]at q
  cases q
 ·rw[Bj (by simpa using l)]at q ⊢
  simp only[Nd]at q ⊢;exact h.at' _ d q
theorem Cg.ok_of{l:Type}{K:AG}{E:EH}{ρ:List Aa}{H:Hp}{r:Res l}{k:l->Sto->Prop}{a:l}{S:Sto}(e:r=.ok a S)(h:k a S):Cg K E ρ H r k:=by
 subst e;exact h
theorem Sj{l m:Type}{r:Res l}{F:l->Sto->Res m}{b:m}{S:Sto}(h:(okR r).bind F=.ok b S):∃a S1,r=.ok a S1/\F a S1=.ok b S:=by
 cases r with
 | ok a S1=>exact⟨a,S1,rfl,h⟩
 | err c S1=>cases h
 | bad=>cases h
theorem X7:∀(k i:Nat) (e:Lo) (S:Sto) (l:List D),G8 v g c m k i e S l≠.err H S':=by
 intro k
 induction k with
 | zero=>
  intro i e S l h;unfold G8 at h;split at h
  ·cases h
  ·split at h <;> cases h
 | succ k B=>
  intro i e S l h;unfold G8 at h;split at h
  ·cases h
  ·split at h
   ·cases h
   ·dsimp only at h
    split at h
    ·cases o:g _ e S with
     | ok C E=>
      rw[o]at h;dsimp only[okR,Res.bind]at h
      cases s:c C E with
      | ok b G=>
       rw[s]at h;dsimp only[okR,Res.bind]at h
       cases b with
       | true=>
        rw[qX rfl]at h
        cases A:m C G with
        | ok y I=>rw[A]at h;exact B _ _ _ _ h
        | err _ _=>rw[A]at h;cases h
        | bad=>rw[A]at h;cases h
       | false=>
        rw[qY AH]at h;exact B _ _ _ _ h
      | err _ _=>rw[s]at h;cases h
      | bad=>rw[s]at h;cases h
     | err _ _=>rw[o]at h;cases h
     | bad=>rw[o]at h;cases h
    ·cases h
theorem XJ{K:AG}{n:Nat}{σ:St}{H:Hp}{Q:VK}(h:gL K E (EQ n mi g c m) σ H Q):en n (gI K E mi) (gG K g) (gT K noE c) (gE K noE m) σ H Q:=by
 obtain⟨ρ,l,S,hl,hs,P⟩:=h;refine⟨ρ,l,S,hl,hs,P.seq λv X P ρ1 H1 J l1 s1 vo p hp=>?_⟩
 obtain⟨Y,U,P,k⟩:∃Y U,G8 v g c m (EY v X) 0 (By n none++l) X []=.ok Y U/\∀N H' p I,Le K ρ H N H'->CU K N U H'->Ax K N H' Y I->H' p=some (.lst I)->(∀n:Nat,N[n]?≠some p)->H p=none->Q (.ref p) H':=by
  cases hc:G8 v g c m (EY v X) 0 (By n none++l) X []with
  | ok Y U=>rw[hc]at P;exact⟨Y,U,rfl,P⟩
  | err c U=>exact(X7 _ _ _ _ _ hc).elim
  | bad=>rw[hc]at P;exact P.elim
 obtain⟨s1',zy⟩:=IQ (ho:=.lst []) s1 hp;have yx:H p=none:=l1.back hs s1 hp
 refine⟨λi j σ2 R I=>∃B e2 Z G,Le K ρ1 H1 B R/\Gu K B R e2 σ2/\CU K B Z R/\Ax K B R G I/\R p=some (.lst I)/\(∀q:Nat,B[q]?≠some p)/\G8 v g c m j i e2 Z G=.ok Y U,
  ⟨EY v X,ρ1,_,X,[],zy,(hl.mono (l1.trans zy)).grow n,s1',.nil,CA,λq e=>s1.notIn hp e,P⟩,?_⟩
 rintro i j σ2 R I ⟨B,e2,Z,G,l2,r2,s2,ra,yb,w5,A⟩;refine⟨yb,?_⟩;unfold G8 at A
 cases hv:v Z with
 | none=>rw[hv]at A;cases A
 | some vs=>
  rw[hv]at A;dsimp only at A;obtain⟨v1,v2⟩:=vo B R Z vs i l2 s2 hv
  cases hd:vs[i]? with
  | none=>
   rw[hd]at A;cases A;exact .inl ⟨v1 hd,k B R p I (l1.trans l2) s2 ra yb w5 yx⟩
  | some d=>
   rw[hd]at A;dsimp only at A;obtain⟨go,yl⟩:=v2 d hd
   cases j with
   | zero=>cases A
   | succ j=>
    dsimp only at A;split at A
    ·rename_i hz
     obtain⟨e3,S3,h3,A⟩:=Sj A;obtain⟨b,S4,h4,A⟩:=Sj A;refine .inr ⟨go,by rw[<-ra.length];exact hz,λx H' y=>?_⟩;obtain⟨ρ3,l3,s3,rd⟩:=yl x H' y;obtain⟨hp3,ϥ⟩:=l3.oth p _ yb w5;refine⟨ρ3,e2,Z,d,rd,r2.mono l3,s3,Cg.ok_of h3 λρ4 H4 σ4 l4 s4 r4=>?_⟩;obtain⟨hp4,hn4⟩:=l4.oth p _ hp3 ϥ;refine⟨ρ4,e3,S3,r4,s4,Cg.ok_of h4 λρ5 H5 T s5=>?_⟩;obtain⟨hp5,hn5⟩:=T.oth p _ hp4 hn4
     cases b with
     | false=>
      rw[qY AH]at A ⊢;exact⟨j,Dm j,ρ5,e3,S4,G,l2.trans (l3.trans (l4.trans T)),r4.mono T,s5,ra.mono (l3.trans (l4.trans T)),hp5,hn5,A⟩
     | true=>
      rw[qX rfl]at A ⊢;obtain⟨yv,S5,h5,A⟩:=Sj A;refine⟨ρ5,e3,S4,r4.mono T,s5,Cg.ok_of h5 λs C y6 l6 s6 r6=>?_⟩;obtain⟨Μ,hn6⟩:=l6.oth p _ hp5 hn5
      have l7:∀O,Le K s C s (upd C p (.lst O))->True:=λ_ _=>trivial
      have up7:∀O:List V,CU K s S5 (upd C p (.lst O))/\(∀a o,Eg K s C a o->a≠p->Eg K s (upd C p (.lst O)) a o)/\∀e' w',CK K s C e' w'->CK K s (upd C p (.lst O)) e' w':=λO=>by
       have L:=HY (H:=C) (p:=p) (ho:=.lst O) (.inr (by rw[Μ];trivial))
       have mono:∀e' w',CK K s C e' w'->CK K s (upd C p (.lst O)) e' w':=λe' w' r=>r.keep L.1 L.2
       have mob:∀a o,Eg K s C a o->a≠p->Eg K s (upd C p (.lst O)) a o:=λa o r ne=>r.keep L.1 L.2 (Bo ne)
       exact⟨⟨s6.len,s6.nd,λn o a q1 q2=>mob a o (s6.ob n o a q1 q2) λz=>hn6 n (by rw[<-z];exact q2)⟩,mob,mono⟩
      obtain⟨u1,u2,u3⟩:=up7 (I++[y6]);refine⟨Μ,j,Dm j,s,e3,S5,G++[yv],?_,?_,u1,?_,CA,hn6,A⟩
      ·have lx:=l2.trans (l3.trans (l4.trans (T.trans l6)))
       have L:=HY (H:=C) (p:=p) (ho:=.lst (I++[y6])) (.inr (by rw[Μ];trivial))
       exact⟨lx.pre,λa zs q=>L.1 a zs (lx.tup a zs q),λa o u q=>L.2 a o u (lx.frz a o u q),λa o q z=>by
        have nap:a≠p:=Cr q hp;obtain⟨z1,z2⟩:=lx.oth a o q z
        exact⟨by rw[Bo nap];exact z1,z2⟩⟩
      ·have rr:=r4.mono (T.trans l6)
       exact⟨rr.len,λq d' hq=>by
        obtain⟨w',z1,z2⟩:=rr.at' q d' hq
        exact⟨w',z1,u3 _ _ z2⟩⟩
      ·have ra6:=ra.mono (l3.trans (l4.trans (T.trans l6)))
       have L:=HY (H:=C) (p:=p) (ho:=.lst (I++[y6])) (.inr (by rw[Μ];trivial));exact(ra6.keep L.1 L.2).append (.cons (u3 _ _ r6) .nil)
    ·cases A
theorem Ep(I:X.calm=true)(J:Od X scope own N')(hi:GI X E H iter mi)
  (L:∀s C l o ex A,GG (Ew X scope N' s C l o ex A) H g) (N:∀s C l o ex A,mL (Ew X scope N' s C l o ex A) noE B c) (O:∀s C l o ex A,GE (Ew X scope N' s C l o ex A) noE G m)
  (P:∀x,Gg iter X.env x=pure x:=by intro _;rfl):GL X E (.ListComp G [⟨H,iter,B,0⟩] scope pos) (EQ own.length mi g c m):=
 (kf (g:=gG X.K g) (tc:=gT X.K noE c) (te:=gE X.K noE m) I J hi L N O P).imp λ_ _ _ h=>XJ h
theorem PR(hc:X.calm=true)(Ϥ:G9 (.ListComp G [⟨T,iter,I,0⟩] scope pos) (some (.Name y py)) xS.line X.env=pure true)
  (hN:X.N.Nodup) (hy:X.N[i]?=some y) (yy:Loc X.env.scope y) (Sc:Od X scope own N') (hi:GI X E T iter mi)
  (hg:∀J C s A ex L,GG (Ew X scope N' J C s A ex L) T g) (xf:∀J C s A ex L,mL (Ew X scope N' J C s A ex L) noE I c) (he:∀J C s A ex L,GE (Ew X scope N' J C s A ex L) noE G m)
  (U:∀x,Gg iter X.env x=pure x:=by intro _;rfl) (hf:X.fn y=true∨X.env.scope.names.lookup y=some .local:=by first | exact .inl rfl | exact .inr rfl | assumption) :
  GS X E (.Assign [.Name y py] (.ListComp G [⟨T,iter,I,0⟩] scope pos) xS) (CT i (ED (EQ own.length mi g c m))):=by
 refine(kK (g:=gG X.K g) (tc:=gT X.K noE c) (te:=gE X.K noE m) hc Ϥ hN hy yy Sc hi hg xf he U hf).imp λD σ H ⟨P,l,S,Y,U,Z⟩=>?_
 refine XJ (E:=E) (Q:=λx H'=>D.nx (σ.set i (some x)) H') ⟨P,l,S,Y,U,Cg.seq (F:=λds S1=>Res.ok (L2.D.ref S1.length) (S1++[Ob.lst ds])) (k:=λd R=>Cg X.K noH P H ((tgN i d l R).bind λe1 R=>.ok (.nx e1) R) λfl S'=>RI X.K E P H S' D fl) (Cg.lift Z Y .refl λd R h=>h) λds S1 Z B H1 p xs O s1 r1 hp hn yx=>?_⟩
 have l0:∀(n:Nat) a,B[n]?=some a->(B++[p])[n]?=some a:=λn a h=>by rw[Ap (AF.mp h).1];exact h
 obtain⟨s2,at2⟩:=s1.adopt (o:=.lst ds) hn ⟨xs,hp,r1.more l0⟩
 have l2:Le X.K P H (B++[p]) H1:=⟨λn a h=>l0 n a (O.pre n a h),O.tup,O.frz,λa o e h=>⟨(O.oth a o e h).1,λn q=>by
  rcases Ju q with⟨q,_⟩ | ⟨_,q⟩
  ·exact(O.oth a o e h).2 n q
  ·exact Cr e yx q⟩⟩
 exact Z _ _ _ l2 s2 ((Y.mono l2).set (.ref at2) i)
end
end L2
namespace L2
open PySem PySem.Spec PyProof.Rows PySem.SeqAt
noncomputable def MH:D->D->Option Bool
 | .non,.non=>some true
 | .bl a,.bl b=>some (a==b)
 | .int a,.int b=>some (a==b)
 | .str a,.str b=>some (a==b)
 | .non,.int _=>some false
 | .non,.str _=>some false
 | .non,.bl _=>some false
 | .non,.tup _=>some false
 | .int _,.non=>some false
 | .str _,.non=>some false
 | .bl _,.non=>some false
 | .tup _,.non=>some false
 | .int _,.tup _=>some false
 | .tup _,.int _=>some false
 | _,_=>none
noncomputable def eqL(f:D->D->Option Bool):List D->List D->Option Bool
 | [],[]=>some true
 | [],_ :: _=>some false
 | _ :: _,[]=>some false
 | x :: l,y :: m=>match f x y,eqL f l m with
  | some a,some b=>some (a&&b)
  | _,_=>none
noncomputable def eqP:Nat->D->D->Option Bool
 | 0,x,y=>MH x y
 | n+1,x,y=>match x,y with
  | .tup l,.tup m=>eqL (eqP n) l m
  | x,y=>MH x y
theorem NS(h:eqL f (x :: xs) (y :: l)=some b):∃a c,f x y=some a/\eqL f xs l=some c/\b=(a&&c):=by
 unfold eqL at h;split at h
 ·rename_i a c m o
  cases h;exact⟨a,c,m,o,rfl⟩
 ·cases h
theorem bA:∀{xs l:List D} {b:Bool},eqL f xs l=some b->(∀(j:Nat) x y,xs[j]?=some x->l[j]?=some y->∃c,f x y=some c) /\
  b=((D4 (min xs.length l.length)).all (λj=>match xs[j]?,l[j]? with | some x,some y=>(f x y).getD false | _,_=>false)&&xs.length==l.length)
 | [],[],b,h=>by cases h;exact⟨λj x y h=>by simp at h,by simp⟩
 | [],y :: l,b,h=>by cases h;exact⟨λj x y h=>by simp at h,by simp⟩
 | x :: xs,[],b,h=>by cases h;exact⟨λj x y _ h=>by simp at h,by simp⟩
 | x :: xs,y :: l,b,h=>by
  obtain⟨a,c,s,A,rfl⟩:=NS h;obtain⟨B,C⟩:=bA A;refine⟨λj E G m o=>?_,?_⟩
  ·cases j with
   | zero=>simp at m o;subst m;subst o;exact⟨a,s⟩
   | succ j=>exact B j E G (by simpa using m) (by simpa using o)
  ·rw[C,At,At,show min (xs.length+1) (l.length+1)=min xs.length l.length+1 by lia,List.range_succ_eq_map,nQ,YL]
   simp only[List.getElem?_cons_zero,s,Qa,Function.comp_def,List.getElem?_cons_succ];rw[Bool.and_assoc]
   congr 1
   congr 1
   rw[Bool.eq_iff_iff];simp
section
variable{K:AG}{ρ:List Aa}{H:Hp}
theorem aw(n k:Nat)(y:D):eqP n (.ref k) y=none:=by cases n <;> cases y <;> rfl
theorem ax(n:Nat)(ds:List D)(y:D):eqP n (.fro ds) y=none:=by cases n <;> cases y <;> rfl
theorem ay(n:Nat)(c:Aa)(y:D):eqP n (.exc c) y=none:=by cases n <;> cases y <;> rfl
theorem O3(A:CK K ρ H x v)(l:CK K ρ H m v):x=m∨(∃ds o vs,x=.tup ds/\m=.tup o/\Ax K ρ H ds vs/\Ax K ρ H o vs)∨(∀n y,eqP n x y=none)∨∀n y,eqP n m y=none:=by
 cases A with
 | non=>cases l;exact .inl rfl
 | bl b=>cases l;exact .inl rfl
 | int b=>cases l;exact .inl rfl
 | str b=>cases l;exact .inl rfl
 | fro _ _=>exact .inr (.inr (.inl λn y=>ax n _ y))
 | ref _=>exact .inr (.inr (.inl λn y=>aw n _ y))
 | exc _ _=>exact .inr (.inr (.inl λn y=>ay n _ y))
 | tup B C=>
  cases l with
  | fro _ _=>exact .inr (.inr (.inr λn y=>ax n _ y))
  | ref _=>exact .inr (.inr (.inr λn y=>aw n _ y))
  | exc _ _=>exact .inr (.inr (.inr λn y=>ay n _ y))
  | tup s E=>
   rw[B]at s;cases s;exact .inr (.inl ⟨_,_,_,rfl,rfl,C,E⟩)
theorem ll:∀(n:Nat) {x C y:D} {v:V} {b b':Bool},CK K ρ H x v->CK K ρ H C v->eqP n x y=some b->eqP n C y=some b'->b=b':=by
 intro n
 induction n with
 | zero=>
  intro x C y v b b' J L h l
  rcases O3 J L with rfl | ⟨E,N,o,rfl,rfl,_,_⟩ | q | q
  ·rw[h]at l;cases l;rfl
  ·have:eqP 0 (.tup E) y=eqP 0 (.tup N) y:=by cases y <;> rfl
   rw[<-this,h]at l;cases l;rfl
  ·rw[q]at h;cases h
  ·rw[q]at l;cases l
 | succ n R=>
  intro x C y v b b' J L h l
  have lists:∀{G:List D} {o:List V} {I m:List D} {b b':Bool},Ax K ρ H G o->Ax K ρ H I o->eqL (eqP n) G m=some b->eqL (eqP n) I m=some b'->b=b':=by
   intro G
   induction G with
   | nil=>
    intro o I m b b' s A g B;cases s;cases A;rw[g]at B;cases B;rfl
   | cons d E O=>
    intro o I m b b' s A g B
    cases s with
    | cons S T=>
     cases A with
     | cons U X=>
      cases m with
      | nil=>cases g;cases B;rfl
      | cons y m=>
       obtain⟨p,q,Y,Z,rfl⟩:=NS g;obtain⟨p',q',P,Q,rfl⟩:=NS B;rw[R S U Y P,O T X Z Q]
  rcases O3 J L with rfl | ⟨E,N,o,rfl,rfl,s,A⟩ | q | q
  ·rw[h]at l;cases l;rfl
  ·by_cases c:∃m,y=.tup m
   ·obtain⟨m,rfl⟩:=c
    exact lists s A h l
   ·have:eqP (n+1) (.tup E) y=eqP (n+1) (.tup N) y:=by
     cases y <;> first | rfl | exact(c ⟨_,rfl⟩).elim
    rw[<-this,h]at l;cases l;rfl
  ·rw[q]at h;cases h
  ·rw[q]at l;cases l
theorem FA(h:MH x x=some b):b=true:=by
 cases x <;> first | (cases h;done) | (cases h;simp)
theorem TD:∀(n:Nat) {x:D} {b:Bool},eqP n x x=some b->b=true
 | 0,_,_,h=>FA h
 | n+1,x,b,h=>by
  have lists:∀{l:List D} {b:Bool},eqL (eqP n) l l=some b->b=true:=by
   intro l
   induction l with
   | nil=>intro b g;cases g;rfl
   | cons d A m=>
    intro b g;obtain⟨p,q,o,s,rfl⟩:=NS g;rw[TD n o,m s];rfl
  cases x with
  | tup l=>exact lists h
  | non=>exact FA (x:=.non) h
  | bl c=>exact FA (x:=.bl c) h
  | int c=>exact FA (x:=.int c) h
  | str c=>exact FA (x:=.str c) h
  | ref c=>exact FA (x:=.ref c) h
  | fro c=>exact FA (x:=.fro c) h
  | exc c=>exact FA (x:=.exc c) h
theorem Nr(l:(∃f,y=.fro f)∨(∃r,y=.ref r)∨∃c,y=.exc c)(n:Nat):eqP n x y=none:=by
 rcases l with⟨f,rfl⟩ | ⟨r,rfl⟩ | ⟨c,rfl⟩ <;> (cases n <;> cases x <;> rfl)
theorem iG(n:Nat)(E:CK K ρ H x v)(s:CK K ρ H y v)(h:eqP n x y=some b):b=true:=by
 induction n generalizing x y v b with
 | zero=>
  rcases O3 E s with rfl | ⟨G,I,l,rfl,rfl,_,_⟩ | q | q
  ·exact TD 0 h
  ·cases h
  ·rw[q]at h;cases h
  ·cases s with
   | fro _ _=>rw[Nr (.inl ⟨_,rfl⟩)]at h;cases h
   | ref _=>rw[Nr (.inr (.inl ⟨_,rfl⟩))]at h;cases h
   | exc _ _=>rw[Nr (.inr (.inr ⟨_,rfl⟩))]at h;cases h
   | non=>cases(q 0 .non)
   | bl b=>cases(q 0 (.bl b))
   | int b=>cases(q 0 (.int b))
   | str b=>cases(q 0 (.str b))
   | tup _ _=>cases(q 0 .non)
 | succ n J=>
  have lists:∀{A B:List D} {l:List V} {b:Bool},Ax K ρ H A l->Ax K ρ H B l->eqL (eqP n) A B=some b->b=true:=by
   intro A
   induction A with
   | nil=>intro B l b m o g;cases m;cases o;cases g;rfl
   | cons d G C=>
    intro B l b m o g
    cases m with
    | cons L N=>
     cases o with
     | cons O P=>
      obtain⟨p,q,Q,R,rfl⟩:=NS g;rw[J L O Q,C N P R];rfl
  rcases O3 E s with rfl | ⟨G,I,l,rfl,rfl,m,o⟩ | q | q
  ·exact TD (n+1) h
  ·exact lists m o h
  ·rw[q]at h;cases h
  ·cases s with
   | fro _ _=>rw[Nr (.inl ⟨_,rfl⟩)]at h;cases h
   | ref _=>rw[Nr (.inr (.inl ⟨_,rfl⟩))]at h;cases h
   | exc _ _=>rw[Nr (.inr (.inr ⟨_,rfl⟩))]at h;cases h
   | non=>cases(q 0 .non)
   | bl b=>cases(q 0 (.bl b))
   | int b=>cases(q 0 (.int b))
   | str b=>cases(q 0 (.str b))
   | tup _ _=>cases(q 0 .non)
end
section
variable{X:Cx}{ζ:List (Aa×Obj)}{σ:St}{H:Hp}{s:AS}{ρ:List Aa}
theorem IH(A:Ce):A.in1.units=A.units+1:=rfl
theorem CC.at_(r:CC vs l)(h:j < l.toArray.size):∃v,vs[j]?=some v/\RelV v l.toArray[j]:=by
 have o:j < l.length:=by simpa using h
 have m:j < vs.length:=by rw[r.length];exact o
 obtain⟨u,A,B⟩:=r.get (i:=j) (x:=vs[j]) (by simp[m]);refine⟨vs[j],by simp[m],?_⟩
 have:l.toArray[j]=u:=by
  have:=AF.mp A;obtain⟨_,e⟩:=this;simpa using e
 rw[this];exact B
theorem Vp(Q:∀(x y:D) (b:Bool) (m o:V) (u v:Value),eqP n x y=some b->CK X.K ρ H x m->CK X.K ρ H y o->RelV m u->RelV o v->EqAt A s u v b)
  (h:eqL (eqP n) xs B=some b) (C:Ax X.K ρ H xs vs) (E:Ax X.K ρ H B R) (G:CC vs us) (I:CC R l) :
  ∃e:Nat->Bool,(∀j (J:j < us.toArray.size) (L:j < l.toArray.size),EqAt A s us.toArray[j] l.toArray[j] (e j))/\b=((D4 (min us.toArray.size l.toArray.size)).all e&&us.toArray.size==l.toArray.size):=by
 obtain⟨S,T⟩:=bA h;refine⟨λj=>match xs[j]?,B[j]? with | some x,some y=>(eqP n x y).getD false | _,_=>false,λj J L=>?_,?_⟩
 ·obtain⟨v,U,Y⟩:=CC.at_ G J
  obtain⟨w,Z,vS⟩:=CC.at_ I L;obtain⟨x,N,rx⟩:=C.get' U;obtain⟨y,O,ry⟩:=E.get' Z;obtain⟨c,P⟩:=S j x y N O;have:=Q x y c v w _ _ P rx ry Y vS;simp only[N,O,P,Qa];exact this
 ·rw[T,C.length,E.length,G.length,I.length]
  simp
theorem QO(I:Inv X ζ σ H s)(m:A.units < Fj)(h:MH x y=some b)(L:CK X.K ρ H x N)(o:CK X.K ρ H y O)(B:RelV N u)(l:RelV O v) :
  EqAt A s u v b/\RcAt A s u v b/\RcNeAt A s u v (!b):=by
 cases L with
 | non=>
  cases B
  cases o with
  | non=>cases l;cases h;exact⟨EqAt.same _,RcAt.none_none,RcNeAt.none_none⟩
  | bl c=>cases l;cases h;exact⟨EqAt.none_bool _,RcAt.none_bool _,RcNeAt.none_bool _⟩
  | int i=>obtain⟨t,rfl⟩:=l;cases h;exact⟨EqAt.none_int _ _,RcAt.none_int _ _,RcNeAt.none_int _ _⟩
  | str z=>obtain⟨t,rfl⟩:=l;cases h;exact⟨EqAt.none_str _ _,RcAt.none_str _ _,RcNeAt.none_str _ _⟩
  | tup C E=>
   cases l;cases h;obtain⟨G,_,p,_⟩:=I.tuple (.inl (.inl C));exact⟨EqAt.none_tuple p m,RcAt.none_tuple p m,RcNeAt.none_tuple p m⟩
  | _=>cases h
 | bl a=>
  cases B
  cases o with
  | non=>cases l;cases h;exact⟨EqAt.bool_none _,RcAt.bool_none _,RcNeAt.bool_none _⟩
  | bl c=>cases l;cases h;exact⟨EqAt.bool_bool _ _,RcAt.bool_bool _ _,RcNeAt.bool_bool _ _⟩
  | _=>cases h
 | int a=>
  obtain⟨t,rfl⟩:=B
  cases o with
  | non=>cases l;cases h;exact⟨EqAt.int_none _ _,RcAt.int_none _ _,RcNeAt.int_none _ _⟩
  | int i=>obtain⟨J,rfl⟩:=l;cases h;exact⟨EqAt.int_int _ _ _ _,RcAt.int_int _ _ _ _,RcNeAt.int_int _ _ _ _⟩
  | tup C E=>
   cases l;cases h;obtain⟨G,_,p,_⟩:=I.tuple (.inl (.inl C));exact⟨EqAt.int_tuple _ _ p m,RcAt.int_tuple _ _ p m,RcNeAt.int_tuple _ _ p m⟩
  | _=>cases h
 | str a=>
  obtain⟨t,rfl⟩:=B
  cases o with
  | non=>cases l;cases h;exact⟨EqAt.str_none _ _,RcAt.str_none _ _,RcNeAt.str_none _ _⟩
  | str i=>obtain⟨J,rfl⟩:=l;cases h;exact⟨EqAt.str_str _ _ _ _,RcAt.str_str _ _ _ _,RcNeAt.str_str _ _ _ _⟩
  | _=>cases h
 | tup C E=>
  cases B;obtain⟨G,_,p,_⟩:=I.tuple (.inl (.inl C))
  cases o with
  | non=>cases l;cases h;exact⟨EqAt.tuple_none p m,RcAt.tuple_none p m,RcNeAt.tuple_none p m⟩
  | int i=>obtain⟨J,rfl⟩:=l;cases h;exact⟨EqAt.tuple_int _ _ p m,RcAt.tuple_int _ _ p m,RcNeAt.tuple_int _ _ p m⟩
  | _=>cases h
 | _=>cases h
theorem ZV(I:Inv X ζ σ H s):∀(n:Nat) (A:Ce) (x y:D) (b:Bool) (l m:V) (u v:Value),A.units+n < Fj->eqP n x y=some b->CK X.K ρ H x l->CK X.K ρ H y m->RelV l u->RelV m v->EqAt A s u v b:=by
 intro n
 induction n with
 | zero=>exact λA x y b l m u v R h o B C E=>(QO I (by omega) h o B C E).1
 | succ n S=>
  intro A x y b l m u v R h o B C E
  by_cases G:∃J L,x=.tup J/\y=.tup L
  ·obtain⟨J,L,rfl,rfl⟩:=G
   cases o with
   | @tup _ a vs N O=>
    cases B with
    | @tup _ c ws P Q=>
     cases C;cases E
     by_cases Ϧ:a=c
     ·subst Ϧ
      rw[iG (n+1) (.tup N O) (.tup P Q) h];exact EqAt.same _
     ·obtain⟨i',T,p,_⟩:=I.tuple (.inl (.inl N))
      obtain⟨vn,U,Y,_⟩:=I.tuple (.inl (.inl P));obtain⟨e,Z,rfl⟩:=Vp (A:=A.in1) (λx y b l m u v g1 g2 g3 g4 g5=>S A.in1 x y b l m u v (by rw[IH];lia) g1 g2 g3 g4 g5) h O Q T U;exact EqAt.of_refs Ϧ (rl p Y (by lia) Z)
  ·have hf:MH x y=some b:=by
    cases x <;> cases y <;> first | exact h | exact(G ⟨_,_,rfl,rfl⟩).elim
   exact(QO I (by lia) hf o B C E).1
noncomputable def PK(d:D)(S:Sto):Option (List D):=match d with
 | .fro l=>some l
 | .ref n=>match S[n]? with
  | some (.lst l)=>some l
  | _=>none
 | _=>none
noncomputable def eqB(x y:D)(S:Sto):Option Bool:=match PK x S,PK y S with
 | some l,some m=>if l.length=m.length then eqL (eqP 8) l m else some false
 | none,none=>eqP 8 x y
 | some _,none=>match y with
  | .tup _=>some false
  | .non=>some false
  | _=>none
 | none,some _=>match x with
  | .tup _=>some false
  | .non=>some false
  | _=>none
noncomputable def eqD(neg:Bool)(x y:D)(S:Sto):Res D:=match eqB x y S with
 | some b=>.ok (.bl (if neg then !b else b)) S
 | none=>.bad
theorem KQ{K}{S}{d}{x}{ds}(l:CU K ρ S H)(r:CK K ρ H d x)(h:PK d S=some ds):∃p xs,x=.ref p/\Ax K ρ H ds xs/\SqL K H p xs:=by
 cases r with
 | fro m A=>cases h;exact⟨_,_,rfl,A,m.sq⟩
 | @ref n a B=>
  obtain⟨o,C,E⟩:=l.there B;unfold PK at h;simp only[C]at h
  cases o with
  | lst I=>cases h;obtain⟨J,e,G⟩:=E;exact⟨_,_,rfl,G,.inl (.inl e)⟩
  | _=>cases h
 | _=>cases h
theorem iI{S}{x y}{b}{J L}{u v}(I:Inv X ζ σ H s)(hu:X.A.units+64 < Fj)(Z:CU X.K ρ S H)(N:CK X.K ρ H x J)(O:CK X.K ρ H y L)(P:RelV J u)(Q:RelV L v)(h:eqB x y S=some b) :
  RcAt X.A s u v b/\RcNeAt X.A s u v (!b):=by
 unfold eqB at h;split at h
 ·rename_i R ys h1 h2
  obtain⟨p,vs,rfl,T,sq⟩:=KQ Z N h1;obtain⟨p',zz,rfl,ϧ,sq'⟩:=KQ Z O h2;cases P;cases Q;obtain⟨B,E,l,_⟩:=I.list sq;obtain⟨G,Ϩ,Ν,_⟩:=I.list sq';split at h
  ·rename_i o
   obtain⟨e,U,rfl⟩:=Vp (A:=X.A.in1) (λx y b J L u v g1 g2 g3 g4 g5=>ZV I 8 X.A.in1 x y b J L u v (by rw[IH];lia) g1 g2 g3 g4 g5) h T ϧ E Ϩ
   have m:B.toArray.size=G.toArray.size:=by
    simp only[Aj];rw[<-E.length,<-Ϩ.length,<-T.length,<-ϧ.length];exact o
   have e1:((D4 (min B.toArray.size G.toArray.size)).all e&&B.toArray.size==G.toArray.size)=(D4 B.toArray.size).all e:=by
    rw[<-m,Nat.min_self,beq_self_eq_true,Bool.and_true]
   rw[e1];exact⟨RcAt.lists l.isList Ν.isList m (by lia) U,RcNeAt.lists l.isList Ν.isList m (by lia) U⟩
  ·rename_i o
   cases h
   have m:(B.toArray.size != G.toArray.size)=true:=by
    simp only[Aj];rw[<-E.length,<-Ϩ.length,<-T.length,<-ϧ.length];simpa using o
   exact⟨RcAt.lists_lengths l.isList Ν.isList m (by lia),RcNeAt.lists_lengths l.isList Ν.isList m (by lia)⟩
 ·by_cases ht:∃R ys,x=.tup R/\y=.tup ys
  ·obtain⟨R,ys,rfl,rfl⟩:=ht
   cases N with
   | tup a1 a2=>
    cases O with
    | tup Y b2=>
     cases P;cases Q;obtain⟨B,E,p,_⟩:=I.tuple (.inl (.inl a1));obtain⟨G,vS,C,_⟩:=I.tuple (.inl (.inl Y));obtain⟨e,U,rfl⟩:=Vp (n:=7) (A:=X.A.in1) (λx y b J L u v g1 g2 g3 g4 g5=>ZV I 7 X.A.in1 x y b J L u v (by rw[IH];lia) g1 g2 g3 g4 g5) h a2 b2 E vS;exact⟨rl p C (by lia) U,RcNeAt.tuples p C (by lia) U⟩
  ·have hf:MH x y=some b:=by
    cases x <;> cases y <;> first | exact h | exact(ht ⟨_,_,rfl,rfl⟩).elim
   exact(QO I (by lia) hf N O P Q).2
 ·rename_i R h1 h2
  obtain⟨p,vs,rfl,T,sq⟩:=KQ Z N h1;cases P;obtain⟨B,E,l,_⟩:=I.list sq;split at h
  ·cases h
   cases O with
   | tup Y b2=>
    cases Q;obtain⟨G,vS,C,_⟩:=I.tuple (.inl (.inl Y));exact⟨RcAt.list_tuple l.isList C (by lia),RcNeAt.list_tuple l.isList C (by lia)⟩
  ·cases h
   cases O;cases Q;exact⟨RcAt.list_none l.isList (by lia),RcNeAt.list_none l.isList (by lia)⟩
  ·cases h
 ·rename_i R h1 h2
  obtain⟨p,vs,rfl,T,sq⟩:=KQ Z O h2;cases Q;obtain⟨B,E,l,_⟩:=I.list sq;split at h
  ·cases h
   cases N with
   | tup Y b2=>
    cases P;obtain⟨G,vS,C,_⟩:=I.tuple (.inl (.inl Y));exact⟨RcAt.tuple_list C l.isList (by lia),RcNeAt.tuple_list C l.isList (by lia)⟩
  ·cases h
   cases N;cases P;exact⟨RcAt.none_list l.isList (by lia),RcNeAt.none_list l.isList (by lia)⟩
  ·cases h
theorem Jn(o:X.A.units+64 < Fj):OpR X (CN .Eq) (rD X.K (eqD false)):=by
 intro ζ s σ H x y v u Q I B C h;obtain⟨ρ,S,a,b,d,L,m,E,G,l,k⟩:=h;unfold eqD at l;split at l
 ·rename_i c J
  cases l;exact(iI I o m E G B C J).1 _ _ _ _ ⟨.bl c,H,I,rfl,k ρ H _ .refl m (.bl _)⟩
 ·cases l
theorem aJ(o:X.A.units+64 < Fj):OpR X (CN .NotEq) (rD X.K (eqD true)):=by
 intro ζ s σ H x y v u Q I B C h;obtain⟨ρ,S,a,b,d,L,m,E,G,l,k⟩:=h;unfold eqD at l;split at l
 ·rename_i c J
  cases l;exact(iI I o m E G B C J).2 _ _ _ _ ⟨.bl (!c),H,I,rfl,k ρ H _ .refl m (.bl _)⟩
 ·cases l
noncomputable def OB(x:D):List D->Option Bool
 | []=>some false
 | d :: l=>match eqP 8 d x,OB x l with
  | some a,some b=>some (a||b)
  | _,_=>none
noncomputable def inD(neg:Bool)(x y:D)(S:Sto):Res D:=match Gc y S with
 | some l=>match OB x l with
  | some b=>.ok (.bl (if neg then !b else b)) S
  | none=>.bad
 | none=>.bad
theorem Zf(h:OB x (d :: ds)=some b):∃a c,eqP 8 d x=some a/\OB x ds=some c/\b=(a||c):=by
 unfold OB at h;split at h
 ·rename_i a c l m
  cases h;exact⟨a,c,l,m,rfl⟩
 ·cases h
open Classical in
theorem Pd(I:Inv X ζ σ H s)(Q:A.units+8 < Fj)(R:CK X.K ρ H x S)(T:RelV S v):∀{ds:List D} {vs:List V} {us:List Value} {b:Bool},Ax X.K ρ H ds vs->CC vs us->OB x ds=some b ->
  ∃e:Value->Bool,(∀y∈us,EqAt A s y v (e y))/\b=us.any e:=by
 intro ds vs us b r q h
 let e:Value->Bool:=λy=>decide (∃d w,d∈ds/\CK X.K ρ H d w/\RelV w y/\eqP 8 d x=some true)
 have all:∀{l:List D} {B:List V} {m:List Value} {C:Bool},(∀d∈l,d∈ds)->Ax X.K ρ H l B->CC B m->OB x l=some C->(∀y∈m,EqAt A s y v (e y))/\C=m.any e:=by
  intro l
  induction l with
  | nil=>intro B m C _ r q h;cases r;cases q;cases h;exact⟨(λ_ z=>nomatch z),rfl⟩
  | cons d l U=>
   intro B m C N r q h
   cases r with
   | cons G Y=>
    cases q with
    | @cons w y _ _ J Z=>
     obtain⟨a,c,L,h2,rfl⟩:=Zf h;obtain⟨i1,i2⟩:=U (λz o=>N z (AN _ o)) Y Z h2
     have O:e y=a:=by
      by_cases E:∃d w,d∈ds/\CK X.K ρ H d w/\RelV w y/\eqP 8 d x=some true
      ·obtain⟨d',w',_,P,g2,g3⟩:=id E
       rw[RelV.inj g2 J]at P;have:=ll 8 P G g3 L;rw[<-this];exact wX E
      ·have:a=false:=by
        cases a with
        | false=>rfl
        | true=>exact(E ⟨d,_,N d AX,G,J,L⟩).elim
       rw[this];exact wY E
     refine⟨λz o=>?_,by rw[Iv,O,<-i2]⟩
     rcases Ae.mp o with rfl | o
     ·rw[O]
      exact ZV I 8 A d x a _ _ _ _ Q L G R J T
     ·exact i1 z o
 obtain⟨e1,e2⟩:=all (λ_ h=>h) r q h;exact⟨e,e1,e2⟩
theorem tV(U:X.A.units+64 < Fj):OpR X (CN .In) (rD X.K (inD false)):=by
 intro ζ s σ H x y v u Q I J P h;obtain⟨ρ,S,a,b,d,Y,m,L,R,l,k⟩:=h;unfold inD at l;split at l
 ·rename_i Z T
  split at l
  ·rename_i c N
   cases l;obtain⟨p,xs,rfl,O,sq⟩:=RX m R T;cases P
   rcases sq with sq | sq
   ·obtain⟨o,B,C,_⟩:=I.list sq
    obtain⟨e,E,rfl⟩:=Pd I (A:=X.A.in1) (by rw[IH];lia) L J O B N;exact in_listAt e C.isList (λz G=>E z (by simpa using G)) ⟨.bl (o.toArray.any e),H,I,rfl,by rw[MZ];exact k ρ H _ .refl m (.bl _)⟩
   ·obtain⟨o,B,C,_⟩:=I.tuple sq
    obtain⟨e,E,rfl⟩:=Pd I (A:=X.A.in1) (by rw[IH];lia) L J O B N;exact in_tupleAt e C (λz G=>E z (by simpa using G)) ⟨.bl (o.toArray.any e),H,I,rfl,by rw[MZ];exact k ρ H _ .refl m (.bl _)⟩
  ·cases l
 ·cases l
theorem Xh(U:X.A.units+64 < Fj):OpR X (CN .NotIn) (rD X.K (inD true)):=by
 intro ζ s σ H x y v u Q I J P h;obtain⟨ρ,S,a,b,d,Y,m,L,R,l,k⟩:=h;unfold inD at l;split at l
 ·rename_i Z T
  split at l
  ·rename_i c N
   cases l;obtain⟨p,xs,rfl,O,sq⟩:=RX m R T;cases P
   rcases sq with sq | sq
   ·obtain⟨o,B,C,_⟩:=I.list sq
    obtain⟨e,E,rfl⟩:=Pd I (A:=X.A.in1) (by rw[IH];lia) L J O B N;exact notIn_listAt e C.isList (λz G=>E z (by simpa using G)) ⟨.bl (!o.toArray.any e),H,I,rfl,by rw[MZ];exact k ρ H _ .refl m (.bl _)⟩
   ·obtain⟨o,B,C,_⟩:=I.tuple sq
    obtain⟨e,E,rfl⟩:=Pd I (A:=X.A.in1) (by rw[IH];lia) L J O B N;exact notIn_tupleAt e C (λz G=>E z (by simpa using G)) ⟨.bl (!o.toArray.any e),H,I,rfl,by rw[MZ];exact k ρ H _ .refl m (.bl _)⟩
  ·cases l
 ·cases l
end
open PySem PySem.Spec PyProof.Rows
noncomputable def RF(mo ma:ME):ME:=λe S=>(mo e S).bind λd l=>match d with
 | .ref n=>match l[n]? with
  | some (.lst _)=>(ma e l).bind λy m=>match m[n]? with
   | some (.lst o)=>if o.length < sizeLine then .ok .non (m.set n (.lst (o++[y])))else .bad
   | _=>.bad
  | _=>.bad
 | _=>.bad
section
variable{X:Cx}{E:EW}{o e:Expr}{mo ma:ME}
theorem aC{K}{ρ}{S}{H}{n}{x}{xs}(s:CU K ρ S H)(r:CK K ρ H (.ref n) x)(h:S[n]?=some (.lst xs)):∃a vs,x=.ref a/\ρ[n]?=some a/\H a=some (.lst vs)/\Ax K ρ H xs vs:=by
 cases r with
 | ref l=>
  obtain⟨vs,e,m⟩:=s.ob n _ _ h l;exact⟨_,vs,rfl,l,e,m⟩
theorem JY(ho:GE X E o mo)(Z:GE X E e ma)(vC:GZ o "append" X.env (Ci o X.env)=Ci o X.env:=by rfl)
  (wV:((FB B (Ag [e] X.env)).all (λx=>!x.1)&&(YU B (Pn [] X.env)).all (λx=>x.1.isSome)
    &&decide ([e].length+([]:List YM).length+(if ([]:List YM).isEmpty then 0 else 1) < 30))=true:=by rfl)
  (vD:(A.endLine==B.line)=true:=by rfl) (C:Ag [e] X.env=(false,Ci e X.env) :: Ag [] X.env:=by rfl) (vN:(FB B (Ag [] X.env)).any (·.1)=false:=by rfl) :
  GE X E (.Call (.Attribute o "append" A) [e] [] B) (RF mo ma):=(mq UQ PySem.F.slot_list_append PySem.F.type_list_append Uj ho (Gy Z JA C) vC wV vD C vN).imp<|by
 rintro σ H Q ⟨ρ,l,S,N,C,m⟩
 refine⟨ρ,l,S,N,C,m.seq λx S1 m G H1 v I O r1=>?_⟩
 cases x <;> first | exact m.elim | skip
 rename_i n;dsimp only at m;split at m
 ·rename_i xs0 h0
  obtain⟨a,vs,rfl,hn,e0,_⟩:=aC O r1 h0;refine⟨.inl ⟨rfl,vs,.inl (.inl e0)⟩,G,l,S1,N.mono I,O,(m.later I).seq λy S2 m s P u R T r2=>?_⟩;split at m
  ·rename_i xs h3
   split at m
   ·rename_i hz
    have J:=R.pre n a hn;obtain⟨L,U,Y⟩:=T.ob n _ _ h3 J;have le:Le X.K s P s (upd P a (.lst (L++[u]))):=Le.write J (by rw[U];trivial);obtain⟨s3,l3⟩:=T.write (ho:=.lst (L++[u])) (o:=.lst (xs++[y])) J ⟨_,CA,(Y.append (.cons r2 .nil)).mono le⟩ le;exact⟨a,L,u,rfl,rfl,U,by rw[<-Y.length];exact hz,m s _ _ (I.trans (R.trans l3)) s3 .non⟩
   ·exact m.elim
  ·exact m.elim
 ·exact m.elim
end
noncomputable def Al{l β:Type}[DecidableEq l](m:List (l×β))(k:l):Option β:=(m.find? λo=>decide (o.1=k)).map (·.2)
noncomputable def CJ{m o:Type}[DecidableEq m](s:List (m×o))(k:m)(v:o):List (m×o):=
 if (s.any λl=>decide (l.1=k))=true then s.map (λl=>if l.1=k then(l.1,v)else l)else s++[(k,v)]
section
variable{κ:Type}[DecidableEq κ]{K:AG}{ρ:List Aa}{H:Hp}
theorem KVR.val(k:κ):∀{x:List (κ×D)} {y:List (κ×V)},KVR K ρ H x y->(Al x k=none->Ln y k=none)/\∀d,Al x k=some d->∃v,Ln y k=some v/\CK K ρ H d v
 | _,_,.nil=>⟨λ_=>rfl,λd h=>by cases h⟩
 | (g,a) :: x,(o,b) :: y,.cons r t=>by
  obtain⟨l,m⟩:=r;dsimp only at l m;subst l;unfold Al Ln;rw[CY,CY]
  by_cases e:g=k
  ·simp only[e,decide_true]
   exact⟨(λh=>nomatch h),(λd h=>by cases h;exact⟨b,rfl,m⟩)⟩
  ·simp only[e,decide_false]
   exact KVR.val k t
theorem KVR.any(k:κ):∀{x:List (κ×D)} {y:List (κ×V)},KVR K ρ H x y->(x.any λl=>decide (l.1=k))=y.any λl=>decide (l.1=k)
 | _,_,.nil=>rfl
 | (g,a) :: x,(m,b) :: y,.cons r t=>by
  rw[Iv,Iv,KVR.any k t,show g=m from r.1]
theorem KVR.repl(k:κ)(m:CK K ρ H d v):∀{x:List (κ×D)} {y:List (κ×V)},KVR K ρ H x y->KVR K ρ H (x.map λl=>if l.1=k then(l.1,d)else l) (y.map λl=>if l.1=k then(l.1,v)else l)
 | _,_,.nil=>.nil
 | (g,a) :: x,(A,b) :: y,.cons r t=>by
  obtain⟨o,s⟩:=r;dsimp only at o s;subst o;rw[BA,BA];refine .cons ?_ (KVR.repl k m t)
  by_cases e:g=k
  ·rw[qX e,qX e];exact⟨rfl,m⟩
  ·rw[qY e,qY e];exact⟨rfl,s⟩
theorem KVR.put(k:κ)(l:CK K ρ H d v)(h:KVR K ρ H x y):KVR K ρ H (CJ x k d) (Md y k v):=by
 unfold CJ Md;rw[KVR.any k h];split
 ·exact KVR.repl k l h
 ·exact YJ h ⟨rfl,l⟩
end
noncomputable def gi:D->Option Key
 | .int i=>some (.inl i)
 | .str x=>some (.inr x)
 | _=>none
noncomputable def N8:List D->Option (List Key)
 | []=>some []
 | d :: l=>match gi d,N8 l with
  | some k,some m=>some (k :: m)
  | _,_=>none
theorem Re{K}{ρ}{H}{d}{v}{k}(r:CK K ρ H d v)(h:gi d=some k):v=kV k:=by
 cases r <;> first | (cases h;done) | (cases h;rfl)
theorem PN{K}{ρ}{H}:∀{ds:List D} {vs:List V} {l:List Key},Ax K ρ H ds vs->N8 ds=some l->vs=l.map kV
 | _,_,_,.nil,h=>by cases h;rfl
 | _,_,_,.cons r t,h=>by
  unfold N8 at h;split at h
  ·rename_i k l m o
   cases h;rw[Re r m,PN t o];rfl
  ·cases h
noncomputable def Mg(x y:D)(S:Sto):Option (Option D):=match x with
 | .ref n=>match S[n]? with
  | some (.dK l)=>match gi y with
   | some k=>some (Al l k)
   | none=>none
  | some (.dT l)=>match y with
   | .tup m=>match N8 m with
    | some o=>some (Al l o)
    | none=>none
   | _=>none
  | some (.fK l)=>match gi y with
   | some k=>some (Al l k)
   | none=>none
  | some (.fT l)=>match y with
   | .tup m=>match N8 m with
    | some o=>some (Al l o)
    | none=>none
   | _=>none
  | _=>none
 | _=>none
theorem WS{K}{ρ}{S}{H}{x y}{P Q}{o}(s:CU K ρ S H)(R:CK K ρ H x P)(I:CK K ρ H y Q)(h:Mg x y S=some o) :
  ∃a o',P=.ref a/\Ph H a Q o'/\(o=none->o'=none)/\∀d,o=some d->∃v,o'=some v/\CK K ρ H d v:=by
 unfold Mg at h;split at h
 ·rename_i n
  cases R with
  | @ref _ a J=>
   split at h
   ·rename_i L l
    split at h
    ·rename_i k m
     cases h;obtain⟨A,e,r⟩:=s.ob n _ _ l J;rw[Re I m];obtain⟨B,C⟩:=KVR.val k r;exact⟨a,Ln A k,rfl,Ph.k e,B,C⟩
    ·cases h
   ·rename_i L l
    split at h
    ·rename_i T
     split at h
     ·rename_i E m
      cases h;obtain⟨A,e,r⟩:=s.ob n _ _ l J
      cases I with
      | tup G N=>
       obtain⟨B,C⟩:=KVR.val E r;rw[PN N m]at G;exact⟨a,Ln A E,rfl,Ph.t e G,B,C⟩
     ·cases h
    ·cases h
   ·rename_i L l
    split at h
    ·rename_i k m
     cases h;obtain⟨O,A,e,r⟩:=s.ob n _ _ l J;rw[Re I m];obtain⟨B,C⟩:=KVR.val k r;exact⟨a,Ln A k,rfl,(.inl ⟨_,_,.inr ⟨O,e⟩,rfl,rfl⟩),B,C⟩
    ·cases h
   ·rename_i L l
    split at h
    ·rename_i T
     split at h
     ·rename_i E m
      cases h;obtain⟨O,A,e,r⟩:=s.ob n _ _ l J
      cases I with
      | tup G N=>
       obtain⟨B,C⟩:=KVR.val E r;rw[PN N m]at G;exact⟨a,Ln A E,rfl,(.inr ⟨_,_,_,.inr ⟨O,e⟩,rfl,G,rfl⟩),B,C⟩
     ·cases h
    ·cases h
   ·cases h
 ·cases h
noncomputable def TK(x y:D)(S:Sto):Res D:=match Mg x y S with
 | some (some d)=>.ok d S
 | _=>.bad
noncomputable def N0(neg:Bool)(y x:D)(S:Sto):Res D:=match Mg x y S with
 | some o=>.ok (.bl (if neg then !o.isSome else o.isSome)) S
 | none=>.bad
section
variable{X:Cx}{E:EW}{mo mi mv:ME}
theorem lU(P:X.A.units+1 < Fj)(ho:GE X E o mo)(hi:GE X E i mi)(s:rB i:=by intro _ _;rfl):GE X E (.Subscript o i pos) (m2 TK mo mi):=(ke P ho hi s).imp λR H Q h=>by
 refine(OI h:tOp (rD X.K TK) (gE X.K E mo) (gE X.K E mi) R H Q) |> λt=>?_
 obtain⟨T,l,S,U,s,k⟩:=t;refine⟨T,l,S,U,s,k.imp λx S1 k B Y u Z s1 r1=>?_⟩;obtain⟨C,l2,S2,wt,vR,G⟩:=k B Y u Z s1 r1;refine⟨C,l2,S2,wt,vR,G.imp λy S3 G I L v l3 s3 r3=>?_⟩;obtain⟨J,S4,x4,y4,d,S5,N,r4,r5,m,k4⟩:=G I L v l3 s3 r3;unfold TK at m;split at m
 ·rename_i d' hd
  cases m;obtain⟨a,o',rfl,g,_,g2⟩:=WS N r4 r5 hd;obtain⟨O,rfl,vS⟩:=g2 _ rfl;exact⟨a,O,rfl,g,k4 J L O .refl N vS⟩
 ·cases m
theorem jy{o}{H}{Q}(h:gE X.K E (m2 (N0 false) mi mo) o H Q):se (gE X.K E mi) (gE X.K E mo) o H Q:=by
 obtain⟨O,l,S,P,R,k⟩:=(OI h:tOp (rD X.K (N0 false)) (gE X.K E mi) (gE X.K E mo) o H Q);refine⟨O,l,S,P,R,k.imp λx S1 k s T u U Y Z=>?_⟩;obtain⟨A,l2,S2,wt,vR,B⟩:=k s T u U Y Z;refine⟨A,l2,S2,wt,vR,B.imp λy S3 B C I v l3 s3 r3=>?_⟩;obtain⟨G,S4,x4,y4,d,S5,J,r4,r5,m,k4⟩:=B C I v l3 s3 r3;unfold N0 at m;split at m
 ·rename_i L hd
  cases m;obtain⟨a,N,rfl,g,g1,g2⟩:=WS J r5 r4 hd;refine⟨a,N,rfl,g,?_⟩
  have:N.isSome=L.isSome:=by
   cases L with
   | none=>rw[g1 rfl];rfl
   | some d=>obtain⟨w',rfl,_⟩:=g2 d rfl;rfl
  rw[this];exact k4 G I _ .refl J (.bl _)
 ·cases m
theorem SI{o}{H}{Q}(h:gE X.K E (m2 (N0 true) mi mo) o H Q):Z6 (gE X.K E mi) (gE X.K E mo) o H Q:=by
 obtain⟨O,l,S,P,R,k⟩:=(OI h:tOp (rD X.K (N0 true)) (gE X.K E mi) (gE X.K E mo) o H Q);refine⟨O,l,S,P,R,k.imp λx S1 k s T u U Y Z=>?_⟩;obtain⟨A,l2,S2,wt,vR,B⟩:=k s T u U Y Z;refine⟨A,l2,S2,wt,vR,B.imp λy S3 B C I v l3 s3 r3=>?_⟩;obtain⟨G,S4,x4,y4,d,S5,J,r4,r5,m,k4⟩:=B C I v l3 s3 r3;unfold N0 at m;split at m
 ·rename_i L hd
  cases m;obtain⟨a,N,rfl,g,g1,g2⟩:=WS J r5 r4 hd;refine⟨a,N,rfl,g,?_⟩
  have:N.isSome=L.isSome:=by
   cases L with
   | none=>rw[g1 rfl];rfl
   | some d=>obtain⟨w',rfl,_⟩:=g2 d rfl;rfl
  rw[this];exact k4 G I _ .refl J (.bl _)
 ·cases m
theorem cb(l:X.A.units+1 < Fj)(hi:GE X E i mi)(ho:GE X E o mo)(m:Ct .NotIn o=false:=by rfl):GE X E (.Compare i [.NotIn] [o] pos) (m2 (N0 true) mi mo):=(pK (Uc l hi ho) m).imp λ_ _ _ h=>SI h
theorem gY{K}{m}{A}{H}{Q}(h:gT K E (mB m) A H Q):gE K E m A H λx H1=>∃c,x=.bl c/\Q c H1:=by
 obtain⟨B,l,S,C,G,o⟩:=h;refine⟨B,l,S,C,G,o.seq λd N o s H1 x I J L=>?_⟩
 cases d <;> first | exact o.elim | skip
 cases L;exact⟨_,rfl,o s H1 I J⟩
theorem qM(l:X.A.units+1 < Fj)(hi:GE X E i mi)(ho:GE X E o mo)(m:Ct .In o=false:=by rfl):GT X E (.Compare i [.In] [o] pos) (mB (m2 (N0 false) mi mo)):=(fP (pM l hi ho) m).imp λ_ _ _ h=>jy (gY h)
theorem ca(l:X.A.units+1 < Fj)(hi:GE X E i mi)(ho:GE X E o mo)(m:Ct .NotIn o=false:=by rfl):GT X E (.Compare i [.NotIn] [o] pos) (mB (m2 (N0 true) mi mo)):=(fP (Uc l hi ho) m).imp λ_ _ _ h=>SI (gY h)
noncomputable def Jp:ME:=λ_ S=>.ok (.ref S.length) (S++[.dK []])
noncomputable def NH:ME:=λ_ S=>.ok (.ref S.length) (S++[.dT []])
theorem NK:GE X E (.Dict [] [] pos) Jp:=(fg (X:=X) (pos:=pos)).imp<|by
 rintro G H Q ⟨I,l,S,J,s,k⟩ p A
 obtain⟨B,C,m⟩:=s.alloc (ho:=.dK []) (o:=.dK []) A ⟨[],CA,.nil⟩;exact k _ _ _ C B (.ref m)
theorem PZ:GE X E (.Dict [] [] pos) NH:=(ff (X:=X) (pos:=pos)).imp<|by
 rintro G H Q ⟨I,l,S,J,s,k⟩ p A
 obtain⟨B,C,m⟩:=s.alloc (ho:=.dT []) (o:=.dT []) A ⟨[],CA,.nil⟩;exact k _ _ _ C B (.ref m)
noncomputable def QT(x y v:D)(S:Sto):Option Sto:=match x with
 | .ref n=>match S[n]? with
  | some (.dK l)=>match gi y with
   | some k=>if l.length < sizeLine then some (S.set n (.dK (CJ l k v)))else none
   | none=>none
  | some (.dT l)=>match y with
   | .tup m=>match N8 m with
    | some o=>if l.length < sizeLine then some (S.set n (.dT (CJ l o v)))else none
    | none=>none
   | _=>none
  | _=>none
 | _=>none
noncomputable def Cq(mo mi mv:ME):MS:=λe S=>(mv e S).lift e λv l=>(mo e l).lift e λx m=>(mi e m).lift e λy o=>match QT x y v o with
 | some s=>.ok (.nx e) s
 | none=>.bad
theorem G1(hu:X.A.units+1 < Fj)(ho:GE X E o mo)(hi:GE X E i mi)(hv:GE X E value mv)(hs:G9 value (some (.Subscript o i L)) pos.line X.env=pure false:=by rfl):GS X E (.Assign [.Subscript o i L] value pos) (Cq mo mi mv):=(kJ hu ho hi hv hs).imp<|by
 rintro D σ H ⟨ρ,l,S,I,hs,B⟩
 refine⟨ρ,l,S,I,hs,B.lift I .refl λv S1 B ρ1 H1 R C s1 r1=>⟨ρ1,l,S1,I.mono C,s1,(B.later C).lift (I.mono C) C λx S2 B ρ2 H2 xv G s2 r2=>⟨ρ2,l,S2,I.mono (C.trans G),s2,(B.later G).lift (I.mono (C.trans G)) (C.trans G) λy S3 B s T yv N U r3=>?_⟩⟩⟩;have O:=r1.mono (G.trans N);have r2':=r2.mono N;have yT:=I.mono (C.trans (G.trans N));split at B
 ·rename_i S4 m
  unfold QT at m;split at m
  ·rename_i n
   cases r2' with
   | @ref _ a J=>
    split at m
    ·rename_i f' h4
     split at m
     ·rename_i Y hk
      split at m
      ·rename_i hz
       cases m;obtain⟨P,e,r⟩:=U.ob n _ _ h4 J;rw[Re r3 hk];have le:Le X.K s T s (upd T a (.dK (Md P Y R))):=Le.write J (by rw[e];trivial);obtain⟨s5,Q⟩:=U.write (ho:=.dK (Md P Y R)) (o:=.dK (CJ f' Y v)) J ⟨_,CA,(KVR.put Y O r).mono le⟩ le;exact⟨a,_,rfl,YF.k e (by rw[<-KVR.length r];exact hz),B s _ σ (C.trans (G.trans (N.trans Q))) s5 (yT.mono Q)⟩
      ·cases m
     ·cases m
    ·rename_i f' h4
     split at m
     ·rename_i ds
      split at m
      ·rename_i Z hk
       split at m
       ·rename_i hz
        cases m;obtain⟨P,e,r⟩:=U.ob n _ _ h4 J
        cases r3 with
        | tup b1 b2=>
         rw[PN b2 hk]at b1;have le:Le X.K s T s (upd T a (.dT (Md P Z R))):=Le.write J (by rw[e];trivial);obtain⟨s5,Q⟩:=U.write (ho:=.dT (Md P Z R)) (o:=.dT (CJ f' Z v)) J ⟨_,CA,(KVR.put Z O r).mono le⟩ le;exact⟨a,_,rfl,YF.t e b1 (by rw[<-KVR.length r];exact hz),B s _ σ (C.trans (G.trans (N.trans Q))) s5 (yT.mono Q)⟩
       ·cases m
      ·cases m
     ·cases m
    ·cases m
  ·cases m
 ·exact B.elim
end
section
variable{X:Cx}{E:EW}{a b c:Expr}{pos:Pos}
theorem bn{K}{f g}{O}{H}{Q}(h:gE K E (m3 f g ma mb Z) O H Q):eu (rD K f) (rD K g) (gE K E ma) (gE K E mb) (gE K E Z) O H Q:=by
 obtain⟨ρ,l,S,G,hs,m⟩:=h;refine⟨ρ,l,S,G,hs,m.seq λx S1 m I H1 u o s1 r1=>⟨I,l,S1,G.mono o,s1,(m.later o).seq λy P m J H2 v s s2 R=>?_⟩⟩
 cases C:f x y P with
 | bad=>rw[C]at m;exact m.elim
 | err _ _=>rw[C]at m;exact m.elim
 | ok z T=>
  rw[C]at m;dsimp only[okR,Res.bind]at m;refine⟨J,P,x,y,z,T,s2,r1.mono s,R,C,λA H3 w B U r3=>?_⟩
  cases z with
  | bl k=>
   cases r3;refine⟨k,rfl,?_⟩
   cases k with
   | true=>
    rw[qX rfl];refine⟨A,l,T,G.mono (o.trans (s.trans B)),U,Cg.seq (m.later (s.trans B)) λw S4 m L H4 wv Y s4 r4=>?_⟩;obtain⟨d,S',e,k⟩:=m.okR;exact⟨L,S4,y,w,d,S',s4,R.mono (B.trans Y),r4,e,λN H' z l' s' r'=>k N H' z (o.trans (s.trans (B.trans (Y.trans l')))) s' r'⟩
   | false=>rw[qY AH];exact m A H3 _ (o.trans (s.trans B)) U (.bl false)
  | _=>exact m.elim
theorem Sz(ho:OpR X (CN m) (rD X.K f))(o:OpR X (CN l) (rD X.K g))(s:GE X E a ma)(hb:GE X E b mb)(A:GE X E c B)
  (C:lastMarks [m,l] [b,c]=false:=by with_unfolding_all rfl):GT X E (.Compare a [m,l] [b,c] pos) (mB (m3 f g ma mb B)):=(fQ ho o s hb A C).imp λ_ _ _ h=>bn (gY h)
noncomputable def Xr(m:ME):ME:=λe S=>(m e S).bind λd l=>match d with
 | .int i=>.ok (.int (-i)) l
 | _=>.bad
theorem S6(h:GE X E a ma):GE X E (.UnaryOp .USub a pos) (Xr ma):=(tK oC h).imp<|by
 rintro L H Q ⟨s,l,S,A,B,m⟩
 refine⟨s,l,S,A,B,m.seq λd N m o C x G I J=>?_⟩
 cases d <;> first | exact m.elim | skip
 cases J;exact⟨_,rfl,m o C _ G I (.int _)⟩
end
noncomputable abbrev MO:=Lo->Sto->Res (Option Int)
noncomputable def gO(K:AG)(E:EW)(m:MO):TO:=λB H Q=>∃s e S,Gu K s H e B/\CU K s S H/\Cg K (λc=>E c B) s H (m e S) λo C=>∀l A,Le K s H l A->CU K l C A->Q o A
noncomputable abbrev GO(X:Cx)(E:EW)(e:Option Expr)(m:MO):Prop:=PO X e (gO X.K E m)
noncomputable def Uh:MO:=λ_ S=>.ok none S
noncomputable def Sm(m:ME):MO:=λe S=>(m e S).bind λd l=>match d with
 | .int i=>.ok (some i) l
 | _=>.bad
noncomputable def Hs{α:Type}(xs:List α)(lo hi:Option Int):List α:=(xs.drop (HT.sIx xs.length 0 lo)).take (HT.sIx xs.length xs.length hi - HT.sIx xs.length 0 lo)
noncomputable def df(n:Nat)(lo hi:Option Int):Bool:=decide (HT.sIx n 0 lo=0/\HT.sIx n n hi=n)
noncomputable def Vn(d:D)(lo hi:Option Int)(S:Sto):Res D:=match d with
 | .tup l=>if df l.length lo hi=true then .bad else .ok (.tup (Hs l lo hi)) S
 | _=>match PK d S with
  | some l=>.ok (.ref S.length) (S++[.lst (Hs l lo hi)])
  | none=>.bad
noncomputable def OT(m:ME)(ml l:MO):ME:=λe S=>(m e S).bind λd o=>(ml e o).bind λlo s=>(l e s).bind λA B=>okR (Vn d lo A B)
section
variable{X:Cx}{E:EW}{e:Expr}{lo hi:Option Expr}{pos p2:Pos}{m:ME}{ml mh:MO}
theorem PO.imp(h:PO X o t)(i:∀l H Q,t' l H Q->t l H Q):PO X o t':=λA s l H Q I q=>h A s l H Q I (i l H Q q)
theorem Rh:GO X E none Uh:=PO.imp kO λB H Q ⟨o,l,S,C,s,A⟩=>A o H .refl s
theorem Rg(h:GE X E e m):GO X E (some e) (Sm m):=PO.imp (kM h)<|by
 rintro N H Q ⟨A,l,S,B,C,o⟩
 refine⟨A,l,S,B,C,o.seq λd O o s G x I J L=>?_⟩
 cases d <;> first | exact o.elim | skip
 cases L;exact⟨_,rfl,o s G I J⟩
theorem TN{K}{ρ}{H}{ds}{vs}(r:Ax K ρ H ds vs)(lo hi:Option Int):Ax K ρ H (Hs ds lo hi) (RJ vs lo hi):=by
 unfold Hs RJ;rw[r.length];exact(r.drop _).take _
theorem X1(he:GE X E e m)(C:GO X E lo ml)(hu:GO X E hi mh):GE X E (.Subscript e (.Slice lo hi none p2) pos) (OT m ml mh):=(Xd (j5.or fF) he C hu).imp<|by
 rintro σ H Q ⟨ρ,l,S,C,hs,B⟩
 refine⟨ρ,l,S,C,hs,B.seq λd S1 B N H1 x G s1 r1=>⟨N,l,S1,C.mono G,s1,(B.later G).seq λlo S2 B O H2 I s2=>⟨O,l,S2,C.mono (G.trans I),s2,(B.later I).seq λhi P B J R T U=>?_⟩⟩⟩;obtain⟨d',S',e,k⟩:=B.okR;have r3:=r1.mono (I.trans T)
 have lst:∀s,PK d P=some s->Res.ok (.ref P.length) (P++[.lst (Hs s lo hi)])=Res.ok d' S'->sx X.K x lo hi R Q:=λs A e=>by
  cases e;obtain⟨p,Y,rfl,rr,sq⟩:=KQ U r3 A;refine⟨p,Y,rfl,sq,λq A=>?_⟩;have le:Le X.K J R (J++[q]) (upd R q (.lst (RJ Y lo hi))):=Le.alloc A;obtain⟨Z,L,zB⟩:=U.alloc (ho:=.lst (RJ Y lo hi)) (o:=.lst (Hs s lo hi)) A ⟨_,CA,(TN rr lo hi).mono le⟩;exact k _ _ _ (G.trans (I.trans (T.trans L))) Z (.ref zB)
 cases d with
 | tup s=>
  unfold Vn at e;dsimp only at e;split at e
  ·cases e
  ·rename_i hw
   cases e
   cases r3 with
   | @tup _ a vs h1 h2=>
    refine .inr ⟨a,vs,rfl,.inl (.inl h1),λz=>hw ?_,λq A=>?_⟩
    ·unfold df
     rw[h2.length];exact wX z
    ·obtain⟨Z,L⟩:=IQ (ho:=.tup (RJ vs lo hi)) U A
     exact k _ _ _ (G.trans (I.trans (T.trans L))) Z (.tup CA ((TN h2 lo hi).mono L))
 | non=>cases e
 | bl _=>cases e
 | int _=>cases e
 | str _=>cases e
 | exc _=>cases e
 | fro s=>exact .inl (lst s rfl e)
 | ref n=>
  unfold Vn at e;dsimp only at e;split at e
  ·rename_i s A
   exact .inl (lst s A e)
  ·cases e
end
section
variable{X:Cx}{E:EW}{e:Expr}{p pos:Pos}{m:ME}
noncomputable def IG(m:ME):ME:=λe S=>(m e S).bind λd l=>match Gc d l with
 | some o=>.ok (.tup o) l
 | none=>.bad
theorem Jv(Y:Gl X "tuple") (B:X.mg "tuple" = none) (h:GE X E e m) (P:Ag [e] X.env=(false,Ci e X.env) :: Ag [] X.env:=by rfl):GE X E (.Call (.Name "tuple" p) [e] [] pos) (IG m):=
 (QA UL Y B ul (Gy h JA P) (by decide) (by decide) P rfl).imp<|by
 rintro σ H Q ⟨Z,l,S,hl,hs,B⟩
 refine⟨Z,l,S,hl,hs,B.seq λd S1 B G C x R J r1=>?_⟩
 cases s:Gc d S1 with
 | none=>rw[s]at B;exact B.elim
 | some ds=>
  rw[s]at B
  have T:∀a A,x=.ref a->SqL X.K C a A->Ax X.K G C ds A->∃p L,[x]=[.ref p]/\((SqL X.K C p L/\∀l,C l=none->Q (.ref l) (upd C l (.tup L)))∨(SqT X.K C p L/\Q (.ref p) C)):=λa A e sq N=>by
   subst e;refine⟨a,A,rfl,.inl ⟨sq,λq s=>?_⟩⟩;obtain⟨s2,U⟩:=IQ (ho:=.tup A) J s;exact B _ _ _ (R.trans U) s2 (.tup CA (N.mono U))
  cases r1 with
  | @tup _ a A I O=>cases s;exact⟨a,A,rfl,.inr ⟨.inl (.inl I),B G C _ R J (.tup I O)⟩⟩
  | @fro _ a A I O=>cases s;exact T a A rfl I.sq O
  | @ref n a hn=>
   obtain⟨o,ho,ro⟩:=J.there hn;unfold Gc at s;simp only[ho]at s
   cases o with
   | lst es=>cases s;obtain⟨A,e,N⟩:=ro;exact T a A rfl (.inl (.inl e)) N
   | _=>cases s
  | _=>cases s
variable{o:Expr}
noncomputable def atL(d:D)(S:Sto):Option (Nat×List D):=match d with
 | .ref n=>match S[n]? with
  | some (.lst l)=>some (n,l)
  | _=>none
 | _=>none
theorem TZ{K}{ρ}{S}{H}{d}{x}{n}{xs}(s:CU K ρ S H)(r:CK K ρ H d x)(h:atL d S=some (n,xs)):d=.ref n/\S[n]?=some (.lst xs)/\∃a vs,x=.ref a/\ρ[n]?=some a/\H a=some (.lst vs)/\Ax K ρ H xs vs:=by
 unfold atL at h;split at h
 ·split at h
  ·rename_i A l
   cases h;exact⟨rfl,l,aC s r l⟩
  ·cases h
 ·cases h
theorem aG{K}{ρ}{S}{H}{n}{a}{vs l}{A}(s:CU K ρ S H)(B:ρ[n]?=some a)(e:H a=some (.lst vs))(r:Ax K ρ H A l) :
  CU K ρ (S.set n (.lst A)) (upd H a (.lst l))/\Le K ρ H ρ (upd H a (.lst l)):=by
 have le:Le K ρ H ρ (upd H a (.lst l)):=Le.write B (by rw[e];trivial);exact s.write (ho:=.lst l) (o:=.lst A) B ⟨_,CA,r.mono le⟩ le
end
section
variable{X:Cx}
noncomputable def Yp:ZLi->Int:=λl=>Rq (λi=>l.getD i 0) l.length
theorem L0:∀(n:Nat),(∀i,i < n->f i=g i)->Rq f n=Rq g n
 | 0,_=>rfl
 | n+1,h=>by
  show Rq f n+f n=Rq g n+g n;rw[L0 n λi l=>h i (by lia),h n (by lia)]
theorem Qn(x:Int)(f:Nat->Int):∀n:Nat,Rq (λi=>match i with | 0=>x | j+1=>f j) (n+1)=x+Rq f n
 | 0=>by show(0:Int)+x=x+0;lia
 | n+1=>by
  show Rq _ (n+1)+f n=x+(Rq f n+f n);rw[Qn x f n]
  lia
theorem Z7:∀ns:ZLi,Yp ns=ns.sum
 | []=>rfl
 | n :: ns=>by
  have:=Z7 ns;unfold Yp at this ⊢;rw[nO,<-this,At,<-Qn]
  refine L0 _ λi l=>?_
  cases i <;> simp
theorem UJ{ns:ZLi}{l:List Value}(r:CC (ns.map V.int) l):∃xs:Array (Int×Tok),l.toArray=intItems xs/\xs.size=ns.length/\∀i,i < ns.length->numAt xs i=ns.getD i 0:=by
 induction ns generalizing l with
 | nil=>
  cases r;exact⟨#[],by simp[intItems],rfl,λi m=>zX m (by simp)⟩
 | cons n ns s=>
  cases r with
  | cons A B=>
   obtain⟨xs,o,C,E⟩:=s B;obtain⟨t,rfl⟩:=A;refine⟨#[(n,t)]++xs,?_,by simp[C];lia,λi m=>?_⟩
   ·unfold intItems at o ⊢
    rw[Array.map_append,<-o];simp
   ·cases i with
    | zero=>
     unfold numAt;rw[Array.getElem?_append_left (by simp)];simp
    | succ i=>
     have:=E i (by simpa using m);unfold numAt at this ⊢;rw[Array.getElem?_append_right (by simp)];simpa using this
noncomputable def tD(K:AG)(f:ZLi->Int):List V->Hp->VK->Prop:=λm H Q=>∃p l,m=[.ref p]/\SqL K H p (l.map V.int)/\Q (.int (f l)) H
theorem c6(l:X.calm=true):LS X (.builtin "sum") (tD X.K Yp):=by
 intro L s N H xs O Q I r h;obtain⟨p,P,rfl,m,q⟩:=h;obtain⟨u,rfl,o⟩:=vals1 r;cases o;obtain⟨R,A,B,S⟩:=I.list m;obtain⟨xs,C,E,G⟩:=UJ A
 refine sum_intListG (xs:=xs) (I.ok.hd l) (by rw[<-C];exact B.isList) λT U J kp=>⟨.int _,H,I.kept kp,⟨J,rfl⟩,?_⟩
 rw[E,L0 _ G];exact q
noncomputable def JK:List D->Option ZLi
 | []=>some []
 | .int b :: l=>(JK l).map (b :: ·)
 | _ :: _=>none
theorem PQ:∀{ds:List D} {ns:ZLi},JK ds=some ns->ds=ns.map D.int
 | [],_,h=>by cases h;rfl
 | .int b :: ds,ns,h=>by
  unfold JK at h
  cases l:JK ds with
  | none=>rw[l]at h;cases h
  | some m=>rw[l]at h;cases h;rw[PQ l];rfl
 | .non :: _,_,h=>by cases h
 | .bl _ :: _,_,h=>by cases h
 | .str _ :: _,_,h=>by cases h
 | .tup _ :: _,_,h=>by cases h
 | .fro _ :: _,_,h=>by cases h
 | .ref _ :: _,_,h=>by cases h
 | .exc _ :: _,_,h=>by cases h
noncomputable def lF(m:ME):ME:=λe S=>(m e S).bind λd l=>match PK d l with
 | some o=>match JK o with
  | some s=>.ok (.int (Yp s)) l
  | none=>.bad
 | none=>.bad
theorem qT(J:X.calm=true)(L:Gl X "sum") (o:X.mg "sum" = none) (h:GE X E e m) (C:Ag [e] X.env=(false,Ci e X.env) :: Ag [] X.env:=by rfl):GE X E (.Call (.Name "sum" p) [e] [] pos) (lF m):=
 (O7 (c6 J) L o um (Gy h JA C) (by decide) (by decide) C rfl).imp<|by
 rintro σ H Q ⟨N,l,S,O,P,o⟩
 refine⟨N,l,S,O,P,o.seq λd R o s T x U G Y=>?_⟩
 cases A:PK d R with
 | none=>rw[A]at o;exact o.elim
 | some Z=>
  rw[A]at o;dsimp only at o
  cases B:JK Z with
  | none=>rw[B]at o;exact o.elim
  | some ns=>
   rw[B]at o;obtain⟨p,xs,rfl,I,sq⟩:=KQ G Y A;rw[PQ B]at I;rw[I.ints]at sq;exact⟨p,ns,rfl,sq,o s T _ U G (.int _)⟩
end
noncomputable def Jl{α:Type}(r l:Res α):Res α:=match r with
 | .bad=>l
 | r=>r
theorem cK{l:Type}(r r':Res l):Jl r r'=r∨Jl r r'=r':=by cases r <;> simp[Jl]
noncomputable def op2(f g:D->D->Sto->Res D):D->D->Sto->Res D:=λx y S=>Jl (f x y S) (g x y S)
theorem aP(f g:D->D->Sto->Res D)(ma mb:ME)(l:Lo)(S:Sto):m2 (op2 f g) ma mb l S=m2 f ma mb l S∨m2 (op2 f g) ma mb l S=m2 g ma mb l S:=by
 unfold m2
 cases ma l S with
 | ok x o=>
  dsimp only[Res.bind]
  cases mb l o with
  | ok y m=>
   dsimp only[Res.bind];unfold op2
   rcases cK (f x y m) (g x y m)with e | e <;> rw[e] <;> simp
  | err c m=>exact .inl rfl
  | bad=>exact .inl rfl
 | err c o=>exact .inl rfl
 | bad=>exact .inl rfl
section
theorem hV{m o m2}(L:GE X E e o)(N:GE X E e m2)(h:∀l S,m l S=o l S∨m l S=m2 l S):GE X E e m:=by
 rintro A s B H Q I ⟨C,l,S,G,J,a⟩
 rcases h l S with q | q
 ·rw[q]at a;exact L A s B H Q I ⟨C,l,S,G,J,a⟩
 ·rw[q]at a;exact N A s B H Q I ⟨C,l,S,G,J,a⟩
theorem gv(G:GT X E e J)(L:GT X E e N)(h:∀l S,t l S=J l S∨t l S=N l S):GT X E e t:=by
 rintro m s o H Q I ⟨A,l,S,B,C,a⟩
 rcases h l S with q | q
 ·rw[q]at a;exact G m s o H Q I ⟨A,l,S,B,C,a⟩
 ·rw[q]at a;exact L m s o H Q I ⟨A,l,S,B,C,a⟩
theorem qS(G:GI X E tg e J)(L:GI X E tg e N)(h:∀l S,t l S=J l S∨t l S=N l S):GI X E tg e t:=by
 rintro m s o H R I ⟨A,l,S,B,C,a⟩
 rcases h l S with q | q
 ·rw[q]at a;exact G m s o H R I ⟨A,l,S,B,C,a⟩
 ·rw[q]at a;exact L m s o H R I ⟨A,l,S,B,C,a⟩
theorem mz{m o m2}(h:∀l S,m l S=o l S∨m l S=m2 l S)(l:Lo)(S:Sto):mB m l S=mB o l S∨mB m l S=mB m2 l S:=by
 unfold mB
 rcases h l S with q | q <;> rw[q] <;> simp
noncomputable abbrev inA(neg:Bool):=op2 (inD neg) (N0 neg)
theorem g7(m:X.A.units+64 < Fj)(hi:GE X E i mi)(ho:GE X E o mo)(l:Ct .NotIn o=false:=by with_unfolding_all rfl):GE X E (.Compare i [.NotIn] [o] pos) (m2 (inA true) mi mo):=
 hV (WM (Xh m) hi ho l) (cb (by lia) hi ho l) λ_ _=>aP _ _ _ _ _ _
theorem Uq(m:X.A.units+64 < Fj)(hi:GE X E i mi)(ho:GE X E o mo)(l:Ct .In o=false:=by with_unfolding_all rfl):GT X E (.Compare i [.In] [o] pos) (mB (m2 (inA false) mi mo)):=
 gv (Df (tV m) hi ho l) (qM (by lia) hi ho l) (mz λ_ _=>aP _ _ _ _ _ _)
theorem Jr(m:X.A.units+64 < Fj)(hi:GE X E i mi)(ho:GE X E o mo)(l:Ct .NotIn o=false:=by with_unfolding_all rfl):GT X E (.Compare i [.NotIn] [o] pos) (mB (m2 (inA true) mi mo)):=
 gv (Df (Xh m) hi ho l) (ca (by lia) hi ho l) (mz λ_ _=>aP _ _ _ _ _ _)
noncomputable abbrev ixA:=op2 ixD TK
theorem DO(m:X.A.units+64 < Fj)(ho:GE X E o mo)(hi:GE X E i mi)(l:Wf i:=by intro _ _;rfl):GE X E (.Subscript o i pos) (m2 ixA mo mi):=
 hV (uK tU ho hi l) (lU (by lia) ho hi l) λ_ _=>aP _ _ _ _ _ _
noncomputable def Fy(d:D):QX:=match d with
 | .tup l=>Hw l
 | d=>Qj d
noncomputable def ES(m:ME):MI:=λe S=>(m e S).bind λd l=>match Fy d l with
 | some _=>.ok (Fy d) l
 | none=>.bad
theorem DN(h:GE X E e m):GI X E tg e (ES m):=qS (qR h) (qP h) λl S=>by
 unfold ES uD nC
 cases m l S with
 | ok d o=>
  dsimp only[Res.bind]
  cases d <;> first | exact .inl rfl | exact .inr rfl
 | err c o=>exact .inl rfl
 | bad=>exact .inl rfl
noncomputable def Me(m:ME):ME:=λe S=>(m e S).bind λd l=>match Gc d l with
 | some o=>.ok (.int o.length) l
 | none=>.bad
theorem Kl(s:Gl X "len") (A:X.mg "len" = none) (h:GE X E e m) (B:Ag [e] X.env=(false,Ci e X.env) :: Ag [] X.env:=by rfl):GE X E (.Call (.Name "len" p) [e] [] pos) (Me m):=
 (lR WZ oW s A PySem.boot_len (nD h) (by decide) (by decide) B).imp λJ H Q ⟨C,l,S,G,I,a⟩=>⟨C,l,S,G,I,by
  have q:mQ tw (Xq m) l S=Me m l S:=by
   unfold mQ Xq Me
   cases m l S with
   | ok d o=>
    dsimp only[Res.bind]
    cases Gc d o <;> rfl
   | err c o=>rfl
   | bad=>rfl
  rw[q];exact a⟩
theorem ak(l:X.calm=true)(m:Gl X "min") (o:X.mg "min" = none) (h:GA X E [a,b] ml) (s:Ag [a,b] X.env=(false,Ci a X.env) :: Ag [b] X.env:=by rfl) (A:(FB pos (Ag [b] X.env)).any (·.1)=false:=by rfl):GE X E (.Call (.Name "min" p) [a,b] [] pos) (mQ Qp ml):=
 ap (c8 l) mG m o uo h (by decide) (by decide) s A
theorem lS(l:X.calm=true)(m:Gl X "max") (o:X.mg "max" = none) (h:GA X E [a,b] ml) (s:Ag [a,b] X.env=(false,Ci a X.env) :: Ag [b] X.env:=by rfl) (A:(FB pos (Ag [b] X.env)).any (·.1)=false:=by rfl):GE X E (.Call (.Name "max" p) [a,b] [] pos) (mQ Ul ml):=
 ap (c9 l) mH m o uq h (by decide) (by decide) s A
theorem lT(l:Gl X "list") (o:X.mg "list" = none) (h:GE X E e m) (s:Ag [e] X.env=(false,Ci e X.env) :: Ag [] X.env:=by rfl):GE X E (.Call (.Name "list" p) [e] [] pos) (ED (mN aW (Xq m))):=
 Cn (lN WY j4 l o ur (nD h) (by decide) (by decide) s)
end
noncomputable def Np(mo ma:ME):ME:=λe S=>(mo e S).bind λd m=>match atL d m with
 | some (n,_)=>(ma e m).bind λy l=>match atL d l,atL y l with
  | some (_,o),some (k,s)=>if k≠n/\o.length+s.length<=sizeLine then .ok .non (l.set n (.lst (o++s)))else .bad
  | _,_=>.bad
 | none=>.bad
section
theorem Ut(ho:GE X E o mo)(ha:GE X E e ma)(vC:GZ o "extend" X.env (Ci o X.env)=Ci o X.env:=by rfl)
  (wV:((FB A (Ag [e] X.env)).all (λx=>!x.1)&&(YU A (Pn [] X.env)).all (λx=>x.1.isSome)
    &&decide ([e].length+([]:List YM).length+(if ([]:List YM).isEmpty then 0 else 1) < 30))=true:=by rfl)
  (vD:(s.endLine==A.line)=true:=by rfl) (B:Ag [e] X.env=(false,Ci e X.env) :: Ag [] X.env:=by rfl) (vN:(FB A (Ag [] X.env)).any (·.1)=false:=by rfl) :
  GE X E (.Call (.Attribute o "extend" s) [e] [] A) (Np mo ma):=(mq UQ PySem.F.slot_list_extend PySem.F.type_list_extend cO ho (Gy ha JA B) vC wV vD B vN).imp<|by
 rintro σ H Q ⟨ρ,l,S,O,B,m⟩
 refine⟨ρ,l,S,O,B,m.seq λd P m C H1 v G R T=>?_⟩
 cases I:atL d P with
 | none=>rw[I]at m;exact m.elim
 | some z=>
  obtain⟨n,xs0⟩:=z;rw[I]at m;dsimp only at m;obtain⟨rfl,h0,a,J,rfl,hn,e0,_⟩:=TZ R T I;refine⟨.inl ⟨rfl,J,.inl (.inl e0)⟩,C,l,P,O.mono G,R,(m.later G).seq λy S2 m L H2 u U N r2=>?_⟩;split at m
  ·rename_i n' xs k ys h2 h3
   split at m
   ·rename_i hz
    obtain⟨e',h4,a',vs,ea,w5,Y,Z⟩:=TZ N (T.mono U) h2;cases e';cases ea;obtain⟨ey,h5,p,ws,rfl,hk,e3,vS⟩:=TZ N r2 h3;obtain⟨s3,l3⟩:=aG N w5 Y (Z.append vS);exact⟨a,p,vs,ws,rfl,rfl,Y,e3,by rw[<-Z.length,<-vS.length];exact hz.2,m L _ _ (G.trans (U.trans l3)) s3 .non⟩
   ·exact m.elim
  ·exact m.elim
end
noncomputable def jc(l:Tr)(x:Str):Bool:=decide (l.names.lookup x=some .local)||decide (l.names.lookup x=some .cell)||decide (l.names.lookup x=some .free)
noncomputable def iU(X:Cx)(scope:Tr)(own N':List Str):Bool:=
 decide (scope.kind=.function)&&scope.names.all (λy=>!decide (y.2=.local)||decide (scope.names.lookup y.1=some .local)) &&
 scope.names.all (λy=>!decide (y.2=.free)||decide (X.env.kindOf y.1=some .cell)||decide (X.env.kindOf y.1=some .free))&&decide (N'.length=own.length+X.N.length) &&
 ((N'.drop own.length).zip X.N).all (λp=>!jc (K5 scope X.env) p.1||(decide (p.1=p.2)&&jc X.env.scope p.1&&(decide ((K5 scope X.env).names.lookup p.1=some .cell)||decide ((K5 scope X.env).names.lookup p.1=some .free))&&!decide (X.env.kindOf p.1=some .local)&&!scope.names.any (λz=>decide (z=(p.1,DJ)))&&scope.names.any (λz=>decide (z=(p.1,Gh))))) &&
 (K5 scope X.env).names.all (λy=>(!decide (y.2=.cell)&&!decide (y.2=.free))||scope.names.any (λz=>decide (z=(y.1,Gh)))||scope.names.any (λz=>decide (z=(y.1,DJ))))
theorem W3:jc l x=true↔Vis l x:=by
 unfold jc Vis;simp[or_assoc]
theorem DY(h:iU X scope own N'=true):Od X scope own N':=by
 unfold iU at h;simp only[DI]at h;obtain⟨⟨⟨⟨⟨J,s⟩,A⟩,B⟩,C⟩,E⟩:=h;rw[Iq]at s A C E;refine⟨of_decide_eq_true J,λy o e=>?_,λy o e=>?_,of_decide_eq_true B,λi x e v=>?_,λx m=>?_⟩
 ·have:=s y o
  simpa[e]using this
 ·have:=A y o
  simpa[e]using this
 ·have G:=of_decide_eq_true B
  have U:own.length+i < N'.length:=(AF.mp e).1
  have m:i < X.N.length:=by lia
  have L:(x,X.N[i])∈(N'.drop own.length).zip X.N:=by
   rw[List.mem_iff_getElem?];refine⟨i,?_⟩;rw[List.getElem?_zip_eq_some];exact⟨by rw[KD];exact e,by simp[m]⟩
  have:=C _ L;rw[W3.mpr v]at this;simp only[Wq,nR,DI,Mt,decide_eq_true_eq,Bool.not_eq_true',decide_eq_false_iff_not]at this;obtain⟨⟨⟨⟨⟨O,P⟩,Q⟩,R⟩,H⟩,S⟩:=this;refine⟨⟨by rw[O];simp[m],W3.mp P,Q,R⟩,λq=>?_,?_⟩
  ·rw[dZ]at H
   exact H _ q (wX rfl)
  ·obtain⟨z,I,e⟩:=E8.mp S
   rw[of_decide_eq_true e]at I;exact I
 ·have l:∀k,(K5 scope X.env).names.lookup x=some k->(k=.cell∨k=.free)->(x,Gh)∈scope.names∨(x,DJ)∈scope.names:=λk e T=>by
   have:=E _ (D7 e)
   rcases T with rfl | rfl
   ·simpa using this
   ·simpa using this
  rcases m with e | e
  ·exact l _ e (.inl rfl)
  ·exact l _ e (.inr rfl)
structure Dfn(K:AG)(mg:Str->Option Value)(x qual:Str)(st:DZ)(ps:List Str) where
 f:Aa
 fd:Ld
 F:Fun K x qual st f fd
 b:Binds K fd ps []
 m:mg x=some (.ref f)
theorem Dfn.kp{K}{m}{x l}{st}{ps}(d:Dfn K m x l st ps):Fs K (.ref d.f)=true:=d.F.kp
structure Mtd(K:AG)(x qual:Str)(st:DZ)(ps:List Str) where
 f:Aa
 fd:Ld
 F:Fun K x qual st f fd
 b:Binds K fd ps []
structure Own(K:AG)(mg:Str->Option Value)(x:Str)(C f:Aa):Prop where
 cl:Cls K C
 mk':Mk K C f
 m:mg x=some (.ref C)
noncomputable abbrev wN:Nat:=1000000
end L2
namespace Srt
open PySem PyProof.Rows
structure Ord(U:BR->Prop)(lt:BR->BR->Bool):Prop where
 asym:∀x y,U x->U y->lt x y=true->lt y x=false
 ntr:∀x y z,U x->U y->U z->lt y x=false->lt z y=false->lt z x=false
theorem Ord.irr(o:Ord U lt)(h:U x):lt x x=false:=by
 cases e:lt x x with
 | false=>rfl
 | true=>exact(o.asym x x h h e).symm.trans e |>.symm▸rfl
noncomputable def ix(xs:Array BR)(i:Nat):BR:=xs.getD i (.none,.none)
theorem LL(h:xs[i]?=l[j]?):ix xs i=ix l j:=by
 unfold ix;rw[Fn,Fn,h]
theorem EA(h:i < xs.size):xs[i]?=some (ix xs i):=by
 unfold ix;rw[Fn,getElem?_pos xs i h];rfl
theorem cU(o:l < xs.size)(s:d<=l)(k:Nat) :
  ix (nJ xs l d) k=if k=l - d then ix xs l else if l - d < k/\k<=l then ix xs (k - 1)else ix xs k:=by
 have e:=getElem?_bubble o d s k;split
 ·rename_i h;rw[qX h]at e;exact LL e
 ·rename_i h
  rw[qY h]at e;split
  ·rename_i m;rw[qX m]at e;exact LL e
  ·rename_i m;rw[qY m]at e;exact LL e
theorem E3(l:j<=xs.size)(k:Nat) :
  ix (LZ xs i j ((j - i) / 2)) k=if i<=k/\k < j then ix xs (i+j - 1 - k)else ix xs k:=by
 have e:=getElem?_mirror_all (i:=i) l k;split
 ·rename_i h;rw[qX h]at e;exact LL e
 ·rename_i h;rw[qY h]at e;exact LL e
section
noncomputable def LR(prog:Bs)(w:CQ)(A:Ce)(s:AS)(a₀:Array BR)(l:Pp)(lt:BR->BR->Bool):Prop:=
 ∀x y,x∈a₀->y∈a₀->∀(Q:Bool->AS->Prop) (E:Value->AS->Prop),Q (lt x y) s->Ao (Ac prog w) A (keyLt' l x.1 y.1) Q E s
structure Good(a₀:Array BR)(κ:Pp)(st:BY):Prop where
 perm:(AV st).Perm a₀
 kind:kindOf st=κ
 failed:Is st=none
theorem Good.size{st:BY}(g:Good a₀ l st):(AV st).size=a₀.size:=g.perm.size_eq
theorem Good.mem{st:BY}(g:Good a₀ m st){i:Nat}(h:i < a₀.size):ix (AV st) i∈a₀:=by
 have l:i < (AV st).size:=by rw[g.size];exact h
 have e:=EA l;have:=De e;exact BZ.mp ((Cm.mp g.perm).mem_iff.mp (BZ.mpr this))
theorem Good.setArr{st:BY}(g:Good a₀ l st){xs:Array BR}(m:xs.Perm (AV st)):Good a₀ l (setArr st xs):=⟨m.trans g.perm,g.kind,g.failed⟩
theorem Rx{st:BY}{x y:BR}{Q:Option Bool->BY->Prop}(C:LR prog w A s a₀ l lt)(g:Good a₀ l st)(m:x∈a₀)(o:y∈a₀)(h:Q (some (lt x y)) st):wpS (Ac prog w) A E s (lt' x y) Q st:=by
 rw[lt'_eq];refine AQ (Ir ?_);rw[g.kind];refine AQ (wpS_lift (RM ?_));refine C x y m o _ _ ⟨rfl,?_⟩;exact AT h
theorem Pt{st:BY}{i j:Nat}{Q:Option Bool->BY->Prop}(C:LR prog w A s a₀ m lt)(g:Good a₀ m st)(hi:i < a₀.size)(l:j < a₀.size)(h:Q (some (lt (ix (AV st) i) (ix (AV st) j))) st) :
  wpS (Ac prog w) A E s (rM i j) Q st:=by
 rw[ltAt'_eq];refine AQ (Ir ?_);show wpS _ _ _ _ (do let x <-elem' (AV st) i;let y <-elem' (AV st) j;lt' x y) Q st;rw[i9,i9,EA (by rw[g.size];exact hi),EA (by rw[g.size];exact l)];exact AQ (AT (AQ (AT (Rx C g (g.mem hi) (g.mem l) h))))
noncomputable def Up(lt:BR->BR->Bool)(xs:Array BR)(lo hi:Nat):Prop:=∀i j,lo<=i->i<=j->j < hi->lt (ix xs j) (ix xs i)=false
noncomputable def Dn(lt:BR->BR->Bool)(xs:Array BR)(lo hi:Nat):Prop:=∀i j,lo<=i->i<=j->j < hi->lt (ix xs i) (ix xs j)=false
noncomputable def Out(xs l:Array BR)(lo hi:Nat):Prop:=∀i,(i < lo∨hi<=i)->ix l i=ix xs i
theorem Out.refl{xs:Array BR}{lo hi:Nat}:Out xs xs lo hi:=λ_ _=>rfl
theorem Out.trans{xs l m:Array BR}{lo hi:Nat}(a:Out xs l lo hi)(b:Out l m lo hi):Out xs m lo hi:=λi h=>(b i h).trans (a i h)
theorem Up.out{xs m:Array BR}{lo hi l h:Nat}(u:Up lt xs l h)(o:Out xs m lo hi)(d:h<=lo∨hi<=l):Up lt m l h:=λi j s A B=>by
 rw[o i (by lia),o j (by lia)];exact u i j s A B
theorem Up.grow{st:BY}(O:Ord (·∈a₀) lt)(g:Good a₀ B st){lo hi:Nat}(l:hi < a₀.size)(u:Up lt (AV st) lo hi)(C:lo < hi)(h:lt (ix (AV st) hi) (ix (AV st) (hi - 1))=false):Up lt (AV st) lo (hi+1):=λi j m o E=>by
 by_cases s:j < hi
 ·exact u i j m o s
 ·have:j=hi:=by lia
  subst this
  by_cases A:i=j
  ·subst A;exact O.irr (g.mem l)
  ·exact O.ntr _ _ _ (g.mem (by lia)) (g.mem (show j - 1 < _ by omega)) (g.mem l) (u i (j - 1) m (by lia) (by lia)) h
theorem wpS_binarySort{st:BY}{lo n ok:Nat}{Q:Bool->BY->Prop}(C:LR prog w A s a₀ S lt)(O:Ord (·∈a₀) lt)(hn:lo+n<=a₀.size)(hok:ok<=n)(g:Good a₀ S st)(u:Up lt (AV st) lo (lo+ok))
  (h:∀m,Good a₀ S m->Up lt (AV m) lo (lo+n)->Out (AV st) (AV m) lo (lo+n)->Ab m=Ab st->Q true m):wpS (Ac prog w) A E s (binarySort' lo n ok) Q st:=by
 rw[binarySort'_eq]
 refine AQ (D6 (CZ (I:=λk c m=>c=(none,())/\Good a₀ S m/\Up lt (AV m) lo (lo+min k n)/\Out (AV st) (AV m) lo (lo+n)/\Ab m=Ab st)
  (Q:=λc m=>c=(none,())/\Good a₀ S m/\Up lt (AV m) lo (lo+n)/\Out (AV st) (AV m) lo (lo+n)/\Ab m=Ab st) ?step ?fin ?init) ?post)
 case post=>
  rintro c m ⟨rfl,X,Y,Z,p'⟩;exact AT (h m X Y Z p')
 case init=>
  refine⟨rfl,g,λi j R T h3=>?_,.refl,rfl⟩
  by_cases h0:ok=0
  ·have:i=j:=by lia
   subst this;exact O.irr (g.mem (by omega))
  ·exact u i j R T (by lia)
 case fin=>
  rintro c m ⟨hc,X,Y,Z,p'⟩;refine⟨hc,X,?_,Z,p'⟩;rwa [show min (max (max ok 1) n) n=n by lia]at Y
 case step=>
  rintro k c H hak hkn ⟨rfl,B,U,o1,p1⟩;rw[show min k n=k by lia]at U
  have L:lo+k < a₀.size:=by lia
  refine AQ (D6 (CZ (I:=λx c o=>o=H/\∃l r,c=(none,l,r)/\l<=r/\r<=k/\r - l<=k - x /\
    (∀i,i < l->lt (ix (AV H) (lo+k)) (ix (AV H) (lo+i))=false)/\(∀i,r<=i->i < k->lt (ix (AV H) (lo+k)) (ix (AV H) (lo+i))=true))
   (Q:=λc o=>o=H/\∃l r,c=(none,l,r)/\l<=k /\
    (∀i,i < l->lt (ix (AV H) (lo+k)) (ix (AV H) (lo+i))=false)/\(∀i,l<=i->i < k->lt (ix (AV H) (lo+k)) (ix (AV H) (lo+i))=true)) ?istep ?ifin ?iinit) ?ipost)
  case iinit=>exact⟨rfl,0,k,rfl,by lia,by lia,by lia,λi hi=>by lia,λi R T=>by lia⟩
  case ifin=>
   rintro c o ⟨rfl,l,r,rfl,hlr,J,hm,N,P⟩
   have:l=r:=by lia
   subst this;exact⟨rfl,l,l,rfl,J,N,P⟩
  case istep=>
   rintro x c o _ hxk ⟨rfl,l,r,rfl,hlr,J,hm,N,P⟩;dsimp only
   by_cases vO:l ≥ r
   ·rw[qX vO]
    have:l=r:=by lia
    subst this;exact AT ⟨rfl,l,l,rfl,J,N,P⟩
   ·rw[qY vO]
    refine AQ (Pt C B L (by lia) ?_)
    cases G:lt (ix (AV o) (lo+k)) (ix (AV o) (lo+(l+r) / 2))with
    | true=>
     refine AT ⟨rfl,l,(l+r) / 2,rfl,by lia,by lia,by omega,N,λi R T=>?_⟩
     cases e:lt (ix (AV o) (lo+k)) (ix (AV o) (lo+i))with
     | true=>rfl
     | false=>
      have:=O.ntr _ _ _ (B.mem (show lo+(l+r) / 2 < _ by lia)) (B.mem (show lo+i < _ by lia)) (B.mem L) (U (lo+(l+r) / 2) (lo+i) (by lia) (by lia) (by lia)) e;rw[G]at this;cases this
    | false=>
     refine AT ⟨rfl,(l+r) / 2+1,r,rfl,by lia,by omega,by omega,λi R=>?_,P⟩;exact O.ntr _ _ _ (B.mem (show lo+i < _ by lia)) (B.mem (show lo+(l+r) / 2 < _ by lia)) (B.mem L) (U (lo+i) (lo+(l+r) / 2) (by lia) (by lia) (by lia)) G
  case ipost=>
   rintro c o ⟨rfl,l,r,rfl,hlk,N,P⟩;show wpS _ _ _ _ (do moveDown' (lo+k) (lo+l);pure (Ie (none,()))) _ _;rw[moveDown'_eq]
   have hks:lo+k < (AV o).size:=by rw[B.size];exact L
   have e:∀i,ix (nJ (AV o) (lo+k) (lo+k - (lo+l))) i=if i=lo+l then ix (AV o) (lo+k)else if lo+l < i/\i<=lo+k then ix (AV o) (i - 1)else ix (AV o) i:=λi=>by
    rw[cU hks (by lia),show lo+k - (lo+k - (lo+l))=lo+l by lia]
   refine AQ (EI (AT ⟨rfl,B.setArr (bubble_perm _ _ _),?_,o1.trans λi hi=>?_,p1⟩))
   ·rw[show min (k+1) n=k+1 by lia]
    intro i j R T h3;show lt (ix (nJ (AV o) (lo+k) (lo+k - (lo+l))) j) (ix (nJ (AV o) (lo+k) (lo+k - (lo+l))) i)=false;rw[e,e]
    repeat' split
    all_goals first
     | (exfalso;lia)
     | exact O.irr (B.mem L)
     | (have q:=N (i - lo) (by lia);rw[show lo+(i - lo)=i by lia]at q;exact q)
     | (have q:=P (j - 1 - lo) (by omega) (by omega);rw[show lo+(j - 1 - lo)=j - 1 by lia]at q;exact O.asym _ _ (B.mem L) (B.mem (by lia)) q)
     | exact U _ _ (by omega) (by omega) (by lia)
   ·show ix (nJ (AV o) (lo+k) (lo+k - (lo+l))) i=ix (AV o) i
    rw[e,qY (by lia),qY (by lia)]
end
section
theorem LF{l:Type}{M:Model}{r:String}{Q:PUnit->l->Prop}{st:l}(h:Q ⟨⟩ st):wpS M A E s (liftM (rule r):StateT l Sem PUnit) Q st:=wpS_lift (Rp ⟨rfl,h⟩)
theorem Dn.flip{xs:Array BR}{lo hi:Nat}(l:hi<=xs.size)(d:Dn lt xs lo hi):Up lt (LZ xs lo hi ((hi - lo) / 2)) lo hi:=λi j m o s=>by
 rw[E3 l,E3 l,qX (by lia),qX (by lia)];exact d _ _ (by omega) (by omega) (by omega)
theorem Dn.part{xs:Array BR}{lo hi m:Nat}(l:hi<=xs.size)(s:lo<=m)(o:m<=hi)(d:Dn lt xs lo hi)(e:Up lt xs m hi):Dn lt (LZ xs m hi ((hi - m) / 2)) lo hi:=λi j A B C=>by
 rw[E3 l,E3 l]
 by_cases E:m<=i
 ·rw[qX (by lia),qX (by lia)]
  exact e _ _ (by omega) (by omega) (by omega)
 ·rw[qY (by lia)]
  split
  ·exact d _ _ (by omega) (by lia) (by omega)
  ·exact d _ _ (by omega) (by omega) (by omega)
theorem L5{xs:Array BR}{i j lo hi:Nat}(l:j<=xs.size)(m:lo<=i)(o:j<=hi):Out xs (LZ xs i j ((j - i) / 2)) lo hi:=λk s=>by
 rw[E3 l,qY (by lia)]
theorem Dn.grow{st:BY}(O:Ord (·∈a₀) lt)(g:Good a₀ B st){lo hi:Nat}(l:hi < a₀.size)(u:Dn lt (AV st) lo hi)(C:lo < hi)(h:lt (ix (AV st) (hi - 1)) (ix (AV st) hi)=false):Dn lt (AV st) lo (hi+1):=λi j m o E=>by
 by_cases s:j < hi
 ·exact u i j m o s
 ·have:j=hi:=by lia
  subst this
  by_cases A:i=j
  ·subst A;exact O.irr (g.mem l)
  ·exact O.ntr _ _ _ (g.mem l) (g.mem (show j - 1 < _ by omega)) (g.mem (by lia)) h (u i (j - 1) m (by lia) (by lia))
theorem Yh(O:Ord (·∈a₀) lt){st:BY}(g:Good a₀ o st){lo:Nat}(h:lo < a₀.size):Up lt (AV st) lo (lo+1):=λi j s A B=>by
 have l:i=lo:=by lia
 have m:j=lo:=by lia
 rw[l,m];exact O.irr (g.mem h)
theorem jR{st:BY}{lo u9 n:Nat}{Q:Option Nat->BY->Prop}(C:LR prog w A s a₀ κ lt)(O:Ord (·∈a₀) lt)(h1:1<=n)(h2:n<=u9)(hn:lo+u9<=a₀.size)(g:Good a₀ κ st)(u:Up lt (AV st) lo (lo+n))
  (h:∀n,1<=n->n<=u9->Up lt (AV st) lo (lo+n)->Q (some n) st):wpS (Ac prog w) A E s (do
   let mut n:=n
   for _ in [n:u9] do
    let some vt <-rM (lo+n) (lo+n - 1) | return none
    if vt then break
    n:=n+1
   return some n) Q st:=by
 refine AQ (D6 (CZ (I:=λx c st'=>st'=st/\c=(none,x)/\Up lt (AV st) lo (lo+x))
  (Q:=λc st'=>st'=st/\∃n,c=(none,n)/\1<=n/\n<=u9/\Up lt (AV st) lo (lo+n)) ?step ?fin ⟨rfl,rfl,u⟩) ?post)
 case fin=>
  rintro c st' ⟨rfl,rfl,u⟩
  have e:max n u9=u9:=by lia
  rw[e]at u ⊢;exact⟨rfl,u9,rfl,by lia,AJ _,u⟩
 case step=>
  rintro x c st' Ξ Ο ⟨rfl,rfl,u⟩;dsimp only;refine AQ (Pt C g (by lia) (by lia) ?_)
  cases hq:lt (ix (AV st') (lo+x)) (ix (AV st') (lo+x - 1))with
  | true=>exact AT ⟨rfl,x,rfl,by lia,by lia,u⟩
  | false=>exact AT ⟨rfl,rfl,Up.grow (hi:=lo+x) O g (by lia) u (by lia) hq⟩
 case post=>
  rintro c st' ⟨rfl,n,rfl,zD,w5,u⟩;exact AT (h n zD w5 u)
theorem wpS_countRun{st}{lo u9}{Q}(C:LR prog w A s a₀ κ lt)(O:Ord (·∈a₀) lt)(h1:1<=u9)(hn:lo+u9<=a₀.size)(g:Good a₀ κ st)
  (h:∀st' n,Good a₀ κ st'->1<=n->n<=u9->Up lt (AV st') lo (lo+n)->Out (AV st) (AV st') lo (lo+u9)->Ab st'=Ab st->Q (some n) st'):wpS (Ac prog w) A E s (countRun' lo u9) Q st:=by
 rw[countRun'_eq]
 refine AQ (D6 (CZ (I:=λx c st'=>st'=st/\c=(none,x)/\Up lt (AV st) lo (lo+x))
  (Q:=λc st'=>st'=st/\∃n,c=(none,n)/\1<=n/\n<=u9/\Up lt (AV st) lo (lo+n)/\(n=u9∨lt (ix (AV st) (lo+n)) (ix (AV st) (lo+n - 1))=true)) ?step ?fin ?init) ?post)
 case init=>
  refine⟨rfl,rfl,λi j a1 a2 a3=>?_⟩
  have:i=j:=by lia
  subst this;exact O.irr (g.mem (by lia))
 case fin=>
  rintro c st' ⟨rfl,rfl,u⟩
  have e:max 1 u9=u9:=by lia
  rw[e]at u ⊢;exact⟨rfl,u9,rfl,h1,AJ _,u,.inl rfl⟩
 case step=>
  rintro x c st' Ξ Ο ⟨rfl,rfl,u⟩;dsimp only;refine AQ (Pt C g (by lia) (by lia) ?_)
  cases hq:lt (ix (AV st') (lo+x)) (ix (AV st') (lo+x - 1))with
  | true=>exact AT ⟨rfl,x,rfl,Ξ,by lia,u,.inr hq⟩
  | false=>exact AT ⟨rfl,rfl,Up.grow (hi:=lo+x) O g (by lia) u (by lia) hq⟩
 case post=>
  rintro c st' ⟨rfl,n,rfl,zD,w5,u,hd⟩;dsimp only
  by_cases hnn:n=u9
  ·rw[qX (by simpa using hnn)]
   exact AT (h st' n g zD w5 u .refl rfl)
  ·rw[qY (by simpa using hnn)]
   have wR:=hd.resolve_left hnn
   have desc:∀(vk:BY),Good a₀ κ vk->Dn lt (AV vk) lo (lo+(n+1))->Out (AV st') (AV vk) lo (lo+u9)->Ab vk=Ab st' ->
     wpS (Ac prog w) A E s (do
      liftM (rule "list.sort.descending-run")
      let mut n:=n+1
      let mut neq:=0
      for _ in [n:u9] do
       let some vt <-rM (lo+n) (lo+n - 1) | return none
       if vt then
        if neq > 0 then RN (lo+n - (neq+1)) (lo+n)
        neq:=0
       else
        let some yA <-rM (lo+n - 1) (lo+n) | return none
        if yA then break
        neq:=neq+1
       n:=n+1
      if neq > 0 then RN (lo+n - (neq+1)) (lo+n)
      RN lo (lo+n)
      for _ in [n:u9] do
       let some vt <-rM (lo+n) (lo+n - 1) | return none
       if vt then break
       n:=n+1
      return some n) Q vk:=by
    intro vk g1 d1 o1 p1;refine AQ (LF ?_)
    refine AQ (D6 (CZ (I:=λx c j'=>Good a₀ κ j'/\∃q,c=(none,x,q)/\q+1<=x/\Dn lt (AV j') lo (lo+x)/\Up lt (AV j') (lo+x - (q+1)) (lo+x)/\Out (AV st') (AV j') lo (lo+u9)/\Ab j'=Ab st')
     (Q:=λc j'=>Good a₀ κ j'/\∃n q,c=(none,n,q)/\n<=u9/\q+1<=n/\Dn lt (AV j') lo (lo+n)/\Up lt (AV j') (lo+n - (q+1)) (lo+n)/\Out (AV st') (AV j') lo (lo+u9)/\Ab j'=Ab st') ?dstep ?dfin ?dinit) ?dpost)
    case dinit=>
     refine⟨g1,0,rfl,by lia,d1,?_,o1,p1⟩;have:=Yh O g1 (lo:=lo+n) (by lia);rwa [show lo+(n+1) - (0+1)=lo+n by lia,show lo+(n+1)=lo+n+1 by lia]
    case dfin=>
     rintro c j' ⟨g2,q,rfl,hq,d2,u2,o2,p2⟩
     have e:max (n+1) u9=u9:=by lia
     rw[e]at d2 u2 hq ⊢;exact⟨g2,u9,q,rfl,AJ _,hq,d2,u2,o2,p2⟩
    case dstep=>
     rintro x c j' Ξ Ο ⟨g2,q,rfl,hq,d2,u2,o2,p2⟩;dsimp only;refine AQ (Pt C g2 (by lia) (by lia) ?_)
     cases hs:lt (ix (AV j') (lo+x)) (ix (AV j') (lo+x - 1))with
     | true=>
      dsimp only;rw[qX rfl];have vw:=O.asym _ _ (g2.mem (show lo+x < _ by lia)) (g2.mem (show lo+x - 1 < _ by lia)) hs
      by_cases yB:q > 0
      ·rw[qX yB,Nt]
       have hsz:lo+x<=(AV j').size:=by rw[g2.size];lia
       have g3:Good a₀ κ (setArr j' (LZ (AV j') (lo+x - (q+1)) (lo+x) ((lo+x - (lo+x - (q+1))) / 2))):=g2.setArr (Wj _ _ _ _);have d3:=Dn.part (lt:=lt) (lo:=lo) hsz (show lo<=lo+x - (q+1) by lia) (by omega) d2 u2;refine AQ (EI (AT ⟨g3,0,rfl,by lia,?_,?_,o2.trans (L5 hsz (by lia) (by lia)),p2⟩))
       ·refine Dn.grow (hi:=lo+x) O g3 (by lia) d3 (by lia) ?_
        show lt (ix (LZ (AV j') (lo+x - (q+1)) (lo+x) ((lo+x - (lo+x - (q+1))) / 2)) (lo+x - 1)) (ix (LZ (AV j') (lo+x - (q+1)) (lo+x) ((lo+x - (lo+x - (q+1))) / 2)) (lo+x))=false;rw[E3 hsz,E3 hsz,qX (by omega),qY (by lia)];exact O.ntr _ _ _ (g2.mem (by lia)) (g2.mem (show lo+x - 1 < _ by lia)) (g2.mem (by omega)) vw (d2 _ _ (by lia) (by omega) (by lia))
       ·have:=Yh O g3 (lo:=lo+x) (by lia)
        rwa [show lo+(x+1) - (0+1)=lo+x by lia,show lo+(x+1)=lo+x+1 by lia]
      ·rw[qY yB]
       refine AT ⟨g2,0,rfl,by lia,Dn.grow (hi:=lo+x) O g2 (by lia) d2 (by lia) vw,?_,o2,p2⟩;have:=Yh O g2 (lo:=lo+x) (by lia);rwa [show lo+(x+1) - (0+1)=lo+x by lia,show lo+(x+1)=lo+x+1 by lia]
     | false=>
      dsimp only;rw[qY AH];refine AQ (Pt C g2 (by lia) (by lia) ?_)
      cases hl:lt (ix (AV j') (lo+x - 1)) (ix (AV j') (lo+x))with
      | true=>exact AT ⟨g2,x,q,rfl,by lia,hq,d2,u2,o2,p2⟩
      | false=>
       refine AT ⟨g2,q+1,rfl,by lia,Dn.grow (hi:=lo+x) O g2 (by lia) d2 (by lia) hl,?_,o2,p2⟩;rw[show lo+(x+1) - (q+1+1)=lo+x - (q+1) by lia];exact Up.grow (hi:=lo+x) O g2 (by lia) u2 (by omega) hs
    case dpost=>
     rintro c j' ⟨g2,m,q,rfl,hm,hq,d2,u2,o2,p2⟩;dsimp only
     have hsz:lo+m<=(AV j').size:=by rw[g2.size];lia
     have last:∀vZ,Good a₀ κ vZ->Dn lt (AV vZ) lo (lo+m)->Out (AV st') (AV vZ) lo (lo+u9)->Ab vZ=Ab st'->∀(R:StateT BY Sem (Option Nat)),R=(do
        let mut n:=m
        for _ in [n:u9] do
         let some vt <-rM (lo+n) (lo+n - 1) | return none
         if vt then break
         n:=n+1
        return some n)->wpS (Ac prog w) A E s (do RN lo (lo+m);R) Q vZ:=by
      rintro vZ g3 d3 o3 p3 R rfl
      have zE:lo+m<=(AV vZ).size:=by rw[g3.size];lia
      rw[Nt];refine AQ (EI ?_);have g4:Good a₀ κ (setArr vZ (LZ (AV vZ) lo (lo+m) ((lo+m - lo) / 2))):=g3.setArr (Wj _ _ _ _)
      exact jR C O (by lia) hm hn g4 (Dn.flip zE d3) λk k1 k2 k3=>h _ k g4 k1 k2 k3 (o3.trans (L5 zE (by lia) (by lia))) p3
     by_cases yB:q > 0
     ·rw[qX yB,Nt]
      refine AQ (EI ?_);exact last _ (g2.setArr (Wj _ _ _ _)) (Dn.part hsz (by lia) (by omega) d2 u2) (o2.trans (L5 hsz (by lia) (by lia))) p2 _ rfl
     ·rw[qY yB]
      exact last _ g2 d2 o2 p2 _ rfl
   have vw:=O.asym _ _ (g.mem (show lo+n < _ by lia)) (g.mem (show lo+n - 1 < _ by omega)) wR
   by_cases zp:n > 1
   ·rw[qX zp]
    refine AQ (Pt C g (by lia) (by omega) ?_)
    cases hr:lt (ix (AV st') lo) (ix (AV st') (lo+n - 1))with
    | true=>exact AT (h st' n g zD w5 u .refl rfl)
    | false=>
     dsimp only;rw[qY AH,Nt]
     have hsz:lo+n<=(AV st').size:=by rw[g.size];lia
     have g1:Good a₀ κ (setArr st' (LZ (AV st') lo (lo+n) ((lo+n - lo) / 2))):=g.setArr (Wj _ _ _ _)
     have al:∀i j,lo<=i->i < lo+n->lo<=j->j < lo+n->lt (ix (AV st') i) (ix (AV st') j)=false:=λi j i1 i2 j1 j2=>by
      have q1:=u j (lo+n - 1) (by omega) (by lia) (by omega);have q2:=u lo i (by lia) (by omega) (by omega);exact O.ntr _ _ _ (g.mem (by lia)) (g.mem (show lo < _ by lia)) (g.mem (by lia)) (O.ntr _ _ _ (g.mem (by lia)) (g.mem (show lo+n - 1 < _ by lia)) (g.mem (by lia)) q1 hr) q2
     refine AQ (EI ?_);refine desc _ g1 ?_ (L5 hsz (by lia) (by lia)) rfl;refine Dn.grow (hi:=lo+n) O g1 (by lia) (λi j a1 a2 a3=>?_) (by lia) ?_
     ·show lt (ix (LZ (AV st') lo (lo+n) ((lo+n - lo) / 2)) i) (ix (LZ (AV st') lo (lo+n) ((lo+n - lo) / 2)) j)=false
      rw[E3 hsz,E3 hsz,qX (by lia),qX (by lia)];exact al _ _ (by omega) (by omega) (by omega) (by omega)
     ·show lt (ix (LZ (AV st') lo (lo+n) ((lo+n - lo) / 2)) (lo+n - 1)) (ix (LZ (AV st') lo (lo+n) ((lo+n - lo) / 2)) (lo+n))=false
      rw[E3 hsz,E3 hsz,qX (by omega),qY (by lia),show lo+(lo+n) - 1 - (lo+n - 1)=lo by omega];exact O.ntr _ _ _ (g.mem (by lia)) (g.mem (show lo+n - 1 < _ by lia)) (g.mem (by lia)) vw hr
   ·rw[qY zp]
    have e:n=1:=by lia
    subst e;refine desc _ g (Dn.grow (hi:=lo+1) O g (by lia) (λi j a1 a2 a3=>?_) (by lia) vw) .refl rfl
    have e1:i=lo:=by lia
    have e2:j=lo:=by lia
    rw[e1,e2];exact O.irr (g.mem (by lia))
end
noncomputable def uL:Bool->BR->Array BR->Nat->Nat->Nat->StateT BY Sem (Option Nat):=sortPriv% PySem.Builtin.gallop
section
noncomputable abbrev BS:=Option (Option Nat)×Nat×Nat
theorem lz{st:BY}{p:Nat->Bool}{n lo hi:Nat}{F:Nat->BS->StateT BY Sem (ForInStep BS)}{T:BS->StateT BY Sem (Option Nat)}{Q:Option Nat->BY->Prop}(H:lo<=hi)(J:hi<=n)
  (N:∀i,i < lo->p i=true) (O:∀i,hi<=i->i < n->p i=false) (mono:∀i j,i<=j->j < n->p j=true->p i=true)
  (P:∀x l h (R:ForInStep BS->BY->Prop),l<=h->h<=n->(l ≥ h->R (.done (none,l,h)) st)->(l < h->p (l+(h - l) / 2)=true->R (.yield (none,l+(h - l) / 2+1,h)) st)->(l < h->p (l+(h - l) / 2)=false->R (.yield (none,l,l+(h - l) / 2)) st) ->
   wpS (Ac prog w) A E s (F x (none,l,h)) R st)
  (S:∀l h,h<=n->(∀i,i < h->p i=true)->(∀i,h<=i->i < n->p i=false)->wpS (Ac prog w) A E s (T (none,l,h)) Q st):wpS (Ac prog w) A E s (forIn [0:n] (none,lo,hi) F >>= T) Q st:=by
 refine AQ (D6 (CZ (I:=λx c m=>m=st/\∃l h,c=(none,l,h)/\l<=h/\h<=n/\h - l<=n - x/\(∀i,i < l->p i=true)/\(∀i,h<=i->i < n->p i=false))
  (Q:=λc m=>m=st/\∃l h,c=(none,l,h)/\h<=n/\(∀i,i < h->p i=true)/\(∀i,h<=i->i < n->p i=false)) ?step ?fin ⟨rfl,lo,hi,rfl,H,J,by lia,N,O⟩) ?post)
 case fin=>
  rintro c m ⟨rfl,l,h,rfl,L,o,U,B,C⟩
  have:l=h:=by lia
  subst this;exact⟨rfl,l,l,rfl,o,B,C⟩
 case step=>
  rintro x c m _ hx ⟨rfl,l,h,rfl,L,o,U,B,C⟩
  refine P x l h _ L o (λvO=>?_) (λX G=>?_) λX G=>?_
  ·have:l=h:=by lia
   subst this;exact⟨rfl,l,l,rfl,o,B,C⟩
  ·exact⟨rfl,_,_,rfl,by lia,o,by omega,λi hi=>mono i (l+(h - l) / 2) (by lia) (by lia) G,C⟩
  ·refine⟨rfl,_,_,rfl,by lia,by lia,by omega,B,λi Y Z=>?_⟩
   cases e:p i with
   | false=>rfl
   | true=>rw[mono _ i Y Z e]at G;cases G
 case post=>
  rintro c m ⟨rfl,l,h,rfl,o,B,C⟩;exact S l h o B C
theorem aq{st:BY}{q:Nat->Bool}{n mx:Nat}{F:Nat->BS->StateT BY Sem (ForInStep BS)}{T:BS->StateT BY Sem (Option Nat)}{Q:Option Nat->BY->Prop}(P:mx<=n)(H:q 0=true)
  (J:∀x a b (R:ForInStep BS->BY->Prop),a < b->(b ≥ mx->R (.done (none,a,b)) st)->(b < mx->q b=false->R (.done (none,a,b)) st)->(b < mx->q b=true->R (.yield (none,b,2 * b+1)) st)->wpS (Ac prog w) A E s (F x (none,a,b)) R st)
  (L:∀a b,a < b->q a=true->(a=0∨a < mx)->(b < mx->q b=false)->wpS (Ac prog w) A E s (T (none,a,b)) Q st):wpS (Ac prog w) A E s (forIn [0:n] (none,0,1) F >>= T) Q st:=by
 refine AQ (D6 (CZ (I:=λx c l=>l=st/\∃a b,c=(none,a,b)/\a < b/\x+1<=b/\q a=true/\(a=0∨a < mx))
  (Q:=λc l=>l=st/\∃a b,c=(none,a,b)/\a < b/\q a=true/\(a=0∨a < mx)/\(b < mx->q b=false)) ?step ?fin ⟨rfl,0,1,rfl,by lia,by lia,H,.inl rfl⟩) ?post)
 case fin=>
  rintro c l ⟨rfl,a,b,rfl,m,N,o,B⟩;exact⟨rfl,a,b,rfl,m,o,B,λh=>by lia⟩
 case step=>
  rintro x c l _ S ⟨rfl,a,b,rfl,m,N,o,B⟩
  refine J x a b _ m (λU=>?_) (λG C=>?_) λG C=>?_
  ·exact⟨rfl,a,b,rfl,m,o,B,λh=>by lia⟩
  ·exact⟨rfl,a,b,rfl,m,o,B,λ_=>C⟩
  ·exact⟨rfl,b,2 * b+1,rfl,by lia,by lia,C,.inr G⟩
 case post=>
  rintro c l ⟨rfl,a,b,rfl,m,o,B,O⟩;exact L a b m o B O
theorem Fv{st:BY}{left:Bool}{key:BR}{arr:Array BR}{base n hint:Nat}{Q:Option Nat->BY->Prop}(C:LR prog w A s a₀ κ lt)(g:Good a₀ κ st)(p:Nat->Bool)
  (xM:key∈a₀) (ϩ:∀i,i < n->base+i < arr.size/\ix arr (base+i)∈a₀) (hp:∀i,i < n->p i=if left=true then lt (ix arr (base+i)) key else !lt key (ix arr (base+i)))
  (mono:∀i j,i<=j->j < n->p j=true->p i=true) (hh:hint < n)
  (h:∀k,k<=n->(∀i,i < k->p i=true)->(∀i,k<=i->i < n->p i=false)->Q (some k) st):wpS (Ac prog w) A E s (uL left key arr base n hint) Q st:=by
 have S:∀i,i < n->∀R:Option Bool->BY->Prop,R (some (p i)) st->wpS (Ac prog w) A E s (do let x <-elem' arr (base+i);if left=true then lt' x key else do let y <-lt' key x;pure (y.map (!·))) R st:=by
  intro i B R Y;obtain⟨P,I⟩:=ϩ i B;rw[i9,EA P];refine AQ (AT ?_);rw[hp i B]at Y
  cases left with
  | true=>exact Rx C g I xM Y
  | false=>exact AQ (Rx C g xM I (AT Y))
 refine(AQ ?_:wpS _ _ _ _ (uL left key arr base n hint) Q st);refine S hint hh _ ?_
 have fin:∀(lo B:Nat) {F:Nat->BS->StateT BY Sem (ForInStep BS)} {T:BS->StateT BY Sem (Option Nat)},lo<=B->B<=n->(∀i,i < lo->p i=true)->(∀i,B<=i->i < n->p i=false) ->
   (∀x l m (R:ForInStep BS->BY->Prop),l<=m->m<=n->(l ≥ m->R (.done (none,l,m)) st)->(l < m->p (l+(m - l) / 2)=true->R (.yield (none,l+(m - l) / 2+1,m)) st)->(l < m->p (l+(m - l) / 2)=false->R (.yield (none,l,l+(m - l) / 2)) st) ->
    wpS (Ac prog w) A E s (F x (none,l,m)) R st)->(∀l m,T (none,l,m)=pure (some m))->wpS (Ac prog w) A E s (forIn [0:n] (none,lo,B) F >>= T) Q st:=λlo B F T P I h3 h4 hF hT=>
  lz P I h3 h4 mono hF λl m q1 q2 q3=>by rw[hT];exact AT (h m q1 q2 q3)
 cases hq:p hint with
 | true=>
  dsimp only;rw[qX rfl]
  refine aq (q:=λi=>decide (hint+i < n)&&p (hint+i)) (mx:=n - hint) (by lia) (by simp[hq,hh]) (λx a b R Z J L N=>?_) λa b Z G ha hb=>?_
  ·dsimp only
   by_cases o:b ≥ n - hint
   ·rw[qX o];exact AT (J o)
   ·rw[qY o]
    refine AQ (S (hint+b) (by lia) _ ?_);have H:decide (hint+b < n)=true:=wX (by lia)
    cases e:p (hint+b)with
    | true=>exact AT (N (by lia) (by simp[H,e]))
    | false=>exact AT (L (by lia) (by simp[H,e]))
  ·dsimp only
   have X:p (hint+a)=true:=by simp at G;exact G.2
   have U:hint+a < n:=by simp at G;exact G.1
   refine fin (hint+a+1) (hint+min b (n - hint)) (by omega) (by omega) (λi B=>mono i (hint+a) (by lia) U X) (λi P I=>?_) (λx l m R l1 l2 J L N=>?_) λl m=>rfl
   ·by_cases O:b < n - hint
    ·have:=hb O
     have H:decide (hint+b < n)=true:=wX (by lia);rw[H,Wp]at this
     cases e:p i with
     | false=>rfl
     | true=>rw[mono (hint+b) i (by lia) I e]at this;cases this
    ·omega
   ·dsimp only
    by_cases o:l ≥ m
    ·rw[qX o];exact AT (J o)
    ·rw[qY o]
     refine AQ (S (l+(m - l) / 2) (by lia) _ ?_)
     cases e:p (l+(m - l) / 2)with
     | true=>exact AT (L (by lia) e)
     | false=>exact AT (N (by lia) e)
 | false=>
  dsimp only;rw[qY AH]
  refine aq (q:=λi=>decide (i<=hint)&&!p (hint - i)) (mx:=hint+1) (by lia) (by simp[hq]) (λx a b R Z J L N=>?_) λa b Z G ha hb=>?_
  ·dsimp only
   by_cases o:b ≥ hint+1
   ·rw[qX o];exact AT (J o)
   ·rw[qY o]
    refine AQ (S (hint - b) (by omega) _ ?_);have H:decide (b<=hint)=true:=wX (by lia)
    cases e:p (hint - b)with
    | true=>exact AT (L (by lia) (by simp[H,e]))
    | false=>exact AT (N (by lia) (by simp[H,e]))
  ·dsimp only
   have X:p (hint - a)=false:=by simp at G;exact G.2
   have U:a<=hint:=by simp at G;exact G.1
   refine fin (hint+1 - min b (hint+1)) (hint - a) (by omega) (by omega) (λi B=>?_) (λi P I=>?_) (λx l m R l1 l2 J L N=>?_) λl m=>rfl
   ·by_cases O:b < hint+1
    ·have:=hb O
     have H:decide (b<=hint)=true:=wX (by lia);rw[H,Wp]at this;exact mono i (hint - b) (by omega) (by lia) (by simpa using this)
    ·omega
   ·cases e:p i with
    | false=>rfl
    | true=>rw[mono (hint - a) i P I e]at X;cases X
   ·dsimp only
    by_cases o:l ≥ m
    ·rw[qX o];exact AT (J o)
    ·rw[qY o]
     refine AQ (S (l+(m - l) / 2) (by lia) _ ?_)
     cases e:p (l+(m - l) / 2)with
     | true=>exact AT (L (by lia) e)
     | false=>exact AT (N (by lia) e)
end
structure MI(R:BR->BR->Prop)(T o ra rb:List BR):Prop where
 perm:(o++(ra++rb)).Perm T
 srt:o.Pairwise R
 low:∀x∈o,∀y∈ra++rb,R x y
 sa:ra.Pairwise R
 sb:rb.Pairwise R
structure JR(R:BR->BR->Prop)(T r:List BR):Prop where
 perm:r.Perm T
 srt:r.Pairwise R
section
theorem MI.takeA(m:MI R T o (xs++B) rb)(h:∀x∈xs,∀y∈rb,R x y):MI R T (o++xs) B rb:=by
 have A:=BM.mp m.sa;refine⟨by simpa[Bu]using m.perm,BM.mpr ⟨m.srt,A.1,λx l y s=>m.low x l y (by simp[s])⟩,λx l y s=>?_,A.2.1,m.sb⟩
 rcases Ay.mp l with l | l
 ·exact m.low x l y (by rcases Ay.mp s with h | h <;> simp[h])
 ·rcases Ay.mp s with s | s
  ·exact A.2.2 x l y s
  ·exact h x l y s
theorem MI.takeB(m:MI R T o B (xs++rb))(h:∀x∈xs,∀y∈B,R x y):MI R T (o++xs) B rb:=by
 have A:=BM.mp m.sb;refine⟨?_,BM.mpr ⟨m.srt,A.1,λx l y s=>m.low x l y (by simp[s])⟩,λx l y s=>?_,m.sa,A.2.1⟩
 ·refine List.Perm.trans ?_ m.perm
  rw[Bu];refine Lc o ?_;rw[<-Bu,<-Bu];exact Tu rb YX
 ·rcases Ay.mp l with l | l
  ·exact m.low x l y (by rcases Ay.mp s with h | h <;> simp[h])
  ·rcases Ay.mp s with s | s
   ·exact h x l y s
   ·exact A.2.2 x l y s
theorem MI.endA(m:MI R T o l []):JR R T (o++l):=by
 refine⟨by simpa using m.perm,BM.mpr ⟨m.srt,m.sa,λx s y A=>m.low x s y (by simp[A])⟩⟩
theorem MI.endB(m:MI R T o [] l):JR R T (o++l):=by
 refine⟨by simpa using m.perm,BM.mpr ⟨m.srt,m.sb,λx s y A=>m.low x s y (by simp[A])⟩⟩
theorem MI.last(m:MI R T o l s)(h:∀y∈s,∀x∈l,R y x):JR R T (o++(s++l)):=by
 refine⟨(Lc o YX).trans m.perm,BM.mpr ⟨m.srt,BM.mpr ⟨m.sb,m.sa,h⟩,λx A y B=>m.low x A y (by rcases Ay.mp B with h | h <;> simp[h])⟩⟩
end
theorem Ri(h:i < a.size):a.toList.drop i=ix a i :: a.toList.drop (i+1):=by
 rw[Dd (by simpa using h)]
 congr 1
 have:=EA h;rw[getElem?_pos a i h]at this;simpa using this
theorem Jz{a:Array BR}{i k:Nat}(h:i+k<=a.size):a.toList.drop i=(a.extract i (i+k)).toList++a.toList.drop (i+k):=by
 have e:(a.extract i (i+k)).toList=(a.toList.drop i).take k:=by simp[Qg]
 rw[e,<-UV,Ib]
theorem Rb(h:i+k<=a.size)(l:x∈(a.extract i (i+k)).toList):∃j,j < k/\x=ix a (i+j):=by
 rw[BZ,RO]at l;obtain⟨j,m,rfl⟩:=l;refine⟨j,by lia,?_⟩;have:=EA (xs:=a) (i:=i+j) (by lia);rw[getElem?_pos a _ (by lia)]at this;simpa using this
theorem KU(a:Array BR)(i:Nat):(a.extract i a.size).toList=a.toList.drop i:=by
 simp[Qg];exact Co (by simp)
theorem G7(l:x∈a.toList.drop i):∃j,i<=j/\j < a.size/\x=ix a j:=by
 obtain⟨k,m,rfl⟩:=Zp.mp l;simp at m;refine⟨i+k,by lia,by omega,?_⟩;have:=EA (xs:=a) (i:=i+k) (by omega);rw[getElem?_pos a _ (by omega)]at this;simpa using this
section
variable{prog:Bs}{w:CQ}{A:Ce}{E:Value->AS->Prop}{s:AS}{a₀:Array BR}{κ:Pp}{lt:BR->BR->Bool}
theorem B1{st:BY}{a:Array BR}{i:Nat}{Q:BR->BY->Prop}(h:i < a.size)(l:Q (ix a i) st):wpS (Ac prog w) A E s (elem' a i) Q st:=by
 rw[i9,EA h];exact AT l
noncomputable def mLo:Array BR->Array BR->StateT BY Sem (Array BR):=sortPriv% PySem.Builtin.mergeLo
noncomputable def mHi:Array BR->Array BR->StateT BY Sem (Array BR):=sortPriv% PySem.Builtin.mergeHi
structure Mh(a₀:Array BR)(κ:Pp)(st st':BY):Prop where
 good:Good a₀ κ st'
 arr:AV st'=AV st
 pend:Ab st'=Ab st
theorem Mh.gal{st l:BY}(h:Mh a₀ κ st l)(n:Nat):Mh a₀ κ st (Dy (kindOf l) (AV l) (Ab l) n (Is l)):=⟨⟨h.good.perm,h.good.kind,h.good.failed⟩,h.arr,h.pend⟩
noncomputable abbrev Rl(lt:BR->BR->Bool)(x y:BR):Prop:=lt y x=false
theorem XG(O:Ord (·∈a₀) lt){a:Array BR}(ma:∀i,i < a.size->ix a i∈a₀)(m:a.toList.Pairwise (Rl lt)):∀i j,i<=j->j < a.size->Rl lt (ix a i) (ix a j):=λi j B l=>by
 by_cases e:i=j
 ·subst e;exact O.irr (ma i l)
 ·have o:=Ri (a:=a) (i:=i) (by lia)
  have:=m.sublist (List.drop_sublist i a.toList);rw[o]at this;refine(KC.mp this).1 _ ?_;rw[show a.toList.drop (i+1)=(a.extract (i+1) (i+1+(j - (i+1)))).toList++a.toList.drop (i+1+(j - (i+1)))from Jz (by lia),show i+1+(j - (i+1))=j by lia,Ri l];simp
theorem WE(ma:∀x∈a.toList,x∈a₀):∀i,i < a.size->ix a i∈a₀:=λi l=>ma _ (BZ.mpr (De (EA l)))
theorem RP{st:BY}{n:Nat}{Q:Unit->BY->Prop}(h:Q () (Dy (kindOf st) (AV st) (Ab st) n (Is st))):wpS (Ac prog w) A E s ((sortPriv% PySem.Builtin.setMinGallop) n) Q st:=EI h
noncomputable abbrev L7:=Option (Array BR)×Array BR×Nat×Nat×Nat×Nat×Nat
theorem jP{st:BY}{a b:Array BR}{Q:Array BR->BY->Prop}(C:LR prog w A s a₀ κ lt)(O:Ord (·∈a₀) lt)(g:Good a₀ κ st)
  (ma:∀x∈a.toList,x∈a₀) (mb:∀x∈b.toList,x∈a₀) (sa:a.toList.Pairwise (Rl lt)) (sb:b.toList.Pairwise (Rl lt)) (na:0 < a.size) (nb:0 < b.size)
  (h0:∀x∈a.toList,Rl lt (ix b 0) x) (h1:∀y∈b.toList,Rl lt y (ix a (a.size - 1)))
  (h:∀r B,Mh a₀ κ st B->JR (Rl lt) (a.toList++b.toList) r.toList->Q r B):wpS (Ac prog w) A E s (mLo a b) Q st:=by
 have N:=WE ma;have R:=WE mb;have ua:=XG O N sa;have ub:=XG O R sb
 have tr:∀x y z:BR,x∈a₀->y∈a₀->z∈a₀->Rl lt x y->Rl lt y z->Rl lt x z:=λx y z hx hy hz h1 h2=>O.ntr x y z hx hy hz h1 h2
 let M (out:Array BR) (o ib:Nat):Prop:=MI (Rl lt) (a.toList++b.toList) out.toList (a.toList.drop o) (b.toList.drop ib)
 have tA:∀out o ib,M out o ib->o < a.size->(∀j,ib<=j->j < b.size->Rl lt (ix a o) (ix b j))->M (out.push (ix a o)) (o+1) ib:=λout o ib m hia hr=>by
  have U:MI (Rl lt) (a.toList++b.toList) out.toList ([ix a o]++a.toList.drop (o+1)) (b.toList.drop ib):=by rw[Fm,<-Ri hia];exact m
  have:=U.takeA λx hx y hy=>by
   obtain⟨j,S,H,rfl⟩:=G7 hy;rw[Ad.mp hx];exact hr j S H
  simpa[M]using this
 have tB:∀out o ib,M out o ib->ib < b.size->(∀j,o<=j->j < a.size->Rl lt (ix b ib) (ix a j))->M (out.push (ix b ib)) o (ib+1):=λout o ib m hib hr=>by
  have U:MI (Rl lt) (a.toList++b.toList) out.toList (a.toList.drop o) ([ix b ib]++b.toList.drop (ib+1)):=by rw[Fm,<-Ri hib];exact m
  have:=U.takeB λx hx y hy=>by
   obtain⟨j,S,H,rfl⟩:=G7 hy;rw[Ad.mp hx];exact hr j S H
  simpa[M]using this
 have sA:∀out o ib k,M out o ib->o+k<=a.size->(∀i j,i < k->ib<=j->j < b.size->Rl lt (ix a (o+i)) (ix b j))->M (out++a.extract o (o+k)) (o+k) ib:=λout o ib k m hk hr=>by
  have U:MI (Rl lt) (a.toList++b.toList) out.toList ((a.extract o (o+k)).toList++a.toList.drop (o+k)) (b.toList.drop ib):=by rw[<-Jz hk];exact m
  have:=U.takeA λx hx y hy=>by
   obtain⟨j,S,H,rfl⟩:=G7 hy;obtain⟨i,i1,rfl⟩:=Rb hk hx;exact hr i j i1 S H
  show MI _ _ (out++a.extract o (o+k)).toList _ _;rw[BP];exact this
 have sB:∀out o ib k,M out o ib->ib+k<=b.size->(∀i j,i < k->o<=j->j < a.size->Rl lt (ix b (ib+i)) (ix a j))->M (out++b.extract ib (ib+k)) o (ib+k):=λout o ib k m hk hr=>by
  have U:MI (Rl lt) (a.toList++b.toList) out.toList (a.toList.drop o) ((b.extract ib (ib+k)).toList++b.toList.drop (ib+k)):=by rw[<-Jz hk];exact m
  have:=U.takeB λx hx y hy=>by
   obtain⟨j,S,H,rfl⟩:=G7 hy;obtain⟨i,i1,rfl⟩:=Rb hk hx;exact hr i j i1 S H
  show MI _ _ (out++b.extract ib (ib+k)).toList _ _;rw[BP];exact this
 have eB:∀out o ib,M out o ib->ib=b.size->JR (Rl lt) (a.toList++b.toList) (out++a.extract o a.size++b.extract ib b.size).toList:=λout o ib m e=>by
  subst e
  have U:MI (Rl lt) (a.toList++b.toList) out.toList (a.toList.drop o) []:=by
   have:b.toList.drop b.size=[]:=by simp
   rw[<-this];exact m
  rw[BP,BP,KU,KU,show b.toList.drop b.size=[] by simp,CB];exact U.endA
 have eA:∀out o ib,M out o ib->o=a.size->JR (Rl lt) (a.toList++b.toList) (out++a.extract o a.size++b.extract ib b.size).toList:=λout o ib m e=>by
  subst e
  have U:MI (Rl lt) (a.toList++b.toList) out.toList [] (b.toList.drop ib):=by
   have:a.toList.drop a.size=[]:=by simp
   rw[<-this];exact m
  rw[BP,BP,KU,KU,show a.toList.drop a.size=[] by simp,CB];exact U.endB
 have eL:∀out o ib,M out o ib->o+1=a.size->JR (Rl lt) (a.toList++b.toList) (out++b.extract ib b.size++a.extract o a.size).toList:=λout o ib m e=>by
  have:=m.last λy hy x hx=>by
   obtain⟨j,S,H,rfl⟩:=G7 hx;obtain⟨i,i1,i2,rfl⟩:=G7 hy
   have:j=a.size - 1:=by lia
   subst this;exact h1 _ (BZ.mpr (De (EA i2)))
  rw[BP,BP,KU,KU,Bu];exact this
 have m0:M #[] 0 0:=⟨by simp,by simp,by simp,by simpa using sa,by simpa using sb⟩
 have m1:M #[ix b 0] 0 1:=by
  have:=tB #[] 0 0 m0 nb λj _ hj=>h0 _ (BZ.mpr (De (EA hj)))
  simpa using this
 refine(AQ (LF ?_):wpS _ _ _ _ (mLo a b) Q st);refine AQ (B1 nb ?_)
 by_cases c1:1=b.size
 ·refine(show wpS (Ac prog w) A E s (if (1==b.size)=true then _ else _) Q st from ?_)
  rw[qX (by simpa using c1)];exact AT (h _ st ⟨g,rfl,rfl⟩ (eB _ _ _ m1 c1))
 refine(show wpS (Ac prog w) A E s (if (1==b.size)=true then _ else _) Q st from ?_);rw[qY (by simpa using c1)]
 by_cases c2:0+1=a.size
 ·rw[qX (by simpa using c2)]
  exact AT (h _ st ⟨g,rfl,rfl⟩ (eL _ _ _ m1 c2))
 rw[qY (by simpa using c2)];refine AQ (Ir ?_)
 refine AQ (D6 (CZ (I:=λx c B=>Mh a₀ κ st B/\∃out o ib mg,c=(none,out,o,ib,mg)/\M out o ib/\o+1 < a.size/\ib < b.size/\1+x<=o+ib)
  (Q:=λc B=>Mh a₀ κ st B/\∃r z,c=(some r,z)/\JR (Rl lt) (a.toList++b.toList) r.toList) ?step ?fin ?init) ?post)
 case init=>exact⟨⟨g,rfl,rfl⟩,_,_,_,_,rfl,m1,by lia,by lia,by lia⟩
 case fin=>
  rintro c B ⟨_,out,o,ib,mg,_,_,k1,k2,T⟩
  lia
 case post=>
  rintro c B ⟨s1,r,z,rfl,f⟩;exact AT (h r B s1 f)
 case step=>
  rintro x c vk _ _ ⟨s1,out,o,ib,mg,rfl,m,k1,k2,T⟩
  refine AQ (D6 (CZ (I:=λy c B=>B=vk/\∃vf G J Y Z,c=(none,vf,G,J,Y,Z)/\M vf G J/\G+1 < a.size/\J < b.size/\o+ib+y<=G+J)
   (Q:=λc B=>B=vk/\((∃r z,c=(some r,z)/\JR (Rl lt) (a.toList++b.toList) r.toList)∨∃vf G J Y Z,c=(none,vf,G,J,Y,Z)/\M vf G J/\G+1 < a.size/\J < b.size/\o+ib+1<=G+J)) ?step1 ?fin1 ?init1) ?post1)
  case init1=>exact⟨rfl,out,o,ib,0,0,rfl,m,k1,k2,by lia⟩
  case fin1=>
   rintro c B ⟨rfl,vf,G,J,Y,Z,rfl,U,q1,q2,q3⟩;exact⟨rfl,.inr ⟨vf,G,J,Y,Z,rfl,U,q1,q2,by lia⟩⟩
  case step1=>
   rintro y c B _ _ ⟨rfl,vf,G,J,Y,Z,rfl,U,q1,q2,q3⟩;refine AQ (B1 (i:=J) q2 ?_);refine AQ (B1 (i:=G) (show G < a.size by lia) ?_);refine AQ (Rx C s1.good (R _ q2) (N _ (by lia)) ?_)
   cases e:lt (ix b J) (ix a G)with
   | true=>
    refine AQ (B1 q2 ?_);have r0:Rl lt (ix b J) (ix a G):=O.asym _ _ (R _ q2) (N _ (by lia)) e
    have m2:=tB vf G J U q2 λj S H=>tr _ _ _ (R _ q2) (N _ (by lia)) (N _ H) r0 (ua G j S H)
    refine(show wpS (Ac prog w) A E s (if (J+1==b.size)=true then _ else _) _ B from ?_)
    by_cases d:J+1=b.size
    ·rw[qX (by simpa using d)]
     exact AT ⟨rfl,.inl ⟨_,_,rfl,eB _ _ _ m2 d⟩⟩
    ·rw[qY (by simpa using d)]
     split
     ·exact AT ⟨rfl,.inr ⟨_,G,J+1,_,_,rfl,m2,by omega,by lia,by lia⟩⟩
     ·exact AT ⟨rfl,_,G,J+1,_,_,rfl,m2,by omega,by lia,by lia⟩
   | false=>
    refine AQ (B1 (show G < a.size by lia) ?_)
    have m2:=tA vf G J U (by lia) λj S H=>tr _ _ _ (N _ (by lia)) (R _ q2) (R _ H) e (ub J j S H)
    refine(show wpS (Ac prog w) A E s (if (G+1+1==a.size)=true then _ else _) _ B from ?_)
    by_cases d:G+1+1=a.size
    ·rw[qX (by simpa using d)]
     exact AT ⟨rfl,.inl ⟨_,_,rfl,eL _ _ _ m2 d⟩⟩
    ·rw[qY (by simpa using d)]
     split
     ·exact AT ⟨rfl,.inr ⟨_,G+1,J,_,_,rfl,m2,by lia,by omega,by lia⟩⟩
     ·exact AT ⟨rfl,_,G+1,J,_,_,rfl,m2,by lia,by omega,by lia⟩
  case post1=>
   rintro c B ⟨rfl,⟨r,z,rfl,f⟩ | ⟨vf,G,J,Y,Z,rfl,U,q1,q2,q3⟩⟩
   ·exact AT ⟨s1,_,_,rfl,f⟩
   refine AQ (LF ?_)
   refine AQ (D6 (CZ (I:=λy c j'=>Mh a₀ κ st j'/\∃X l u5 vH Y Z,c=(none,X,l,u5,vH,Y,Z)/\M X l u5/\l+1 < a.size/\u5 < b.size/\o+ib+1<=l+u5)
    (Q:=λc j'=>Mh a₀ κ st j'/\((∃r z,c=(some r,z)/\JR (Rl lt) (a.toList++b.toList) r.toList)∨∃X l u5 vH Y Z,c=(none,X,l,u5,vH,Y,Z)/\M X l u5/\l+1 < a.size/\u5 < b.size/\o+ib+1<=l+u5)) ?step2 ?fin2 ?init2) ?post2)
   case init2=>exact⟨s1,vf,G,J,mg+1,Y,Z,rfl,U,q1,q2,q3⟩
   case fin2=>
    rintro c j' ⟨L,X,l,u5,vH,ac2,bc2,rfl,m2,p1,p2,p3⟩;exact⟨L,.inr ⟨X,l,u5,vH,ac2,bc2,rfl,m2,p1,p2,p3⟩⟩
   case post2=>
    rintro c j' ⟨L,⟨r,z,rfl,f⟩ | ⟨X,l,u5,vH,ac2,bc2,rfl,m2,p1,p2,p3⟩⟩
    ·exact AT ⟨L,_,_,rfl,f⟩
    ·exact AQ (RP (AT ⟨L.gal _,X,l,u5,vH+1,rfl,m2,p1,p2,by lia⟩))
   case step2=>
    rintro y c j' _ _ ⟨L,X,l,u5,vH,ac2,bc2,rfl,m2,p1,p2,p3⟩
    let P:ForInStep L7->BY->Prop:=λr B=>match r with
     | .done c'=>Mh a₀ κ st B/\((∃r z,c'=(some r,z)/\JR (Rl lt) (a.toList++b.toList) r.toList)∨∃X l u5 vH Y Z,c'=(none,X,l,u5,vH,Y,Z)/\M X l u5/\l+1 < a.size/\u5 < b.size/\o+ib+1<=l+u5)
     | .yield c'=>Mh a₀ κ st B/\∃X l u5 vH Y Z,c'=(none,X,l,u5,vH,Y,Z)/\M X l u5/\l+1 < a.size/\u5 < b.size/\o+ib+1<=l+u5
    refine D6 (Q:=P) ?_ λr B h=>by cases r <;> exact h
    refine(show wpS (Ac prog w) A E s (if vH > 1 then _ else _) P j' from ?_);split
    all_goals
     refine AQ (RP ?_);refine AQ (B1 (i:=u5) p2 ?_);refine AQ (Fv (base:=l) (n:=a.size - l) (hint:=0) (arr:=a) (key:=ix b u5) (left:=false) C (L.gal _).good (λi=>!lt (ix b u5) (ix a (l+i))) (R _ p2) (λi hi=>⟨by lia,N _ (by lia)⟩) (λi hi=>rfl) (λi j yD hj e=>?_) (by lia) λk hk k1 k2=>?_)
     ·have e':lt (ix b u5) (ix a (l+j))=false:=by simpa using e
      have:=tr _ _ _ (N _ (by lia)) (N _ (by lia)) (R _ p2) (ua (l+i) (l+j) (by lia) (by lia)) e';simpa using this
     ·have far:∀j,l+k<=j->j < a.size->Rl lt (ix b u5) (ix a j):=λj S H=>by
       have:=k2 (j - l) (by lia) (by lia);rw[show l+(j - l)=j by lia]at this;exact O.asym _ _ (R _ p2) (N _ H) (by simpa using this)
      have m5:=sA X l u5 k m2 (by lia) λi j hi S H=>tr _ _ _ (N _ (by lia)) (R _ p2) (R _ H) (by simpa using k1 i hi) (ub u5 j S H)
      refine(show wpS (Ac prog w) A E s (if k > 0 then _ else _) P _ from ?_)
      by_cases hk0:k > 0
      ·rw[qX hk0]
       refine(show wpS (Ac prog w) A E s (if (l+k+1==a.size)=true then _ else _) P _ from ?_)
       by_cases d1:l+k+1=a.size
       ·rw[qX (by simpa using d1)]
        exact AT ⟨L.gal _,.inl ⟨_,_,rfl,eL _ _ _ m5 d1⟩⟩
       rw[qY (by simpa using d1)]
       by_cases d2:l+k=a.size
       ·rw[qX (by simpa using d2)]
        exact AT ⟨L.gal _,.inl ⟨_,_,rfl,eA _ _ _ m5 d2⟩⟩
       rw[qY (by simpa using d2)]
       have c1:l+k+1 < a.size:=by lia
       have c3:o+ib+1<=l+k+u5:=by lia
       have m4:=tB _ _ _ m5 p2 far;refine AQ (B1 (i:=u5) p2 ?_);refine(show wpS (Ac prog w) A E s (if (u5+1==b.size)=true then _ else _) P _ from ?_)
       by_cases d:u5+1=b.size
       ·rw[qX (by simpa using d)]
        exact AT ⟨L.gal _,.inl ⟨_,_,rfl,eB _ _ _ m4 d⟩⟩
       rw[qY (by simpa using d)];refine AQ (B1 (i:=l+k) (by lia) ?_);refine AQ (Fv (base:=u5+1) (n:=b.size - (u5+1)) (hint:=0) (arr:=b) (key:=ix a (l+k)) (left:=true) C (L.gal _).good (λi=>lt (ix b (u5+1+i)) (ix a (l+k))) (N _ (by lia)) (λi hi=>⟨by lia,R _ (by lia)⟩) (λi hi=>rfl) (λi j yD hj e=>?_) (by lia) λT wM k4 k5=>?_)
       ·cases e2:lt (ix b (u5+1+i)) (ix a (l+k))with
        | true=>rfl
        | false=>
         have:=tr _ _ _ (N _ (by lia)) (R _ (by lia)) (R _ (by lia)) e2 (ub (u5+1+i) (u5+1+j) (by lia) (by lia));exact nomatch (show true=false from(show lt (ix b (u5+1+j)) (ix a (l+k))=true from e).symm.trans this)
       ·have xh:∀j,u5+1+T<=j->j < b.size->Rl lt (ix a (l+k)) (ix b j):=λj S H=>by
         have:=k5 (j - (u5+1)) (by lia) (by omega);rwa [show u5+1+(j - (u5+1))=j by lia]at this
        have m6:=sB _ (l+k) (u5+1) T m4 (by lia) λi j hi S H=>tr _ _ _ (R _ (by lia)) (N _ (by lia)) (N _ H) (O.asym _ _ (R _ (by lia)) (N _ (by lia)) (k4 i hi)) (ua (l+k) j S H)
        refine(show wpS (Ac prog w) A E s (if T > 0 then _ else _) P _ from ?_)
        by_cases wM:T > 0
        ·rw[qX wM]
         refine(show wpS (Ac prog w) A E s (if (u5+1+T==b.size)=true then _ else _) P _ from ?_)
         by_cases d2:u5+1+T=b.size
         ·rw[qX (by simpa using d2)]
          exact AT ⟨L.gal _,.inl ⟨_,_,rfl,eB _ _ _ m6 d2⟩⟩
         rw[qY (by simpa using d2)];have m7:=tA _ _ _ m6 (by lia) xh;refine AQ (B1 (i:=l+k) (by lia) ?_);refine(show wpS (Ac prog w) A E s (if (l+k+1+1==a.size)=true then _ else _) P _ from ?_)
         by_cases d3:l+k+1+1=a.size
         ·rw[qX (by simpa using d3)]
          exact AT ⟨L.gal _,.inl ⟨_,_,rfl,eL _ _ _ m7 d3⟩⟩
         rw[qY (by simpa using d3)];split
         ·exact AT ⟨L.gal _,.inr ⟨_,l+k+1,u5+1+T,_,_,_,rfl,m7,by lia,by lia,by lia⟩⟩
         ·exact AT ⟨L.gal _,_,l+k+1,u5+1+T,_,_,_,rfl,m7,by lia,by lia,by lia⟩
        ·rw[qY wM]
         have:T=0:=by lia
         subst this;have m7:=tA _ _ _ m4 (by lia) xh;refine AQ (B1 (i:=l+k) (by lia) ?_);refine(show wpS (Ac prog w) A E s (if (l+k+1+1==a.size)=true then _ else _) P _ from ?_)
         by_cases d3:l+k+1+1=a.size
         ·rw[qX (by simpa using d3)]
          exact AT ⟨L.gal _,.inl ⟨_,_,rfl,eL _ _ _ m7 d3⟩⟩
         rw[qY (by simpa using d3)];split
         ·exact AT ⟨L.gal _,.inr ⟨_,l+k+1,u5+1,_,_,_,rfl,m7,by lia,by lia,by lia⟩⟩
         ·exact AT ⟨L.gal _,_,l+k+1,u5+1,_,_,_,rfl,m7,by lia,by lia,by lia⟩
      ·rw[qY hk0]
       have:k=0:=by lia
       subst this
       have c1:l+1 < a.size:=by omega
       have c3:o+ib+1<=l+u5:=by omega
       have m4:=tB _ _ _ m2 p2 far;refine AQ (B1 (i:=u5) p2 ?_);refine(show wpS (Ac prog w) A E s (if (u5+1==b.size)=true then _ else _) P _ from ?_)
       by_cases d:u5+1=b.size
       ·rw[qX (by simpa using d)]
        exact AT ⟨L.gal _,.inl ⟨_,_,rfl,eB _ _ _ m4 d⟩⟩
       rw[qY (by simpa using d)];refine AQ (B1 (i:=l) (by lia) ?_);refine AQ (Fv (base:=u5+1) (n:=b.size - (u5+1)) (hint:=0) (arr:=b) (key:=ix a l) (left:=true) C (L.gal _).good (λi=>lt (ix b (u5+1+i)) (ix a l)) (N _ (by lia)) (λi hi=>⟨by lia,R _ (by lia)⟩) (λi hi=>rfl) (λi j yD hj e=>?_) (by lia) λT wM k4 k5=>?_)
       ·cases e2:lt (ix b (u5+1+i)) (ix a l)with
        | true=>rfl
        | false=>
         have:=tr _ _ _ (N _ (by lia)) (R _ (by lia)) (R _ (by lia)) e2 (ub (u5+1+i) (u5+1+j) (by lia) (by lia));exact nomatch (show true=false from(show lt (ix b (u5+1+j)) (ix a l)=true from e).symm.trans this)
       ·have xh:∀j,u5+1+T<=j->j < b.size->Rl lt (ix a l) (ix b j):=λj S H=>by
         have:=k5 (j - (u5+1)) (by lia) (by omega);rwa [show u5+1+(j - (u5+1))=j by lia]at this
        have m6:=sB _ l (u5+1) T m4 (by lia) λi j hi S H=>tr _ _ _ (R _ (by lia)) (N _ (by lia)) (N _ H) (O.asym _ _ (R _ (by lia)) (N _ (by lia)) (k4 i hi)) (ua l j S H)
        refine(show wpS (Ac prog w) A E s (if T > 0 then _ else _) P _ from ?_)
        by_cases wM:T > 0
        ·rw[qX wM]
         refine(show wpS (Ac prog w) A E s (if (u5+1+T==b.size)=true then _ else _) P _ from ?_)
         by_cases d2:u5+1+T=b.size
         ·rw[qX (by simpa using d2)]
          exact AT ⟨L.gal _,.inl ⟨_,_,rfl,eB _ _ _ m6 d2⟩⟩
         rw[qY (by simpa using d2)];have m7:=tA _ _ _ m6 (by lia) xh;refine AQ (B1 (i:=l) (by lia) ?_);refine(show wpS (Ac prog w) A E s (if (l+1+1==a.size)=true then _ else _) P _ from ?_)
         by_cases d3:l+1+1=a.size
         ·rw[qX (by simpa using d3)]
          exact AT ⟨L.gal _,.inl ⟨_,_,rfl,eL _ _ _ m7 d3⟩⟩
         rw[qY (by simpa using d3)];split
         ·exact AT ⟨L.gal _,.inr ⟨_,l+1,u5+1+T,_,_,_,rfl,m7,by lia,by lia,by lia⟩⟩
         ·exact AT ⟨L.gal _,_,l+1,u5+1+T,_,_,_,rfl,m7,by lia,by lia,by lia⟩
        ·rw[qY wM]
         have:T=0:=by lia
         subst this;have m7:=tA _ _ _ m4 (by lia) xh;refine AQ (B1 (i:=l) (by lia) ?_);refine(show wpS (Ac prog w) A E s (if (l+1+1==a.size)=true then _ else _) P _ from ?_)
         by_cases d3:l+1+1=a.size
         ·rw[qX (by simpa using d3)]
          exact AT ⟨L.gal _,.inl ⟨_,_,rfl,eL _ _ _ m7 d3⟩⟩
         rw[qY (by simpa using d3)];split
         ·exact AT ⟨L.gal _,.inr ⟨_,l+1,u5+1,_,_,_,rfl,m7,by lia,by lia,by lia⟩⟩
         ·exact AT ⟨L.gal _,_,l+1,u5+1,_,_,_,rfl,m7,by lia,by lia,by lia⟩
end
theorem MI.last2(m:MI R T o l s)(h:∀x∈l,∀y∈s,R x y):JR R T (o++(l++s)):=by
 refine⟨m.perm,BM.mpr ⟨m.srt,BM.mpr ⟨m.sa,m.sb,h⟩,λx A y B=>m.low x A y B⟩⟩
theorem JR.rev(f:JR (λx y=>Rl lt y x) T r):JR (Rl lt) T r.reverse:=⟨r.reverse_perm.trans f.perm,Ic.mpr f.srt⟩
theorem Z5(h:i < a.size):(a.toList.take (i+1)).reverse=ix a i :: (a.toList.take i).reverse:=by
 have:=EA h;rw[getElem?_pos a i h]at this;rw[Ft,show a.toList[i]?=some (ix a i) by simpa using EA h];simp
theorem XI{a:Array BR}{i n:Nat}(h:i<=n)(l:n<=a.size):(a.toList.take n).reverse=(a.extract i n).toList.reverse++(a.toList.take i).reverse:=by
 have e:(a.extract i n).toList=(a.toList.take n).drop i:=by simp[Qg,List.drop_take]
 rw[e,<-List.reverse_append]
 congr 1
 have:=Ib i (a.toList.take n);rw[List.take_take,show min i n=i by lia]at this;exact this.symm
theorem G6(l:x∈(a.toList.take n).reverse):∃j,j < n/\j < a.size/\x=ix a j:=by
 rw[iq]at l;obtain⟨k,m,rfl⟩:=Zp.mp l;simp at m;refine⟨k,by lia,by lia,?_⟩;have:=EA (xs:=a) (i:=k) (by lia);rw[getElem?_pos a _ (by lia)]at this;simpa using this
theorem Xp(l:x∈(a.extract i n).toList.reverse):∃j,i<=j/\j < n/\j < a.size/\x=ix a j:=by
 rw[iq,BZ,RO]at l;obtain⟨j,m,rfl⟩:=l;refine⟨i+j,by lia,by omega,by omega,?_⟩;have:=EA (xs:=a) (i:=i+j) (by omega);rw[getElem?_pos a _ (by omega)]at this;simpa using this
theorem JZ(a:Array BR)(n:Nat):(a.extract 0 n).toList=a.toList.take n:=by simp[Qg]
section
theorem jQ{st:BY}{a b:Array BR}{Q:Array BR->BY->Prop}(C:LR prog w A s a₀ κ lt)(O:Ord (·∈a₀) lt)(g:Good a₀ κ st)
  (ma:∀x∈a.toList,x∈a₀) (mb:∀x∈b.toList,x∈a₀) (sa:a.toList.Pairwise (Rl lt)) (sb:b.toList.Pairwise (Rl lt)) (pa:0 < a.size) (pb:0 < b.size)
  (h0:∀x∈a.toList,Rl lt (ix b 0) x) (h1:∀y∈b.toList,Rl lt y (ix a (a.size - 1)))
  (h:∀r B,Mh a₀ κ st B->JR (Rl lt) (a.toList++b.toList) r.toList->Q r B):wpS (Ac prog w) A E s (mHi a b) Q st:=by
 have N:=WE ma;have R:=WE mb;have ua:=XG O N sa;have ub:=XG O R sb
 have tr:∀x y z:BR,x∈a₀->y∈a₀->z∈a₀->Rl lt x y->Rl lt y z->Rl lt x z:=λx y z hx hy hz h1 h2=>O.ntr x y z hx hy hz h1 h2
 let M (out:Array BR) (l nb:Nat):Prop:=MI (λx y=>Rl lt y x) (a.toList++b.toList) out.toList (a.toList.take l).reverse (b.toList.take nb).reverse
 have tA0:∀out l nb,M out (l+1) nb->l < a.size->nb<=b.size->(∀j,j < nb->Rl lt (ix b j) (ix a l))->M (out.push (ix a l)) l nb:=λout l nb m xT xU hr=>by
  have T:MI (λx y=>Rl lt y x) (a.toList++b.toList) out.toList ([ix a l]++(a.toList.take l).reverse) (b.toList.take nb).reverse:=by rw[Fm,<-Z5 xT];exact m
  have:=T.takeA λx hx y hy=>by
   obtain⟨j,S,j2,rfl⟩:=G6 hy;rw[Ad.mp hx];exact hr j S
  simpa[M]using this
 have tB0:∀out l nb,M out l (nb+1)->nb < b.size->l<=a.size->(∀j,j < l->Rl lt (ix a j) (ix b nb))->M (out.push (ix b nb)) l nb:=λout l nb m xU xT hr=>by
  have T:MI (λx y=>Rl lt y x) (a.toList++b.toList) out.toList (a.toList.take l).reverse ([ix b nb]++(b.toList.take nb).reverse):=by rw[Fm,<-Z5 xU];exact m
  have:=T.takeB λx hx y hy=>by
   obtain⟨j,S,j2,rfl⟩:=G6 hy;rw[Ad.mp hx];exact hr j S
  simpa[M]using this
 have tA:∀out l nb,M out l nb->0 < l->l<=a.size->nb<=b.size->(∀j,j < nb->Rl lt (ix b j) (ix a (l - 1)))->M (out.push (ix a (l - 1))) (l - 1) nb:=λout l nb m h0 xT xU hr=>
  tA0 out (l - 1) nb (by rw[show l - 1+1=l by lia];exact m) (by omega) xU hr
 have tB:∀out l nb,M out l nb->0 < nb->nb<=b.size->l<=a.size->(∀j,j < l->Rl lt (ix a j) (ix b (nb - 1)))->M (out.push (ix b (nb - 1))) l (nb - 1):=λout l nb m h0 xU xT hr=>
  tB0 out l (nb - 1) (by rw[show nb - 1+1=nb by lia];exact m) (by omega) xT hr
 have sA:∀out l nb k,M out l nb->k<=l->l<=a.size->nb<=b.size->(∀i j,k<=i->i < l->j < nb->Rl lt (ix b j) (ix a i))->M (out++(a.extract k l).reverse) k nb:=λout l nb k m hk xT xU hr=>by
  have T:MI (λx y=>Rl lt y x) (a.toList++b.toList) out.toList ((a.extract k l).toList.reverse++(a.toList.take k).reverse) (b.toList.take nb).reverse:=by rw[<-XI hk xT];exact m
  have:=T.takeA λx hx y hy=>by
   obtain⟨j,S,j2,rfl⟩:=G6 hy;obtain⟨i,i1,i2,i3,rfl⟩:=Xp hx;exact hr i j i1 i2 S
  show MI _ _ (out++(a.extract k l).reverse).toList _ _;rw[BP,DF];exact this
 have sB:∀out l nb k,M out l nb->k<=nb->nb<=b.size->l<=a.size->(∀i j,k<=i->i < nb->j < l->Rl lt (ix a j) (ix b i))->M (out++(b.extract k nb).reverse) l k:=λout l nb k m hk xU xT hr=>by
  have T:MI (λx y=>Rl lt y x) (a.toList++b.toList) out.toList (a.toList.take l).reverse ((b.extract k nb).toList.reverse++(b.toList.take k).reverse):=by rw[<-XI hk xU];exact m
  have:=T.takeB λx hx y hy=>by
   obtain⟨j,S,j2,rfl⟩:=G6 hy;obtain⟨i,i1,i2,i3,rfl⟩:=Xp hx;exact hr i j i1 i2 S
  show MI _ _ (out++(b.extract k nb).reverse).toList _ _;rw[BP,DF];exact this
 have eA:∀out l nb,M out l nb->l=0->JR (Rl lt) (a.toList++b.toList) (a.extract 0 l++b.extract 0 nb++out.reverse).toList:=λout l nb m e=>by
  subst e
  have T:MI (λx y=>Rl lt y x) (a.toList++b.toList) out.toList [] (b.toList.take nb).reverse:=by simpa[M]using m
  have:=T.endB.rev;rw[BP,BP,JZ,JZ,DF];simpa using this
 have eB:∀out l nb,M out l nb->nb=0->JR (Rl lt) (a.toList++b.toList) (a.extract 0 l++b.extract 0 nb++out.reverse).toList:=λout l nb m e=>by
  subst e
  have T:MI (λx y=>Rl lt y x) (a.toList++b.toList) out.toList (a.toList.take l).reverse []:=by simpa[M]using m
  have:=T.endA.rev;rw[BP,BP,JZ,JZ,DF];simpa using this
 have eF:∀out l nb,M out l nb->nb=1->JR (Rl lt) (a.toList++b.toList) (b.extract 0 nb++a.extract 0 l++out.reverse).toList:=λout l nb m e=>by
  have:=m.last2 λx hx y hy=>by
   obtain⟨j,S,j2,rfl⟩:=G6 hx;obtain⟨i,i1,i2,rfl⟩:=G6 hy
   have:i=0:=by lia
   subst this;exact h0 _ (BZ.mpr (De (EA j2)))
  have:=this.rev;rw[BP,BP,JZ,JZ,DF];simpa using this
 have m0:M #[] a.size b.size:=by
  refine⟨?_,by simp,by simp,?_,?_⟩
  ·rw[Co (by simp),Co (by simp)]
   simpa using List.Perm.append a.toList.reverse_perm b.toList.reverse_perm
  ·rw[Co (by simp)];exact Ic.mpr sa
  ·rw[Co (by simp)];exact Ic.mpr sb
 have m1:M #[ix a (a.size - 1)] (a.size - 1) b.size:=by
  have:=tA #[] a.size b.size m0 pa (AJ _) (AJ _) λj hj=>h1 _ (BZ.mpr (De (EA hj)))
  simpa using this
 refine(AQ (LF ?_):wpS _ _ _ _ (mHi a b) Q st);refine AQ (B1 (i:=a.size - 1) (by omega) ?_)
 by_cases c1:a.size - 1=0
 ·refine(show wpS (Ac prog w) A E s (if (a.size - 1==0)=true then _ else _) Q st from ?_)
  rw[qX (by simpa using c1)];exact AT (h _ st ⟨g,rfl,rfl⟩ (eA _ _ _ m1 c1))
 refine(show wpS (Ac prog w) A E s (if (a.size - 1==0)=true then _ else _) Q st from ?_);rw[qY (by simpa using c1)]
 by_cases c2:b.size=1
 ·rw[qX (by simpa using c2)]
  exact AT (h _ st ⟨g,rfl,rfl⟩ (eF _ _ _ m1 c2))
 rw[qY (by simpa using c2)];refine AQ (Ir ?_)
 refine AQ (D6 (CZ (I:=λx c B=>Mh a₀ κ st B/\∃out l nb mg,c=(none,l,nb,out,mg)/\M out l nb/\0 < l/\1 < nb/\l<=a.size/\nb<=b.size/\l+nb+1+x<=a.size+b.size)
  (Q:=λc B=>Mh a₀ κ st B/\∃r z,c=(some r,z)/\JR (Rl lt) (a.toList++b.toList) r.toList) ?step ?fin ?init) ?post)
 case init=>exact⟨⟨g,rfl,rfl⟩,_,a.size - 1,b.size,_,rfl,m1,by lia,by lia,by omega,by lia,by lia⟩
 case fin=>
  rintro c B ⟨_,out,l,nb,mg,_,_,k1,k2,L,k4,k5⟩
  lia
 case post=>
  rintro c B ⟨s1,r,z,rfl,f⟩;exact AT (h r B s1 f)
 case step=>
  rintro x c vk _ _ ⟨s1,out,l,nb,mg,rfl,m,k1,k2,L,k4,k5⟩
  refine AQ (D6 (CZ (I:=λy c B=>B=vk/\∃vf G H X Y,c=(none,G,H,vf,X,Y)/\M vf G H/\0 < G/\1 < H/\G<=a.size/\H<=b.size/\G+H+y<=l+nb)
   (Q:=λc B=>B=vk/\((∃r z,c=(some r,z)/\JR (Rl lt) (a.toList++b.toList) r.toList)∨∃vf G H X Y,c=(none,G,H,vf,X,Y)/\M vf G H/\0 < G/\1 < H/\G<=a.size/\H<=b.size/\G+H+1<=l+nb)) ?step1 ?fin1 ?init1) ?post1)
  case init1=>exact⟨rfl,out,l,nb,0,0,rfl,m,k1,k2,L,k4,by lia⟩
  case fin1=>
   rintro c B ⟨rfl,vf,G,H,X,Y,rfl,T,q1,q2,q3,q4,q5⟩;exact⟨rfl,.inr ⟨vf,G,H,X,Y,rfl,T,q1,q2,q3,q4,by lia⟩⟩
  case step1=>
   rintro y c B _ _ ⟨rfl,vf,G,H,X,Y,rfl,T,q1,q2,q3,q4,q5⟩;refine AQ (B1 (i:=H - 1) (by lia) ?_);refine AQ (B1 (i:=G - 1) (by lia) ?_);refine AQ (Rx C s1.good (R _ (by lia)) (N _ (by lia)) ?_)
   cases e:lt (ix b (H - 1)) (ix a (G - 1))with
   | true=>
    refine AQ (B1 (i:=G - 1) (by lia) ?_);have r0:Rl lt (ix b (H - 1)) (ix a (G - 1)):=O.asym _ _ (R _ (by lia)) (N _ (by lia)) e
    have m2:=tA vf G H T q1 q3 q4 λj S=>tr _ _ _ (R _ (by lia)) (R _ (by lia)) (N _ (by lia)) (ub j (H - 1) (by lia) (by lia)) r0
    refine(show wpS (Ac prog w) A E s (if (G - 1==0)=true then _ else _) _ B from ?_)
    by_cases d:G - 1=0
    ·rw[qX (by simpa using d)]
     exact AT ⟨rfl,.inl ⟨_,_,rfl,eA _ _ _ m2 d⟩⟩
    ·rw[qY (by simpa using d)]
     split
     ·exact AT ⟨rfl,.inr ⟨_,G - 1,H,_,_,rfl,m2,by lia,by omega,by lia,by omega,by lia⟩⟩
     ·exact AT ⟨rfl,_,G - 1,H,_,_,rfl,m2,by lia,by omega,by lia,by omega,by lia⟩
   | false=>
    refine AQ (B1 (i:=H - 1) (by lia) ?_)
    have m2:=tB vf G H T (by lia) q4 q3 λj S=>tr _ _ _ (N _ (by lia)) (N _ (by lia)) (R _ (by lia)) (ua j (G - 1) (by lia) (by lia)) e
    refine(show wpS (Ac prog w) A E s (if (H - 1==1)=true then _ else _) _ B from ?_)
    by_cases d:H - 1=1
    ·rw[qX (by simpa using d)]
     exact AT ⟨rfl,.inl ⟨_,_,rfl,eF _ _ _ m2 d⟩⟩
    ·rw[qY (by simpa using d)]
     split
     ·exact AT ⟨rfl,.inr ⟨_,G,H - 1,_,_,rfl,m2,by omega,by lia,by omega,by lia,by lia⟩⟩
     ·exact AT ⟨rfl,_,G,H - 1,_,_,rfl,m2,by omega,by lia,by omega,by lia,by lia⟩
  case post1=>
   rintro c B ⟨rfl,⟨r,z,rfl,f⟩ | ⟨vf,G,H,X,Y,rfl,T,q1,q2,q3,q4,q5⟩⟩
   ·exact AT ⟨s1,_,_,rfl,f⟩
   refine AQ (LF ?_)
   refine AQ (D6 (CZ (I:=λy c j'=>Mh a₀ κ st j'/\∃U vz o vH X Y,c=(none,vz,o,U,vH,X,Y)/\M U vz o/\0 < vz/\1 < o/\vz<=a.size/\o<=b.size/\vz+o+1<=l+nb)
    (Q:=λc j'=>Mh a₀ κ st j'/\((∃r z,c=(some r,z)/\JR (Rl lt) (a.toList++b.toList) r.toList)∨∃U vz o vH X Y,c=(none,vz,o,U,vH,X,Y)/\M U vz o/\0 < vz/\1 < o/\vz<=a.size/\o<=b.size/\vz+o+1<=l+nb)) ?step2 ?fin2 ?init2) ?post2)
   case init2=>exact⟨s1,vf,G,H,mg+1,X,Y,rfl,T,q1,q2,q3,q4,q5⟩
   case fin2=>
    rintro c j' ⟨J,U,vz,o,vH,ac2,bc2,rfl,m2,p1⟩;exact⟨J,.inr ⟨U,vz,o,vH,ac2,bc2,rfl,m2,p1⟩⟩
   case post2=>
    rintro c j' ⟨J,⟨r,z,rfl,f⟩ | ⟨U,vz,o,vH,ac2,bc2,rfl,m2,p1,p2,p3,p4,p5⟩⟩
    ·exact AT ⟨J,_,_,rfl,f⟩
    ·exact AQ (RP (AT ⟨J.gal _,U,vz,o,vH+1,rfl,m2,p1,p2,p3,p4,by lia⟩))
   case step2=>
    rintro y c j' _ _ ⟨J,U,vz,o,vH,ac2,bc2,rfl,m2,p1,p2,p3,p4,p5⟩
    let P:ForInStep (Option (Array BR)×Nat×Nat×Array BR×Nat×Nat×Nat)->BY->Prop:=λr B=>match r with
     | .done c'=>Mh a₀ κ st B/\((∃r z,c'=(some r,z)/\JR (Rl lt) (a.toList++b.toList) r.toList)∨∃U vz o vH X Y,c'=(none,vz,o,U,vH,X,Y)/\M U vz o/\0 < vz/\1 < o/\vz<=a.size/\o<=b.size/\vz+o+1<=l+nb)
     | .yield c'=>Mh a₀ κ st B/\∃U vz o vH X Y,c'=(none,vz,o,U,vH,X,Y)/\M U vz o/\0 < vz/\1 < o/\vz<=a.size/\o<=b.size/\vz+o+1<=l+nb
    refine D6 (Q:=P) ?_ λr B h=>by cases r <;> exact h
    refine(show wpS (Ac prog w) A E s (if vH > 1 then _ else _) P j' from ?_);split
    all_goals
     refine AQ (RP ?_);refine AQ (B1 (i:=o - 1) (by lia) ?_);refine AQ (Fv (base:=0) (n:=vz) (hint:=vz - 1) (arr:=a) (key:=ix b (o - 1)) (left:=false) C (J.gal _).good (λi=>!lt (ix b (o - 1)) (ix a (0+i))) (R _ (by lia)) (λi hi=>⟨by lia,N _ (by lia)⟩) (λi hi=>rfl) (λi j yD hj e=>?_) (by lia) λk hk k1 k2=>?_)
     ·have e':lt (ix b (o - 1)) (ix a (0+j))=false:=by simpa using e
      have:=tr _ _ _ (N _ (by lia)) (N _ (by lia)) (R _ (by lia)) (ua (0+i) (0+j) (by lia) (by lia)) e';simpa using this
     ·have near:∀j,j < k->Rl lt (ix a j) (ix b (o - 1)):=λj S=>by
       have:=k1 j S;rw[IB]at this;simpa using this
      have m5:=sA U vz o k m2 hk p3 p4 λi j i1 i2 S=>by
       have:=k2 i i1 i2;rw[IB]at this;exact tr _ _ _ (R _ (by lia)) (R _ (by lia)) (N _ (by lia)) (ub j (o - 1) (by lia) (by lia)) (O.asym _ _ (R _ (by lia)) (N _ (by lia)) (by simpa using this))
      refine(show wpS (Ac prog w) A E s (if vz - k > 0 then _ else _) P _ from ?_)
      by_cases hk0:vz - k > 0
      ·rw[qX hk0]
       refine(show wpS (Ac prog w) A E s (if (k==0)=true then _ else _) P _ from ?_)
       by_cases d1:k=0
       ·rw[qX (by simpa using d1)]
        exact AT ⟨J.gal _,.inl ⟨_,_,rfl,eA _ _ _ m5 d1⟩⟩
       rw[qY (by simpa using d1)];have m4:=tB _ _ _ m5 (by lia) p4 (by lia) near;refine AQ (B1 (i:=o - 1) (by lia) ?_);refine(show wpS (Ac prog w) A E s (if (o - 1==1)=true then _ else _) P _ from ?_)
       by_cases d:o - 1=1
       ·rw[qX (by simpa using d)]
        exact AT ⟨J.gal _,.inl ⟨_,_,rfl,eF _ _ _ m4 d⟩⟩
       rw[qY (by simpa using d)];refine AQ (B1 (i:=k - 1) (by omega) ?_);refine AQ (Fv (base:=0) (n:=o - 1) (hint:=o - 1 - 1) (arr:=b) (key:=ix a (k - 1)) (left:=true) C (J.gal _).good (λi=>lt (ix b (0+i)) (ix a (k - 1))) (N _ (by omega)) (λi hi=>⟨by lia,R _ (by lia)⟩) (λi hi=>rfl) (λi j yD hj e=>?_) (by lia) λL wM k4 k5=>?_)
       ·cases e2:lt (ix b (0+i)) (ix a (k - 1))with
        | true=>rfl
        | false=>
         have:=tr _ _ _ (N _ (by lia)) (R _ (by lia)) (R _ (by lia)) e2 (ub (0+i) (0+j) (by lia) (by lia));exact nomatch (show true=false from(show lt (ix b (0+j)) (ix a (k - 1))=true from e).symm.trans this)
       ·have wa:∀j,j < L->Rl lt (ix b j) (ix a (k - 1)):=λj S=>by
         have:=k4 j S;rw[IB]at this;exact O.asym _ _ (R _ (by lia)) (N _ (by omega)) this
        have m6:=sB _ k (o - 1) L m4 wM (by lia) (by lia) λi j i1 i2 S=>by
         have:=k5 i i1 i2;rw[IB]at this;exact tr _ _ _ (N _ (by lia)) (N _ (by lia)) (R _ (by lia)) (ua j (k - 1) (by lia) (by lia)) this
        refine(show wpS (Ac prog w) A E s (if o - 1 - L > 0 then _ else _) P _ from ?_)
        by_cases hk4:o - 1 - L > 0
        ·rw[qX hk4]
         refine(show wpS (Ac prog w) A E s (if (L==1)=true then _ else _) P _ from ?_)
         by_cases d2:L=1
         ·rw[qX (by simpa using d2)]
          exact AT ⟨J.gal _,.inl ⟨_,_,rfl,eF _ _ _ m6 d2⟩⟩
         rw[qY (by simpa using d2)]
         by_cases d4:L=0
         ·rw[qX (by simpa using d4)]
          exact AT ⟨J.gal _,.inl ⟨_,_,rfl,eB _ _ _ m6 d4⟩⟩
         rw[qY (by simpa using d4)];have Z:=tA _ _ _ m6 (by lia) (by lia) (by lia) wa;refine AQ (B1 (i:=k - 1) (by lia) ?_);refine(show wpS (Ac prog w) A E s (if (k - 1==0)=true then _ else _) P _ from ?_)
         by_cases d3:k - 1=0
         ·rw[qX (by simpa using d3)]
          exact AT ⟨J.gal _,.inl ⟨_,_,rfl,eA _ _ _ Z d3⟩⟩
         rw[qY (by simpa using d3)];split
         ·exact AT ⟨J.gal _,.inr ⟨_,k - 1,L,_,_,_,rfl,Z,by lia,by lia,by lia,by lia,by lia⟩⟩
         ·exact AT ⟨J.gal _,_,k - 1,L,_,_,_,rfl,Z,by lia,by lia,by lia,by lia,by lia⟩
        ·rw[qY hk4]
         have:L=o - 1:=by lia
         subst this;have Z:=tA _ _ _ m4 (by lia) (by lia) (by lia) wa;refine AQ (B1 (i:=k - 1) (by lia) ?_);refine(show wpS (Ac prog w) A E s (if (k - 1==0)=true then _ else _) P _ from ?_)
         by_cases d3:k - 1=0
         ·rw[qX (by simpa using d3)]
          exact AT ⟨J.gal _,.inl ⟨_,_,rfl,eA _ _ _ Z d3⟩⟩
         rw[qY (by simpa using d3)];split
         ·exact AT ⟨J.gal _,.inr ⟨_,k - 1,o - 1,_,_,_,rfl,Z,by lia,by lia,by lia,by lia,by lia⟩⟩
         ·exact AT ⟨J.gal _,_,k - 1,o - 1,_,_,_,rfl,Z,by lia,by lia,by lia,by lia,by lia⟩
      ·rw[qY hk0]
       have:k=vz:=by lia
       subst this;have m4:=tB _ _ _ m2 (by lia) p4 (by omega) near;refine AQ (B1 (i:=o - 1) (by lia) ?_);refine(show wpS (Ac prog w) A E s (if (o - 1==1)=true then _ else _) P _ from ?_)
       by_cases d:o - 1=1
       ·rw[qX (by simpa using d)]
        exact AT ⟨J.gal _,.inl ⟨_,_,rfl,eF _ _ _ m4 d⟩⟩
       rw[qY (by simpa using d)];refine AQ (B1 (i:=k - 1) (by lia) ?_);refine AQ (Fv (base:=0) (n:=o - 1) (hint:=o - 1 - 1) (arr:=b) (key:=ix a (k - 1)) (left:=true) C (J.gal _).good (λi=>lt (ix b (0+i)) (ix a (k - 1))) (N _ (by lia)) (λi hi=>⟨by lia,R _ (by lia)⟩) (λi hi=>rfl) (λi j yD hj e=>?_) (by lia) λL wM k4 k5=>?_)
       ·cases e2:lt (ix b (0+i)) (ix a (k - 1))with
        | true=>rfl
        | false=>
         have:=tr _ _ _ (N _ (by lia)) (R _ (by lia)) (R _ (by lia)) e2 (ub (0+i) (0+j) (by lia) (by lia));exact nomatch (show true=false from(show lt (ix b (0+j)) (ix a (k - 1))=true from e).symm.trans this)
       ·have wa:∀j,j < L->Rl lt (ix b j) (ix a (k - 1)):=λj S=>by
         have:=k4 j S;rw[IB]at this;exact O.asym _ _ (R _ (by lia)) (N _ (by lia)) this
        have m6:=sB _ k (o - 1) L m4 wM (by lia) (by omega) λi j i1 i2 S=>by
         have:=k5 i i1 i2;rw[IB]at this;exact tr _ _ _ (N _ (by lia)) (N _ (by lia)) (R _ (by lia)) (ua j (k - 1) (by lia) (by lia)) this
        refine(show wpS (Ac prog w) A E s (if o - 1 - L > 0 then _ else _) P _ from ?_)
        by_cases hk4:o - 1 - L > 0
        ·rw[qX hk4]
         refine(show wpS (Ac prog w) A E s (if (L==1)=true then _ else _) P _ from ?_)
         by_cases d2:L=1
         ·rw[qX (by simpa using d2)]
          exact AT ⟨J.gal _,.inl ⟨_,_,rfl,eF _ _ _ m6 d2⟩⟩
         rw[qY (by simpa using d2)]
         by_cases d4:L=0
         ·rw[qX (by simpa using d4)]
          exact AT ⟨J.gal _,.inl ⟨_,_,rfl,eB _ _ _ m6 d4⟩⟩
         rw[qY (by simpa using d4)];have Z:=tA _ _ _ m6 (by omega) (by omega) (by lia) wa;refine AQ (B1 (i:=k - 1) (by lia) ?_);refine(show wpS (Ac prog w) A E s (if (k - 1==0)=true then _ else _) P _ from ?_)
         by_cases d3:k - 1=0
         ·rw[qX (by simpa using d3)]
          exact AT ⟨J.gal _,.inl ⟨_,_,rfl,eA _ _ _ Z d3⟩⟩
         rw[qY (by simpa using d3)];split
         ·exact AT ⟨J.gal _,.inr ⟨_,k - 1,L,_,_,_,rfl,Z,by lia,by lia,by lia,by lia,by lia⟩⟩
         ·exact AT ⟨J.gal _,_,k - 1,L,_,_,_,rfl,Z,by lia,by lia,by lia,by lia,by lia⟩
        ·rw[qY hk4]
         have:L=o - 1:=by lia
         subst this;have Z:=tA _ _ _ m4 (by omega) (by omega) (by lia) wa;refine AQ (B1 (i:=k - 1) (by lia) ?_);refine(show wpS (Ac prog w) A E s (if (k - 1==0)=true then _ else _) P _ from ?_)
         by_cases d3:k - 1=0
         ·rw[qX (by simpa using d3)]
          exact AT ⟨J.gal _,.inl ⟨_,_,rfl,eA _ _ _ Z d3⟩⟩
         rw[qY (by simpa using d3)];split
         ·exact AT ⟨J.gal _,.inr ⟨_,k - 1,o - 1,_,_,_,rfl,Z,by lia,by lia,by lia,by lia,by lia⟩⟩
         ·exact AT ⟨J.gal _,_,k - 1,o - 1,_,_,_,rfl,Z,by lia,by lia,by lia,by lia,by lia⟩
end
noncomputable def wr(arr:Array BR)(m:Nat)(l:List (BR×Nat)):Array BR:=l.foldl (λa (x:BR×Nat)=>match x with | (p,j)=>a.setIfInBounds (m+j) p) arr
theorem Vb(m:Nat):∀(l:List BR) (k:Nat) (arr:Array BR),m+k+l.length<=arr.size->(wr arr m (l.zipIdx k)).toList=arr.toList.take (m+k)++l++arr.toList.drop (m+k+l.length)
 | [],k,arr,h=>by simp[wr]
 | x :: l,k,arr,h=>by
  rw[At]at h;have e:wr arr m ((x :: l).zipIdx k)=wr (arr.setIfInBounds (m+k) x) m (l.zipIdx (k+1)):=rfl;rw[e,Vb m l (k+1) _ (by simp;lia)]
  have o:m+k < arr.toList.length:=by simp;lia
  rw[Tw,At,show m+(k+1)=m+k+1 by lia];rw[Ft,List.take_set_of_le (AJ _),As o,List.drop_set_of_lt (by lia)];simp[show m+k+1+l.length=m+k+(l.length+1) by lia]
theorem ix_list(a:Array BR)(i:Nat):ix a i=(a.toList[i]?).getD (.none,.none):=by
 unfold ix;rw[Fn];simp
theorem gl(h:sa+m.size<=arr.size)(i:Nat):ix (wr arr sa m.toList.zipIdx) i=if i < sa then ix arr i else if i < sa+m.size then ix m (i - sa)else ix arr i:=by
 have e:=Vb sa m.toList 0 arr (by simpa using h);rw[ix_list,show m.toList.zipIdx=m.toList.zipIdx 0 from rfl,e,sC]
 have o:(arr.toList.take sa).length=sa:=by simp;lia
 split
 ·rename_i l
  rw[Bu,Ap (by lia),Wn l,ix_list]
 ·rename_i l
  split
  ·rename_i s
   rw[Bu,Bj (by lia),o,Ap (by simp;lia),ix_list]
  ·rename_i s
   rw[Bj (by simp;lia),KD,ix_list]
   congr 2
   simp
   lia
theorem kZ{arr m:Array BR}{l:Nat}(h:l+m.size<=arr.size)(o:m.toList.Perm (arr.extract l (l+m.size)).toList):(wr arr l m.toList.zipIdx).Perm arr:=by
 rw[Cm];have e:=Vb l m.toList 0 arr (by simpa using h);rw[show m.toList.zipIdx=m.toList.zipIdx 0 from rfl,e,sC]
 have s:arr.toList=arr.toList.take l++(arr.extract l (l+m.size)).toList++arr.toList.drop (l+m.toList.length):=by
  rw[Bu,Be,<-Jz h,Ib]
 conv=>rhs;rw[s]
 exact Tu _ (Lc _ o)
theorem ZM{a:Array BR}{lo hi i:Nat}(h:hi<=a.size)(l:i < hi - lo):ix (a.extract lo hi) i=ix a (lo+i):=by
 apply LL
 rw[Array.getElem?_extract];simp
 lia
section
variable{prog:Bs}{w:CQ}{A:Ce}{E:Value->AS->Prop}{s:AS}{a₀:Array BR}{κ:Pp}{lt:BR->BR->Bool}
theorem Z4{a:Array BR}{lo hi:Nat}(h:hi<=a.size)(u:Up lt a lo hi):(a.extract lo hi).toList.Pairwise (Rl lt):=by
 rw[Kz];intro i j o B C;simp at o B
 have e:∀k (l:k < (a.extract lo hi).toList.length),(a.extract lo hi).toList[k]=ix a (lo+k):=λk l=>by
  have m:k < (a.extract lo hi).size:=by rw[Be]at l;exact l
  have:=EA m;rw[getElem?_pos (a.extract lo hi) k m]at this
  have G:(a.extract lo hi).size=hi - lo:=by simp;lia
  rw[<-ZM h (by lia)];simpa using this
 rw[e,e];exact u _ _ (by lia) (by lia) (by omega)
theorem jO{st l:BY}{Q:PUnit->BY->Prop}(h:Q ⟨⟩ l):wpS (Ac prog w) A E s (set l:StateT BY Sem PUnit) Q st:=AT h
theorem Wz{st}{i l m pw sb H pw2}{Q}(C:LR prog w A s a₀ κ lt)(O:Ord (·∈a₀) lt)(g:Good a₀ κ st)
  (e1:(Ab st)[i]?=some (l,m,pw)) (e2:(Ab st)[i+1]?=some (sb,H,pw2)) (yC:sb=l+m) (xT:1<=m) (xU:1<=H) (hs:sb+H<=a₀.size)
  (Y:Up lt (AV st) l (l+m)) (Z:Up lt (AV st) sb (sb+H))
  (h:∀o,Good a₀ κ o->Ab o=((Ab st).setIfInBounds i (l,m+H,pw)).eraseIdxIfInBounds (i+1)->Up lt (AV o) l (l+(m+H))->Out (AV st) (AV o) l (l+(m+H))->Q true o) :
  wpS (Ac prog w) A E s (mergeAt' i) Q st:=by
 subst yC;have hsz:=g.size
 have mem:∀j,j < a₀.size->ix (AV st) j∈a₀:=λj hj=>g.mem hj
 have tr:∀x y z:BR,x∈a₀->y∈a₀->z∈a₀->Rl lt x y->Rl lt y z->Rl lt x z:=λx y z hx hy B J I=>O.ntr x y z hx hy B J I
 refine(AQ (Ir ?_):wpS _ _ _ _ (mergeAt' i) Q st);rw[show(sortPriv% PySem.Builtin.SortState.pending) st=Ab st from rfl,e1,e2];refine AQ (jO ?_);generalize L:((sortPriv% PySem.Builtin.SortState.mk) (kindOf st) (AV st) (((Ab st).setIfInBounds i (l,m+H,pw)).eraseIdxIfInBounds (i+1)) (gallopOf st) (Is st))=vk
 have g1:Good a₀ κ vk:=by subst L;exact⟨g.perm,g.kind,g.failed⟩
 have a1:AV vk=AV st:=by subst L;rfl
 have p1:Ab vk=((Ab st).setIfInBounds i (l,m+H,pw)).eraseIdxIfInBounds (i+1):=by subst L;rfl
 refine AQ (B1 (a:=AV st) (i:=l+m) (by lia) ?_);refine AQ (Fv (base:=l) (n:=m) (hint:=0) (arr:=AV st) (key:=ix (AV st) (l+m)) (left:=false) C g1 (λj=>!lt (ix (AV st) (l+m)) (ix (AV st) (l+j))) (mem _ (by lia)) (λj hj=>⟨by lia,mem _ (by lia)⟩) (λj hj=>rfl) (λx y zG hy e=>?_) (by lia) λk hk k1 k2=>?_)
 ·have e':lt (ix (AV st) (l+m)) (ix (AV st) (l+y))=false:=by simpa using e
  have:=tr _ _ _ (mem _ (by lia)) (mem _ (by lia)) (mem _ (by lia)) (Y (l+x) (l+y) (by lia) (by lia) (by lia)) e';simpa using this
 have low:∀j,l<=j->j < l+k->Rl lt (ix (AV st) j) (ix (AV st) (l+m)):=λj G R=>by
  have:=k1 (j - l) (by lia);rw[show l+(j - l)=j by lia]at this;simpa using this
 have zH:∀i j,l<=i->i < l+k->l+m<=j->j < l+m+H->Rl lt (ix (AV st) i) (ix (AV st) j):=λi j T i2 G R=>tr _ _ _ (mem _ (by lia)) (mem _ (by lia)) (mem _ (by lia)) (low i T i2) (Z _ _ (by lia) (by omega) (by omega))
 have N:(∀j,l<=j->j < l+m->Rl lt (ix (AV st) j) (ix (AV st) (l+m)))->Up lt (AV st) l (l+(m+H)):=λhh x y J I h3=>by
  by_cases c1:y < l+m
  ·exact Y x y J I c1
  by_cases c2:x < l+m
  ·exact tr _ _ _ (mem _ (by lia)) (mem _ (by lia)) (mem _ (by lia)) (hh x J c2) (Z _ _ (by lia) (by lia) (by lia))
  ·exact Z x y (by lia) I (by lia)
 refine(show wpS (Ac prog w) A E s (if (m - k==0)=true then _ else _) Q vk from ?_)
 by_cases c1:m - k=0
 ·rw[qX (by simpa using c1)]
  refine AT (h vk g1 p1 ?_ (by rw[a1];exact .refl));rw[a1]
  exact N λj G R=>low j G (by lia)
 rw[qY (by simpa using c1)];refine AQ (B1 (a:=AV st) (i:=l+k+(m - k) - 1) (by omega) ?_);rw[show l+k+(m - k) - 1=l+m - 1 by lia];refine AQ (Fv (base:=l+m) (n:=H) (hint:=H - 1) (arr:=AV st) (key:=ix (AV st) (l+m - 1)) (left:=true) C g1 (λj=>lt (ix (AV st) (l+m+j)) (ix (AV st) (l+m - 1))) (mem _ (by lia)) (λj hj=>⟨by lia,mem _ (by lia)⟩) (λj hj=>rfl) (λx y zG hy e=>?_) (by omega) λk3 wM k4 k5=>?_)
 ·cases e2:lt (ix (AV st) (l+m+x)) (ix (AV st) (l+m - 1))with
  | true=>rfl
  | false=>
   have:=tr _ _ _ (mem _ (by lia)) (mem _ (by lia)) (mem _ (by lia)) e2 (Z (l+m+x) (l+m+y) (by lia) (by lia) (by lia));exact nomatch (show true=false from(show lt (ix (AV st) (l+m+y)) (ix (AV st) (l+m - 1))=true from e).symm.trans this)
 have U:∀j,l+m+k3<=j->j < l+m+H->Rl lt (ix (AV st) (l+m - 1)) (ix (AV st) j):=λj G R=>by
  have:=k5 (j - (l+m)) (by lia) (by lia);rwa [show l+m+(j - (l+m))=j by lia]at this
 refine(show wpS (Ac prog w) A E s (if (k3==0)=true then _ else _) Q vk from ?_)
 by_cases c2:k3=0
 ·rw[qX (by simpa using c2)]
  refine AT (h vk g1 p1 ?_ (by rw[a1];exact .refl));rw[a1]
  exact N λj G R=>tr _ _ _ (mem _ (by lia)) (mem _ (by lia)) (mem _ (by lia)) (Y j (l+m - 1) (by omega) (by lia) (by lia)) (U _ (by lia) (by lia))
 rw[qY (by simpa using c2)]
 let x:=(AV st).extract (l+k) (l+m)
 let y:=(AV st).extract (l+m) (l+m+k3)
 have xs:x.size=m - k:=by simp[x];lia
 have ys:y.size=k3:=by simp[y];lia
 have ixx:∀j,j < m - k->ix x j=ix (AV st) (l+k+j):=λj hj=>ZM (by lia) (by lia)
 have ixy:∀j,j < k3->ix y j=ix (AV st) (l+m+j):=λj hj=>ZM (by lia) (by lia)
 have yE:∀z∈x.toList,∃j,j < m - k/\z=ix (AV st) (l+k+j):=λz B=>by
  have B:z∈((AV st).extract (l+k) (l+k+(m - k))).toList:=by rw[show l+k+(m - k)=l+m by lia];exact B
  exact Rb (by lia) B
 have yF:∀z∈y.toList,∃j,j < k3/\z=ix (AV st) (l+m+j):=λz B=>Rb (by lia) B
 have fin:∀(r:Array BR) (o:BY),Mh a₀ κ vk o->JR (Rl lt) (x.toList++y.toList) r.toList->∀j':BY,AV j'=wr (AV o) (l+k) r.toList.zipIdx->kindOf j'=kindOf o->Is j'=Is o->Ab j'=Ab o->Q true j':=by
  intro r o S f j' q1 q2 q3 q4
  have hr:r.size=m - k+k3:=by
   have:=f.perm.length_eq;simp only[AZ,Be]at this
   lia
  have ha:AV o=AV st:=S.arr.trans a1;rw[ha]at q1
  have hb:l+k+r.size<=(AV st).size:=by lia
  have mm:∀t,t < r.size->∃t',ix r t=ix (AV st) t'/\l+k<=t'/\t' < l+m+k3:=λt ht=>by
   have:ix r t∈r.toList:=BZ.mpr (De (EA ht))
   rcases Ay.mp (f.perm.mem_iff.mp this)with h | h
   ·obtain⟨j,G,e⟩:=yE _ h
    exact⟨_,e,by lia,by lia⟩
   ·obtain⟨j,G,e⟩:=yF _ h
    exact⟨_,e,by lia,by lia⟩
  have rs:=XG O (a:=r) (λt ht=>by
   obtain⟨t',e,_,_⟩:=mm t ht;rw[e]
   exact mem _ (by lia)) f.srt
  refine h j' ⟨?_,?_,?_⟩ (q4.trans (S.pend.trans p1)) ?_ ?_
  ·rw[q1]
   refine(kZ hb (f.perm.trans ?_)).trans g.perm
   have:(AV st).toList.drop (l+k)=x.toList++(AV st).toList.drop (l+m):=by
    have:=Jz (a:=AV st) (i:=l+k) (k:=m - k) (by lia);rw[show l+k+(m - k)=l+m by lia]at this;exact this
   have I:(AV st).toList.drop (l+m)=y.toList++(AV st).toList.drop (l+m+k3):=Jz (by lia);have h3:(AV st).toList.drop (l+k)=((AV st).extract (l+k) (l+k+r.size)).toList++(AV st).toList.drop (l+k+r.size):=Jz hb;rw[this,I,<-Bu,show l+k+r.size=l+m+k3 by lia]at h3;rw[show l+k+r.size=l+m+k3 by lia];exact Zq (List.append_cancel_right h3)
  ·rw[q2];exact S.good.kind
  ·rw[q3];exact S.good.failed
  ·rw[q1]
   intro i j J I h3;show Rl lt _ _;rw[gl hb,gl hb]
   by_cases T:i < l+k
   ·rw[qX T]
    by_cases G:j < l+k
    ·rw[qX G];exact Y i j J I (by lia)
    rw[qY G]
    by_cases R:j < l+k+r.size
    ·rw[qX R]
     obtain⟨t,e,t1,t2⟩:=mm (j - (l+k)) (by omega);rw[e]
     by_cases t3:t < l+m
     ·exact Y i t J (by lia) t3
     ·exact zH i t J T (by lia) (by lia)
    ·rw[qY R];exact zH i j J T (by lia) (by lia)
   rw[qY T,qY (show ¬j < l+k by lia)]
   by_cases i2:i < l+k+r.size
   ·rw[qX i2]
    by_cases R:j < l+k+r.size
    ·rw[qX R];exact rs _ _ (by lia) (by omega)
    ·rw[qY R]
     obtain⟨t,e,t1,t2⟩:=mm (i - (l+k)) (by omega);rw[e]
     by_cases t3:t < l+m
     ·exact tr _ _ _ (mem _ (by lia)) (mem _ (by lia)) (mem _ (by lia)) (Y t (l+m - 1) (by lia) (by lia) (by lia)) (U j (by lia) (by lia))
     ·exact Z t j (by lia) (by lia) (by lia)
   ·rw[qY i2,qY (show ¬j < l+k+r.size by lia)]
    exact Z i j (by lia) I (by lia)
  ·rw[q1]
   intro i hi;rw[gl hb]
   by_cases T:i < l+k
   ·rw[qX T]
   ·rw[qY T,qY (by lia)]
 have X:∀{P:Prop},((∀z∈x.toList,z∈a₀)->(∀z∈y.toList,z∈a₀)->x.toList.Pairwise (Rl lt)->y.toList.Pairwise (Rl lt)->0 < x.size->0 < y.size->(∀z∈x.toList,Rl lt (ix y 0) z)->(∀z∈y.toList,Rl lt z (ix x (x.size - 1)))->P)->P:=by
  intro P hP
  refine hP (λz B=>?_) (λz B=>?_) (Z4 (by lia) λi j J I h3=>Y i j (by lia) I h3) (Z4 (by lia) λi j J I h3=>Z i j J I (by lia)) (by lia) (by lia) (λz B=>?_) λz B=>?_
  ·obtain⟨j,G,rfl⟩:=yE z B
   exact mem _ (by lia)
  ·obtain⟨j,G,rfl⟩:=yF z B
   exact mem _ (by lia)
  ·obtain⟨j,G,rfl⟩:=yE z B
   rw[ixy 0 (by lia)];have:=k2 (k+j) (by lia) (by lia);rw[show l+(k+j)=l+k+j by lia]at this;exact O.asym _ _ (mem _ (by lia)) (mem _ (by lia)) (by simpa using this)
  ·obtain⟨j,G,rfl⟩:=yF z B
   rw[xs,ixx _ (by lia),show l+k+(m - k - 1)=l+m - 1 by lia];exact O.asym _ _ (mem _ (by lia)) (mem _ (by lia)) (k4 j G)
 refine(show wpS (Ac prog w) A E s (if m - k<=k3 then mLo x y >>= _ else mHi x y >>= _) Q vk from ?_);split
 ·refine AQ (X λb1 b2 b3 b4 b5 b6 b7 b8=>jP C O g1 b1 b2 b3 b4 b5 b6 b7 b8 λr o S f=>?_)
  refine AQ (EI (AQ (Ir (AT ?_))));have q:=fin r o S f (setArr o (wr (AV o) (l+k) r.toList.zipIdx)) rfl rfl rfl rfl;rw[<-show(Is o).isNone=true by rw[S.good.failed];rfl]at q;exact q
 ·refine AQ (X λb1 b2 b3 b4 b5 b6 b7 b8=>jQ C O g1 b1 b2 b3 b4 b5 b6 b7 b8 λr o S f=>?_)
  refine AQ (EI (AQ (Ir (AT ?_))));have q:=fin r o S f (setArr o (wr (AV o) (l+k) r.toList.zipIdx)) rfl rfl rfl rfl;rw[<-show(Is o).isNone=true by rw[S.good.failed];rfl]at q;exact q
end
theorem lK[Decidable c](h:1 < z):(if c then z - 2 - 1 else z - 2)+1 < z:=by split <;> omega
noncomputable def Stk(lt:BR->BR->Bool)(arr:Array BR):List (Nat×Nat×Nat)->Nat->Nat->Prop
 | [],lo,l=>lo=l
 | (s,n,_) :: r,lo,l=>s=lo/\1<=n/\Up lt arr s (s+n)/\Stk lt arr r (s+n) l
section
theorem Stk.le:∀{l:List (Nat×Nat×Nat)} {lo hi:Nat},Stk lt arr l lo hi->lo+l.length<=hi
 | [],lo,hi,h=>by cases h;simp
 | (s,n,_) :: r,lo,hi,⟨o,A,_,m⟩=>by
  have:=Stk.le m;rw[At]
  lia
theorem Stk.app:∀{l r:List (Nat×Nat×Nat)} {lo hi:Nat},Stk lt arr (l++r) lo hi↔∃m,Stk lt arr l lo m/\Stk lt arr r m hi
 | [],r,lo,hi=>⟨λh=>⟨lo,rfl,h⟩,λ⟨_,e,h⟩=>by cases e;exact h⟩
 | (s,n,_) :: l,r,lo,hi=>by
  constructor
  ·rintro⟨o,A,B,C⟩
   obtain⟨m,a,b⟩:=Stk.app.mp C;exact⟨m,⟨o,A,B,a⟩,b⟩
  ·rintro⟨m,⟨o,A,B,C⟩,b⟩
   exact⟨o,A,B,Stk.app.mpr ⟨m,C,b⟩⟩
theorem Stk.pw(A:∀x,(f x).1=x.1/\(f x).2.1=x.2.1):∀{l:List (Nat×Nat×Nat)} {lo hi:Nat} (i:Nat),Stk lt arr l lo hi->Stk lt arr (l.modify i f) lo hi
 | [],lo,hi,i,h=>by cases i <;> exact h
 | (s,n,p) :: r,lo,hi,0,h=>by
  obtain⟨m,o⟩:=A (s,n,p);show Stk lt arr (f (s,n,p) :: r) lo hi;generalize f (s,n,p)=q at m o;obtain⟨H,I,J⟩:=q;dsimp only at m o;subst m o;exact h
 | (s,n,p) :: r,lo,hi,i+1,⟨B,C,E,G⟩=>⟨B,C,E,Stk.pw A i G⟩
theorem Stk.out:∀{l:List (Nat×Nat×Nat)} {lo hi x y:Nat},Stk lt arr l lo hi->Out arr arr' x y->(hi<=x∨y<=lo)->Stk lt arr' l lo hi
 | [],lo,hi,x,y,h,o,d=>h
 | (s,n,_) :: r,lo,hi,x,y,⟨A,B,C,m⟩,o,d=>by
  have:=m.le;exact⟨A,B,C.out o (by lia),Stk.out m o (by lia)⟩
end
section
theorem Out.wide(o:Out xs m l h)(A:s<=l)(B:h<=h'):Out xs m s h':=λi C=>o i (by lia)
theorem Lh{st:BY}{i hi:Nat}{Q:Bool->BY->Prop}(C:LR prog w A s a₀ R lt)(O:Ord (·∈a₀) lt)(g:Good a₀ R st)(k:Stk lt (AV st) (Ab st).toList 0 hi)(hs:hi<=a₀.size)(Z:i+1 < (Ab st).size)
  (h:∀m,Good a₀ R m->Stk lt (AV m) (Ab m).toList 0 hi->(Ab m).size+1=(Ab st).size->Out (AV st) (AV m) 0 hi->Q true m):wpS (Ac prog w) A E s (mergeAt' i) Q st:=by
 obtain⟨o,B,pw,S⟩:∃o B pw,(Ab st)[i]?=some (o,B,pw):=⟨_,_,_,getElem?_pos (Ab st) i (by lia)⟩
 obtain⟨I,G,H,T⟩:∃o B pw,(Ab st)[i+1]?=some (o,B,pw):=⟨_,_,_,getElem?_pos (Ab st) (i+1) Z⟩
 obtain⟨l,r,J,hl⟩:∃l r,(Ab st).toList=l++(o,B,pw) :: (I,G,H) :: r/\l.length=i:=by
  have a1:(Ab st).toList[i]?=some (o,B,pw):=by simpa using S
  have a2:(Ab st).toList[i+1]?=some (I,G,H):=by simpa using T
  obtain⟨b1,c1⟩:=AF.mp a1;obtain⟨b2,c2⟩:=AF.mp a2;refine⟨(Ab st).toList.take i,(Ab st).toList.drop (i+2),?_,by rw[Dk];lia⟩
  conv=>lhs;rw[<-Ib i (Ab st).toList,Dd b1,Dd b2,c1,c2]
 rw[J]at k;obtain⟨L,U,⟨q1,q2,q3,⟨q4,q5,q6,N⟩⟩⟩:=Stk.app.mp k;have hle:=N.le;have X:=U.le
 refine Wz C O g S T q4 q2 q5 (by lia) q3 q6 λm g' p' u' P=>?_
 have Y:(Ab m).toList=l++(o,B+G,pw) :: r:=by
  rw[p',Array.toList_eraseIdxIfInBounds,Tw,J];rw[List.set_append_right _ _ (by lia),hl,Nat.sub_self,List.set_cons_zero,List.eraseIdx_append_of_length_le (by lia),show i+1 - l.length=1 by lia];rfl
 refine h m g' ?_ ?_ (P.wide (by lia) (by lia))
 ·rw[Y]
  refine Stk.app.mpr ⟨L,U.out P (.inl (by lia)),q1,by lia,u',?_⟩
  have e:I+G=o+(B+G):=by lia
  rw[e]at N;exact N.out P (.inr (by lia))
 ·have z1:=congrArg HF Y
  have z2:=congrArg HF J;simp at z1 z2
  lia
theorem wpS_sortRuns{st:BY}{Q:Unit->BY->Prop}(C:LR prog w A s a₀ J lt)(O:Ord (·∈a₀) lt)(g:Good a₀ J st)(hp:Ab st = #[])
  (h:∀o,Good a₀ J o->Up lt (AV o) 0 a₀.size->Q () o):wpS (Ac prog w) A E s sortRuns' Q st:=by
 rw[sortRuns'_eq];refine AQ (Ir ?_);dsimp only;rw[g.size];generalize minRun' a₀.size a₀.size 0=L
 refine AQ (D6 (CZ (I:=λx c o=>∃lo,c=(none,lo)/\Good a₀ J o/\Stk lt (AV o) (Ab o).toList 0 lo/\lo<=a₀.size/\min x a₀.size<=lo)
  (Q:=λc o=>c=(none,a₀.size)/\Good a₀ J o/\Stk lt (AV o) (Ab o).toList 0 a₀.size) ?step ?fin ?init) ?post)
 case init=>exact⟨0,rfl,g,by rw[hp];rfl,by lia,by lia⟩
 case fin=>
  rintro c o ⟨lo,rfl,g',k',h1,h2⟩
  have:lo=a₀.size:=by lia
  subst this;exact⟨rfl,g',k'⟩
 case step=>
  rintro x c vk _ hx ⟨lo,rfl,g1,U,h1,h2⟩;dsimp only
  by_cases vO:lo ≥ a₀.size
  ·rw[qX vO]
   have:lo=a₀.size:=by lia
   subst this;exact AT ⟨rfl,g1,U⟩
  rw[qY vO];refine AQ (wpS_countRun C O (by lia) (by lia) g1 λX n Y P T u2 o2 p2=>?_);dsimp only
  have k2:Stk lt (AV X) (Ab X).toList 0 lo:=by
   rw[p2];exact U.out o2 (.inl (AJ _))
  by_cases hm:n < L
  ·rw[qX hm]
   refine AQ (LF ?_);refine AQ (wpS_binarySort C O (by lia) (by omega) Y u2 λZ g3 u3 o3 p3=>?_)
   have k3:Stk lt (AV Z) (Ab Z).toList 0 lo:=by
    rw[p3];exact k2.out o3 (.inl (AJ _))
   rw[qY (by simp)];refine AQ (Ir ?_)
   cases hb:(Ab Z).back? with
   | none=>
    dsimp only;refine AQ (EI (AT ⟨lo+min (a₀.size - lo) L,rfl,⟨g3.perm,g3.kind,g3.failed⟩,?_,by lia,by lia⟩));show Stk lt (AV Z) ((Ab Z).push (lo,min (a₀.size - lo) L,0)).toList 0 (lo+min (a₀.size - lo) L);rw[K0];exact Stk.app.mpr ⟨lo,k3,rfl,by omega,u3,rfl⟩
   | some t=>
    obtain⟨s1,P,z⟩:=t;dsimp only;generalize power' a₀.size (2 * s1+P) (2 * s1+P+P+min (a₀.size - lo) L) a₀.size=pw
    refine AQ (D6 (CZ (I:=λ_ c m=>c=(none,())/\Good a₀ J m/\Stk lt (AV m) (Ab m).toList 0 lo/\Up lt (AV m) lo (lo+min (a₀.size - lo) L))
     (Q:=λc m=>c=(none,())/\Good a₀ J m/\Stk lt (AV m) (Ab m).toList 0 lo/\Up lt (AV m) lo (lo+min (a₀.size - lo) L)) ?_ (λc m h=>h) ⟨rfl,g3,k3,u3⟩) ?_)
    ·rintro x' c' m _ _ ⟨rfl,B,G,H⟩
     refine AQ (Ir ?_)
     by_cases N:(Ab m).size > 1
     ·rw[qX N]
      obtain⟨s2,T,R,S⟩:∃s2 T R,(Ab m)[(Ab m).size - 2]?=some (s2,T,R):=⟨_,_,_,getElem?_pos (Ab m) ((Ab m).size - 2) (by lia)⟩
      rw[S];dsimp only
      by_cases ho:R<=pw
      ·rw[qX ho]
       exact AT ⟨rfl,B,G,H⟩
      ·rw[qY ho]
       refine AQ (Lh C O B G (by omega) (by lia) λxx g5 k5 _ o5=>?_);exact AT ⟨rfl,g5,k5,H.out o5 (.inr (by lia))⟩
     ·rw[qY N]
      exact AT ⟨rfl,B,G,H⟩
    ·rintro c' m ⟨rfl,B,G,H⟩
     dsimp only;refine AQ (EI (AQ (EI (AT ⟨lo+min (a₀.size - lo) L,rfl,⟨B.perm,B.kind,B.failed⟩,?_,by lia,by lia⟩))));show Stk lt (AV m) ((((Ab m).modify ((Ab m).size - 1) λx=>(x.fst,x.2.fst,pw))).push (lo,min (a₀.size - lo) L,0)).toList 0 (lo+min (a₀.size - lo) L);rw[K0,Zt];exact Stk.app.mpr ⟨lo,Stk.pw (f:=λx=>(x.fst,x.2.fst,pw)) (λx=>⟨rfl,rfl⟩) _ G,rfl,by omega,H,rfl⟩
  ·rw[qY hm]
   refine AQ (Ir ?_)
   cases hb:(Ab X).back? with
   | none=>
    dsimp only;refine AQ (EI (AT ⟨lo+n,rfl,⟨Y.perm,Y.kind,Y.failed⟩,?_,by lia,by lia⟩));show Stk lt (AV X) ((Ab X).push (lo,n,0)).toList 0 (lo+n);rw[K0];exact Stk.app.mpr ⟨lo,k2,rfl,by omega,u2,rfl⟩
   | some t=>
    obtain⟨s1,P,z⟩:=t;dsimp only;generalize power' a₀.size (2 * s1+P) (2 * s1+P+P+n) a₀.size=pw
    refine AQ (D6 (CZ (I:=λ_ c m=>c=(none,())/\Good a₀ J m/\Stk lt (AV m) (Ab m).toList 0 lo/\Up lt (AV m) lo (lo+n))
     (Q:=λc m=>c=(none,())/\Good a₀ J m/\Stk lt (AV m) (Ab m).toList 0 lo/\Up lt (AV m) lo (lo+n)) ?_ (λc m h=>h) ⟨rfl,Y,k2,u2⟩) ?_)
    ·rintro x' c' m _ _ ⟨rfl,B,G,H⟩
     refine AQ (Ir ?_)
     by_cases N:(Ab m).size > 1
     ·rw[qX N]
      obtain⟨s2,T,R,S⟩:∃s2 T R,(Ab m)[(Ab m).size - 2]?=some (s2,T,R):=⟨_,_,_,getElem?_pos (Ab m) ((Ab m).size - 2) (by lia)⟩
      rw[S];dsimp only
      by_cases ho:R<=pw
      ·rw[qX ho]
       exact AT ⟨rfl,B,G,H⟩
      ·rw[qY ho]
       refine AQ (Lh C O B G (by omega) (by lia) λxx g5 k5 _ o5=>?_);exact AT ⟨rfl,g5,k5,H.out o5 (.inr (by lia))⟩
     ·rw[qY N]
      exact AT ⟨rfl,B,G,H⟩
    ·rintro c' m ⟨rfl,B,G,H⟩
     dsimp only;refine AQ (EI (AQ (EI (AT ⟨lo+n,rfl,⟨B.perm,B.kind,B.failed⟩,?_,by lia,by lia⟩))));show Stk lt (AV m) ((((Ab m).modify ((Ab m).size - 1) λx=>(x.fst,x.2.fst,pw))).push (lo,n,0)).toList 0 (lo+n);rw[K0,Zt];exact Stk.app.mpr ⟨lo,Stk.pw (f:=λx=>(x.fst,x.2.fst,pw)) (λx=>⟨rfl,rfl⟩) _ G,rfl,by omega,H,rfl⟩
 case post=>
  rintro c vk ⟨rfl,g1,U⟩;dsimp only
  refine AQ (D6 (CZ (I:=λx c m=>c=(none,())/\Good a₀ J m/\Stk lt (AV m) (Ab m).toList 0 a₀.size/\((Ab m).size<=1∨(Ab m).size+x<=a₀.size))
   (Q:=λc m=>c=(none,())/\Good a₀ J m/\Stk lt (AV m) (Ab m).toList 0 a₀.size/\(Ab m).size<=1) ?_ ?_ ?_) ?_)
  ·rintro x c m _ _ ⟨rfl,B,G,d⟩
   refine AQ (Ir ?_)
   by_cases N:(Ab m).size<=1
   ·rw[qX N]
    exact AT ⟨rfl,B,G,N⟩
   ·rw[qY N]
    refine AQ (Lh C O B G (AJ _) (lK (by lia)) λxx g5 k5 z5 o5=>?_);exact AT ⟨rfl,g5,k5,.inr (by lia)⟩
  ·rintro c m ⟨rfl,B,G,d⟩
   exact⟨rfl,B,G,by lia⟩
  ·refine⟨rfl,g1,U,.inr ?_⟩
   have:=U.le;simp at this;omega
  ·rintro c m ⟨rfl,B,G,d⟩
   refine AT (h m B ?_);generalize hl:(Ab m).toList=l at G
   have hd:l.length<=1:=by rw[<-hl];simpa using d
   match l,G,hd with
   | [],G,_=>exact λi j h1 h2 h3=>by have:(0:Nat)=a₀.size:=G;lia
   | [(s,n,_)],⟨e1,_,u,S⟩,_=>
    have S:s+n=a₀.size:=S;rw[S,e1]at u;exact u
end
noncomputable def ltL:ZLi->ZLi->Bool
 | [],[]=>false
 | [],_ :: _=>true
 | _ :: _,[]=>false
 | x :: l,y :: m=>if x=y then ltL l m else decide (x < y)
theorem PJ:∀x y,ltL x y=true->ltL y x=false
 | [],[],h=>by cases h
 | [],_ :: _,_=>rfl
 | _ :: _,[],h=>by cases h
 | x :: l,y :: m,h=>by
  unfold ltL at h ⊢
  by_cases e:x=y
  ·rw[qX e]at h;rw[qX e.symm];exact PJ l m h
  ·rw[qY e]at h;rw[qY (Ch e)];simp at h ⊢;lia
theorem WC:∀x y z,ltL y x=false->ltL z y=false->ltL z x=false
 | [],y,[],_,_=>rfl
 | [],[],_ :: _,_,_=>rfl
 | [],_ :: _,_ :: _,_,_=>rfl
 | x :: A,[],z,h,_=>by cases h
 | _,y :: B,[],_,h=>by cases h
 | x :: A,y :: B,z :: E,m,l=>by
  unfold ltL at m l ⊢
  by_cases s:y=x
  ·rw[qX s]at m
   subst s
   by_cases o:z=y
   ·rw[qX o]at l ⊢
    exact WC A B E m l
   ·rw[qY o]at l ⊢;exact l
  ·rw[qY s]at m
   by_cases o:z=y
   ·subst o;rw[qY s];exact m
   ·rw[qY o]at l
    by_cases C:z=x
    ·subst C;simp at m l;lia
    ·rw[qY C];simp at m l ⊢;lia
theorem aQ:∀x y,ltL x y=false->ltL y x=false->x=y
 | [],[],_,_=>rfl
 | [],_ :: _,h,_=>by cases h
 | _ :: _,[],_,h=>by cases h
 | x :: o,y :: s,l,m=>by
  unfold ltL at l m
  by_cases e:x=y
  ·rw[qX e]at l;rw[qX e.symm]at m;rw[e,aQ o s l m]
  ·rw[qY e]at l;rw[qY (Ch e)]at m;simp at l m;lia
noncomputable def ltK(f:Value->ZLi)(x y:BR):Bool:=ltL (f x.1) (f y.1)
theorem aI(f:Value->ZLi)(U:BR->Prop):Ord U (ltK f):=⟨λx y _ _ h=>PJ _ _ h,λx y z _ _ _ l m=>WC _ _ _ l m⟩
section
theorem Y6(o:Bool)(h:Q (decide (a < b)) s):Ao (Ac prog w) A (oneLt' o (.int a t) (.int b u)) Q E s:=by
 cases o with
 | true=>exact oneLt_int h
 | false=>
  rw[oneLt'_eq];simp only[CI,if_false];exact AB (wpAny_lt_int (Dc h))
noncomputable def Zi(s:AS)(v:Value)(ns:ZLi):Prop:=∃a l,v=.ref a/\s.heap.IsTuple a l/\HC l.toList ns
noncomputable def uS(o:Bool):(Value×Value)×Nat->Option Bool×Unit->Sem (ForInStep (Option Bool×Unit)):=λe _=>match e with
 | ((p,q),i)=>eqBool p q >>= λc=>if (!c)=true then oneLt' (o&&i==0) p q >>= λb=>pure (.done (some b,()))else pure (.yield (none,()))
theorem gh(o:Bool)(x y:Value):keyLt' (rG o) x y=(KG x >>= λr=>KG y >>= λq=>forIn (r.toList.zip q.toList).zipIdx ((none,()):Option Bool×Unit) (uS o) >>= λz=>match z.1 with
  | some b=>pure b
  | none=>pure (decide (r.size < q.size))):=by kernel_rfl
theorem iW(o:Bool):∀{is B:List Value} {ns H:ZLi} (k:Nat) {Q:Bool->AS->Prop},HC is ns->HC B H->Q (ltL ns H) s ->
  Ao (Ac prog w) A (forIn ((is.zip B).zipIdx k) ((none,()):Option Bool×Unit) (uS o) >>= λz=>match z.1 with
   | some b=>pure b
   | none=>pure (decide (n0+is.length < n0+B.length))) Q E s:=by
 intro is
 induction is with
 | nil=>
  intro B ns H k Q C G l;cases C;rw[List.zip_nil_left,jG,UT];refine AB (AL (AL ?_))
  cases G with
  | nil=>simpa[ltL]using l
  | cons m t h=>simpa[ltL]using l
 | cons v is I=>
  intro B ns H k Q C G l
  cases C with
  | cons n t C=>
   cases G with
   | nil=>
    rw[dJ,jG,UT];refine AB (AL (AL ?_));rw[wY (by rw[At,Ms];lia)];exact l
   | cons m u G=>
    rw[Pi,List.zipIdx_cons,jI];rw[bind_assoc];unfold ltL at l;refine AB ?_;refine AB (rh ?_)
    by_cases e:n=m
    ·rw[qX e]at l
     rw[qY (by simp[e])];refine AL ?_;have:=I (k+1) C G l;simpa[Nat.add_lt_add_iff_left]using this
    ·rw[qY e]at l
     rw[qX (by simp[e])];refine AB (Y6 _ (AL ?_));exact AB (AL (AL l))
end
section
theorem Pz(h:Zi s v ns):∃l:Array Value,HC l.toList ns/\s.TypeIs v "tuple"/\∀(E:Value->AS->Prop) (Q:Array Value->AS->Prop),Q l s->Ao (Ac prog w) A (KG v) Q E s:=by
 obtain⟨a,l,rfl,⟨o,m,B,n,C⟩,G⟩:=h;exact⟨l,G,⟨o,m,B⟩,λE Q q=>dQ m C q⟩
theorem lv(o:Bool)(l:Zi s x ns)(m:Zi s y B)(h:Q (ltL ns B) s):Ao (Ac prog w) A (keyLt' (rG o) x y) Q E s:=by
 obtain⟨r,C,_,wr⟩:=Pz (prog:=prog) (w:=w) (A:=A) l;obtain⟨q,G,_,H⟩:=Pz (prog:=prog) (w:=w) (A:=A) m;rw[gh];refine AB (wr E _ (AB (H E _ ?_)));have:=iW (prog:=prog) (w:=w) (A:=A) (E:=E) (n0:=0) o 0 C G h;simp only[IB,Be]at this;exact this
theorem ci(h:Zi s v (n :: ns))(o:∀t,Q (some (.int n t)) s):Ao (Ac prog w) A (Mp v) Q E s:=by
 obtain⟨r,m,ty,wr⟩:=Pz (prog:=prog) (w:=w) (A:=A) h;refine(AB (Ti ty ?_):Ao _ _ (Mp v) Q E s);refine(show Ao (Ac prog w) A (if (Dz "tuple" != Dz "tuple")=true then _ else _) Q E s from ?_);rw[qY (by simp)];refine AB (wr E _ (AL ?_));generalize B:r.toList=l at m
 cases m with
 | cons _ t C=>
  have:r[0]?=some (.int n t):=by
   rw[<-YR,B];rfl
  rw[this];exact o t
theorem S8:∀{vs:List Value},(∀v∈vs,∃n ns,Zi s v (n :: ns))->∀{Q:List (Option Value)->AS->Prop},(∀is ns,HC is ns->is.length=vs.length->Q (is.map some) s)->Ao (Ac prog w) A (vs.mapM Mp) Q E s
 | [],_,Q,h=>by
  rw[List.mapM_nil];exact AL (h [] [] .nil rfl)
 | v :: vs,l,Q,h=>by
  obtain⟨n,ns,m⟩:=l v AX;rw[US];refine AB (ci m λt=>AB (S8 (λv o=>l v (AN _ o)) λis B C G=>AL ?_));exact h (.int n t :: is) (n :: B) (.cons n t C) (by rw[At,G,At])
theorem V4(h:HC is ns)(l:is≠[]):oneTypeOnly' is.toArray=pure (some (.type "int")):=by
 rw[uf,LB,mapM_typeOf_ints h];simp only[map_pure,pure_bind]
 cases is with
 | nil=>exact zX rfl l
 | cons v is=>
  have m:(JF (λ_=>Dz "int") (v :: is)).toArray[0]?=some (Dz "int"):=by simp
  have o:((JF (λ_=>Dz "int") (v :: is)).toArray.all λx=>x==Dz "int")=true:=by
   simp only[iw,YL,Iq]
   exact λ_ _=>rfl
  rw[m];simp only[o,if_true]
theorem gg(l:∀v∈vs,∃n ns,Zi s v (n :: ns))(m:vs≠[])(h:Q (rG true) s):Ao (Ac prog w) A (keyKind' vs.toArray) Q E s:=by
 rw[keyKind'_eq,LB];refine AB ?_;rw[map_eq_pure_bind];refine AB (S8 l λis ns o B=>AL ?_)
 have C:((is.map some).toArray.all λx=>x.isSome)=true:=by simp
 rw[qX C];refine AB (Rp ?_)
 have G:(is.map some).toArray.filterMap id=is.toArray:=by simp
 rw[G,V4 o (by intro e;subst e;cases vs with | nil=>exact m rfl | cons=>simp at B)];refine AB (AL (AL ?_));exact h
end
section
theorem FM(h:x∈FJ vs):x.1∈vs/\x.1=x.2:=by
 have:x∈(FJ vs).toList:=BZ.mpr h;rw[pairsOf_toList]at this;exact⟨(mem_zip_self this).2,(mem_zip_self this).1⟩
theorem Ud(vs:List Value):(FJ vs).map (·.2)=vs.toArray:=by
 apply Array.ext'
 rw[E7,pairsOf_toList];simp[List.map_snd_zip]
noncomputable def We(prog:Bs)(w:CQ)(A:Ce)(s:AS)(vs:List Value)(f:Value->ZLi):Prop:=
 ∃l:Pp,(∀(Q:Pp->AS->Prop) (E:Value->AS->Prop),Q l s->Ao (Ac prog w) A (keyKind' vs.toArray) Q E s)/\LR prog w A s (FJ vs) l (ltK f)
theorem UI(ho:s.heap.get? a=some (Es "list" vs.toArray n)) (X:vs.length<=sizeLine)
  (Y:2<=vs.length->∀s':AS,(∀b o,b≠a->s.heap.get? b=some o->s'.heap.get? b=some o)->We prog w A s' vs f)
  (h:∀out:Array Value,out.toList.Perm vs->out.toList.Pairwise (λx y=>ltL (f y) (f x)=false)->P (.done (.ret .none)) { s with heap:=OD s.heap a vs out }) :
  Ao (Ac prog w) A (Builtin.«list.sort» ⟨[.ref a],[]⟩) P E s:=by
 have ha:a < s.heap.objs.size:=Ak ho
 have L:vs.toArray.size=vs.length:=by simp
 obtain⟨N,G⟩:∃N,(s.heap.update a (D8 λ_=>#[])).get? a=some (Es "list" #[] N):=⟨_,ug ho (λ_=>#[])⟩
 have H:(((s.heap.update a (D8 λ_=>#[])).push (Es "tuple" vs.toArray 0)).push (Es "list" #[] 0)).get? a=some (Es "list" #[] N):=
  AO _ (AO _ G)
 have O:∀b o,b≠a->s.heap.get? b=some o->(((s.heap.update a (D8 λ_=>#[])).push (Es "tuple" vs.toArray 0)).push (Es "list" #[] 0)).get? b=some o:=λb o hb Z=>
  AO _ (AO _ (by rw[Oj _ _ _ _ hb];exact Z))
 have fin:∀m:BY,(AV m).Perm (FJ vs)->(AV m).toList.Pairwise (Rl (ltK f))->P (.done (.ret .none)) { s with heap:=OD s.heap a vs ((AV m).map (·.2)) }:=by
  intro m B I
  have S:∀x∈(AV m).toList,x.1=x.2:=λx R=>by
   have:x∈(FJ vs).toList:=(Cm.mp B).mem_iff.mp R;exact(FM (BZ.mp this)).2
  refine h _ ?_ ?_
  ·have:=(Cm.mp B).map (·.2)
   rw[<-E7,<-E7,Ud]at this;simpa using this
  ·rw[E7,Bn]
   refine I.imp_of_mem λ{x y} R hy r=>?_
   rw[<-S x R,<-S y hy];exact r
 have last:∀m:BY,(AV m).Perm (FJ vs)->Is m=none->(AV m).toList.Pairwise (Rl (ltK f))->(((AV m).map (·.2)).size<=sizeLine+1):=λm B _ _=>by
  rw[jL,B.size_eq,Tn]
  lia
 rw[list_sort_plain];refine AB (dQ ho rfl (AB (J8 ho rfl (AB (Mj G rfl (AB (wpAny_newTuple (AB (RL (Hq ?_)))))) ) (by rw[L];exact X) (Cw _))));show Ao (Ac prog w) A _ P E { s with heap:=((s.heap.update a (D8 λ_=>#[])).push (Es "tuple" vs.toArray 0)).push (Es "list" #[] 0) };dsimp only
 by_cases J:vs.toArray.size < 2
 ·rw[qX J,qX J]
  refine AB (AL ?_);rw[dS]
  have T:(AV (Dy KA (vs.toArray.zip vs.toArray) #[] 7 none)).toList.Pairwise (Rl (ltK f)):=by
   have:(AV (Dy KA (vs.toArray.zip vs.toArray) #[] 7 none)).toList.length < 2:=by
    rw[Be];show(FJ vs).size < 2;rw[Tn];omega
   generalize (AV (Dy KA (vs.toArray.zip vs.toArray) #[] 7 none)).toList=l at this
   match l,this with
   | [],_=>exact .nil
   | [x],_=>exact MU _ _
   | _ :: _ :: _,h=>simp at h;lia
  refine AB (AL (AB (Mj H rfl (AB (J8 H rfl ?_ (Cw _) (last (Dy KA (vs.toArray.zip vs.toArray) #[] 7 none) (Pj _) rfl T))))));simp only[bne_self_eq_false,CI,if_false];exact AL (fin (Dy KA (vs.toArray.zip vs.toArray) #[] 7 none) (Pj _) T)
 ·rw[qY J,qY J]
  obtain⟨κ,kk,C⟩:=Y (by lia) { s with heap:=((s.heap.update a (D8 λ_=>#[])).push (Es "tuple" vs.toArray 0)).push (Es "list" #[] 0) } O;refine AB (kk _ _ ?_)
  refine AB (G2 (Srt.wpS_sortRuns (a₀:=FJ vs) (st:=Dy κ (vs.toArray.zip vs.toArray) #[] 7 none)
   (Q:=λ_ m=>(AV m).Perm (FJ vs)/\Is m=none/\(AV m).toList.Pairwise (Rl (ltK f))) C (aI f _) ⟨Pj _,rfl,rfl⟩ rfl λm g u=>⟨g.perm,g.failed,?_⟩) ?_ λ_ _ e=>e)
  ·have:=Z4 (a:=AV m) (lo:=0) (hi:=(AV m).size) (AJ _) (by rw[g.size];exact u)
   rwa [KU,mV]at this
  rintro⟨⟨⟩,m⟩ s' ⟨rfl,B,U,I⟩;refine AB (Mj H rfl (AB (J8 H rfl ?_ (Cw _) (last m B U I))));rw[U];simp only[bne_self_eq_false,CI,if_false];exact AL (fin m B I)
theorem bq(h:∀v∈vs,Zi s v (f v)/\f v≠[])(l:vs≠[]):We prog w A s vs f:=
 ⟨rG true,λQ E q=>gg (λv m=>by
  obtain⟨o,B⟩:=h v m
  cases e:f v with
  | nil=>exact zX e B
  | cons n C=>exact⟨n,C,by rw[<-e];exact o⟩) l q,λx y G H Q E q=>lv true (h _ (FM G).1).1 (h _ (FM H).1).1 q⟩
noncomputable def fv(v:Value):ZLi:=[numOf v]
theorem br(h:HC vs ns)(B:2<=vs.length):We prog w A s vs fv:=by
 refine⟨i8,λQ E q=>?_,λx y C G Q E q=>?_⟩
 ·match vs,B,h with
  | v :: u :: r,_,h=>rw[keyKind_ints h];exact AL q
 ·obtain⟨n,t,l⟩:=h.all _ (FM C).1
  obtain⟨m,u,o⟩:=h.all _ (FM G).1;rw[keyLt'_oneType,l,o];refine oneLt_int ?_
  have:ltK fv x y=decide (n < m):=by
   unfold ltK fv;rw[l,o];show(if n=m then false else decide (n < m))=_;split
   ·rename_i e;simp[e]
   ·rfl
  rw[<-this];exact q
end
noncomputable def UO(h:DS)(d:Aa)(es:Array Qh)(ep:Nat):Prop:=∃o,h.get? d=some o/\o.ExactDict/\o.data=.dict es ep
theorem UO.at'(x:UO h d es ep)(e:∀o,h.get? d=some o->h'.get? d=some o):UO h' d es ep:=let ⟨o,l,r⟩:=x;⟨o,e _ l,r⟩
theorem UO.ty{s:AS}{d:Aa}{es:Array Qh}{ep:Nat}(x:UO s.heap d es ep):s.TypeIs (.ref d) "dict":=let ⟨o,l,m,_⟩:=x;⟨o,l,m.1⟩
section
theorem Xb{Q:Value->AS->Prop}(G:(d==EJ)=false)(m:UO s.heap d es ep)
  (H:Q (.ref s.heap.objs.size) { s with heap:=s.heap.push { cls:=.type "dict_keyiterator",data:=.fields #[.ref d,.int 0 0,.int es.size 0,.int ep 0] } }):Ao (Ac prog w) A (nH (.ref d)) Q E s:=by
 have l:=m.ty;obtain⟨o,B,I,C⟩:=m;refine wpAny_pyIter_slot l VU (DP VU l PySem.F.entry_dict_iter ?_ (PySem.F.args_dict_iter_1 _));unfold Builtin.«dict.__iter__»;refine AB ?_;unfold uz;refine AB (wpAny_notOrdered_dict l (show Ao _ _ (pure (Ba d)) _ _ s from AL ?_));refine(show Ao _ _ (Ru d >>= _) _ _ s from ?_);unfold Ru;rw[qY (by simp[G])];refine AB (AL (AB (Tj B C (AB (Ws B C (AB (DA (AL ⟨_,rfl, "dict_keyiterator",_,⟨_,An _ rfl,rfl⟩,C0.lookup,?_⟩))))))));simpa[Pm]using H
theorem Xa(l:s.heap.IsKeyIter it d i es.size ep)(I:UO s.heap d es ep)(hi:i < es.size)
  (J:∀h',h'.IsKeyIter it d (i+1) es.size ep->FK it s.heap h'->Q (some es[i].key) { s with heap:=h' }):Ao (Ac prog w) A (VN (.ref it)) Q E s:=by
 obtain⟨o,B,L,m⟩:=id l;obtain⟨N,C,O,G⟩:=I;unfold VN;refine AB (RM (DQ (name:=FQ "__next__") l.typeIs C0 (DP C0 l.typeIs N2 (AB (AL (AB (AB ?_)))) (Nv _))))
 first | refine AB (Fi l.typeIs (AL (AB (Pl B m ?_)))) | refine AB (Ho l.typeIs (AL (AB (Pl B m ?_))))
 simp only[show Mo "dict_keyiterator" = false by decide,CI,if_false];refine(show Ao _ _ (if (Ba d==Ed)=true then _ else _) _ _ s from ?_);rw[qY (λz:(Ba d==Ed)=true=>AH z)];refine AB (AL (AB (Tj C G ?_)));rw[qY (by simp)];refine AB (AL (AB (Ws C G ?_)));rw[qY (by simp)];refine AL ?_;simp only[show ¬((i:Int) < 0) by lia,if_false,A9,UX hi];refine AB ?_
 first | refine AB (Fi l.typeIs (AL (AB (Ol l.typeIs ?_)))) | refine AB (Ho l.typeIs (AL (AB (Ol l.typeIs ?_))))
 refine(show Ao _ _ (setField (.ref it) 1 (Pm ((i:Int)+1)) >>= _) _ _ s from ?_);have H:(s.heap.update it (rY (·.setIfInBounds 1 (Pm ((i:Int)+1))))).IsKeyIter it d (i+1) es.size ep:=⟨_,Nf _ B (Zo (KZ m _)),(ip ..).trans L,by rw[KZ m];simp[Pm]⟩;refine AB (Pk B m (by simp) (AB (Hq (AB (Ol (s:={ s with heap:=s.heap.update it (rY (·.setIfInBounds 1 (Pm ((i:Int)+1)))) }) H.typeIs ?_)))));exact(show Ao _ _ (pure es[i].key) _ _ _ from AL (AL ⟨_,rfl,AL (J _ H (IC ..))⟩))
theorem aE(I:A.handled=none)(l:s.heap.IsKeyIter it d i es.size ep)(J:UO s.heap d es ep)(hi:es.size<=i)
  (L:∀h',Zr it s.heap h'->Q none { s with heap:=h' }):Ao (Ac prog w) A (VN (.ref it)) Q E s:=by
 obtain⟨o,B,N,C⟩:=id l;obtain⟨O,G,P,H⟩:=J;unfold VN;refine AB (RM (DQ (name:=FQ "__next__") l.typeIs C0 (DP C0 l.typeIs N2 (AB (AL (AB (AB ?_)))) (Nv _))))
 first | refine AB (Fi l.typeIs (AL (AB (Pl B C ?_)))) | refine AB (Ho l.typeIs (AL (AB (Pl B C ?_))))
 simp only[show Mo "dict_keyiterator" = false by decide,CI,if_false];refine(show Ao _ _ (if (Ba d==Ed)=true then _ else _) _ _ s from ?_);rw[qY (λz:(Ba d==Ed)=true=>AH z)];refine AB (AL (AB (Tj G H ?_)));rw[qY (by simp)];refine AB (AL (AB (Ws G H ?_)));rw[qY (by simp)];refine AL ?_;simp only[show ¬((i:Int) < 0) by lia,if_false,A9,Array.getElem?_eq_none hi];refine AB ?_
 first | refine AB (Fi l.typeIs (AL (show Ao _ _ (setField (.ref it) 0 .none >>= _) _ _ s from ?_))) | refine AB (Ho l.typeIs (AL (show Ao _ _ (setField (.ref it) 0 .none >>= _) _ _ s from ?_)))
 refine AB (Pk B C (by simp) (show Ao _ _ (newExc (.type "StopIteration") [] >>= _) _ _ _ from AB ?_));simp only[newExc,newTuple];refine AB (DA (AB (m:=Po _ _) (wpAny_of_eq (a:=Ed) (by first | rfl | (simp only[Po];rfl)) (DA ?_ (by size_fits)))) (by size_fits));simp only[raiseNew];refine AB (wpAny_handled ?_);rw[show A.in1.handled=none from I];refine AB (AL (wpAny_throw ?_));refine AB (re (T:="StopIteration") (b:=true) ⟨_,An _ rfl,rfl⟩ isSubtype_stop (AL ?_));exact L _ (((IC ..).extBut.push _).push _)
theorem cG(H:A.handled=none)(I:Aa)(J:d≠I):Walks prog w A I [I,d] [I] es.size (λi v=>∃h:i < es.size,v=es[i].key) (λi h=>h.IsKeyIter I d i es.size ep/\UO h d es ep) where
 sub:=λx B=>by simp at B;simp[B]
 frame:=λ_ _ _ st keep=>⟨st.1.at λo e=>keep I (by simp) o e,st.2.at' λo e=>keep d (by simp) o e⟩
 item:=λi s Q E C st l=>Xa st.1 st.2 C λm L G=>l _ m s.toks ⟨C,rfl⟩ ⟨L,st.2.at' λo e=>G.extBut d o J e⟩ λb o hb e=>G.extBut b o (λh=>hb (by simp[h])) e
 done:=λs Q E st l=>aE H st.1 st.2 (AJ _) λm Ϫ=>l m s.toks λb o hb e=>Ϫ b o (λh=>hb (by simp[h])) e
 self:=λ_ _ _ _ st l=>i4 st.1 l
theorem aD(lo:(d==EJ)=false):PySem.W.KdlSrc prog w "dict" d d es.size (λi v=>∃h:i < es.size,v=es[i].key) (λh=>UO h d es ep) where
 type:=λ_ l=>l.ty
 there:=λ_ l=>⟨let ⟨_,m,_⟩:=l;Ak m,let ⟨_,m,_⟩:=l;Ak m⟩
 keep:=λ_ _ l A=>l.at' λo e=>A d (.inl rfl) o e
 notList:=by decide
 notTuple:=by decide
 hint:=λ_ _ _ _ l s=>PySem.W.kdl_hint_dict l.ty s
 iter:=λ_ _ B l=>⟨_,_,(λ_ _ s=>Xb lo l s),cG B _ (BJ (let ⟨_,m,_⟩:=l;Ak m)),⟨⟨_,An _ rfl,rfl,rfl⟩,l.at' λo e=>AO _ e⟩⟩
end
open PySem PyProof.Rows
section
variable{prog:Bs}{w:CQ}{A:Ce}{E:Value->AS->Prop}{s:AS}
noncomputable def QB:Value->ZLi
 | .bool true=>[1]
 | _=>[0]
theorem gZ{a b:Bool}{Q:Bool->AS->Prop}(h:Q (ltL (QB (.bool a)) (QB (.bool b))) s):Ao (Ac prog w) A (oneLt' true (.bool a) (.bool b)) Q E s:=by
 rw[oneLt'_eq];simp only[if_true];refine AB (wpAny_cRoomFor_byValue rfl ?_);refine AB (wpAny_callSpecialIfBound?_slot (show s.TypeIs (.bool a) "bool" from rfl) sG (DP sG (show s.TypeIs (.bool a) "bool" from rfl) entry_int_lt ?_ (args_int_lt _ _)))
 cases a <;> cases b <;> exact AL ⟨_,rfl,Dc h⟩
theorem ZL{vs:List Value}(l:∀v∈vs,∃b,v=.bool b)(C:2<=vs.length):keyKind' vs.toArray=pure i8:=by
 have G:∀vs:List Value,(∀v∈vs,∃b,v=.bool b)->vs.mapM Mp=pure (vs.map λ_=>none):=by
  intro vs
  induction vs with
  | nil=>intro _;simp
  | cons v vs B=>
   intro l;obtain⟨b,rfl⟩:=l v AX;rw[US,B λv h=>l v (AN _ h),show Mp (.bool b)=pure none from rfl];simp
 have H:∀vs:List Value,(∀v∈vs,∃b,v=.bool b)->vs.mapM typeOf=pure (vs.map λ_=>Dz "bool"):=by
  intro vs
  induction vs with
  | nil=>intro _;simp
  | cons v vs B=>
   intro l;obtain⟨b,rfl⟩:=l v AX;rw[US,B λv h=>l v (AN _ h),show typeOf (.bool b)=pure (.type "bool")from rfl];simp
 match vs,C,l with
 | m :: o :: vs,_,l=>
  rw[keyKind'_eq,LB,G _ l];simp only[map_pure,pure_bind];rw[qY (by simp),qY (by simp)];rw[uf,LB,H _ l];simp only[map_pure,pure_bind]
  have I:((JF (λ_=>Dz "bool") (m :: o :: vs)).toArray.all λx=>x==Dz "bool")=true:=by
   simp only[iw,YL,Iq];intro _ _;rfl
  have J:(JF (λ_=>Dz "bool") (m :: o :: vs)).toArray[0]?=some (Dz "bool"):=by simp
  rw[J];simp only[I,if_true,pure_bind];rfl
theorem Yt{a:Aa}{vs:List Value}{n:Nat}{P:Fin->AS->Prop}(ho:s.heap.get? a=some (Es "list" vs.toArray n)) (X:vs.length<=sizeLine) (hb:∀v∈vs,∃b,v=.bool b)
  (h:∀out:Array Value,out.toList.Perm vs->out.toList.Pairwise (λx y=>ltL (QB x) (QB y)=false)->P (.done (.ret .none)) { s with heap:=OD s.heap a vs out }) :
  Ao (Ac prog w) A (Builtin.«list.sort» ⟨[.ref a],[(FQ "reverse",.bool true)]⟩) P E s:=by
 have ha:a < s.heap.objs.size:=Ak ho
 have L:vs.toArray.size=vs.length:=by simp
 obtain⟨B,G⟩:∃B,(s.heap.update a (D8 λ_=>#[])).get? a=some (Es "list" #[] B):=⟨_,ug ho (λ_=>#[])⟩
 have I:(((s.heap.update a (D8 λ_=>#[])).push (Es "tuple" vs.toArray 0)).push (Es "list" #[] 0)).get? a=some (Es "list" #[] B):=
  AO _ (AO _ G)
 have fin:∀m:BY,(AV m).Perm (FJ vs)->(AV m).toList.Pairwise (Rl (ltK QB))->P (.done (.ret .none)) { s with heap:=OD s.heap a vs ((AV m).map (·.2)).reverse }:=by
  intro m o N
  have T:∀x∈(AV m).toList,x.1=x.2:=λx H=>by
   have:x∈(FJ vs).toList:=(Cm.mp o).mem_iff.mp H;exact(FM (BZ.mp this)).2
  refine h _ ?_ ?_
  ·have:=(Cm.mp o).map (·.2)
   rw[<-E7,<-E7,Ud]at this;rw[DF];exact(Qb _).trans (by simpa using this)
  ·rw[DF,Ic,E7,Bn]
   refine N.imp_of_mem λ{x y} H O r=>?_
   rw[<-T x H,<-T y O];exact r
 have last:∀m:BY,(AV m).Perm (FJ vs)->(((AV m).map (·.2)).reverse.size<=sizeLine+1):=λm o=>by
  rw[bX,jL,o.size_eq,Tn]
  lia
 have R:(vs.toArray.zip vs.toArray).reverse.Perm (FJ vs):=Cm.mpr (by rw[DF];exact Qb _);rw[list_sort_rev];refine AB (dQ ho rfl (AB (J8 ho rfl (AB (Mj G rfl (AB (wpAny_newTuple (AB (RL (Hq ?_)))))) ) (by rw[L];exact X) (Cw _))));show Ao (Ac prog w) A _ P E { s with heap:=((s.heap.update a (D8 λ_=>#[])).push (Es "tuple" vs.toArray 0)).push (Es "list" #[] 0) };dsimp only;rw[qX rfl];refine AB (Rp ?_)
 by_cases J:vs.toArray.size < 2
 ·rw[qX J,qX J]
  refine AB (AL ?_);rw[dS]
  have Y:(AV (Dy KA (vs.toArray.zip vs.toArray).reverse #[] 7 none)).toList.Pairwise (Rl (ltK QB)):=by
   have:(AV (Dy KA (vs.toArray.zip vs.toArray).reverse #[] 7 none)).toList.length < 2:=by
    rw[Be];show(FJ vs).reverse.size < 2;rw[bX,Tn];omega
   generalize (AV (Dy KA (vs.toArray.zip vs.toArray).reverse #[] 7 none)).toList=l at this
   match l,this with
   | [],_=>exact .nil
   | [x],_=>exact MU _ _
   | _ :: _ :: _,h=>simp at h;lia
  refine AB (AL (AB (Mj I rfl (AB (J8 I rfl ?_ (Cw _) (last (Dy KA (vs.toArray.zip vs.toArray).reverse #[] 7 none) R))))));simp only[bne_self_eq_false,CI,if_false];exact AL (fin (Dy KA (vs.toArray.zip vs.toArray).reverse #[] 7 none) R Y)
 ·rw[qY J,qY J]
  rw[ZL hb (by lia)];refine AB (AL ?_)
  have C:∀S:AS,LR prog w A S (FJ vs) i8 (ltK QB):=λS x y H O Q E q=>by
   obtain⟨p,B⟩:=hb _ (FM H).1;obtain⟨r,U⟩:=hb _ (FM O).1;unfold ltK at q;rw[B,U]at q;rw[keyLt'_oneType,B,U];exact gZ q
  refine AB (G2 (Srt.wpS_sortRuns (a₀:=FJ vs) (st:=Dy i8 (vs.toArray.zip vs.toArray).reverse #[] 7 none)
   (Q:=λ_ m=>(AV m).Perm (FJ vs)/\Is m=none/\(AV m).toList.Pairwise (Rl (ltK QB))) (C _) (aI QB _) ⟨R,rfl,rfl⟩ rfl λm g u=>⟨g.perm,g.failed,?_⟩) ?_ λ_ _ e=>e)
  ·have:=Z4 (a:=AV m) (lo:=0) (hi:=(AV m).size) (AJ _) (by rw[g.size];exact u)
   rwa [KU,mV]at this
  rintro⟨⟨⟩,m⟩ S ⟨rfl,o,Z,N⟩;refine AB (Mj I rfl (AB (J8 I rfl ?_ (Cw _) (last m o))));rw[Z];simp only[bne_self_eq_false,CI,if_false];exact AL (fin m o N)
end
end Srt
namespace L2
open PySem PySem.Spec PyProof.Rows
open Srt (ltL)
theorem Xe{C E:Type}{R:C->E->Prop}{G m:List E}(p:G.Perm m):∀{l1:List C},G3 R l1 G->∃H,G3 R H m/\H.Perm l1:=by
 induction p with
 | nil=>intro l1 h;cases h;exact⟨[],.nil,.refl _⟩
 | cons x _ I=>
  intro l1 h
  cases h with
  | cons r t=>
   obtain⟨J,o,s⟩:=I t;exact⟨_ :: J,.cons r o,s.cons _⟩
 | swap x y l=>
  intro l1 h
  cases h with
  | cons r t=>
   cases t with
   | cons L t=>exact⟨_ :: _ :: _,.cons L (.cons r t),List.Perm.swap _ _ _⟩
 | trans _ _ A B=>
  intro l1 h;obtain⟨a,o,s⟩:=A h;obtain⟨b,N,O⟩:=B o;exact⟨b,N,O.trans s⟩
theorem O8{l m s:Type}{R:l->m->Prop}{f:l->s}{g:m->s}:∀{o:List l} {A:List m},G3 R o A->(∀a∈o,∀b,R a b->g b=f a)->A.map g=o.map f
 | _,_,.nil,_=>rfl
 | _,_,.cons r t,h=>by rw[BA,BA,h _ AX _ r,O8 t λa B=>h a (AN _ B)]
theorem Sd{m l:Type}{R:m->l->Prop}:∀{o:List m} {s:List l} {b:l},G3 R o s->b∈s->∃a∈o,R a b
 | _,_,_,.nil,h=>nomatch h
 | _,_,b,.cons r t,h=>by
  rcases Ae.mp h with h | h
  ·subst h;exact⟨_,AX,r⟩
  ·obtain⟨a,A,e⟩:=Sd t h
   exact⟨a,AN _ A,e⟩
noncomputable def UF:V->Int
 | .int n=>n
 | _=>0
noncomputable def cC(H:Hp):Value->ZLi
 | .int n _=>[n]
 | .ref b=>match H b with
  | some (.tup l)=>l.map UF
  | _=>[]
 | _=>[]
theorem QH(r:ZLi):(r.map V.int).map UF=r:=by
 rw[BC];exact(DU λa _=>rfl).trans (YK r)
noncomputable def uX(K:AG)(H:Hp)(p:Aa)(G:List V->Prop):Prop:=
 (∃m,(SqL K H p m∨SqT K H p m)/\G m)∨(∃l,H p=some (.dK l)/\G (l.map λx=>kV x.1)) ∨
  ∃l,H p=some (.dT l)/\∀bs:List Aa,G3 (λ(k:List Key×V) b=>H b=some (.tup (k.1.map kV))) l bs->G (bs.map V.ref)
noncomputable def VJ(H:Hp)(f:V->ZLi)(vs:List V):Prop:=(∀v∈vs,∃n,v=.int n/\f v=[n])∨∀v∈vs,∃b,v=.ref b/\H b=some (.tup ((f v).map V.int))/\f v≠[]
noncomputable def sw(K:AG):List V->Hp->VK->Prop:=λo H Q=>∃p,o=[.ref p]/\uX K H p λm=>∃f:V->ZLi,VJ H f m /\
 ∀out,out.Perm m->out.Pairwise (λx y=>ltL (f y) (f x)=false)->∀l,H l=none->Q (.ref l) (upd H l (.lst out))
theorem VJ.rel(h:VJ H f vs):∀v∈vs,∀u,RelV v u->cC H u=f v:=λv l u r=>by
 rcases h with h | h
 ·obtain⟨n,rfl,e⟩:=h v l
  obtain⟨t,rfl⟩:=r;exact e.symm
 ·obtain⟨b,rfl,e,_⟩:=h v l
  cases r;show(match H b with | some (.tup m)=>m.map UF | _=>[])=_;rw[e];exact QH _
theorem XN(hc:X.calm=true)(I:Inv X ζ σ H s)(h:uX X.K H p G) :
  ∃vs P,G vs/\CC vs P/\P.length<=sizeLine/\∀(R:List Value->AS->Prop) (E:Value->AS->Prop),(∀(g:DS) (Y:Nat),(∀b o,s.heap.get? b=some o->g.get? b=some o)->R P { s with heap:=g,toks:=Y })->Ao (Ac X.prog X.w) X.A.in1 (collect (.ref p)) R E s:=by
 have hh:X.A.handled=none:=I.ok.hd hc
 rcases h with⟨vs,sq,g⟩ | ⟨B,e,g⟩ | ⟨B,e,g⟩
 ·rcases sq with sq | sq
  ·obtain⟨P,U,pl,J⟩:=I.list sq
   refine⟨vs,P,g,U,by rw[<-U.length];exact J,λR E k=>collect_list pl.isList (k _ s.toks λb o e=>?_) (by rw[<-U.length];exact J)⟩;rw[Oj _ _ _ _ (BJ (Ak e))];exact AO _ e
  ·obtain⟨P,U,⟨o,ho,yd,n,hd⟩,J⟩:=I.tuple sq
   have yg:P.length<=sizeLine:=by rw[<-U.length];exact J
   exact⟨vs,P,g,U,yg,λR E k=>wpAny_collect_seq p (.inr rfl) ho yd hd (λh' kp=>by simpa using k h' s.toks kp) (by simpa using yg)⟩
 ·obtain⟨J,sm,Z,kv,o,es,ep,g1,g2,g3,g5,g6,_⟩:=(show Dj X.prog X.w H s.heap p (.dK B)from I.hok p _ e)
  have C:es.size=B.length:=by
   have a1:=g6.length;have a2:B.length=Z.length:=FR kv;rw[Be]at a1
   lia
  have hv:CC (B.map λx=>kV x.1) (es.toList.map (·.key)):=by
   have Q:∀{l:List Qh} {Z:List (Key×Value)} {B:List (Key×V)},Pairs (E0 X.prog X.w) l Z->KV B Z->CC (B.map λx=>kV x.1) (l.map (·.key)):=by
    intro l Z B hp
    induction hp generalizing B with
    | nil=>intro h;cases h;exact .nil
    | cons q1 q2 _ ih=>
     intro h
     cases h with
     | cons r t=>
      refine .cons ?_ (ih t);dsimp only;rw[r.1]
      rcases Dr q1 with⟨i,t,e1,S⟩ | ⟨x,t,e1,S⟩
      ·rw[e1,S];exact⟨t,rfl⟩
      ·rw[e1,S];exact⟨t,rfl⟩
   exact Q g6 kv
  refine⟨_,es.toList.map (·.key),g,hv,by rw[AD,Be,C];exact J,λR E k=>?_⟩
  refine YI (Srt.aD (es:=es) (ep:=ep) sm) hh ⟨o,g1,g2,g3⟩ (by rw[C];exact J) λg' Y m kp T=>?_
  have:m.toList=es.toList.map (·.key):=by
   apply Hv
   intro j
   by_cases L:j < es.size
   ·have N:j < m.size:=by rw[T.1];exact L
    obtain⟨_,S⟩:=T.2 j m[j] (by simp[N]);simp[L,N,S]
   ·have N:¬j < m.size:=by rw[T.1];exact L
    simp[L,N]
  rw[this];exact k g' Y kp
 ·obtain⟨J,sm,O,rr,o,es,ep,g1,g2,g3,g4,_⟩:=(show Dj X.prog X.w H s.heap p (.dT B)from I.hok p _ e)
  have C:es.size=B.length:=by
   have a1:=congrArg HF g4;have a2:B.length=O.length:=FR rr;rw[Be,AD]at a1
   lia
  have hb:G3 (λ(k:List Key×V) b=>H b=some (.tup (k.1.map kV))) B (O.map (·.2.1)):=by
   have Q:∀{B:List (List Key×V)} {O:List (List Key×Aa×Value)},G3 (λ(p:List Key×V) (q:List Key×Aa×Value)=>p.1=q.1/\H q.2.1=some (.tup (p.1.map kV))/\RelV p.2 q.2.2) B O->G3 (λ(k:List Key×V) b=>H b=some (.tup (k.1.map kV))) B (O.map (·.2.1)):=by
    intro B O h
    induction h with
    | nil=>exact .nil
    | cons r _ ih=>exact .cons r.2.1 ih
   exact Q rr
  have hk:es.toList.map (·.key)=(O.map (·.2.1)).map Ba:=by
   rw[g4,BC,BC];rfl
  have hv:∀l:List Aa,CC (l.map V.ref) (l.map Ba):=λl=>by
   induction l with
   | nil=>exact .nil
   | cons a l ih=>exact .cons rfl ih
  refine⟨_,(O.map (·.2.1)).map Ba,g _ hb,hv _,by rw[AD,AD,<-FR rr];exact J,λR E k=>?_⟩
  refine YI (Srt.aD (es:=es) (ep:=ep) sm) hh ⟨o,g1,g2,g3⟩ (by rw[C];exact J) λg' Y m kp T=>?_
  have:m.toList=(O.map (·.2.1)).map Ba:=by
   rw[<-hk]
   apply Hv
   intro j
   by_cases L:j < es.size
   ·have N:j < m.size:=by rw[T.1];exact L
    obtain⟨_,S⟩:=T.2 j m[j] (by simp[N]);simp[L,N,S]
   ·have N:¬j < m.size:=by rw[T.1];exact L
    simp[L,N]
  rw[this];exact k g' Y kp
theorem XX{X:Cx}{s:AS}{H:Hp}{f:V->ZLi}{vs:List V}{l:List Value}(I:∀b xs,H b=some (.tup xs)->∃is:List Value,CC xs is/\jK s.heap b is.toArray)(h:VJ H f vs)(J:CC vs l)(L:2<=l.length){A:Ce}:Srt.We X.prog X.w A s l (cC H):=by
 rcases id h with P | R
 ·have:∃ns,HC l ns:=by
   have G:∀{vs:List V} {l:List Value},CC vs l->(∀v∈vs,∃n,v=.int n/\f v=[n])->∃ns,HC l ns:=by
    intro vs l r
    induction r with
    | nil=>exact λ_=>⟨[],.nil⟩
    | cons r _ S=>
     intro B
     obtain⟨ns,C⟩:=S λv T=>B v (AN _ T)
     obtain⟨n,rfl,_⟩:=B _ AX;obtain⟨t,rfl⟩:=r;exact⟨n :: ns,.cons n t C⟩
   exact G J P
  obtain⟨ns,C⟩:=this;obtain⟨U,Y,Z⟩:=Srt.br (prog:=X.prog) (w:=X.w) (A:=A) (s:=s) C L;refine⟨U,Y,λx y N O Q E q=>Z x y N O Q E ?_⟩;obtain⟨n,t,e1⟩:=C.all _ (Srt.FM N).1;obtain⟨m,u,e2⟩:=C.all _ (Srt.FM O).1
  have e:Srt.ltK Srt.fv x y=Srt.ltK (cC H) x y:=by
   unfold Srt.ltK Srt.fv;rw[e1,e2];rfl
  rw[e];exact q
 ·refine Srt.bq (λu hu=>?_) (by intro e;subst e;simp at L)
  obtain⟨v,B,r⟩:=Sd J hu;rw[h.rel v B u r];obtain⟨b,rfl,e,ne⟩:=R v B;cases r;refine⟨⟨b,?_⟩,ne⟩;obtain⟨is,r,o,ho,yd,n,hd⟩:=I b _ e;exact⟨is.toArray,rfl,⟨o,ho,yd,n,hd⟩,by simpa using intsAre_of r⟩
theorem c7{X}(Y:X.calm=true):LS X (.builtin "sorted") (sw X.K):=by
 intro Z s σ H P us Q I r h;obtain⟨p,rfl,E⟩:=h;obtain⟨u,rfl,rx⟩:=vals1 r;cases rx;obtain⟨vs,C,⟨f,l,q⟩,G,J,col⟩:=XN Y I E;refine Calls.call_function_entry kind_sorted plain_sorted entry_sorted (args_sorted1 _) ?_;unfold Builtin.«sorted»;refine AB (m:=checkCount "sorted" 1 1 _) (AL (AB (col _ _ λg S kp=>?_)));refine AB (RL ?_ J);have L:Inv X Z σ H { s with heap:=g,toks:=S }:=I.kept kp;have N:(g.push (Es "list" C.toArray 0)).get? g.objs.size=some (Es "list" C.toArray 0):=An _ rfl;refine AB (Hq (DP slot_list_sort ⟨_,N,rfl⟩ uh (Srt.UI (f:=cC H) N J (λh2 s' keep=>?_) λout po so=>⟨_,rfl,AL ⟨_,rfl,?_⟩⟩) (args_list_sort _)))
 ·refine XX (λb P e=>?_) l G h2
  obtain⟨_,is,r,o,T,yd,n,hd⟩:=(show Dj X.prog X.w H g b (.tup P)from L.hok b _ e);exact⟨is,r,o,keep b o (BJ (Ak T)) (AO _ T),yd,n,hd⟩
 ·obtain⟨A,U,pv⟩:=Xe po.symm G
  have O:A.Pairwise (λx y=>ltL (f y) (f x)=false):=by
   have e:out.toList.map (cC H)=A.map f:=O8 U λa ha b rb=>l.rel a (pv.mem_iff.mp ha) b rb
   have:=(Bn (f:=cC H) (R:=λx y=>ltL y x=false)).mpr so;rw[e]at this;exact Bn.mp this
  obtain⟨k,hk⟩:=sortedHeap_at (out:=out) N
  have B:A.length<=sizeLine:=by rw[pv.length_eq,G.length];exact J
  have I2:=L.laid (a:=g.objs.size) (o:=.lst A) (t':=S) (h':=OD (g.push (Es "list" C.toArray 0)) g.objs.size C out)
   (λb u z=>by
    have lt:b < g.objs.size:=Ak z;rw[sortedHeap_old (BJ lt) (by rw[size_push'];exact LV lt)]
    exact AO _ z) (AJ _) ⟨B,out.toList,k,U,hk⟩
  exact⟨.ref g.objs.size,_,I2,rfl,q A pv O _ (L.hok.fresh (AJ _))⟩
noncomputable def Bv(ns:ZLi):ZLi:=ns.mergeSort (λa b=>decide (a<=b))
@[simp] noncomputable def Ua:Bv []=[]:=by unfold Bv;simp
theorem EM(ns:ZLi):(Bv ns).Perm ns:=bQ ns _
theorem SL(ns:ZLi):(Bv ns).Pairwise (·<=·):=by
 have:=Ww (le:=λa b:Int=>decide (a<=b)) (by intro a b c l m;simp at l m ⊢;lia) (by intro a b;simp;lia) ns
 exact this.imp λh=>by simpa using h
noncomputable def Ih(l:List ZLi):List ZLi:=l.mergeSort (λa b=>!ltL b a)
theorem Et(rs:List ZLi):(Ih rs).Perm rs:=bQ rs _
theorem O0(l:List ZLi):(Ih l).Pairwise (λa b=>ltL b a=false):=by
 have:=Ww (le:=λa b:ZLi=>!ltL b a) (by intro a b c m o;simp at m o ⊢;exact Srt.WC _ _ _ m o) (by
  intro a b
  cases e:ltL b a with
  | false=>simp
  | true=>simp[Srt.PJ _ _ e]) l
 exact this.imp λh=>by simpa using h
theorem P2{l l':List ZLi}(p:l.Perm l')(h:l.Pairwise (λa b=>ltL b a=false))(h':l'.Pairwise (λa b=>ltL b a=false)):l=l':=
 p.eq_of_pairwise (λa b _ _ m o=>Srt.aQ a b o m) h h'
noncomputable def Xw:Key->D
 | .inl i=>.int i
 | .inr x=>.str x
noncomputable def Jq(d:D)(S:Sto):Option (List D):=match d with
 | .fro l=>some l
 | .tup l=>some l
 | .ref n=>match S[n]? with
  | some (.lst l)=>some l
  | some (.dK m)=>some (m.map λx=>Xw x.1)
  | some (.dT m)=>some (m.map λx=>.tup (x.1.map Xw))
  | _=>none
 | _=>none
noncomputable def Mc(r:ZLi):D:=.tup (r.map D.int)
noncomputable def M9:List D->Option (List ZLi)
 | []=>some []
 | .tup l :: r=>match JK l,M9 r with
  | some (n :: m),some o=>some ((n :: m) :: o)
  | _,_=>none
 | _ :: _=>none
noncomputable def KJ(ds:List D):Option (List D):=match JK ds with
 | some l=>some ((Bv l).map D.int)
 | none=>match M9 ds with
  | some m=>some ((Ih m).map Mc)
  | none=>none
noncomputable def Dv(m:ME):ME:=λe S=>(m e S).bind λd l=>match Jq d l with
 | some o=>match KJ o with
  | some s=>.ok (.ref l.length) (l++[.lst s])
  | none=>.bad
 | none=>.bad
section
theorem lG(x y:Int):ltL [y] [x]=decide (y < x):=by
 show(if y=x then false else decide (y < x))=_;split
 ·rename_i e;simp[e]
 ·rfl
noncomputable def UD(H:Hp):V->ZLi
 | .int n=>[n]
 | .ref b=>match H b with
  | some (.tup l)=>l.map UF
  | _=>[]
 | _=>[]
theorem XY{K}{ρ}{H}:∀{ds:List D} {m:List ZLi} {vs:List V},M9 ds=some m->Ax K ρ H ds vs->vs.map (UD H)=m/\∀v∈vs,∃b,v=.ref b/\H b=some (.tup ((UD H v).map V.int))/\UD H v≠[]
 | [],_,_,h,.nil=>by cases h;exact⟨rfl,λv l=>nomatch l⟩
 | .tup I :: ds,m,_,h,.cons r t=>by
  unfold M9 at h;split at h
  ·rename_i n ns o s A
   cases h;obtain⟨B,C⟩:=XY A t
   cases r with
   | @tup _ b J hb E=>
    have:=PQ s;subst this;have:=E.ints;subst this
    have e:UD H (.ref b)=n :: ns:=by
     show(match H b with | some (.tup G)=>G.map UF | _=>[])=_;rw[hb];exact QH _
    refine⟨by rw[BA,e,B],λv l=>?_⟩
    rcases Ae.mp l with l | l
    ·subst l
     refine⟨b,rfl,?_,?_⟩
     ·rw[e];exact hb
     ·rw[e];exact List.cons_ne_nil _ _
    ·exact C v l
  ·cases h
 | .non :: _,_,_,h,_=>by cases h
 | .bl _ :: _,_,_,h,_=>by cases h
 | .int _ :: _,_,_,h,_=>by cases h
 | .str _ :: _,_,_,h,_=>by cases h
 | .fro _ :: _,_,_,h,_=>by cases h
 | .ref _ :: _,_,_,h,_=>by cases h
 | .exc _ :: _,_,_,h,_=>by cases h
theorem XZ{K}{ρ}{H}:∀{vs:List V},(∀v∈vs,∃b,v=.ref b/\H b=some (.tup ((UD H v).map V.int))/\UD H v≠[])->Ax K ρ H ((vs.map (UD H)).map Mc) vs
 | [],_=>.nil
 | v :: vs,h=>by
  obtain⟨b,e,hb,_⟩:=h v AX;refine .cons ?_ (XZ λu l=>h u (AN _ l));subst e;exact .tup hb (Ax.of_ints _)
theorem fD{K:AG}{ρ:List Aa}{H:Hp}{ds es:List D}{vs:List V}(h:KJ ds=some es)(r:Ax K ρ H ds vs) :
  ∃f:V->ZLi,VJ H f vs/\∀out,out.Perm vs->out.Pairwise (λx y=>ltL (f y) (f x)=false)->Ax K ρ H es out:=by
 unfold KJ at h;split at h
 ·rename_i ns C
  cases h;have:=PQ C;subst this;have:=r.ints;subst this;refine⟨λv=>[UF v],.inl λv l=>?_,λout m o=>?_⟩
  ·obtain⟨n,_,rfl⟩:=BF.mp l
   exact⟨n,rfl,rfl⟩
  ·have E:out=(out.map UF).map V.int:=by
    rw[BC]
    conv=>lhs;rw[<-N4 out]
    refine DU λv l=>?_
    obtain⟨n,_,rfl⟩:=BF.mp (m.mem_iff.mp l);rfl
   have s:out.map UF=Bv ns:=by
    have G:(out.map UF).Perm (Bv ns):=by
     have:=m.map UF;rw[QH]at this;exact this.trans (EM ns).symm
    refine G.eq_of_pairwise (λa b _ _ I J=>Int.le_antisymm I J) ?_ (SL ns);rw[Bn]
    refine o.imp λ{x y} A=>?_
    rw[lG]at A;simp at A;exact A
   rw[E,s];exact Ax.of_ints _
 ·split at h
  ·rename_i rs L
   cases h;obtain⟨N,B⟩:=XY L r;refine⟨UD H,.inr B,λout m o=>?_⟩
   have s:out.map (UD H)=Ih rs:=by
    refine P2 ?_ (Bn.mpr o) (O0 rs);have:=m.map (UD H);rw[N]at this;exact this.trans (Et rs).symm
   rw[<-s]
   exact XZ λv l=>B v (m.mem_iff.mp l)
  ·cases h
theorem Sv{K}{ρ}{H}:∀l:List Key,Ax K ρ H (l.map Xw) (l.map kV)
 | []=>.nil
 | .inl i :: l=>.cons (.int i) (Sv l)
 | .inr x :: l=>.cons (.str x) (Sv l)
theorem PL{K}{ρ}{H}:∀{l:List (Key×D)} {m:List (Key×V)},KVR K ρ H l m->Ax K ρ H (l.map λx=>Xw x.1) (m.map λx=>kV x.1)
 | _,_,.nil=>.nil
 | (k,_) :: _,(k',_) :: _,.cons r t=>by
  have e:k=k':=r.1;subst e
  cases k with
  | inl i=>exact .cons (.int i) (PL t)
  | inr x=>exact .cons (.str x) (PL t)
theorem Su{K}{ρ}{H}:∀{l:List (List Key×D)} {m:List (List Key×V)} {bs:List Aa},KVR K ρ H l m->G3 (λ(k:List Key×V) b=>H b=some (.tup (k.1.map kV))) m bs->Ax K ρ H (l.map λx=>.tup (x.1.map Xw)) (bs.map V.ref)
 | _,_,_,.nil,.nil=>.nil
 | (k,_) :: _,(k',_) :: _,_,.cons r t,.cons o s=>by
  have e:k=k':=r.1;subst e;exact .cons (.tup o (Sv k)) (Su t s)
theorem FO(Z:X.calm=true)(hg:Gl X "sorted") (B:X.mg "sorted" = none) (h:GE X E e m) (R:Ag [e] X.env=(false,Ci e X.env) :: Ag [] X.env:=by rfl):GE X E (.Call (.Name "sorted" p) [e] [] pos) (Dv m):=
 (O7 (c7 Z) hg B QZ (Gy h JA R) (by decide) (by decide) R rfl).imp<|by
 rintro σ H Q ⟨ρ,l,S,hl,hs,B⟩
 refine⟨ρ,l,S,hl,hs,B.seq λd S1 B G I x l1 T r1=>?_⟩
 cases s:Jq d S1 with
 | none=>rw[s]at B;exact B.elim
 | some U=>
  rw[s]at B;dsimp only at B
  cases L:KJ U with
  | none=>rw[L]at B;exact B.elim
  | some Y=>
   rw[L]at B
   have fin:∀A:List V,Ax X.K G I Y A->∀q,I q=none->Q (.ref q) (upd I q (.lst A)):=λA J q s=>by
    have le:Le X.K G I (G++[q]) (upd I q (.lst A)):=Le.alloc s;obtain⟨s4,l4,zB⟩:=T.alloc (ho:=.lst A) (o:=.lst Y) s ⟨_,CA,J.mono le⟩;exact B _ _ _ (l1.trans l4) s4 (.ref zB)
   have out:∀A,Ax X.K G I U A->∃f:V->ZLi,VJ I f A/\∀out,out.Perm A->out.Pairwise (λx y=>ltL (f y) (f x)=false)->∀l,I l=none->Q (.ref l) (upd I l (.lst out)):=λA J=>by
    obtain⟨f,k1,k2⟩:=fD L J;exact⟨f,k1,λout po so=>fin out (k2 out po so)⟩
   cases r1 with
   | fro N O=>cases s;exact⟨_,rfl,.inl ⟨_,.inl N.sq,out _ O⟩⟩
   | tup N O=>cases s;exact⟨_,rfl,.inl ⟨_,.inr (.inl (.inl N)),out _ O⟩⟩
   | @ref n a hn=>
    obtain⟨o,ho,P⟩:=T.there hn;unfold Jq at s;simp only[ho]at s
    cases o with
    | lst ys=>cases s;obtain⟨A,e,J⟩:=P;exact⟨_,rfl,.inl ⟨A,.inl (.inl (.inl e)),out _ J⟩⟩
    | dK f'=>cases s;obtain⟨A,e,J⟩:=P;exact⟨_,rfl,.inr (.inl ⟨A,e,out _ (PL J)⟩)⟩
    | dT f'=>cases s;obtain⟨A,e,J⟩:=P;exact⟨_,rfl,.inr (.inr ⟨A,e,λbs hb=>out _ (Su J hb)⟩)⟩
    | ins C fs=>cases s
    | fK _=>cases s
    | fT _=>cases s
    | mem _=>cases s
   | _=>cases s
end
open PySem PySem.Spec PyProof.Rows
noncomputable def fC(K:AG):Sp:=λm H Q _=>∃(a:Aa) (l:ZLi),m=[.ref a]/\UP K H a (l.map V.int)/\l.length<=63/\∀o,Q (.bl true) o
theorem ge{P}{w}{K}{l}{base}{k}{m}{fd}{f}(F:DD P w K l base (CXG P w) k m fd ["script"] (spM K 1 f))
  (h:∀ns:ZLi,ns.length<=63->∃s,f [.fro (ns.map D.int)] []=.ok (.bl true) s):DD P w K l base (CXG P w) k m fd ["script"] (fC K):=F.imp<|by
 rintro L H Q E ⟨a,ns,e,A,B,q⟩
 subst e;obtain⟨s,e⟩:=h ns B;refine⟨[],[.fro (ns.map D.int)],[],rfl,.cons (.fro A (Ax.of_ints ns)) .nil,⟨rfl,λi j a C=>by simp at C,λn o a G=>by simp at G⟩,?_⟩;rw[e]
 exact λI J x _ _ r=>by cases r;exact q J
theorem qZ{K:AG}{H:Hp}{a:Aa}{ns:ZLi}(l:mJ H)(m:SqL K H a (ns.map V.int)):UP K H a (ns.map V.int):=by
 rcases m with(h | h) | h
 ·rcases l a with z | ⟨o,s,z⟩ <;> rw[z]at h <;> cases h
 ·exact .inl h
 ·exact .inr h
theorem qt(h:CXG P w [] H s (λ_ _ _=>False) e s'):False:=by
 obtain⟨_,_,_,_,_,_,_,_,_,z⟩:=h;exact z
open PySem
noncomputable def nE(I:Lo->Sto->Prop)(R:Fl->Sto->Prop)(f:Fl)(S:Sto):Prop:=match f with
 | .nx e=>I e S
 | .ct e=>I e S
 | .bk e=>R (.nx e) S
 | .rt d=>R (.rt d) S
 | .ex c e=>R (.ex c e) S
theorem lX(I:Nat->Lo->Sto->Prop)(R:Fl->Sto->Prop)(m:∀i e S,I i e S->v S=some xs)
  (step:∀i d e S,xs[i]?=some d->I i e S->∃e1 S1,g d e S=.ok e1 S1/\∃f S2,b e1 S1=.ok f S2/\nE (I (i+1)) R f S2)
  (fin:∀e S,I xs.length e S->R (.nx e) S):∀(k i:Nat) (e:Lo) (S:Sto),I i e S->i<=xs.length->xs.length<=i+k->∃f S',Mf v g b k i e S=.ok f S'/\R f S':=by
 intro k
 induction k with
 | zero=>
  intro i e S h A B
  have:i=xs.length:=by lia
  subst this;refine⟨.nx e,S,?_,fin e S h⟩;unfold Mf;rw[m _ e S h];simp
 | succ k o=>
  intro i e S h A B;unfold Mf;rw[m _ e S h];dsimp only
  by_cases C:i < xs.length
  ·have s:xs[i]?=some xs[i]:=by simp[C]
   rw[s];dsimp only;obtain⟨e1,S1,E,f,S2,G,t⟩:=step i _ e S s h;rw[E];dsimp only[Res.bind];rw[G];dsimp only[Res.bind]
   cases f with
   | nx l=>exact o (i+1) l S2 t (by lia) (by lia)
   | ct l=>exact o (i+1) l S2 t (by lia) (by lia)
   | bk l=>exact⟨_,_,rfl,t⟩
   | rt d=>exact⟨_,_,rfl,t⟩
   | ex c l=>exact⟨_,_,rfl,t⟩
  ·have:i=xs.length:=by lia
   subst this;rw[show xs[xs.length]?=none by simp];exact⟨.nx e,S,rfl,fin e S h⟩
theorem NM(I:Nat->Lo->Sto->Prop)(R:Fl->Sto->Prop)(l:I 0 e S)(m:∀i e S,I i e S->v S=some xs)
  (step:∀i d e S,xs[i]?=some d->I i e S->∃e1 S1,g d e S=.ok e1 S1/\∃f S2,b e1 S1=.ok f S2/\nE (I (i+1)) R f S2)
  (fin:∀e S,I xs.length e S->R (.nx e) S):∃f S',Mf v g b (EY v S) 0 e S=.ok f S'/\R f S':=by
 have o:EY v S=xs.length:=by unfold EY;rw[m 0 e S l]
 rw[o];exact lX I R m step fin _ _ _ _ l (Cw _) (by lia)
theorem iT(I:Nat->Lo->Sto->List D->Prop)(o:∀i e S l,I i e S l->v S=some xs)
  (step:∀i d e S l,xs[i]?=some d->I i e S l->l.length < sizeLine/\∃e1 S1,g d e S=.ok e1 S1/\∃b S2,c e1 S1=.ok b S2/\((b=true/\∃y S3,m e1 S2=.ok y S3/\I (i+1) e1 S3 (l++[y]))∨(b=false/\I (i+1) e1 S2 l))) :
  ∀(k i:Nat) (e:Lo) (S:Sto) (l:List D),I i e S l->i<=xs.length->xs.length<=i+k->∃r s,G8 v g c m k i e S l=.ok r s/\∃C,I xs.length C s r:=by
 intro k
 induction k with
 | zero=>
  intro i e S l h E G
  have:i=xs.length:=by lia
  subst this;refine⟨l,S,?_,e,h⟩;unfold G8;rw[o _ e S l h];simp
 | succ k A=>
  intro i e S l h E G;unfold G8;rw[o _ e S l h];dsimp only
  by_cases H:i < xs.length
  ·have B:xs[i]?=some xs[i]:=by simp[H]
   rw[B];dsimp only;obtain⟨J,e1,S1,L,b,S2,N,t⟩:=step i _ e S l B h;rw[qX J,L];dsimp only[okR,Res.bind];rw[N];dsimp only[okR,Res.bind]
   rcases t with⟨rfl,y,S3,O,t⟩ | ⟨rfl,t⟩
   ·rw[qX rfl,O]
    exact A (i+1) e1 S3 _ t (by lia) (by lia)
   ·rw[qY AH]
    exact A (i+1) e1 S2 l t (by lia) (by lia)
  ·have:i=xs.length:=by lia
   subst this;rw[show xs[xs.length]?=none by simp];exact⟨l,S,rfl,e,h⟩
theorem bD(I:Nat->Lo->Sto->List D->Prop)(o:I 0 e S [])(s:∀i e S l,I i e S l->v S=some xs)
  (step:∀i d e S l,xs[i]?=some d->I i e S l->l.length < sizeLine/\∃e1 S1,g d e S=.ok e1 S1/\∃b S2,c e1 S1=.ok b S2/\((b=true/\∃y S3,m e1 S2=.ok y S3/\I (i+1) e1 S3 (l++[y]))∨(b=false/\I (i+1) e1 S2 l))) :
  ∃r A,G8 v g c m (EY v S) 0 e S []=.ok r A/\∃B,I xs.length B A r:=by
 have C:EY v S=xs.length:=by unfold EY;rw[s 0 e S [] o]
 rw[C];exact iT I s step _ _ _ _ _ o (Cw _) (by lia)
theorem pz(h:-1000000<=j):-(2 ^ 62)<=j:=Int.le_trans (by decide) h
theorem qK{j:Int}(h:j<=1000000):j < 2 ^ 62:=Int.lt_of_le_of_lt h (by decide)
theorem gp{ml:ML}{e:Lo}{S S1:Sto}{j:Int}(h:ml e S=.ok [.int j] S1)(l:-1000000<=j)(m:j<=1000000):iR1 ml e S=.ok (Hw (Jk 0 j.toNat)) S1:=by
 unfold iR1;rw[h];dsimp only[Res.bind];rw[qX ⟨pz l,qK m⟩]
theorem qI{ml:ML}{e:Lo}{S S1:Sto}{i j:Int}(h:ml e S=.ok [.int i,.int j] S1)(l:-1000000<=i)(m:i<=1000000)(o:-1000000<=j)(s:j<=1000000):iR2 ml e S=.ok (Hw (Jk i (j - i).toNat)) S1:=by
 unfold iR2;rw[h];dsimp only[Res.bind];rw[qX ⟨pz l,qK m,pz o,qK s⟩]
theorem cD(lo:Int)(n:Nat):(Jk lo n).length=n:=by simp[Jk]
theorem fM{lo:Int}{n i:Nat}{d:D}(h:(Jk lo n)[i]?=some d):i < n/\d=.int (lo+i):=by
 rw[Ub]at h;split at h
 ·rename_i l
  cases h;exact⟨l,rfl⟩
 ·cases h
theorem iE(h:0 < j)(l:j<=1000000):OA (.int i) (.int j) S=.ok (.int (i / j)) S:=by
 show(if im i j then _ else _)=_;rw[qX ⟨h,by lia⟩]
theorem aK(h:0 < j):OS (.int i) (.int j) S=.ok (.int (i % j)) S:=by
 show(if 0 < j then _ else _)=_;rw[qX h]
theorem ER(l:ma e S=.ok x S1)(hb:mb e S1=.ok y S2)(m:f x y S2=.ok d S3):m2 f ma mb e S=.ok d S3:=by
 unfold m2;rw[l];dsimp only[Res.bind];rw[hb];dsimp only[Res.bind];rw[m];rfl
theorem M0(h:m e S=.ok d S1):CT i m e S=.ok (.nx (e.set i (some d))) S1:=by
 unfold CT Y3;rw[h];rfl
theorem Ki(h:m e S=.ok d S1):DG m e S=.ok (.rt d) S1:=by
 unfold DG;rw[h];rfl
theorem Pb(h:m e S=.ok d S1):Ii m e S=.ok (.nx e) S1:=by
 unfold Ii;rw[h];rfl
theorem Hz(h:t e S=.ok c S1):sIf t a b e S=if c=true then a e S1 else b e S1:=by
 unfold sIf;rw[h];rfl
theorem WF(h:t e S=.ok c S1):UH t a b e S=if c=true then a e S1 else b e S1:=by
 unfold UH;rw[h];rfl
theorem Km(h:m e S=.ok v S1):FV m g b e S=Mf v g b (EY v S1) 0 e S1:=by
 unfold FV;rw[h];rfl
theorem MK(h:m e S=.ok ds S1)(l:ds.length=n):Cd n f m e S=f ds S1:=by
 unfold Cd;rw[h];dsimp only[Res.bind];rw[qX l]
theorem CP(h:a e S=.ok (.nx e1) S1):BH a b e S=b e1 S1:=by unfold BH;rw[h];rfl
theorem Vo(h:a e S=.ok (.rt d) S1):BH a b e S=.ok (.rt d) S1:=by unfold BH;rw[h];rfl
noncomputable def Keeps(S l:Sto):Prop:=S.length<=l.length/\∀j,j < S.length->l[j]?=S[j]?
theorem Keeps.refl(S:Sto):Keeps S S:=⟨AJ _,λ_ _=>rfl⟩
theorem Keeps.trans(a:Keeps S S1)(b:Keeps S1 S2):Keeps S S2:=⟨Au a.1 b.1,λj h=>(b.2 j (AY h a.1)).trans (a.2 j h)⟩
theorem Keeps.app(S:Sto)(G:Sto):Keeps S (S++G):=⟨by simp,λj h=>Ap h⟩
theorem Keeps.set(a:Keeps S S1)(h:S.length<=m)(o:Ob):Keeps S (S1.set m o):=⟨by simpa using a.1,λj l=>by rw[Ah (by lia)];exact a.2 j l⟩
theorem Keeps.at{S S1:Sto}(a:Keeps S S1){j:Nat}{o:Ob}(h:S[j]?=some o):S1[j]?=some o:=by
 rw[a.2 j (AF.mp h).1];exact h
theorem Ze(l:mo e S=.ok (.ref n) S1)(m:S1[n]?=some (.lst xs))(o:ma e S1=.ok y S2)(s:S2[n]?=some (.lst xs2))(A:xs2.length < sizeLine) :
  RF mo ma e S=.ok .non (S2.set n (.lst (xs2++[y]))):=by
 unfold RF;rw[l];dsimp only[Res.bind];rw[m];dsimp only;rw[o];dsimp only[Res.bind];rw[s];dsimp only;rw[qX A]
theorem cn(m:mo e S=.ok (.ref n) S1)(o:S1[n]?=some (.lst xs))(s:ma e S1=.ok (.ref k) S2)(A:S2[n]?=some (.lst xs2))(B:S2[k]?=some (.lst l))(C:k≠n)(E:xs2.length+l.length<=sizeLine) :
  Np mo ma e S=.ok .non (S2.set n (.lst (xs2++l))):=by
 unfold Np;rw[m];dsimp only[Res.bind]
 have G:atL (.ref n) S1=some (n,xs):=by unfold atL;dsimp only;rw[o]
 have H:atL (.ref n) S2=some (n,xs2):=by unfold atL;dsimp only;rw[A]
 have I:atL (.ref k) S2=some (k,l):=by unfold atL;dsimp only;rw[B]
 rw[G];dsimp only;rw[s];dsimp only[Res.bind];rw[H,I];dsimp only;rw[qX ⟨C,E⟩]
theorem jr(h:xs.length+l.length<=sizeLine):Fh (.tup xs) (.tup l) S=.ok (.tup (xs++l)) S:=by
 unfold Fh;dsimp only;rw[qX h]
theorem EB(h:S[n]?=some (.lst xs)):Fy (.ref n) S=some xs:=by
 unfold Fy Qj;dsimp only;rw[h]
theorem LO(h:m e S=.ok (.ref n) S1)(l:S1[n]?=some (.lst xs)):ES m e S=.ok (Fy (.ref n)) S1:=by
 unfold ES;rw[h];dsimp only[Res.bind];rw[EB l]
theorem Sy(h:m e S=.ok (.tup xs) S1):ES m e S=.ok (Hw xs) S1:=by
 unfold ES;rw[h];rfl
theorem ZC(h:ml e S=.ok ds S1):ED ml e S=.ok (.ref S1.length) (S1++[.lst ds]):=by
 unfold ED;rw[h];rfl
theorem Dx(S:Sto)(o:Ob):(S++[o])[S.length]?=some o:=by simp
theorem HK(h:S[n]?=some (.lst ds)):Gc (.ref n) S=some ds:=by
 unfold Gc;dsimp only;rw[h]
theorem OV(h:S[n]?=some (.lst ds)):Jq (.ref n) S=some ds:=by
 unfold Jq;dsimp only;rw[h]
theorem ID(h:m e S=.ok d S1)(hi:Jq d S1=some ds)(l:KJ ds=some es):Dv m e S=.ok (.ref S1.length) (S1++[.lst es]):=by
 unfold Dv;rw[h];dsimp only[Res.bind];rw[hi];dsimp only;rw[l]
theorem Oy(h:m e S=.ok d S1)(l:Gc d S1=some ds):IG m e S=.ok (.tup ds) S1:=by
 unfold IG;rw[h];dsimp only[Res.bind];rw[l]
theorem ZK(h:m e S=.ok d S1)(l:Gc d S1=some ds):Me m e S=.ok (.int ds.length) S1:=by
 unfold Me;rw[h];dsimp only[Res.bind];rw[l]
theorem RW(l:mv e S=.ok v S1)(ho:mo e S1=.ok (.ref n) S2)(m:S2[n]?=some (.ins C fs))(o:fs.length < 1000) :
  KL C f mo mv e S=.ok (.nx e) (S2.set n (.ins C (KB f v fs))):=by
 unfold KL;rw[l];dsimp only[Res.lift];rw[ho];dsimp only[Res.lift];rw[m];dsimp only;rw[qX ⟨rfl,o⟩]
theorem Kn(h:m e S=.ok (.ref n) S1)(l:S1[n]?=some (.ins C fs))(o:fs.lookup f=some v):EE C f m e S=.ok v S1:=by
 unfold EE;rw[h];dsimp only[Res.bind];rw[l];dsimp only;rw[qX rfl,o]
theorem aM(h:ml e S=.ok ds S1)(l:ds.length+1=n)(m:f (.ref S1.length :: ds) (S1++[.ins C []])=.ok .non S2):Qr C n f ml e S=.ok (.ref S1.length) S2:=by
 unfold Qr;rw[h];dsimp only[Res.bind];rw[qX l,m]
theorem DE(h:m e S=.ok d S1)(l:r e S1=.ok ds S2):AR m r e S=.ok (d :: ds) S2:=by
 unfold AR;rw[h];dsimp only[Res.bind];rw[l]
theorem WT(h:mi e S=.ok v S1):EQ n mi g c m e S=G8 v g c m (EY v S1) 0 (By n none++e) S1 []:=by
 unfold EQ;rw[h];rfl
theorem Wh(h:m e S=.ok (.bl b) S1):mB m e S=.ok b S1:=by
 unfold mB;rw[h];rfl
theorem m9(l:ma e S=.ok x S1)(hb:mb e S1=.ok y S2)(m:f x y S2=.ok (.bl true) S3)(o:s e S3=.ok w A)(B:g y w A=.ok d S5):m3 f g ma mb s e S=.ok d S5:=by
 unfold m3;rw[l];dsimp only[Res.bind];rw[hb];dsimp only[Res.bind];rw[m];dsimp only[Res.bind,okR];rw[o];dsimp only[Res.bind];rw[B]
theorem tq(l:ma e S=.ok x S1)(hb:mb e S1=.ok y S2)(m:f x y S2=.ok (.bl false) S3):m3 f g ma mb o e S=.ok (.bl false) S3:=by
 unfold m3;rw[l];dsimp only[Res.bind];rw[hb];dsimp only[Res.bind];rw[m];rfl
theorem gc(h:decide (i<=j)=b):leD (.int i) (.int j) S=.ok (.bl b) S:=by subst h;rfl
theorem pq(h:decide (i < j)=b):ltD (.int i) (.int j) S=.ok (.bl b) S:=by subst h;rfl
theorem qW(h:decide (j<=i)=b):geD (.int i) (.int j) S=.ok (.bl b) S:=by subst h;rfl
theorem ql(h:decide (i=j)=b):eqD false (.int i) (.int j) S=.ok (.bl b) S:=by
 subst h;show Res.ok (D.bl (i==j)) S=_;rfl
theorem OR(h:m e S=.ok b S1):QJ m e S=.ok (!b) S1:=by
 unfold QJ;rw[h];rfl
theorem Yn(h:ml e S=.ok ds S1)(l:ds.length<=1000):Hr ml e S=.ok (.tup ds) S1:=by
 unfold Hr;rw[h];dsimp only[Res.bind];rw[qX (Au l (by decide))]
theorem pN(h:l e S=.ok true S1):mOr l m e S=.ok true S1:=by
 unfold mOr;rw[h];rfl
theorem ft(h:l e S=.ok false S1):mOr l m e S=m e S1:=by
 unfold mOr;rw[h];rfl
theorem Wc(h:l e S=.ok true S1):RG l m e S=m e S1:=by
 unfold RG;rw[h];rfl
theorem bK(h:l e S=.ok false S1):RG l m e S=.ok false S1:=by
 unfold RG;rw[h];rfl
theorem ss(h:m e S=.ok d S1)(l:Gc d S1=some ds):Xq m e S=.ok ds S1:=by
 unfold Xq;rw[h];dsimp only[Res.bind];rw[l]
theorem oh(h:ml e S=.ok ds S1)(l:f ds S1=.ok d S2):mQ f ml e S=.ok d S2:=by
 unfold mQ;rw[h];dsimp only[Res.bind];rw[l];rfl
theorem LK(h:S[n]?=some (.lst ds)):PK (.ref n) S=some ds:=by
 unfold PK;dsimp only;rw[h]
open PySem PySem.Spec PyProof.Rows
section
variable{X:Cx}{E:EW}{e:Expr}{p pos:Pos}{m:ME}
noncomputable def gX(m:ME):ME:=λe S=>(m e S).bind λd l=>match d with
 | .int i=>.ok (.int i) l
 | .bl k=>.ok (.int (if k then 1 else 0)) l
 | _=>.bad
theorem ao(J:Gl X "int") (o:X.mg "int" = none) (h:GE X E e m) (A:Ag [e] X.env=(false,Ci e X.env) :: Ag [] X.env:=by rfl):GE X E (.Call (.Name "int" p) [e] [] pos) (gX m):=
 (QA dA J o ut (Gy h JA A) (by decide) (by decide) A rfl).imp<|by
 rintro P H Q ⟨L,l,S,N,O,o⟩
 refine⟨L,l,S,N,O,o.seq λd R o s B x C G I=>?_⟩
 cases d <;> first | exact o.elim | skip
 ·cases I
  exact .inr ⟨_,rfl,o s B _ C G (.int _)⟩
 ·cases I
  exact .inl ⟨_,rfl,o s B _ C G (.int _)⟩
end
end L2
namespace PySem
open Sem (wp)
open AutoSeq1 (wpAny_loadPart')
theorem NF(l:Aa)(items:Array Value)(n:Nat)(ϫ:Option Aa)(sl:Array (Option Value)) :
  Meets (Builtin.«enumerate.__new__» ⟨[.type "enumerate",.ref l],[]⟩) (λ_ R s=>s.heap.get? l=some { cls:=.type "tuple",dict:=ϫ,data:=.seq items n,slots:=sl } /\
   R (.ok (.ret (.ref (s.heap.push { cls:=.type "tuple_iterator",data:=.fields #[.ref l,.int 0 0] }).objs.size)))
    { s with heap:=(s.heap.push { cls:=.type "tuple_iterator",data:=.fields #[.ref l,.int 0 0] }).push { cls:=.type "enumerate",data:=.fields #[.none,.bool false,.ref s.heap.objs.size,Pm 0,.none,.none] } }):=
 .of_wp λB w A R s h=>by
  obtain⟨C,g,d,E,os⟩:=s;obtain⟨m,h⟩:=h;have G:=sub_enumerate;have o:DS.IsTuple (AS.heap ⟨C,g,d,E,os⟩) l items:=⟨_,m,rfl,n,rfl⟩
  wp_walk using Oe m
  refine wpAny_stack_any λst=>AL ?_
  split
  ·rename_i c _ _ _ _ _
   cases(c==Dz "enumerate")
   ·wp_walk using Oe m,LX o
    exact⟨_,rfl,h⟩
   ·wp_walk using Oe m,LX o
    exact⟨_,rfl,h⟩
  ·wp_walk using Oe m,LX o
   exact⟨_,rfl,h⟩
section
variable{w:CQ}{A:Ce}{E:Value->AS->Prop}{s:AS}
theorem NT(I:s.heap.IsTuple l m)
  (h:∀h',VX h' (s.heap.objs.size+1) s.heap.objs.size 0 .none->h'.IsTupleIter s.heap.objs.size l 0->h'.objs.size=s.heap.objs.size+2 ->
   (∀b o,s.heap.get? b=some o->h'.get? b=some o)->Q (.ref (s.heap.objs.size+1)) { s with heap:=h' }) :
  Ao (Ac prog w) A (call (.type "enumerate") [.ref l]) Q E s:=by
 obtain⟨⟨c,ϫ,J,sl⟩,L,B,n,C⟩:=I
 replace B:c=.type "tuple":=B
 replace C:J=.seq m n:=C
 subst B C
 refine callType_new F.called_enumerate (by decide) (F.typeCall_enumerate_1 _) (F.newCall_enumerate_1 _) (λobj=>F.args_object_init_2 obj _) F.entry_enumerate_new
  (NF l m n ϫ sl) ⟨L,?_⟩
 have G:(s.heap.push { cls:=.type "tuple_iterator",data:=.fields #[.ref l,.int 0 0] }).objs.size=s.heap.objs.size+1:=E9 ..;show _/\_;rw[G]
 have H:VX ((s.heap.push { cls:=.type "tuple_iterator",data:=.fields #[.ref l,.int 0 0] }).push
   { cls:=.type "enumerate",data:=.fields #[.none,.bool false,.ref s.heap.objs.size,Pm 0,.none,.none] }) (s.heap.objs.size+1) s.heap.objs.size 0 .none:=by
  have:=An (s.heap.push { cls:=.type "tuple_iterator",data:=.fields #[.ref l,.int 0 0] })
   (o:={ cls:=.type "enumerate",data:=.fields #[.none,.bool false,.ref s.heap.objs.size,Pm 0,.none,.none] }) rfl
  rw[G]at this;exact this
 refine⟨⟨_,H,rfl⟩,h _ H ⟨_,AO _ (An _ rfl),rfl,rfl⟩ (by rw[E9,G]) λb o x=>AO _ (AO _ x)⟩
theorem PF{it t}{i}{l}{x}{Q}(m:s.heap.IsTupleIter it t i)
  (G:s.heap.IsTuple t l) (H:l[i]?=some x)
  (I:∀h',h'.IsTupleIter it t (i+1)->FK it s.heap h'->Q x { s with heap:=h' }) :
  Ao (Ac prog w) A (FC (.ref it)) Q E s:=by
 obtain⟨o,C,J,B⟩:=id m;obtain⟨L,Ϭ,_,N,ϭ⟩:=G;unfold FC
 refine AB (DQ (name:=FQ "__next__") m.typeIs Gm
  (DP Gm m.typeIs Wo ?_ (VZ _)))
 show Ao _ _ (field (.ref it) 0 >>= _) _ _ s;refine AB (IM C B (x:=.ref t) rfl ?_);show Ao _ _ (if (Ba t==Ed)=true then _ else _) _ _ s;rw[qY (show ¬((Ba t==Ed)=true)from AH)];show Ao _ _ (field (.ref it) 1 >>= _) _ _ s;refine AB (IM C B (x:=.int i 0) rfl ?_);show Ao _ _ (seqItems? (.ref t) >>= _) _ _ s;refine AB (wpAny_seqItems Ϭ ϭ ?_);simp only[A9,H];refine AB (Pk C B (by simp) (AL ⟨x,rfl,AL (I _ ?_ (IC ..))⟩))
 exact⟨_,Nf _ C (Zo (KZ B _)),(ip ..).trans J,by
  rw[KZ B];simp[Pm]⟩
theorem LJ{it t}{i}{l}{Q}(H:A.handled=none)
  (B:s.heap.IsTupleIter it t i) (I:s.heap.IsTuple t l) (J:l[i]?=none)
  (L:∀h' e,Zr it s.heap h'->(∃o,h'.get? e=some o/\o.cls=.type "StopIteration")->E (.ref e) { s with heap:=h' }) :
  Ao (Ac prog w) A (FC (.ref it)) Q E s:=by
 obtain⟨o,C,N,G⟩:=id B;obtain⟨O,Ϭ,_,P,ϭ⟩:=I;unfold FC
 refine AB (DQ (name:=FQ "__next__") B.typeIs Gm
  (DP Gm B.typeIs Wo ?_ (VZ _)))
 show Ao _ _ (field (.ref it) 0 >>= _) _ _ s;refine AB (IM C G (x:=.ref t) rfl ?_);show Ao _ _ (if (Ba t==Ed)=true then _ else _) _ _ s;rw[qY (show ¬((Ba t==Ed)=true)from AH)];show Ao _ _ (field (.ref it) 1 >>= _) _ _ s;refine AB (IM C G (x:=.int i 0) rfl ?_);show Ao _ _ (seqItems? (.ref t) >>= _) _ _ s;refine AB (wpAny_seqItems Ϭ ϭ ?_);simp only[A9,J];refine AB (Rp (AB (Pk C G (by simp) ?_)));show Ao _ _ (newExc (.type "StopIteration") [] >>= _) _ _ _;refine AB ?_;simp only[newExc,newTuple];refine AB (DA ?_ (by size_fits));refine AB (m:=Po _ _) (wpAny_of_eq (a:=Ed) (by first | rfl | (simp only[Po];rfl)) ?_);refine DA ?_ (by size_fits);simp only[raiseNew];refine AB (wpAny_handled ?_)
 first | rw[show A.in1.handled=none from H] | rw[H]
 refine AB (AL (wpAny_throw ?_));exact L _ _ (((IC ..).extBut.push _).push _) ⟨_,An _ rfl,rfl⟩
theorem YE(I:A.handled=none)(it l:Aa)(J:l≠it)(m:Array Value) :
  Draws prog w A it [it,l] m.size (λi v=>m[i]?=some v) (λi h=>h.IsTupleIter it l i/\h.IsTuple l m) where
 live:=λ_ _ st=>let ⟨o,B,_⟩:=st.1;⟨o,B⟩
 frame:=λ_ _ _ st C=>⟨st.1.at λo e=>C it (by simp) o e,let ⟨o,B,r⟩:=st.2;⟨o,C l (by simp) o B,r⟩⟩
 item:=λi s Q E G st L=>by
  refine PF st.1 st.2 (x:=m[i]) (by simp[G]) λN O H=>?_
  exact L _ N s.toks (by simp[G]) ⟨O,st.2.extBut H.extBut J⟩ H
 done:=λs Q E st P=>LJ I st.1 st.2 (by simp) P
theorem Ny{e it l:Aa}{i:Nat}{m:Array Value}{B:Value}{Q:Option Value->AS->Prop}(I:A.handled=none)
  (G:VX s.heap e it i B) (C:s.heap.IsTupleIter it l i) (J:s.heap.IsTuple l m) (L:m[i]?=none)
  (N:∀h',Zr it s.heap h'->Q none { s with heap:=h' }):Ao (Ac prog w) A (VN (.ref e)) Q E s:=by
 have H:s.TypeIs (.ref e) "enumerate":=⟨_,G,rfl⟩;unfold VN
 refine AB (RM (DQ (name:=FQ "__next__") H dO
  (DP dO H F.entry_enumerate_next ?_ (F.args_enumerate_next_1 _))))
 show Ao _ _ (field (.ref e) 2 >>= _) _ _ _;refine AB (IM G rfl (x:=.ref it) rfl ?_);refine AB (LJ I C J L λh' x Ϫ O=>?_);obtain⟨o,P,R⟩:=O;refine AB (re (T:="StopIteration") (b:=true) ⟨o,P,R⟩ isSubtype_stop ?_);exact AL (N _ Ϫ)
end
end PySem
namespace L2
open PySem PySem.Spec PyProof.Rows
theorem Inv.turned2(I:Inv X E L H s)(k:∀b u,b≠e->b≠it->s.heap.get? b=some u->h'.get? b=some u)
  (A:Oc X E H e) (B:Oc X E H it) (G:s.heap.objs.size<=a) (new:Dj X.prog X.w (upd H a o) h' a o):Inv X E L (upd H a o) { s with heap:=h',toks:=t' }:=by
 have C:=I.hok.fresh G
 have J:∀b u,H b=some u->b≠e/\b≠it:=λb u q=>⟨λz=>(by rw[z,A.1]at q;cases q),λz=>(by rw[z,B.1]at q;cases q)⟩
 have out:∀b:Aa,b∉[e,it]->b≠e/\b≠it:=λb hb=>⟨λz=>hb (by simp[z]),λz=>hb (by simp[z])⟩
 refine I.step (g':=s.gens) (d':=s.drawn) (ch:=[e,it]) (λb hb=>?_) (λb o _ _ l q _=>k b o (out b l).1 (out b l).2 q) (λb o _ _ l q _=>⟨o.slots,k b o (out b l).1 (out b l).2 q⟩) (λb o _ q n=>?_)
  (λb o l q=>⟨o,k b o (out b l).1 (out b l).2 q⟩) (λb N q=>by rw[Bo (Cr q C)];exact q) (λb o u q=>by rw[Bo (Cr q C)];exact q) (λb T q=>⟨#[],by rw[Bo (Cr q C),q];simp⟩) (λm O=>?_) (λb u q=>?_) I.bare
 ·have P:b=e∨b=it:=by simpa using hb
  rcases P with z | z
  ·subst z;exact⟨A.2.2.2.1,A.2.1,A.2.2.2.2.1,A.2.2.2.2.2⟩
  ·subst z;exact⟨B.2.2.2.1,B.2.1,B.2.2.2.2.1,B.2.2.2.2.2⟩
 ·rw[Bo (BJ (AY (Ak q) G))];exact n
 ·obtain⟨o,Q,R,S,r⟩:=O
  exact⟨o,Q,R,k _ o (Ch A.2.1) (Ch B.2.1) S,r⟩
 ·by_cases hb:b=a
  ·subst hb;rw[CA]at q;cases q;exact new
  ·rw[Bo hb]at q
   refine(I.hok b u q).stay (λc v l r=>?_) (λc r=>by rw[Bo (Cr r C)];exact r) λc N r=>by rw[Bo (Cr r C)];exact r
   have:c≠e/\c≠it:=by
    rcases l with z | z
    ·rw[z];exact J b u q
    ·exact J c _ z
   exact k c v this.1 this.2 r
noncomputable def Ite(sq:Hp->List V->Prop):It:=
 ⟨λi H=>∃l x,sq H l/\l[i]?=some x,λi H y m=>∃p x,H p=none/\y=.ref p/\m=upd H p (.tup [.int i,x])/\∀l,sq H l->l[i]?=some x,λi H=>∃l,sq H l/\l.length<=i⟩
section
variable{P:Bs}{w:CQ}{K:AG}{elts:List Expr}{x1:Nat}{pos:Pos}
theorem Uy{X:Cx}{B:List (Aa×Obj)}{J:St}{H:Hp}{s:AS}{E:Value->AS->Prop}{sq:Hp->List V->Prop}{e it:Aa}{i:Nat}{x:V}{u:Value}{l:Nat}{h':DS}{tn:Nat->DS->Prop}
  (I:Inv X B J H s) (vq:e≠it) (L:∀b∈[e,it],Oc X B H b) (le:e < s.heap.objs.size) (T:it < s.heap.objs.size) (U:RelV x u) (Y:∀xs,sq H xs->xs[i]?=some x)
  (ho:IsEnumOut h' e it ((i:Int)+1) u s.heap.objs.size) (N:h'.get? s.heap.objs.size=some { cls:=.type "tuple",data:=.seq #[.int i l,u] }) (Z:∀b o,b≠e->b≠it->s.heap.get? b=some o->h'.get? b=some o)
  (ht:∀h2,FK e h' h2->(∃C,VX h2 e it ((i+1:Nat):Int) C)->tn (i+1) h2) :
  Ao (Ac X.prog X.w) X.A (Og (.Tuple elts x1 pos) (.ref e) (.ref s.heap.objs.size)) (λ_ O=>∃y G,Inv X B J G O/\RelV y (.ref s.heap.objs.size)/\(Ite sq).yld i H y G/\tn (i+1) O.heap/\∀b∈[e,it],G b=none) E { s with heap:=h',toks:=l+1 }:=by
 have m:=L e (by simp);have Q:=L it (by simp);have R:e≠s.heap.objs.size:=BJ le;have ni:it≠s.heap.objs.size:=BJ T
 have new:Dj X.prog X.w (upd H s.heap.objs.size (.tup [.int i,x])) h' s.heap.objs.size (.tup [.int i,x]):=
  ⟨⟨Au (show 2<=1000 by decide) (by decide),_,N,rfl⟩,[.int i l,u],.cons ⟨l,rfl⟩ (.cons U .nil),_,N,rfl,_,rfl⟩
 have I1:=I.turned2 (t':=l+1) Z m Q (AJ _) new
 refine wpAny_letOwnedTupleGo_enum (s:={ s with heap:=h',toks:=l+1 }) ho λh2 zM vR=>?_
 have S:FK e h' h2:=vR;have I2:=I1.turned (t':=l+1) (h':=h2) (it:=e) (λb o hb q=>(S.2 b hb).trans q) (by rw[Bo R];exact m.1) m.2.1 m.2.2.2.1 m.2.2.2.2.1 m.2.2.2.2.2;refine⟨.ref s.heap.objs.size,_,I2,rfl,⟨s.heap.objs.size,x,I.hok.fresh (AJ _),rfl,rfl,Y⟩,ht h2 S ⟨u,by rw[Int.natCast_add,Int.natCast_one];exact zM⟩,λb hb=>?_⟩
 have ve:b=e∨b=it:=by simpa using hb
 rcases ve with z | z
 ·rw[z,Bo R];exact m.1
 ·rw[z,Bo ni];exact Q.1
theorem Ym(a e it:Aa)(C:e≠it):UN P w K (.Tuple elts x1 pos) (Ite λH xs=>SqL K H a xs) [e,it] e (λi h=>(∃l,VX h e it i l)/\h.IsListIter it a i) where
 mem:=by simp
 obj:=λi h st b hb=>by
  have T:b=e∨b=it:=by simpa using hb
  rcases T with z | z
  ·subst z
   obtain⟨⟨l,m⟩,_⟩:=st
   exact⟨_,m,λv z=>by
    have U:Zs _=iy v:=z
    cases U⟩
  ·subst z
   obtain⟨_,o,e,c,d⟩:=st;exact⟨o,e,λv z=>by rw[d]at z;cases z⟩
 keep:=λi h R st k=>⟨st.1.imp λl m=>k e (by simp) _ m,st.2.at λo q=>k it (by simp) o q⟩
 item:=by
  intro X G hw J S i Y s Z H E I L st N;subst G hw J;obtain⟨xs,x,B,O⟩:=N;obtain⟨i',Q,p,hz⟩:=I.list B;obtain⟨u,hu,ru⟩:=Q.get O;obtain⟨⟨l,m⟩,A⟩:=st
  have li:it < s.heap.objs.size:=by obtain⟨o,q,_⟩:=A;exact Ak q
  refine wpAny_pyNext_enum_item m A p.isList (x:=u) (by simpa using hu) C λR ho yG hT hsz hk=>?_
  exact⟨_,rfl,Uy (sq:=λH xs=>SqL X.K H a xs) (tn:=λi h=>(∃l,VX h e it i l)/\h.IsListIter it a i) I C L (Ak m) li ru (λys hy=>by rw[I.list_inj hy B];exact O) ho hT hk λh2 vR zM=>⟨zM,yG.at λo q=>(vR.2 it (Ch C)).trans q⟩⟩
 done:=by
  intro X G hw J S i Y s Z H E I L st N;subst G hw J;obtain⟨xs,B,O⟩:=N;obtain⟨i',Q,p,hz⟩:=I.list B;obtain⟨⟨l,m⟩,A⟩:=st;obtain⟨f0,f1,f2,f3,f4,f5⟩:=L it (by simp);have hl:=Q.length
  exact wpAny_pyNext_enum_end (I.ok.hd S) m A p.isList (by simp;lia) λR eb=>⟨rfl,I.turned (t':=s.toks) (λb o hb e=>eb b o hb e) f0 f1 f3 f4 f5⟩
 self:=λ_ _ _ _ _ st h=>by
  obtain⟨⟨l,m⟩,_⟩:=st;exact Mi m h
theorem Yl(a e it:Aa)(J:e≠it)(N:a≠it)(O:e≠a):UN P w K (.Tuple elts x1 pos) (Ite λH xs=>SqT K H a xs) [e,it] e (λi h=>(∃l,VX h e it i l)/\h.IsTupleIter it a i) where
 mem:=by simp
 obj:=λi h st b hb=>by
  have ve:b=e∨b=it:=by simpa using hb
  rcases ve with z | z
  ·subst z
   obtain⟨⟨l,m⟩,_⟩:=st
   exact⟨_,m,λv z=>by
    have z':Zs _=iy v:=z
    cases z'⟩
  ·subst z
   obtain⟨_,o,e,c,d⟩:=st;exact⟨o,e,λv z=>by rw[d]at z;cases z⟩
 keep:=λi h h' st k=>⟨st.1.imp λl m=>k e (by simp) _ m,st.2.at λo q=>k it (by simp) o q⟩
 item:=by
  intro X Q hw R S i ζ s σ H E I T st U;subst Q hw R;obtain⟨xs,x,L,Y⟩:=U;obtain⟨C,Z,p,hz⟩:=I.tuple L;have p':s.heap.IsTuple a C.toArray:=p;obtain⟨u,hu,ru⟩:=Z.get Y
  have vw:i < C.toArray.size:=by
   have:=(AF.mp hu).1;simpa using this
  obtain⟨⟨l,m⟩,B⟩:=st
  have li:it < s.heap.objs.size:=by obtain⟨o,q,_⟩:=B;exact Ak q
  refine wpAny_pyNext_enum_itemD (YE (A:=X.A.in1) (I.ok.hd S) it a N C.toArray) m ⟨B,p'⟩ vw J (by simp[J,O]) λu' h' tk hu' ho Ϯ hT hsz hk=>?_
  have:u'=u:=by
   have G:C[i]?=some u':=by simpa using hu'
   rw[hu]at G;cases G;rfl
  subst this;exact⟨_,rfl,Uy (sq:=λH xs=>SqT X.K H a xs) (tn:=λi h=>(∃l,VX h e it i l)/\h.IsTupleIter it a i) I J T (Ak m) li ru (λys hy=>by rw[I.tuple_inj hy L];exact Y) ho hT hk λh2 vR zM=>⟨zM,Ϯ.1.at λo q=>(vR.2 it (Ch J)).trans q⟩⟩
 done:=by
  intro X Q hw R S i ζ s σ H E I T st U;subst Q hw R;obtain⟨xs,L,Y⟩:=U;obtain⟨C,Z,p,hz⟩:=I.tuple L;obtain⟨⟨l,m⟩,B⟩:=st;obtain⟨f0,f1,f2,f3,f4,f5⟩:=T it (by simp);have hl:=Z.length
  exact Ny (I.ok.hd S) m B (show s.heap.IsTuple a C.toArray from p) (by simp;lia) λh' eb=>⟨rfl,I.turned (t':=s.toks) (λb o hb e=>eb b o hb e) f0 f1 f3 f4 f5⟩
 self:=λ_ _ _ _ _ st h=>by
  obtain⟨⟨l,m⟩,_⟩:=st;exact Mi m h
end
section
variable{X:Cx}{E:EW}{e:Expr}{elts:List Expr}{x1:Nat}{p pos ptg:Pos}{ta:TA}
noncomputable def uF(K:AG)(ta:TA):TI:=λo H R=>ta o H λs m=>∃a,s=[.ref a]/\(((∃l,SqL K m a l)/\R (Ite λH l=>SqL K H a l) m)∨((∃l,SqT K m a l)/\R (Ite λH l=>SqT K H a l) m))
theorem kU(U:Gl X "enumerate") (Y:X.mg "enumerate" = none) (Z:PA X [e] ta) (hs:Ag [e] X.env=[(false,Ci e X.env)]:=by rfl):PI X (.Tuple elts x1 ptg) (.Call (.Name "enumerate" p) [e] [] pos) (uF X.K ta):=by
 intro P s σ H R I h;refine Call_ (OU I U Y boot_enumerate (Dt (thn (Z pos P s σ H _ I h) λus l ⟨vs,G,m,r1,J⟩=>?_) hs rfl));obtain⟨a,rfl,J⟩:=J;obtain⟨u,rfl,ru⟩:=vals1 r1;cases ru
 have Q:∀{h':DS} (b:Aa),b∈[l.heap.objs.size+1,l.heap.objs.size]->Oc X P G b:=λb hb=>by
  have ve:b=l.heap.objs.size+1∨b=l.heap.objs.size:=by simpa using hb
  rcases ve with z | z
  ·rw[z];exact m.fpOk (OH _) (m.hok.fresh (OH _))
  ·rw[z];exact m.fpOk (AJ _) (m.hok.fresh (AJ _))
 rcases J with⟨⟨xs,sq⟩,q⟩ | ⟨⟨xs,sq⟩,q⟩
 ·obtain⟨S,rv,L,hz⟩:=m.list sq
  refine call_enumerate_list L.isList λh' B A N O=>Mi B ?_
  exact⟨_,[l.heap.objs.size+1,l.heap.objs.size],_,_,G,rfl,m.kept (t':=l.toks) O,Ym a _ _ (jC _),⟨⟨_,B⟩,A⟩,Q (h':=h'),q⟩
 ·obtain⟨S,rv,L,hz⟩:=m.tuple sq
  have C:l.heap.IsTuple a S.toArray:=L
  have T:a < l.heap.objs.size:=by obtain⟨o,q,_⟩:=C;exact Ak q
  refine NT C λh' B A N O=>Mi B ?_
  exact⟨_,[l.heap.objs.size+1,l.heap.objs.size],_,_,G,rfl,m.kept (t':=l.toks) O,Yl a _ _ (jC _) (BJ T) (FS (LV T)),⟨⟨_,B⟩,A⟩,Q (h':=h'),q⟩
noncomputable def TH(ds:List D):List D:=ds.zipIdx.map λx=>.tup [.int x.2,x.1]
noncomputable def Qk(v:QX):QX:=λS=>(v S).map TH
noncomputable def NJ(m:ME):MI:=λe S=>(m e S).bind λd l=>match Fy d l with
 | some _=>.ok (Qk (Fy d)) l
 | none=>.bad
theorem TF(ds:List D)(i:Nat):(TH ds)[i]?=(ds[i]?).map λd=>.tup [.int i,d]:=by
 unfold TH;rw[Ai,JH]
 cases ds[i]? <;> simp
theorem Qi{K}{ρ}{H}{J}{v}{sq}(P:Na K ρ H J v)(Q:∀i H,J.go i H->∃xs x,sq H xs/\xs[i]?=some x)(R:∀i H,J.stop i H->∃xs,sq H xs/\xs.length<=i)
  (T:∀i H x,(∀xs,sq H xs->xs[i]?=some x)->J.yld i H x H):Na K ρ H (Ite sq) (Qk v):=by
 intro G o S ds i l s A;unfold Qk at A
 cases I:v S with
 | none=>rw[I]at A;cases A
 | some m=>
  rw[I]at A;cases A;obtain⟨U,Y⟩:=P G o S m i l s I;refine⟨λL=>?_,λd B=>?_⟩
  ·rw[TF]at L
   refine R i o (U ?_)
   cases C:m[i]? with
   | none=>rfl
   | some d=>rw[C]at L;cases L
  ·rw[TF]at B
   cases C:m[i]? with
   | none=>rw[C]at B;cases B
   | some Z=>
    rw[C]at B;cases B;obtain⟨b1,b2⟩:=Y Z C;refine⟨Q i o b1,λy H' hy=>?_⟩;obtain⟨p,x,hp,rfl,rfl,hx⟩:=hy;obtain⟨N,l3,s3,r3⟩:=b2 x o (T i o x hx);obtain⟨s4,O⟩:=IQ (ho:=.tup [.int i,x]) s3 hp;exact⟨N,l3.trans O,s4,.tup CA (.cons (.int _) (.cons (r3.mono O) .nil))⟩
theorem aj(N:Gl X "enumerate") (o:X.mg "enumerate" = none) (h:GE X E e m) (G:Ag [e] X.env=[(false,Ci e X.env)]:=by rfl):GI X E (.Tuple elts x1 ptg) (.Call (.Name "enumerate" p) [e] [] pos) (NJ m):=
 (kU N o (Gy h JA G) G).imp<|by
 rintro σ H R ⟨O,l,S,P,Q,o⟩
 refine⟨O,l,S,P,Q,o.seq λd T o s I x J C A=>?_⟩
 cases d with
 | tup U=>
  have ϯ:=o
  cases A with
  | @tup _ a Y L Z=>
   exact⟨a,rfl,.inr ⟨⟨Y,.inl (.inl L)⟩,ϯ s I _ J C (Qi (Ry L Z) (λi H z=>z) (λi H z=>z) λi H x z=>⟨rfl,z⟩)⟩⟩
 | _=>
  cases B:Fy _ T with
  | none=>rw[B]at o;exact o.elim
  | some U=>
   rw[B]at o
   have:∃a,x=.ref a:=by
    cases A <;> first | exact⟨_,rfl⟩ | (cases B;done)
   obtain⟨a,rfl⟩:=this;obtain⟨xs,sq,_⟩:=R5 C A B;exact⟨a,rfl,.inl ⟨⟨xs,sq⟩,o s I _ J C (Qi (R3 A) (λi H z=>z) (λi H z=>z) λi H x z=>⟨rfl,z⟩)⟩⟩
end
open PySem
theorem J6{l:Type}{xs:List l}{j:Int}{x:l}(m:0<=j)(h:xs[j.toNat]?=some x):atI xs j=some x:=by
 have o:=(AF.mp h).1;unfold atI ixN;rw[qX (by omega),qX (by lia)];simpa using h
theorem aa(l:Gc d S=some ds)(m:0<=j)(h:ds[j.toNat]?=some z):ixA d (.int j) S=.ok z S:=by
 show Jl (ixD d (.int j) S) _=_
 have:ixD d (.int j) S=.ok z S:=by
  unfold ixD;rw[l];dsimp only;rw[J6 m h]
 rw[this];rfl
theorem qu{l:Type}(xs:List l){k:Nat}(h:k<=xs.length):Hs xs none (some (k:Int))=xs.take k:=by
 unfold Hs;rw[HT.aA,HT.XV,mT h];simp
theorem iS{l:Type}(xs:List l){k:Nat}(h:k<=xs.length):Hs xs (some (k:Int)) none=xs.drop k:=by
 unfold Hs;rw[HT.aA,HT.XV,mT h];exact Co (by simp)
theorem p7{m:Type}:∀{l:List m},l.length=1->∃o,l=[o]
 | [a],_=>⟨a,rfl⟩
theorem t6{o:Type}:∀{l:List o},l.length=2->∃s m,l=[s,m]
 | y :: _,q=>by
  obtain⟨m,rfl⟩:=p7 (LU q);exact⟨y,m,rfl⟩
theorem t5{s:Type}:∀{l:List s},l.length=3->∃A m o,l=[A,m,o]
 | y :: _,q=>by
  obtain⟨m,o,rfl⟩:=t6 (LU q);exact⟨y,m,o,rfl⟩
theorem t4{A:Type}:∀{l:List A},l.length=4->∃B m o s,l=[B,m,o,s]
 | y :: _,q=>by
  obtain⟨m,o,s,rfl⟩:=t5 (LU q);exact⟨y,m,o,s,rfl⟩
theorem tz{B:Type}:∀{l:List B},l.length=5->∃C m o s A,l=[C,m,o,s,A]
 | y :: _,q=>by
  obtain⟨m,o,s,A,rfl⟩:=t4 (LU q);exact⟨y,m,o,s,A,rfl⟩
theorem len6{C:Type}:∀{l:List C},l.length=6->∃E m o s A B,l=[E,m,o,s,A,B]
 | y :: _,q=>by
  obtain⟨m,o,s,A,B,rfl⟩:=tz (LU q);exact⟨y,m,o,s,A,B,rfl⟩
open PySem PySem.Spec PyProof.Rows
section
noncomputable def SX(i:Nat)(g:Int->Int->Int)(m:ME):MS:=λe S=>match e[i]? with
 | some (some (.int x))=>(m e S).lift e λd l=>match d with
  | .int y=>.ok (.nx (e.set i (some (.int (g x y))))) l
  | _=>.bad
 | _=>.bad
theorem qO(hN:X.N.Nodup)(hi:X.N[i]?=some x)(G:Loc X.env.scope x)(I:PIp X J (ipI g))(L:GE X E e m)
  (O:X.fn x=true∨X.env.scope.names.lookup x=some .local:=by first | exact .inl rfl | exact .inr rfl | assumption):GS X E (.AugAssign (.Name x B) J e pos) (SX i g m):=(ox hN hi G L I O).imp<|by
 rintro D σ H ⟨P,l,S,s,Q,o⟩
 unfold SX at o;split at o
 ·rename_i n R
  obtain⟨v,T,U⟩:=s.at' i _ R;cases U;refine⟨_,T,P,l,S,s,Q,o.lift s .refl λd S1 o A Y y C Z r1=>?_⟩
  cases d with
  | int y=>cases r1;exact⟨n,y,rfl,rfl,o A Y _ C Z ((s.mono C).set (.int _) i)⟩
  | _=>exact o.elim
 ·exact o.elim
end
noncomputable def Itv(K:AG)(a:Aa)(n:Nat):It:=
 ⟨λi H=>∃l x,SqL K H a l/\l.length=n/\l.reverse[i]?=some x,λi H x m=>m=H/\∀l,SqL K H a l->l.reverse[i]?=some x,λi H=>∃l,SqL K H a l/\l.length=n/\n<=i⟩
theorem eY{P}{w}{K}{tg}(a it:Aa)(n:Nat):UN P w K tg (Itv K a n) [it] it (λi h=>i<=n/\h.IsRevIter it a ((n:Int) - 1 - i)) where
 mem:=by simp
 obj:=λi h st b hb=>by
  have e:b=it:=by simpa using hb
  subst e;obtain⟨_,o,e,c,d⟩:=st;exact⟨o,e,λv z=>by rw[d]at z;cases z⟩
 keep:=λi h m st k=>⟨st.1,st.2.at λo e=>k it (by simp) o e⟩
 item:=by
  intro X C hw G Z i ζ s σ H E I A st J;subst C hw G;obtain⟨L,st⟩:=st;obtain⟨N,x,O,hn,B⟩:=J
  have hi:i < n:=by have:=(AF.mp B).1;simpa[hn]using this
  have yH:=B;rw[List.getElem?_reverse (by lia)]at yH;obtain⟨i',rv,p,hz⟩:=I.list O;obtain⟨u,hu,ru⟩:=rv.get yH;obtain⟨Q,R,f2,S,T,U⟩:=A it (by simp)
  have Y:(n:Int) - 1 - (i:Int)=((N.length - 1 - i:Nat):Int):=by lia
  rw[Y]at st
  refine wpAny_pyNext_rev_item st p.isList (x:=u) (by simpa using hu) λm l sb=>?_
  have I1:Inv X ζ σ H { s with heap:=m }:=I.turned (t':=s.toks) (λb o hb e=>(sb.2 b hb).trans e) Q R S T U;obtain⟨o,e,c,d⟩:=id l;refine⟨u,rfl,X0 (s:={ s with heap:=m }) e c d (by decide) ⟨x,H,I1,ru,⟨rfl,λys hy=>by rw[I.list_inj hy O];exact B⟩,⟨hi,?_⟩,λb hb=>(A b hb).1⟩⟩
  have e1:(n:Int) - 1 - ((i+1:Nat):Int)=((N.length - 1 - i:Nat):Int) - 1:=by lia
  rw[e1];exact l
 done:=by
  intro X C hw G Z i ζ s σ H E I A st J;subst C hw G;obtain⟨L,st⟩:=st;obtain⟨N,O,hn,B⟩:=J;obtain⟨Q,R,f2,S,T,U⟩:=A it (by simp)
  have Y:(n:Int) - 1 - (i:Int) = -1:=by lia
  rw[Y]at st
  exact wpAny_pyNext_rev_end (I.ok.hd Z) st λm eb=>⟨rfl,I.turned (t':=s.toks) (λb o hb e=>eb b o hb e) Q R S T U⟩
 self:=λ_ _ _ _ _ st h=>i0 st.2 h
section
noncomputable def uC(K:AG)(o:TA):TI:=λs H R=>o s H λA l=>∃a m,A=[.ref a]/\SqL K l a m/\R (Itv K a m.length) l
theorem o0(C:Gl X "reversed") (E:X.mg "reversed" = none) (G:PA X [e] J) (L:Ag [e] X.env=[(false,Ci e X.env)]:=by rfl):PI X tg (.Call (.Name "reversed" p) [e] [] pos) (uC X.K J):=by
 intro N s O H R I h;refine Call_ (OU I C E boot_reversed (Dt (thn (G pos N s O H _ I h) λus l ⟨vs,P,A,Q,S⟩=>?_) L rfl));obtain⟨a,B,rfl,sq,q⟩:=S;obtain⟨u,rfl,T⟩:=vals1 Q;cases T;obtain⟨U,Y,Z,hz⟩:=A.list sq;have hl:=Y.length;refine call_reversed_list Z.isList ?_;have m:(l.heap.push (revObj a ((U.toArray.size:Int) - 1))).IsRevIter l.heap.objs.size a ((B.length:Int) - 1 - ((0:Nat):Int)):=⟨_,An _ rfl,rfl,by simp[revObj,hl]⟩;refine i0 m ⟨l.heap.objs.size,[l.heap.objs.size],_,_,P,rfl,A.kept (t':=l.toks) λb o e=>AO _ e,eY a _ B.length,⟨Cw _,m⟩,λb hb=>?_,q⟩
 have e:b=l.heap.objs.size:=by simpa using hb
 subst e;exact A.fpOk (AJ _) (A.hok.fresh (AJ _))
noncomputable def W4(d:D)(n:Nat):QX:=λS=>match PK d S with
 | some l=>if l.length=n then some l.reverse else none
 | none=>none
noncomputable def ag(m:ME):MI:=λe S=>(m e S).bind λd l=>match PK d l with
 | some o=>.ok (W4 d o.length) l
 | none=>.bad
theorem Yc{K}{ρ}{H}{a}{d}{n}(r:CK K ρ H d (.ref a)):Na K ρ H (Itv K a n) (W4 d n):=by
 intro o O S P i l s m;unfold W4 at m;split at m
 ·rename_i Q A
  split at m
  ·rename_i C
   cases m;obtain⟨R,B,e,E,sq⟩:=KQ s (r.mono l) A;cases e;have T:=E.length;refine⟨λI=>⟨B,sq,by lia,?_⟩,λd J=>?_⟩
   ·have:=Er.mp I
    rw[bT]at this
    lia
   ·obtain⟨x,G,L⟩:=E.reverse.get J
    refine⟨⟨B,x,sq,by lia,G⟩,λy U ⟨e,N⟩=>?_⟩;subst e;have:=N B sq;rw[G]at this;cases this;exact⟨o,.refl,s,L⟩
  ·cases m
 ·cases m
theorem qQ(I:Gl X "reversed") (o:X.mg "reversed" = none) (h:GE X E e m) (B:Ag [e] X.env=[(false,Ci e X.env)]:=by rfl):GI X E tg (.Call (.Name "reversed" p) [e] [] pos) (ag m):=
 (o0 I o (Gy h JA B) B).imp<|by
 rintro Y H R ⟨J,l,S,L,N,o⟩
 refine⟨J,l,S,L,N,o.seq λd O o s P x Q C G=>?_⟩
 cases A:PK d O with
 | none=>rw[A]at o;exact o.elim
 | some Z=>
  rw[A]at o;obtain⟨a,T,rfl,U,sq⟩:=KQ C G A;refine⟨a,T,rfl,sq,o s P _ Q C ?_⟩;rw[<-U.length];exact Yc G
end
open PySem PySem.Spec PyProof.Rows
theorem qc{P}{w}{K}{l}{base}{CX}{k n}{f}{fd}{ps}:DD P w K l base CX k f fd ps (spM K n λ_ _=>.bad):=
 ⟨λ_ _ _ _ ⟨_,_,_,_,_,_,h⟩=>h.elim,λ_ _ _ _ _ _ _ _ _ _ _ _ _ ⟨_,_,_,_,_,_,h⟩=>h.elim⟩
end L2
namespace HT
open PySem PySem.Spec PyProof.Rows
section
variable{E:Value->AS->Prop}
theorem PV{t sl}{l}{o B}{lo hi}{Q}(m:jK s.heap t l)(C:s.heap.IsSliceOf sl o B .none)(pl:Ps o lo)(G:Ps B hi)
  (hw:sIx l.size 0 lo=0/\sIx l.size l.size hi=l.size) (h:Q (.ref t) s):Ao (Ac prog w) A (K6 (.ref t) (.ref sl)) Q E s:=by
 obtain⟨os,H,I,L⟩:=id C;have J:s.TypeIs (.ref sl) "slice":=⟨os,H,I⟩;unfold K6
 try with_reducible refine Hq ?_
 first | refine AB (AL ?_) | skip
 refine AB (rE m.typeIs (by decide) (AB (DQ (name:=FQ "__getitem__") m.typeIs Cc
  (DP Cc m.typeIs mO ?_ (nK _ _)))))
 show Ao (Ac prog w) _ (Oq (.ref t) >>= _) _ _ s;refine AB (tupleItemsOf_ m (AB (Ti J ?_)));rw[qX (by decide)];refine AB (LH C pl G ?_);show Ao (Ac prog w) _ (if (((sIx l.size 0 lo:Nat):Int)==0&&(1:Int)==1&&(sIx l.size l.size hi - sIx l.size 0 lo)==l.size)=true then _ else _) _ _ s;rw[hw.1,hw.2,qX (by simp)];unfold sJ;refine AB (AB (Ti m.typeIs (AL ?_)));rw[qX (by decide)];exact AB (Rp (AB (AL (AL ⟨_,rfl,AL h⟩))))
end
end HT
namespace L2
open PySem PySem.Spec PyProof.Rows
section
variable{X:Cx}
noncomputable def rSlW(K:AG):V->Option Int->Option Int->Hp->VK->Prop:=λx lo m H Q=>∃a l,x=.ref a/\SqT K H a l/\(HT.sIx l.length 0 lo=0/\HT.sIx l.length l.length m=l.length)/\Q (.ref a) H
theorem oV:SlR X (rSlW X.K):=by
 intro L s N H x v O P lo R sl Q I o A B C h;obtain⟨a,E,rfl,G,hw,q⟩:=h;cases o;obtain⟨J,r,m,_⟩:=I.tuple G
 have l:J.toArray.size=E.length:=by rw[Aj];exact r.length.symm
 exact⟨"tuple",_,Cc.lookup,m.typeIs,HT.PV m A B C (by rw[l];exact hw) ⟨.ref a,H,I,rfl,q⟩⟩
noncomputable def oU(d:D)(lo hi:Option Int)(S:Sto):Res D:=match d with
 | .tup l=>.ok (.tup (Hs l lo hi)) S
 | _=>.bad
noncomputable def PH(m:ME)(ml l:MO):ME:=λe S=>(m e S).bind λd o=>(ml e o).bind λlo s=>(l e s).bind λA B=>okR (oU d lo A B)
variable{E:EW}{e:Expr}{lo hi:Option Expr}{pos p2:Pos}{m:ME}{ml mh:MO}
theorem ls{l:Type}(xs:List l)(lo hi:Option Int)(h:HT.sIx xs.length 0 lo=0/\HT.sIx xs.length xs.length hi=xs.length):Hs xs lo hi=xs:=by
 unfold Hs;rw[h.1,h.2];simp
theorem Us(R:GE X E e m)(A:GO X E lo ml)(T:GO X E hi mh):GE X E (.Subscript e (.Slice lo hi none p2) pos) (PH m ml mh):=(Xd (oV.or fF) R A T).imp<|by
 rintro σ H Q ⟨U,l,S,A,Y,o⟩
 refine⟨U,l,S,A,Y,o.seq λd Z o G H1 x B s1 r1=>⟨G,l,Z,A.mono B,s1,(o.later B).seq λlo S2 o I H2 C s2=>⟨I,l,S2,A.mono (B.trans C),s2,(o.later C).seq λhi S3 o ρ3 H3 J O=>?_⟩⟩⟩;obtain⟨d',S',e,k⟩:=o.okR;have r3:=r1.mono (C.trans J)
 cases d with
 | tup ds=>
  cases e
  cases r3 with
  | @tup _ a s L N=>
   by_cases hw:HT.sIx s.length 0 lo=0/\HT.sIx s.length s.length hi=s.length
   ·refine .inl ⟨a,s,rfl,.inl (.inl L),hw,k _ _ _ (B.trans (C.trans J)) O ?_⟩
    rw[ls ds lo hi (by rw[N.length];exact hw)];exact .tup L N
   ·refine .inr ⟨a,s,rfl,.inl (.inl L),hw,λq hq=>?_⟩
    obtain⟨s4,P⟩:=IQ (ho:=.tup (RJ s lo hi)) O hq;exact k _ _ _ (B.trans (C.trans (J.trans P))) s4 (.tup CA ((TN N lo hi).mono P))
 | _=>cases e
end
section
noncomputable instance(i j:Int):Decidable ((λ_ j:Int=>0<=j) i j):=inferInstanceAs (Decidable (0<=j))
noncomputable abbrev SN:=intOp il λi j=>.int (i * 2 ^ j.toNat)
noncomputable abbrev XO:=intOp (λ_ j=>0<=j) λi j=>.int (i / 2 ^ j.toNat)
noncomputable abbrev Td:=intOp (λ_ _=>True) λi j=>.int (Bg i j)
theorem QE:OpR X (DR .LShift) (rD X.K SN):=QF (λ_ _ _ _=>.int _) pQ
theorem ZA:OpR X (DR .RShift) (rD X.K XO):=QF (λ_ _ _ _=>.int _) pP
theorem QG:OpR X (DR .BitAnd) (rD X.K Td):=Nn (λ_ _ _ _=>.int _) pU
theorem ae:PIp X .BitOr (ipI λi j=>Ck i j):=by
 intro B s C H x y v u Q I l m h;obtain⟨i,j,o,A,q⟩:=h;subst o;subst A;obtain⟨a,rfl⟩:=l;obtain⟨b,rfl⟩:=m;exact ior_int ⟨.int _,H,I.tok _,⟨_,rfl⟩,q⟩
theorem qG:PIp X .BitAnd (ipI λi j=>Bg i j):=by
 intro B s C H x y v u Q I l m h;obtain⟨i,j,o,A,q⟩:=h;subst o;subst A;obtain⟨a,rfl⟩:=l;obtain⟨b,rfl⟩:=m;exact iand_int ⟨.int _,H,I.tok _,⟨_,rfl⟩,q⟩
theorem qF:PIp X .BitXor (ipI λi j=>E1 i j):=by
 intro B s C H x y v u Q I l m h;obtain⟨i,j,o,A,q⟩:=h;subst o;subst A;obtain⟨a,rfl⟩:=l;obtain⟨b,rfl⟩:=m;exact ixor_int ⟨.int _,H,I.tok _,⟨_,rfl⟩,q⟩
end
noncomputable def NG(C:Aa)(m:Str)(n:Nat)(f:List D->Sto->Res D)(mo:ME)(ml:ML):ME:=λe S=>(mo e S).bind λd l=>match d with
 | .ref k=>match l[k]? with
  | some (.ins s fs)=>if s=C/\fs.lookup m=none then(ml e l).bind λo A=>if o.length+1=n then f (.ref k :: o) A else .bad else .bad
  | _=>.bad
 | _=>.bad
theorem KVR.none{K}{ρ}{H}(f:Str):∀{x:List (Str×D)} {y:List (Str×V)},KVR K ρ H x y->x.lookup f=none->y.lookup f=none
 | _,_,.nil,_=>rfl
 | (g,a) :: x,(s,b) :: y,.cons r t,h=>by
  obtain⟨l,o⟩:=r;dsimp only at l o;subst l;rw[Bd]at h ⊢
  cases m:(f==g)with
  | true=>rw[m]at h;cases h
  | false=>rw[m]at h;exact KVR.none f t h
section
variable{X:Cx}{E:EW}{k n:Nat}{f C:Aa}{m:Str}{mo:ME}{ml:ML}{g:List D->Sto->Res D}
theorem eh{t:TA}{O:St}{H:Hp}{Q:VK}(h:gE X.K E (NG C m n g mo ml) O H Q):mf C m (spM X.K n g) [] (Va E) (gE X.K E mo) (gA X.K E ml) O H Q:=by
 obtain⟨Y,l,S,P,Z,o⟩:=h;refine⟨Y,l,S,P,Z,o.seq λd R o B H1 x G T r1=>?_⟩
 cases d <;> first | exact o.elim | skip
 rename_i q;dsimp only at o
 cases A:R[q]? with
 | none=>rw[A]at o;exact o.elim
 | some ob=>
  rw[A]at o
  cases ob <;> first | exact o.elim | skip
  rename_i C' fs;dsimp only at o;split at o
  ·rename_i I
   obtain⟨I,ϙ⟩:=I;rw[I]at A
   cases r1 with
   | ref U=>
    obtain⟨dx,xy,e1,e2⟩:=T.ob q _ _ A U;refine⟨_,dx,xy,rfl,e1,KVR.none m e2 ϙ,B,l,R,P.mono G,T,(o.later G).seq λds S2 o J H2 xs L s2 r2=>?_⟩;split at o
    ·rename_i s
     rw[CB];exact⟨J,.ref q :: ds,S2,by simpa using s,.cons (.ref (L.pre _ _ U)) r2,s2,o.xk L λ_ _ k N H' z l' s' r'=>k N H' z (G.trans (L.trans l')) s' r'⟩
    ·exact o.elim
  ·exact o.elim
theorem PX{pl:Sem Bool}(ho:GE X E o mo)(c:Cls X.K C)(B:Wg X.K C m f)(F:DD X.prog X.w X.K X.mg X.base CX k f fd ps (spM X.K n g))(G:MQ CX X (Va E))(I:Ht k X.A)(hb:Binds X.K fd ps [])(J:GA X E (e :: es) ml)
  (L:Ag (e :: es) X.env=(false,Ci e X.env) :: Ag es X.env:=by rfl) (N:(FB pos (Ag es X.env)).any (·.1)=false:=by rfl)
  (O:Ci (.Call (.Attribute o m l) (e :: es) [] pos) X.env=(do
   let s <-Ci o X.env
   rH l.atName
   let (f,fts) <-YH [s] (dE s m pl)
   callWith pos f fts (FB pos (Ag (e :: es) X.env)) (YU pos (Pn [] X.env))):=by rfl) :
  GE X E (.Call (.Attribute o m l) (e :: es) [] pos) (NG C m n g mo ml):=
 (ka (E:=Va E) ho c B F I hb .nil G J L N O).imp λP H Q h=>eh (t:=gA X.K E ml) h
end
section
noncomputable def tH:V->List V->Hp->VK->Prop:=λx l H Q=>∃i,x=.int i/\l=[]/\Q (.int (Ds i)) H
theorem lC:MtR X "int.bit_length" tH:=by
 intro o s A H x B v C Q I l m h;obtain⟨i,rfl,rfl,q⟩:=h;obtain⟨t,rfl⟩:=l;cases m;exact call_int_bit_length ⟨.int _,H,I.tok _,⟨_,rfl⟩,q⟩
noncomputable def aO(m:ME):ME:=λe S=>(m e S).bind λd l=>match d with
 | .int i=>.ok (.int (Ds i)) l
 | _=>.bad
theorem lV(ho:GE X E o mo)(B:GZ o "bit_length" X.env (Ci o X.env)=Ci o X.env:=by rfl) (C:(m.endLine==G.line)=true:=by rfl) :
  GE X E (.Call (.Attribute o "bit_length" m) [] [] G) (aO mo):=(pL PySem.F.plainAttrs_int PySem.F.slot_int_bit_length PySem.F.type_int_bit_length lC ho B C).imp<|by
 rintro T H Q ⟨I,l,S,J,L,s⟩
 refine⟨I,l,S,J,L,s.seq λd U s A N v O P R=>?_⟩
 cases d <;> first | exact s.elim | skip
 cases R;exact⟨rfl,_,rfl,rfl,s A N _ O P (.int _)⟩
end
section
noncomputable def tE(K:AG):V->V->Hp->VK->Prop:=λo i H Q=>∃p l k z,o=.ref p/\i=.int k/\0<=k/\H p=some (.lst l)/\l[k.toNat]?=some z/\Q z H
theorem gy:ue X (tE X.K):=by
 intro R s S H o i T U Q I B C h;obtain⟨p,E,k,z,rfl,rfl,G,J,m,q⟩:=h;cases B;obtain⟨t,rfl⟩:=C;obtain⟨A,n,r,L,N⟩:=I.lst J
 obtain⟨u,O,P⟩:∃u,A[k.toNat]?=some u/\RelV z u:=r.get m
 have Y:k.toNat < E.length:=(AF.mp m).1;have Z:=QK;exact getItem_listL (l:=A) ⟨_,L,rfl,n,rfl⟩ G (by omega) O ⟨z,H,I,P,q⟩
noncomputable def XW(g:Int->Int->Int)(mo mi mv:ME):MS:=λe S=>(mo e S).lift e λd s=>(mi e s).lift e λk l=>match atL d l,k with
 | some (_,A),.int i=>if 0<=i then(match A[i.toNat]? with
  | some (.int x)=>(mv e l).lift e λy m=>match y,atL d m with
   | .int y,some (n,o)=>if i.toNat < o.length then .ok (.nx e) (m.set n (.lst (o.set i.toNat (.int (g x y)))))else .bad
   | _,_=>.bad
  | _=>.bad)else .bad
 | _,_=>.bad
theorem lL(ho:GE X E o mo)(hi:GE X E i mi)(he:GE X E e mv)(hp:PIp X op (ipI g))
  (ha:∀J L new,augStore i J L new=(do YH [new,J,L] (rK J L new);release [new,J,L] [];pure .next):=by intros;rfl):GS X E (.AugAssign (.Subscript o i tpos) op e pos) (XW g mo mi mv):=
 (kL ho hi gy he hp fG ha).imp<|by
 rintro D σ H ⟨ρ,l,S,A,hs,m⟩
 refine⟨ρ,l,S,A,hs,m.lift A .refl λd S1 m N H1 x s s1 r1=>⟨N,l,S1,A.mono s,s1,(m.later s).lift (A.mono s) s λk S2 m O H2 y B T r2=>?_⟩⟩;have C:=r1.mono B;split at m
 ·rename_i n xs i hq
  split at m
  ·rename_i U
   obtain⟨rfl,h5,a,vs,rfl,hn,e1,rr⟩:=TZ T C hq;cases r2;split at m
   ·rename_i x hx
    obtain⟨z,hz,rz⟩:=rr.get hx;cases rz;refine⟨a,vs,i,.int x,rfl,rfl,U,e1,hz,O,l,S2,A.mono (s.trans B),T,(m.later B).lift (A.mono (s.trans B)) (s.trans B) λy S3 m P H3 w Q Y r3=>?_⟩;split at m
    ·rename_i y n3 zs yI
     split at m
     ·rename_i vw
      cases r3;obtain⟨_,h6,a3,G,e4,ϥ,Z,I⟩:=TZ Y (C.mono Q) yI;cases e4;obtain⟨s4,l4⟩:=aG Y ϥ Z (I.set (.int (g x y)) i.toNat)
      have R:ixN G.length i=some i.toNat:=by
       unfold ixN;rw[qX U,qX (by rw[<-I.length];omega)]
      exact⟨x,y,rfl,rfl,a,G,i,i.toNat,rfl,rfl,Z,R,m P _ _ ((s.trans B).trans (Q.trans l4)) s4 (A.mono ((s.trans B).trans (Q.trans l4)))⟩
     ·exact m.elim
    ·exact m.elim
   ·exact m.elim
  ·exact m.elim
 ·exact m.elim
end
open PySem PySem.Spec PyProof.Rows PySem.SeqAt
section
theorem Fg(l:N.Nodup:=by decide +kernel)(m:∀x∈ps,sc.names.lookup x=some .local∨sc.names.lookup x=some .cell:=by decide +kernel)(o:∀y∈sc.names,y.2≠.free:=by decide +kernel)(s:sc.kind=.function:=by rfl)(A:sc.isCoroutine=false:=by rfl)(B:sc.isGenerator=false:=by rfl)(C:N.take ps.length=ps:=by rfl):Bk N ps sc:=⟨s,A,B,l,C,m,o⟩
end
section
variable{X:Cx}{E:EW}{e:Expr}
theorem B0(i:Nat)(hN:X.N.Nodup)(hi:X.N[i]?=some x:=by rfl)(l:Loc X.env.scope x:=by first | exact Oh rfl | exact Nb rfl)(m:X.fn x=true∨X.env.scope.names.lookup x=some .local:=by first | exact .inl rfl | exact .inr rfl | assumption):GG X (.Name x pos) (tgN i):=lP (kY hN hi l m)
theorem CH(i:Nat)(hN:X.N.Nodup)(o:GE X E e m)(hi:X.N[i]?=some x:=by rfl)(s:Loc X.env.scope x:=by first | exact Oh rfl | exact Nb rfl)(A:G9 e (some (.Name x l)) pos.line X.env=pure false:=by rfl)
  (B:X.fn x=true∨X.env.scope.names.lookup x=some .local:=by first | exact .inl rfl | exact .inr rfl | assumption):GS X E (.Assign [.Name x l] e pos) (CT i m):=qN hN hi s o A B
theorem Ur(i:Nat)(hN:X.N.Nodup)(o:PIp X s (ipI g))(A:GE X E e m)(hi:X.N[i]?=some x:=by rfl)(B:Loc X.env.scope x:=by first | exact Oh rfl | exact Nb rfl)
  (C:X.fn x=true∨X.env.scope.names.lookup x=some .local:=by first | exact .inl rfl | exact .inr rfl | assumption):GS X E (.AugAssign (.Name x l) s e pos) (SX i g m):=qO hN hi B o A C
end
open PySem PySem.Spec PyProof.Rows
section
variable{X:Cx}{E:EW}{tg e:Expr}{K:AG}{ζ:List (Aa×Obj)}{σ:St}{H:Hp}{s:AS}
noncomputable def Itk(a:Aa)(l:Obj)(u:HO)(xs:List V):It:=
 ⟨λi H=>H a=some (.frz l u)/\i < xs.length,λi H x m=>m=H/\xs[i]?=some x,λi H=>H a=some (.frz l u)/\xs.length<=i⟩
theorem bj(Z:l.ExactDict)(hd:l.data=.dict es ep)(G:CC xs (es.toList.map (·.key))):UN P w K tg (Itk a l u xs) [it] it (λi h=>h.IsKeyIter it a i es.size ep) where
 mem:=by simp
 obj:=λi h st b hb=>by
  have e:b=it:=by simpa using hb
  subst e;obtain⟨o,e,c,d⟩:=st;exact⟨o,e,λv z=>by rw[d]at z;cases z⟩
 keep:=λi h B st k=>st.at λo e=>k it (by simp) o e
 item:=by
  intro X J hw L hc i ζ s σ H E I C st N;subst J hw L;obtain⟨O,m⟩:=N;obtain⟨g,_⟩:=(show Dj X.prog X.w H s.heap a (.frz l u)from I.hok a _ O)
  have Q:xs.length=es.size:=by have:=G.length;rw[AD,Be]at this;exact this
  have Ρ:i < es.size:=by rw[<-Q];exact m
  obtain⟨v,h1,h2⟩:=G.get (AU m);rw[Ai,YR,UX Ρ]at h1;cases h1;obtain⟨R,S,f2,T,U,Y⟩:=C it (by simp)
  refine Srt.Xa st ⟨l,g,Z,hd⟩ Ρ λB A sb=>?_
  have I1:Inv X ζ σ H { s with heap:=B }:=I.turned (t':=s.toks) (λb o hb e=>(sb.2 b hb).trans e) R S T U Y;obtain⟨o,e,c,d⟩:=id A;exact⟨_,rfl,X0 (s:={ s with heap:=B }) e c d (by decide) ⟨_,H,I1,h2,⟨rfl,AU m⟩,A,λb hb=>(C b hb).1⟩⟩
 done:=by
  intro X J hw L hc i ζ s σ H E I C st N;subst J hw L;obtain⟨O,m⟩:=N;obtain⟨g,_⟩:=(show Dj X.prog X.w H s.heap a (.frz l u)from I.hok a _ O)
  have Q:xs.length=es.size:=by have:=G.length;rw[AD,Be]at this;exact this
  obtain⟨R,S,f2,T,U,Y⟩:=C it (by simp)
  exact Srt.aE (I.ok.hd hc) st ⟨l,g,Z,hd⟩ (by rw[<-Q];exact m) λB eb=>⟨rfl,I.turned (t':=s.toks) (λb o hb e=>eb b o hb e) R S T U Y⟩
 self:=λ_ _ _ _ _ st h=>i4 st h
theorem lq:∀{l:List Qh} {us:List (Key×Value)} {m:List (Key×V)},Pairs (E0 P w) l us->KV m us->CC (m.map λx=>kV x.1) (l.map (·.key)):=by
 intro l us m B
 induction B generalizing m with
 | nil=>intro h;cases h;exact .nil
 | cons C I _ G=>
  intro h
  cases h with
  | cons r t=>
   refine .cons ?_ (G t);dsimp only;rw[r.1]
   rcases Dr C with⟨i,t,o,A⟩ | ⟨x,t,o,A⟩
   ·rw[o,A];exact⟨t,rfl⟩
   ·rw[o,A];exact⟨t,rfl⟩
theorem iM:∀{l:List (List Key×V)} {xs:List (List Key×Aa×Value)},G3 (λ(p:List Key×V) (q:List Key×Aa×Value)=>p.1=q.1/\H q.2.1=some (.tup (p.1.map kV))/\RelV p.2 q.2.2) l xs->G3 (λ(k:List Key×V) b=>H b=some (.tup (k.1.map kV))) l (xs.map (·.2.1)):=by
 intro l xs h
 induction h with
 | nil=>exact .nil
 | cons r _ m=>exact .cons r.2.1 m
theorem cF(l:List Aa):CC (l.map V.ref) (l.map Ba):=by
 induction l with
 | nil=>exact .nil
 | cons a l m=>exact .cons rfl m
noncomputable def iDct(A:TE):TI:=λσ H R=>A σ H λx m=>∃a o,x=.ref a/\((∃l,m a=some (.frz o (.dK l))/\R (Itk a o (.dK l) (l.map λx=>kV x.1)) m) ∨
 ∃l,m a=some (.frz o (.dT l))/\∀bs,G3 (λ(k:List Key×V) b=>m b=some (.tup (k.1.map kV))) l bs->R (Itk a o (.dT l) (bs.map V.ref)) m)
theorem kW(U:PE X l Y):PI X tg l (iDct Y):=by
 intro ζ s σ H R I h
 refine thn (U ζ s σ H _ I h) λv s1 ⟨x,O,G,Z,q1⟩=>?_
 obtain⟨a,m,e,q⟩:=q1;subst e;cases Z
 have fin:∀{u:HO} {P:List V} {J:Array Qh} {Q:Nat},(a==EJ)=false->s1.heap.get? a=some m->m.ExactDict->m.data=.dict J Q->CC P (J.toList.map (·.key))->R (Itk a m u P) O ->
   Ao (Ac X.prog X.w) X.A (nH (.ref a)) (PIE X ζ σ tg R) X.xe s1:=λL g B C hv q=>by
  refine Srt.Xb L ⟨m,g,B,C⟩ ?_;refine⟨s1.heap.objs.size,[s1.heap.objs.size],_,_,O,rfl,G.kept (t':=s1.toks) λb o e=>AO _ e,bj B C hv,⟨_,An _ rfl,rfl,rfl⟩,λb hb=>?_,q⟩
  have e:b=s1.heap.objs.size:=by simpa using hb
  subst e;exact G.fpOk (AJ _) (G.hok.fresh (AJ _))
 rcases q with⟨S,T,q⟩ | ⟨S,T,q⟩
 ·obtain⟨g,hz,L,us,kv,o,J,Q,N,B,C,g5,g6,_⟩:=(show Dj X.prog X.w O s1.heap a (.frz m (.dK S))from G.hok a _ T)
  rw[g]at N;cases N;exact fin L g B C (lq g6 kv) q
 ·obtain⟨g,hz,L,P,rr,o,J,Q,N,B,C,g4,_⟩:=(show Dj X.prog X.w O s1.heap a (.frz m (.dT S))from G.hok a _ T)
  rw[g]at N;cases N
  have hk:J.toList.map (·.key)=(P.map (·.2.1)).map Ba:=by
   rw[g4,BC,BC];rfl
  exact fin L g B C (by rw[hk];exact cF _) (q _ (iM rr))
noncomputable def Xv(d:D)(S:Sto):Option (List D):=match d with
 | .ref n=>match S[n]? with
  | some (.fK l)=>some (l.map λx=>Xw x.1)
  | some (.fT l)=>some (l.map λx=>.tup (x.1.map Xw))
  | _=>none
 | _=>none
noncomputable def ah(m:ME):MI:=λe S=>(m e S).bind λd l=>match Xv d l with
 | some o=>.ok (Hw o) l
 | none=>.bad
theorem R4(G:H a=some (.frz I u))(J:Ax K ρ H ds xs):Na K ρ H (Itk a I u xs) (Hw ds):=by
 intro m Q S R i l s L;cases L;have o:=J.mono l;have A:=l.frz _ _ _ G;refine⟨λN=>⟨A,by rw[<-o.length];exact Er.mp N⟩,λd O=>?_⟩;obtain⟨x,B,P⟩:=o.get O;refine⟨⟨A,(AF.mp B).1⟩,λy T ⟨e,C⟩=>?_⟩;subst e;rw[B]at C;cases C;exact⟨m,.refl,s,P⟩
theorem lO(h:GE X E e m):GI X E tg e (ah m):=(kW h).imp<|by
 rintro σ H R ⟨Q,l,S,T,U,B⟩
 refine⟨Q,l,S,T,U,B.seq λd Y B C N x O G Z=>?_⟩
 cases A:Xv d Y with
 | none=>rw[A]at B;exact B.elim
 | some ds=>
  rw[A]at B
  cases Z with
  | @ref n a hn=>
   obtain⟨o,ho,P⟩:=G.there hn;unfold Xv at A;simp only[ho]at A
   cases o with
   | fK f'=>
    cases A;obtain⟨I,J,e,L⟩:=P;exact⟨a,I,rfl,.inl ⟨J,e,B C N _ O G (R4 e (PL L))⟩⟩
   | fT f'=>
    cases A;obtain⟨I,J,e,L⟩:=P;exact⟨a,I,rfl,.inr ⟨J,e,λbs hb=>B C N _ O G (R4 e (Su L hb))⟩⟩
   | _=>cases A
  | _=>cases A
theorem Inv.fz(I:Inv X ζ σ H s)(J:s.heap.get? a=some C)(B:H a=some u)(L:Mut (some u)):Inv X ζ σ (upd H a (.frz C u)) s:=by
 have m:∀b,H b=none->b≠a:=λb h z=>by subst z;rw[B]at h;cases h
 have l:∀b o,H b=some o->¬Mut (some o)->b≠a:=λb o h n z=>by subst z;rw[B]at h;cases h;exact n L
 have st:∀b o,Dj X.prog X.w H s.heap b o->Dj X.prog X.w (upd H a (.frz C u)) s.heap b o:=λb o x=>
  x.stay (λ_ _ _ q=>q) (λc r=>by rw[Bo (l c _ r λz=>z)];exact r) λc A r=>by rw[Bo (l c _ r λz=>z)];exact r
 refine⟨I.ok,I.os,I.bare,⟨I.base.keep,I.base.slot,λb o q n N=>?_,I.base.there,λb A q=>?_,λb o A q=>?_,λb O q=>?_⟩,I.loc,I.cell,?_,λx c q=>?_,λp P=>?_,λb o q=>?_,I.len⟩
 ·have:=I.base.free b o q n N
  rw[Bo (m b this)];exact this
 ·have:=I.base.tups b A q
  rw[Bo (l b _ this λz=>z)];exact this
 ·have:=I.base.frzs b o A q
  rw[Bo (l b _ this λz=>z)];exact this
 ·obtain⟨more,this⟩:=I.base.tbls b O q
  exact⟨more,by rw[Bo (l b _ this λz=>z)];exact this⟩
 ·rw[Bo (m _ I.free)];exact I.free
 ·rw[Bo (m _ (I.freeC x c q))];exact I.freeC x c q
 ·obtain⟨Q,G,R⟩:=I.pin p P
  exact⟨Q,by rw[Bo (m _ G)];exact G,R⟩
 ·by_cases hb:b=a
  ·subst hb
   rw[CA]at q;cases q;exact⟨J,st b u (I.hok b u B)⟩
  ·rw[Bo hb]at q
   exact st b o (I.hok b o q)
noncomputable def fzO:Ob->Option Ob
 | .dK l=>some (.fK l)
 | .dT l=>some (.fT l)
 | .fK l=>some (.fK l)
 | .fT l=>some (.fT l)
 | _=>none
noncomputable def sFz(i:Nat):MS:=λe S=>match e[i]? with
 | some (some (.ref n))=>match S[n]? with
  | some o=>match fzO o with
   | some l=>.ok (.nx e) (S.set n l)
   | none=>.bad
  | none=>.bad
 | _=>.bad
theorem XR{S:Sto}{n:Nat}{o:Ob}(h:S[n]?=some o):S.set n o=S:=by
 apply Hv
 intro j;rw[DT];split
 ·rename_i c
  subst c;split
  ·exact h.symm
  ·rename_i c;rw[CL (Iu.mp c)]at h;cases h
 ·rfl
theorem uI{i:Nat}{st:DZ}{R:MS}(h:GS X E st R):GS X E st (BH (sFz i) R):=by
 rintro ζ s σ H D I ⟨C,l,S,T,P,m⟩
 cases J:l[i]? with
 | none=>unfold BH sFz at m;rw[J]at m;exact m.elim
 | some x=>
  cases x with
  | none=>unfold BH sFz at m;rw[J]at m;exact m.elim
  | some d=>
   cases d with
   | ref n=>
    cases L:S[n]? with
    | none=>unfold BH sFz at m;rw[J]at m;dsimp only at m;rw[L]at m;exact m.elim
    | some o=>
     cases G:fzO o with
     | none=>unfold BH sFz at m;rw[J]at m;dsimp only at m;rw[L]at m;dsimp only at m;rw[G]at m;exact m.elim
     | some Z=>
      have N:Cg X.K noH C H (R l (S.set n Z)) λfl S'=>RI X.K E C H S' D fl:=by
       unfold BH sFz at m;rw[J]at m;dsimp only at m;rw[L]at m;dsimp only at m;rw[G]at m;exact m
      obtain⟨a,Q,ro⟩:=P.at L
      have fr:∀u,H a=some u->Mut (some u)->(∃B,s.heap.get? a=some B)->(∀B,Eg X.K C (upd H a (.frz B u)) a Z)->Ao (Ac X.prog X.w) X.A (exec st X.env) _ _ s:=λu ha mu ⟨B,hg⟩ ra=>by
       have le:Le X.K C H C (upd H a (.frz B u)):=Le.write Q (by rw[ha];exact mu);obtain⟨s5,_⟩:=P.write Q (ra B) le;exact h ζ s σ _ D (I.fz hg ha mu) ⟨C,l,_,T.mono le,s5,N.go le λ_ _ k=>k.later le⟩
      cases o with
      | dK U=>
       cases G;obtain⟨O,e,Y⟩:=ro
       refine fr _ e trivial ?_ λB=>⟨B,O,CA,KVR.mono (Le.write Q (by rw[e];trivial)) Y⟩
       obtain⟨_,_,_,_,o,_,_,e,_⟩:=(show Dj X.prog X.w H s.heap a (.dK O)from I.hok a _ e);exact⟨o,e⟩
      | dT U=>
       cases G;obtain⟨O,e,Y⟩:=ro
       refine fr _ e trivial ?_ λB=>⟨B,O,CA,KVR.mono (Le.write Q (by rw[e];trivial)) Y⟩
       obtain⟨_,_,_,_,o,_,_,e,_⟩:=(show Dj X.prog X.w H s.heap a (.dT O)from I.hok a _ e);exact⟨o,e⟩
      | fK U=>cases G;rw[XR L]at N;exact h ζ s σ H D I ⟨C,l,S,T,P,N⟩
      | fT U=>cases G;rw[XR L]at N;exact h ζ s σ H D I ⟨C,l,S,T,P,N⟩
      | _=>cases G
   | _=>unfold BH sFz at m;rw[J]at m;exact m.elim
end
open PySem PySem.Spec PyProof.Rows
section
variable{K:AG}{ρ ρ':List Aa}{H H':Hp}{S:Sto}{L:Key->Int}{m n:Nat}{a:Aa}
mutual
theorem CK.cut(p:∀(n:Nat) a,ρ[n]?=some a->ρ'[n]?=some a):∀{d:D} {v o:V},CK K ρ H d v->CK K ρ' H' d o->CK K ρ H' d o
 | _,_,_,.non,.non=>.non
 | _,_,_,.bl _,.bl b=>.bl b
 | _,_,_,.int _,.int i=>.int i
 | _,_,_,.str _,.str x=>.str x
 | _,_,_,.tup _ r,.tup h l=>.tup h (Ax.cut p r l)
 | _,_,_,.fro _ r,.fro h l=>.fro h (Ax.cut p r l)
 | _,_,_,.ref h,.ref s=>by
  have e:=(p _ _ h).symm.trans s;cases e;exact .ref h
 | _,_,_,.exc _ _,.exc h e=>.exc h e
theorem Ax.cut(p:∀(n:Nat) a,ρ[n]?=some a->ρ'[n]?=some a):∀{d:List D} {v l:List V},Ax K ρ H d v->Ax K ρ' H' d l->Ax K ρ H' d l
 | _,_,_,.nil,.nil=>.nil
 | _,_,_,.cons r t,.cons o s=>.cons (CK.cut p r o) (Ax.cut p t s)
end
theorem KVR.cut(p:∀(n:Nat) a,ρ[n]?=some a->ρ'[n]?=some a):∀{x:List (o×D)} {y z:List (o×V)},KVR K ρ H x y->KVR K ρ' H' x z->KVR K ρ H' x z
 | _,_,_,.nil,.nil=>.nil
 | _,_,_,.cons r t,.cons l s=>.cons ⟨l.1,r.2.cut p l.2⟩ (KVR.cut p t s)
theorem Eg.cut(p:∀(n:Nat) a,ρ[n]?=some a->ρ'[n]?=some a)(h:Eg K ρ H a o)(h':Eg K ρ' H' a o):Eg K ρ H' a o:=by
 cases o with
 | lst A=>obtain⟨_,_,r⟩:=h;obtain⟨l,e,s⟩:=h';exact⟨l,e,r.cut p s⟩
 | dK A=>obtain⟨_,_,r⟩:=h;obtain⟨l,e,s⟩:=h';exact⟨l,e,KVR.cut p r s⟩
 | dT A=>obtain⟨_,_,r⟩:=h;obtain⟨l,e,s⟩:=h';exact⟨l,e,KVR.cut p r s⟩
 | ins C A=>obtain⟨_,_,_,r⟩:=h;obtain⟨B,l,e,s⟩:=h';exact⟨B,l,e,KVR.cut p r s⟩
 | fK A=>obtain⟨_,_,_,r⟩:=h;obtain⟨B,l,e,s⟩:=h';exact⟨B,l,e,KVR.cut p r s⟩
 | fT A=>obtain⟨_,_,_,r⟩:=h;obtain⟨B,l,e,s⟩:=h';exact⟨B,l,e,KVR.cut p r s⟩
 | mem L=>exact h'
noncomputable def mK(L:Key->Int)(l:List (Key×D)):Prop:=(l.map (·.1)).Nodup/\∀x∈l,x.1∈WA/\x.2=D.int (L x.1)
theorem aL:∀{o:List (Key×V)},(∀x∈o,x.2=V.int (L x.1))->KVR K ρ H (o.map λx=>(x.1,D.int (L x.1))) o
 | [],_=>.nil
 | (k,v) :: l,h=>.cons ⟨rfl,by rw[show v=V.int (L k)from h _ (AX ..)];exact .int _⟩ (aL λx s=>h x (AN _ s))
theorem Xu:∀{s:List (Key×D)} {us:List (Key×V)},KVR K ρ H s us->(∀x∈s,x.1∈WA/\x.2=D.int (L x.1))->∀x∈us,x.1∈WA/\x.2=V.int (L x.1)
 | _,_,.nil,_,x,o=>by cases o
 | (k,d) :: l,(E,v) :: us,.cons r t,h,x,o=>by
  rcases Ae.mp o with rfl | o
  ·obtain⟨e,r⟩:=r
   dsimp only at e r ⊢;subst e;obtain⟨A,B⟩:=h _ (AX ..);dsimp only at A B;rw[B]at r;cases r;exact⟨A,rfl⟩
  ·exact Xu t (λy C=>h y (AN _ C)) x o
theorem aX(r:KVR K ρ H l us)(h:mK L l):(us.map (·.1)).Nodup/\∀x∈us,x.1∈WA/\x.2=V.int (L x.1):=⟨by rw[<-KVR.keys r];exact h.1,Xu r h.2⟩
theorem CU.swap(s:CU K ρ S H)(A:S[m]?=some o)(h:∀a,ρ[m]?=some a->Eg K ρ H a o->Eg K ρ H a o'):CU K ρ (S.set m o') H:=
 ⟨by rw[D5];exact s.len,s.nd,λj q b l hb=>by
  rw[DT]at l;split at l
  ·rename_i c
   subst c;split at l
   ·cases l;exact h b hb (s.ob m o b A hb)
   ·cases l
  ·exact s.ob j q b l hb⟩
end
noncomputable def lmI:Res D->Int
 | .ok (.int z) _=>z
 | _=>0
noncomputable def qe(x:Str)(q:Nat)(S:Sto):Option Str:=match S[q]? with
 | some (.ins _ fs)=>match fs.lookup x with
  | some (.str y)=>some y
  | _=>none
 | _=>none
noncomputable def Uk(x:Str)(ds:List D)(S:Sto):Option Nat:=match ds with
 | .ref q :: _=>match S[q]? with
  | some (.ins _ fs)=>match fs.lookup x with
   | some (.ref m)=>some m
   | _=>none
  | _=>none
 | _=>none
noncomputable def nF(f:List D->Sto->Res D)(ds:List D)(S:Sto)(m:Nat)(L:Key->Int)(z:Int):Prop:=
 ∀o,mK L o->∃l s,f ds (S.set m (.dK o))=.ok (.int z) l/\l[m]?=some (.dK s)/\mK L s/\∀n,n < S.length->n≠m->l[n]?=S[n]?
open Classical in
noncomputable def mI(x:Str)(f:List D->Sto->Res D)(ds:List D)(S:Sto):Res D:=match Uk x ds S with
 | some m=>match S[m]? with
  | some (.mem L)=>match f ds (S.set m (.dK []))with
   | .ok (.int z) _=>if nF f ds S m L z then .ok (.int z) S else .bad
   | _=>.bad
  | _=>.bad
 | none=>.bad
noncomputable def lD(x:Str)(o:List D->Sto->Key->Int)(f:List D->Sto->Res D)(ds:List D)(S:Sto):Res D:=match f ds S with
 | .ok .non l=>match Uk x ds l with
  | some m=>match l[m]? with
   | some (.dK [])=>.ok .non (l.set m (.mem (o ds l)))
   | _=>.bad
  | none=>.bad
 | _=>.bad
section
variable{P:Bs}{w:CQ}{K:AG}{mg:Str->Option Value}{base:DS}{CX:CXT}{k n:Nat}{fa:Aa}{fd:Ld}{ps:List Str}{x:Str}{f:List D->Sto->Res D}{Lf:List D->Sto->Key->Int}
theorem qd(F:DD P w K mg base CX k fa fd ps (spM K n f)):DD P w K mg base CX k fa fd ps (spM K n (mI x f)):=F.imp<|by
 rintro vs H Q E ⟨J,R,S,T,U,B,A⟩
 unfold mI at A;split at A
 ·rename_i m hm
  split at A
  ·rename_i L G
   split at A
   ·rename_i z S0 hz
    split at A
    ·rename_i X
     obtain⟨a,Y,I,e,Z,N⟩:=B.at G
     obtain⟨S',tx,hf,ϯ,vM,hk⟩:=X (I.map λx=>(x.1,D.int (L x.1))) ⟨by rw[BC];exact Z,λy hy=>by
      obtain⟨u,hu,rfl⟩:=BF.mp hy
      exact⟨(N u hu).1,rfl⟩⟩
     refine⟨J,R,S.set m (.dK (I.map λx=>(x.1,D.int (L x.1)))),T,U,B.swap G (λb hb _=>⟨I,?_,aL λx hx=>(N x hx).2⟩),?_⟩
     ·rw[Y]at hb;cases hb;exact e
     ·rw[hf]
      intro ρ' H' y l s r;cases r;refine A J H' _ ⟨λ_ _ h=>h,l.tup,l.frz,λa o e n=>⟨(l.oth a o e n).1,n⟩⟩ ⟨B.len,B.nd,λj o b C hb=>?_⟩ (.int z);have O:=l.pre j b hb
      by_cases c:j=m
      ·subst c
       rw[G]at C;cases C;obtain⟨us,e3,r3⟩:=s.ob j _ b ϯ O;exact⟨us,e3,aX r3 vM⟩
      ·exact(B.ob j o b C hb).cut l.pre (s.ob j o b ((hk j (AF.mp C).1 c).trans C) O)
    ·exact A.elim
   ·exact A.elim
  ·exact A.elim
 ·exact A.elim
theorem lZ(F:DD P w K mg base CX k fa fd ps (spM K n f)):DD P w K mg base CX k fa fd ps (spM K n (lD x Lf f)):=F.imp<|by
 rintro U H Q E ⟨B,C,S,G,I,J,o⟩
 unfold lD at o;refine⟨B,C,S,G,I,J,?_⟩;split at o
 ·rename_i X L
  split at o
  ·rename_i m Y
   split at o
   ·rename_i N
    rw[L];intro A O y l s r;exact o A O y l (s.swap N λa Z ⟨R,e,r⟩=>⟨R,e,aX r ⟨Ee,λ_ T=>nomatch T⟩⟩) r
   ·exact o.elim
  ·exact o.elim
 ·exact o.elim
end
end L2
namespace L2
open PySem PySem.Spec PyProof.Rows PySem.W
section
variable{X:Cx}{k k' n:Nat}{x qual:Str}{st:DZ}{ps:List Str}{p pos:Pos}{e:Expr}{es:List Expr}{ml:ML}{g:List D->Sto->Res D}
theorem gcl(D:Dfn X.K X.mg x qual st ps)(F:DD X.prog X.w X.K X.mg X.base (CXG X.prog X.w) k D.f D.fd ps (spM X.K n g))(l:Ht k' X.A)(o:GA X noE (e :: es) ml)(s:k<=k':=by decide)(B:X.xe=λ_ _=>False:=by rfl)(C:Gl X x:=by rfl)
  (E:(x==("__debug__" : Str))=false:=by decide) (G:Ag (e :: es) X.env=(false,Ci e X.env) :: Ag es X.env:=by rfl) (H:(FB pos (Ag es X.env)).any (·.1)=false:=by rfl) :
  GE X noE (.Call (.Name x p) (e :: es) [] pos) (Cd n g ml):=WN F (good_none B).pass (l.mono s) C D.m D.kp D.b o E G H
end
noncomputable abbrev FnAt(K:Frag)(x l:Str)(st:DZ)(f:Aa):Prop:=∃(s:Value) (A:Option Aa) (kV m B:Value) (C:Option Aa) (o ct:Value) (E:Array (Option Value)),
 K.lookup f=some ⟨s,A,.func (fnOf x l (MJ st) (JQ st) (BG st) .none kV m B C o ct),E⟩/\codeIn K o l=true/\keepIn K (.ref f)=true
noncomputable abbrev Ef(K:Frag)(x:Str)(st:DZ)(f:Aa):Prop:=To K Bb x=some (some (.ref f))/\FnAt K x x st f
noncomputable abbrev OC(K:Frag)(C:Aa)(x l:Str)(st:DZ)(f:Aa):Prop:=findIn K (.ref C) x=some (some (.ref f))/\isFn K (.ref f)=true/\FnAt K x l st f
noncomputable abbrev ClsAt(K:Frag)(x:Str)(C:Aa):Prop:=To K Bb x=some (some (.ref C))/\plainGet K C Str.empty=true/\hasDictIn K C=true/\plainOver K C=true/\findIn K (.ref C) "__setattr__" = some (some (.builtin "object.__setattr__"))/\makesIn K C=true/\keepIn K (.ref C)=true
noncomputable def YG(st:DZ)(ps:List Str):Prop:=∀(x l:Str) (kV m s:Value) (A:Option Aa) (B ct:Value) (o:List Value),o.length=ps.length->jA (fnOf x l (MJ st) (JQ st) (BG st) .none kV m s A B ct) ⟨o,[]⟩=pure (ps.zip o)
section
variable{K:Frag}{h:DS}{mg:Str->Option Value}{x qual:Str}{st:DZ}{f C:Aa}{ps:List Str}{a b c d e g:Str}
theorem FnAt.fd(z:FnAt K x qual st f):∃fd,Fun K x qual st f fd:=by
 obtain⟨o,s,kV,m,A,B,E,ct,G,l,c,k⟩:=z;exact⟨_,hW l c k⟩
noncomputable def mkD(X:K.In h)(G:h.Ns Bb mg)(z:Ef K x st f)(b:YG st ps):Dfn K mg x x st ps:=⟨f,(FnAt.fd z.2).choose,(FnAt.fd z.2).choose_spec,(FnAt.fd z.2).choose_spec.binds (b x x),rL X G z.1⟩
noncomputable def mkM(z:OC K C x qual st f)(b:YG st ps):Mtd K x qual st ps:=⟨f,(FnAt.fd z.2.2).choose,(FnAt.fd z.2.2).choose_spec,(FnAt.fd z.2.2).choose_spec.binds (b x qual)⟩
theorem FnAt.kp(z:FnAt K x qual st f):keepIn K (.ref f)=true:=by
 obtain⟨o,s,kV,m,A,B,E,ct,G,l,c,k⟩:=z;exact k
theorem mkE(z:OC K C x qual st f):Wg K C x f:=⟨z.1,z.2.1,FnAt.kp z.2.2⟩
theorem mkO(X:K.In h)(G:h.Ns Bb mg)(z:ClsAt K y C)(i:OC K C "__init__" qual st f):Own K mg y C f:=⟨⟨z.2.1,z.2.2.1,z.2.2.2.1,z.2.2.2.2.1⟩,⟨z.2.2.2.2.2.1,i.1,i.2.1,z.2.2.2.2.2.2⟩,rL X G z.1⟩
noncomputable abbrev bnd(st:DZ)(ps:List Str)(us:List Value):Prop:=∀(x qual:Str) (kV l m:Value) (o:Option Aa) (s ct:Value),jA (fnOf x qual (MJ st) (JQ st) (BG st) .none kV l m o s ct) ⟨us,[]⟩=pure (ps.zip us)
theorem bd1(z:∀u,bnd st [a] [u]):YG st [a]:=λx q k d p n c t m l=>by obtain⟨u,rfl⟩:=p7 l;exact z u x q k d p n c t
theorem bd2(z:∀u v,bnd st [a,b] [u,v]):YG st [a,b]:=λx q k d p n c t m l=>by obtain⟨u,v,rfl⟩:=t6 l;exact z u v x q k d p n c t
theorem bd3(z:∀u v w,bnd st [a,b,c] [u,v,w]):YG st [a,b,c]:=λx q k d p n c t m l=>by obtain⟨u,v,w,rfl⟩:=t5 l;exact z u v w x q k d p n c t
theorem bd4(z:∀u v w y,bnd st [a,b,c,d] [u,v,w,y]):YG st [a,b,c,d]:=λx q k d p n c t m l=>by obtain⟨u,v,w,y,rfl⟩:=t4 l;exact z u v w y x q k d p n c t
theorem bd5(z:∀u v w y l,bnd st [a,b,c,d,e] [u,v,w,y,l]):YG st [a,b,c,d,e]:=λx q k d p n c t o m=>by obtain⟨u,v,w,y,l,rfl⟩:=tz m;exact z u v w y l x q k d p n c t
theorem bd6(z:∀u v w y l m,bnd st [a,b,c,d,e,g] [u,v,w,y,l,m]):YG st [a,b,c,d,e,g]:=λx q k d p n c t s o=>by obtain⟨u,v,w,y,l,m,rfl⟩:=len6 o;exact z u v w y l m x q k d p n c t
end
open PySem PySem.Spec PyProof.Rows
open Srt (ltL)
noncomputable def upB(bs:List Bool):List Bool:=bs.filter id++bs.filter (!·)
theorem XH(bs:List Bool):(upB bs).Perm bs:=List.filter_append_perm id bs
noncomputable def Ku:List D->Option (List Bool)
 | []=>some []
 | .bl b :: l=>(Ku l).map (b :: ·)
 | _ :: _=>none
theorem U6:∀{ds:List D} {bs:List Bool},Ku ds=some bs->ds=bs.map D.bl
 | [],_,h=>by cases h;rfl
 | .bl b :: ds,bs,h=>by
  unfold Ku at h
  cases l:Ku ds with
  | none=>rw[l]at h;cases h
  | some m=>rw[l]at h;cases h;rw[U6 l];rfl
 | .non :: _,_,h=>by cases h
 | .int _ :: _,_,h=>by cases h
 | .str _ :: _,_,h=>by cases h
 | .tup _ :: _,_,h=>by cases h
 | .fro _ :: _,_,h=>by cases h
 | .ref _ :: _,_,h=>by cases h
 | .exc _ :: _,_,h=>by cases h
noncomputable def WB(m:ME):ME:=λe S=>(m e S).bind λd l=>match d with
 | .ref n=>match l[n]? with
  | some (.lst o)=>match Ku o with
   | some bs=>.ok (.ref l.length) (l++[.lst ((upB bs).map D.bl)])
   | none=>.bad
  | _=>.bad
 | _=>.bad
section
variable{X:Cx}{E:EW}{e:Expr}{p pos kp vp:Pos}{j1:Nat}{m:ME}{ta:TA}
theorem Ax.of_bls{K:AG}{ρ:List Aa}{H:Hp}:∀(bs:List Bool),Ax K ρ H (bs.map D.bl) (bs.map V.bl)
 | []=>.nil
 | n :: l=>.cons (.bl n) (Ax.of_bls l)
theorem Ax.bls{K:AG}{ρ:List Aa}{H:Hp}:∀{bs:List Bool} {vs:List V},Ax K ρ H (bs.map D.bl) vs->vs=bs.map V.bl
 | [],_,.nil=>rfl
 | n :: l,_,.cons r t=>by
  cases r;rw[Ax.bls (bs:=l) t];rfl
theorem XA:∀{bs:List Bool} {us:List Value},CC (bs.map V.bl) us->us=bs.map D0
 | [],_,.nil=>rfl
 | b :: bs,_,.cons r t=>by
  rw[XA (bs:=bs) t];cases r;rfl
theorem W9:∀bs:List Bool,CC (bs.map V.bl) (bs.map D0)
 | []=>.nil
 | _ :: bs=>.cons rfl (W9 bs)
theorem X9:∀{bs s:List Bool},s.Perm bs->s.Pairwise (λx y=>ltL (Srt.QB (.bool x)) (Srt.QB (.bool y))=false)->s=upB bs:=λ{bs s} p h=>by
 have A:(upB bs).Pairwise (λx y=>ltL (Srt.QB (.bool x)) (Srt.QB (.bool y))=false):=by
  unfold upB;rw[BM];refine⟨Qd λx l y o=>?_,Qd λx l y o=>?_,λx l y o=>?_⟩
  ·have:=(Am.mp l).2;have:=(Am.mp o).2;cases x <;> cases y <;> first | rfl | contradiction
  ·have:=(Am.mp l).2;have:=(Am.mp o).2;cases x <;> cases y <;> first | rfl | contradiction
  ·have:=(Am.mp l).2;have:=(Am.mp o).2;cases x <;> cases y <;> first | rfl | contradiction
 refine(p.trans (XH bs).symm).eq_of_pairwise (λa b _ _ B C=>?_) h A
 cases a <;> cases b <;> first | rfl | exact zX B (by decide) | exact zX C (by decide)
noncomputable def tSR(K:AG)(ta:TA):TE:=λo H Q=>ta o H λs l=>∃(a:Aa) (bs:List Bool),s=[.ref a]/\l a=some (.lst (bs.map V.bl))/\∀q,l q=none->Q (.ref q) (upd l q (.lst ((upB bs).map V.bl)))
theorem fZ(hc:X.calm=true)(hg:Gl X "sorted") (hm:X.mg "sorted" = none) (ha:PA X [e] ta) (T:Ag [e] X.env=[(false,Ci e X.env)]:=by rfl) :
  PE X (.Call (.Name "sorted" p) [e] [⟨some "reverse",.Constant (.bool true) j1 vp,kp⟩] pos) (tSR X.K ta):=by
 intro J s L H Q I h;refine IA (OU I hg hm QZ ?_ (by decide) (by decide));refine callWith_kw (thn (ha pos J s L H _ I h) λus s1 ⟨vs,U,I1,r1,q1⟩=>?_) (by rw[T];rfl) (by rw[T];rfl) rfl rfl;obtain⟨a,bs,rfl,hl,q⟩:=q1;obtain⟨u,rfl,ru⟩:=vals1 r1;cases ru;refine kws_cons ?_
 refine thn (mw (X:=X) (b:=true) (j:=j1) (pos:=vp) J s1 L U (λx N=>x=.bl true/\N=U) I1 ⟨rfl,rfl⟩) λv A ⟨x,N,Y,r2,e1,e2⟩=>?_
 subst e1 e2;cases r2;refine kws_nil ?_;show Ao _ _ (call (.builtin "sorted") [.ref a] [(FQ "reverse",.bool true)]) _ _ _;obtain⟨i',Z,pl,hz⟩:=Y.list (.inl (.inl hl))
 have B:i'.length<=sizeLine:=by rw[<-Z.length];exact hz
 have ei:=XA Z;subst ei;refine call_function_entry_kw kind_sorted plain_sorted entry_sorted (args_sorted_rev _ _) ?_;unfold Builtin.«sorted»;refine AB (m:=checkCount "sorted" 1 1 _) (AL (AB (collect_list pl.isList ?_ B)));generalize hG:((A.heap.push (Es "list" #[] 0)).update A.heap.objs.size (D8 (·++(bs.map D0).toArray)))=g
 have kp:∀b o,A.heap.get? b=some o->g.get? b=some o:=λb o e=>by
  rw[<-hG,Oj _ _ _ _ (BJ (Ak e))];exact AO _ e
 refine AB (RL ?_ B);have I3:Inv X J L N { A with heap:=g }:=Y.kept (t':=A.toks) kp;have O:(g.push (Es "list" (bs.map D0).toArray 0)).get? g.objs.size=some (Es "list" (bs.map D0).toArray 0):=An _ rfl;refine AB (Hq (wpAny_call_entry_kw slot_list_sort ⟨_,O,rfl⟩ uh (Srt.Yt O B (λv P=>by obtain⟨b,_,rfl⟩:=BF.mp P;exact⟨b,rfl⟩) λout R so=>⟨_,rfl,AL ⟨_,rfl,?_⟩⟩) (args_list_sort_rev _ _)))
 obtain⟨S,yt⟩:∃S:List Bool,out.toList=S.map D0:=⟨out.toList.map (λv=>match v with | .bool b=>b | _=>false),by
  rw[BC]
  conv=>lhs;rw[<-N4 out.toList]
  refine DU λv P=>?_
  obtain⟨b,_,rfl⟩:=BF.mp (R.mem_iff.mp P)
  rfl⟩
 have ec:S=upB bs:=by
  rw[yt]at R so;refine X9 ?_ (Bn.mp so);have:=R.map (λv=>match v with | D0 b=>b | _=>false);rw[BC,BC]at this
  have C:∀l:List Bool,l.map ((λv=>match v with | D0 b=>b | _=>false)∘D0)=l:=λl=>YK l
  rwa [C,C]at this
 subst ec;obtain⟨k,hk⟩:=sortedHeap_at (out:=out) O
 have G:((upB bs).map V.bl).length<=sizeLine:=by
  rw[AD,(XH bs).length_eq];rw[AD]at B;exact B
 have I4:=I3.laid (a:=g.objs.size) (o:=.lst ((upB bs).map V.bl)) (t':=A.toks) (h':=OD (g.push (Es "list" (bs.map D0).toArray 0)) g.objs.size (bs.map D0) out)
  (λb u z=>by
   have lt:b < g.objs.size:=Ak z;rw[sortedHeap_old (BJ lt) (by rw[size_push'];exact LV lt)]
   exact AO _ z) (AJ _) ⟨G,out.toList,k,by rw[yt];exact W9 _,hk⟩
 exact⟨.ref g.objs.size,_,I4,rfl,q _ (I3.hok.fresh (AJ _))⟩
theorem gz(J:X.calm=true)(L:Gl X "sorted") (s:X.mg "sorted" = none) (h:GE X E e m) (B:Ag [e] X.env=[(false,Ci e X.env)]:=by rfl) :
  GE X E (.Call (.Name "sorted" p) [e] [⟨some "reverse",.Constant (.bool true) j1 vp,kp⟩] pos) (WB m):=
 (fZ J L s (Gy h JA B) B).imp<|by
 rintro σ H Q ⟨N,l,S,O,P,s⟩
 refine⟨N,l,S,O,P,s.seq λd S1 s A C x R G T=>?_⟩
 cases d <;> first | exact s.elim | skip
 rename_i n
 cases T with
 | @ref _ a U=>
 obtain⟨o,ho,Y⟩:=G.there U;dsimp only at s;rw[ho]at s
 cases o <;> first | exact s.elim | skip
 rename_i Z;dsimp only at s
 cases hb:Ku Z with
 | none=>rw[hb]at s;exact s.elim
 | some bs=>
  rw[hb]at s;obtain⟨vs,e1,rr⟩:=Y;have e2:=U6 hb;subst e2;have e3:=rr.bls;subst e3;refine⟨a,bs,rfl,e1,λq I=>?_⟩;have le:Le X.K A C (A++[q]) (upd C q (.lst ((upB bs).map V.bl))):=Le.alloc I;obtain⟨s4,l4,zB⟩:=G.alloc (ho:=.lst ((upB bs).map V.bl)) (o:=.lst ((upB bs).map D.bl)) I ⟨_,CA,(Ax.of_bls _).mono le⟩;exact s _ _ _ (R.trans l4) s4 (.ref zB)
end
open PySem PySem.Spec PyProof.Rows
noncomputable abbrev Cx.q(X:Cx):Cx:={ X with xe:=λ_ _=>False }
noncomputable def Ei(n:Nat)(mb:MS)(ds:List D)(S:Sto):Res D:=(okR (mb (Ix n ds) S)).bind λf l=>match f with
 | .rt d=>.ok d l
 | .nx _=>.ok .non l
 | _=>.bad
section
variable{P:Bs}{w:CQ}{K:AG}{mg:Str->Option Value}{base:DS}
theorem lY{x B}{st}{f}{fd}{N ps}{k n}(F:Fun K x B st f fd)(Z:Bk N ps (BG st))(hn:ps.length=n){mb}
  (w9:∀(O:Value) (A:Ce) (o:List Env) (s:AS) (H:Hp) (E:XK),Ht k (A.deeper (OE B (BG st) s.heap.objs.size f O))->GSs (ZW (CXG P w) P w K mg base N B (BG st) f O A o s H E).q noE (JQ st) mb) :
  DD P w K mg base (CXG P w) (k+1) f fd ps (spM K n (Ei N.length mb)):=by
 obtain⟨oc,od,kV,doc,pm,an,O,ct,wK,rfl,lk,wA⟩:=F.ex
 refine uN lk wA Z (λvs H Q E h=>by rw[hn];exact h.len) λA o s H vs Q E L h=>?_
 obtain⟨ρ,ds,S,h1,h2,h3,C⟩:=h;have hb:=w9 O A o s H E L;refine⟨gS K noE mb,λζ R σ T D I q=>G2 (hb ζ R σ T D (I.with _) q) (λU s1 z=>?_) λe s1 z=>z.elim,ρ,_,S,Ys h2,h3,?_⟩
 ·cases U with
  | next=>obtain⟨m,G,J,z⟩:=z;exact⟨m,G,J.without,z⟩
  | brk=>obtain⟨m,G,J,z⟩:=z;exact⟨m,G,J.without,z⟩
  | cont=>obtain⟨m,G,J,z⟩:=z;exact⟨m,G,J.without,z⟩
  | ret u=>obtain⟨v,m,G,J,r,z⟩:=z;exact⟨v,m,G,J.without,r,z⟩
 ·unfold Ei at C
  cases L:mb (Ix N.length ds) S with
  | bad=>rw[L]at C;exact C.elim
  | err c S'=>rw[L]at C;exact C.elim
  | ok U S'=>
   rw[L]at C
   cases U with
   | nx X=>exact λY T m l R r=>C Y T .non l R .non
   | rt d=>exact C
   | bk X=>exact C.elim
   | ct X=>exact C.elim
   | ex c X=>exact C.elim
end
end L2
namespace M
open PySem L2
noncomputable abbrev oN(e:L2.Lo)(S:L2.Sto):L2.Res L2.Fl:=.ok (.nx e) S
noncomputable abbrev sR(n:Nat):Option L2.D:=some (.ref n)
noncomputable abbrev sI(i:Int):Option L2.D:=some (.int i)
noncomputable abbrev sF(l:ZLi):Option L2.D:=some (.fro (l.map L2.D.int))
theorem M6(h:mb (Ix n ds) S=.ok (.rt d) S1):Ei n mb ds S=.ok d S1:=by unfold Ei;rw[h];rfl
theorem Y4(h:mb (Ix n ds) S=.ok (.nx e) S1):Ei n mb ds S=.ok .non S1:=by unfold Ei;rw[h];rfl
end M
namespace L4
open PySem L2
inductive Cel where
 | no | fz (o:Ob) | ow (i:Nat)
noncomputable abbrev Fz:=Nat->Cel
inductive Sl where
 | u | v (d:D) | z (o:Ob) | y (o:Ob) | w (i:Nat) (o:Ob) | q (P:(Nat->Option Ob)->D->Prop)
noncomputable def Sl.ok(S0:Sto)(F:Fz)(S:Sto):Sl->Option D->Prop
 | .u,_=>True
 | .v d,x=>x=some d
 | .z o,x=>∃n,x=some (.ref n)/\F n=.fz o
 | .y o,x=>∃n,x=some (.ref n)/\F n=.fz o/\S0.length<=n
 | .w i o,x=>∃n,x=some (.ref n)/\F n=.ow i/\S[n]?=some o
 | .q P,x=>∃d,x=some d/\∀L:Nat->Option Ob,(∀n o,F n=.fz o->L n=some o)->P L d
structure Vs(S0:Sto)(A:List Sl)(e:Lo)(F:Fz)(S:Sto):Prop where
 kp:Keeps S0 S
 fz:∀n o,F n=.fz o->S[n]?=some o
 ow:∀n i,F n=.ow i->S0.length<=n/\n < S.length
 hi:∀n,S.length<=n->F n=.no
 sl:∀(i:Nat) (a:Sl),A[i]?=some a->∃x,e[i]?=some x/\a.ok S0 F S x
noncomputable def Fle(F l:Fz):Prop:=∀n o,F n=.fz o->l n=.fz o
theorem Fle.refl(F:Fz):Fle F F:=λ_ _ h=>h
theorem Fle.trans(a:Fle F G)(b:Fle G H):Fle F H:=λn o h=>b n o (a n o h)
noncomputable def QS(F:Fz)(S l:Sto):Fz:=λn=>if n < S.length then F n else match l[n]? with
 | some o=>.fz o
 | none=>.no
section
variable{S0 S S':Sto}{A B:List Sl}{e:Lo}{F:Fz}{α β γ ρ σ τ:Type}
theorem GM(h:n < S.length):QS F S S' n=F n:=qX h
theorem TB(h:S.length<=n)(ho:S'[n]?=some o):QS F S S' n=.fz o:=by
 unfold QS;rw[qY (Iu.mpr h),ho]
theorem BU(h:S[n]?=some o):n < S.length:=(AF.mp h).1
theorem Sl.mono{S0:Sto}{F s:Fz}{S S':Sto}{a:Sl}{x:Option D}(h:a.ok S0 F S x)(C:∀n o,F n=.fz o->s n=.fz o)(G:∀n i o,F n=.ow i->S[n]?=some o->s n=.ow i/\S'[n]?=some o):a.ok S0 s S' x:=by
 cases a with
 | u=>trivial
 | v d=>exact h
 | z o=>obtain⟨n,l,m⟩:=h;exact⟨n,l,C _ _ m⟩
 | y o=>obtain⟨n,l,m,E⟩:=h;exact⟨n,l,C _ _ m,E⟩
 | w i o=>obtain⟨n,l,m,E⟩:=h;exact⟨n,l,G _ _ _ m E⟩
 | q P=>obtain⟨d,l,m⟩:=h;exact⟨d,l,λL H=>m L λn o q=>H n o (C n o q)⟩
theorem Vs.fle(h:Vs S0 A e F S)(S':Sto):Fle F (QS F S S'):=λn o q=>by rw[GM (BU (h.fz n o q))];exact q
theorem Vs.grow(h:Vs S0 A e F S)(k:Keeps S S'):Vs S0 A e (QS F S S') S':=by
 refine⟨h.kp.trans k,λn o q=>?_,λn i q=>?_,λn m=>?_,λi a C=>?_⟩
 ·unfold QS at q
  split at q
  ·rename_i m
   rw[k.2 n m];exact h.fz n o q
  ·cases l:S'[n]? with
   | none=>rw[l]at q;cases q
   | some E=>rw[l]at q;cases q;rfl
 ·unfold QS at q
  split at q
  ·exact⟨(h.ow n i q).1,AY (h.ow n i q).2 k.1⟩
  ·cases l:S'[n]? with
   | none=>rw[l]at q;cases q
   | some E=>rw[l]at q;cases q
 ·unfold QS
  rw[qY (Iu.mpr (Au k.1 m)),CL m]
 ·obtain⟨x,G,H⟩:=h.sl i a C
  exact⟨x,G,Sl.mono H (h.fle S') λn i o I s=>⟨by rw[GM (BU s)];exact I,by rw[k.2 n (BU s)];exact s⟩⟩
theorem Vs.cons(h:Vs S0 A e F S)(l:a.ok S0 F S x):Vs S0 (a :: A) (x :: e) F S:=
 ⟨h.kp,h.fz,h.ow,h.hi,λi b hb=>by
  cases i with
  | zero=>cases hb;exact⟨x,rfl,l⟩
  | succ i=>exact h.sl i b hb⟩
theorem Vs.set(h:Vs S0 A e F S)(i:Nat)(l:a.ok S0 F S x):Vs S0 (A.set i a) (e.set i x) F S:=
 ⟨h.kp,h.fz,h.ow,h.hi,λj b hb=>by
  by_cases c:i=j
  ·subst c
   rw[DT]at hb;rw[qX rfl]at hb;split at hb
   ·rename_i m
    cases hb;obtain⟨y,o,_⟩:=h.sl i (A[i]) (AU m);exact⟨x,by rw[DT];rw[qX rfl,qX (AF.mp o).1],l⟩
   ·cases hb
  ·rw[Ah c]at hb ⊢
   exact h.sl j b hb⟩
inductive Wk:List Sl->List Sl->Prop where
 | nil:Wk [] []
 | same {a:Sl} {A B:List Sl}:Wk A B->Wk (a :: A) (a :: B)
 | drop {a:Sl} {A B:List Sl}:Wk A B->Wk (a :: A) (.u :: B)
 | less {o:Ob} {A B:List Sl}:Wk A B->Wk (.y o :: A) (.z o :: B)
theorem Wk.at:∀{A B:List Sl},Wk A B->∀(i:Nat) (b:Sl),B[i]?=some b->∃a,A[i]?=some a/\(b=.u∨b=a∨∃o,a=.y o/\b=.z o)
 | _,_,.nil,i,b,h=>by simp at h
 | _,_,.same w,0,b,h=>by cases h;exact⟨_,rfl,.inr (.inl rfl)⟩
 | _,_,.less w,0,b,h=>by cases h;exact⟨_,rfl,.inr (.inr ⟨_,rfl,rfl⟩)⟩
 | _,_,.less w,i+1,b,h=>Wk.at w i b h
 | _,_,.drop w,0,b,h=>by cases h;exact⟨_,rfl,.inl rfl⟩
 | _,_,.same w,i+1,b,h=>Wk.at w i b h
 | _,_,.drop w,i+1,b,h=>Wk.at w i b h
theorem Wk.refl:∀A:List Sl,Wk A A
 | []=>.nil
 | _ :: A=>.same (Wk.refl A)
theorem Vs.weak(h:Vs S0 A e F S)(w:Wk A B):Vs S0 B e F S:=⟨h.kp,h.fz,h.ow,h.hi,λi b hb=>by
 obtain⟨a,s,C⟩:=w.at i b hb;obtain⟨x,l,m⟩:=h.sl i a s
 rcases C with rfl | rfl | ⟨o,rfl,rfl⟩
 ·exact⟨x,l,trivial⟩
 ·exact⟨x,l,m⟩
 ·obtain⟨n,E,G,_⟩:=m
  exact⟨x,l,n,E,G⟩⟩
noncomputable def Sl.oth(i:Nat):Sl->Bool
 | .w k _=>!(Nat.beq k i)
 | _=>true
theorem fm(h:((A.set i .u).all (Sl.oth i))=true)(m:j≠i)(s:A[j]?=some (.w k o)):k≠i:=by
 have C:(A.set i .u)[j]?=some (.w k o):=by rw[Ah (Ch m)];exact s
 have:=Iq.mp h _ (BN C);intro e;subst e;have l:(!(Nat.beq k k))=true:=this;rw[Nat.beq_refl]at l;cases l
theorem Vs.put(h:Vs S0 A e F S)(I:((A.set i .u).all (Sl.oth i))=true)(Q:A[i]?=some (.w i o))(J:e[i]?=some (some (.ref n)))(s:F n=.ow i):Vs S0 (A.set i (.w i o')) e F (S.set n o'):=by
 have G:=h.ow n i s;refine⟨h.kp.set G.1 o',λk q C=>?_,λk j q=>by rw[D5];exact h.ow k j q,λk H=>h.hi k (by rw[D5]at H;exact H),λj b hb=>?_⟩
 ·have:n≠k:=λc=>by subst c;rw[s]at C;cases C
  rw[Ah this];exact h.fz k q C
 ·by_cases c:i=j
  ·subst c
   rw[DT]at hb;rw[qX rfl]at hb;split at hb
   ·cases hb
    exact⟨_,J,n,rfl,s,by rw[DT];rw[qX rfl,qX G.2]⟩
   ·cases hb
  ·rw[Ah c]at hb
   obtain⟨x,L,l⟩:=h.sl j b hb;refine⟨x,L,?_⟩
   cases b with
   | u=>trivial
   | v d=>exact l
   | z q=>exact l
   | y q=>exact l
   | q P=>exact l
   | w k q=>
    obtain⟨m,N,E,O⟩:=l;refine⟨m,N,E,?_⟩
    have:n≠m:=λz=>by
     subst z;rw[s]at E;cases E;exact fm I (λz=>c z.symm) hb rfl
    rw[Ah this];exact O
theorem Vs.freeze(h:Vs S0 A e F S)(O:((A.set i .u).all (Sl.oth i))=true)(Q:A[i]?=some (.w i o)):∃F',Vs S0 (A.set i (.y o)) e F' S/\Fle F F':=by
 obtain⟨x,R,n,rfl,I,N⟩:=h.sl i _ Q
 have g:∀k,k≠n->(if k=n then Cel.fz o else F k)=F k:=λk G=>qY G
 have H:Fle F (λk=>if k=n then Cel.fz o else F k):=λk q s=>by
  have:k≠n:=λc=>by subst c;rw[I]at s;cases s
  show(if k=n then Cel.fz o else F k)=_;rw[qY this];exact s
 refine⟨λk=>if k=n then .fz o else F k,⟨h.kp,λk q s=>?_,λk j q=>?_,λk G=>?_,λj b hb=>?_⟩,H⟩
 ·split at s
  ·rename_i c;cases s;subst c;exact N
  ·exact h.fz k q s
 ·split at q
  ·cases q
  ·exact h.ow k j q
 ·have:k≠n:=λc=>by subst c;exact zX (BU N) (Iu.mpr G)
  show(if k=n then Cel.fz o else F k)=_;rw[qY this];exact h.hi k G
 ·by_cases c:i=j
  ·subst c
   rw[DT]at hb;rw[qX rfl]at hb;split at hb
   ·cases hb
    exact⟨_,R,n,rfl,qX rfl,(h.ow n i I).1⟩
   ·cases hb
  ·rw[Ah c]at hb
   obtain⟨x,T,E⟩:=h.sl j b hb;refine⟨x,T,?_⟩
   cases b with
   | u=>trivial
   | v d=>exact E
   | z q=>obtain⟨m,C,l⟩:=E;exact⟨m,C,H _ _ l⟩
   | y q=>obtain⟨m,C,l,J⟩:=E;exact⟨m,C,H _ _ l,J⟩
   | q P=>obtain⟨d,C,l⟩:=E;exact⟨d,C,λL U=>l L λn o q=>U n o (H n o q)⟩
   | w k q=>
    obtain⟨m,C,l,J⟩:=E;refine⟨m,C,?_,J⟩
    have:m≠n:=λz=>by
     subst z;rw[I]at l;cases l;exact fm O (λz=>c z.symm) hb rfl
    show(if m=n then Cel.fz o else F m)=_;rw[qY this];exact l
theorem Vs.own(h:Vs S0 A e F S)(k:Keeps S S'){i n:Nat}{o:Ob}(C:S.length<=n)(ho:S'[n]?=some o):∃F',Vs S0 (A.set i (.w i o)) (e.set i (some (.ref n))) F' S'/\Fle F F':=by
 have g:=h.grow k;have s:=BU ho
 have G:Fle F (λj=>if j=n then Cel.ow i else QS F S S' j):=λj q l=>by
  have:j≠n:=λc=>by subst c;exact zX (BU (h.fz _ _ l)) (Iu.mpr C)
  show(if j=n then Cel.ow i else _)=_;rw[qY this];exact h.fle S' _ _ l
 refine⟨λj=>if j=n then .ow i else QS F S S' j,(Vs.set (a:=.w i o) (x:=some (.ref n)) ⟨g.kp,λj q l=>?_,λj q l=>?_,λj H=>?_,λj b hb=>?_⟩ i ⟨n,rfl,qX rfl,ho⟩),G⟩
 ·split at l
  ·cases l
  ·exact g.fz j q l
 ·split at l
  ·rename_i c;subst c;exact⟨Au h.kp.1 C,s⟩
  ·exact g.ow j q l
 ·have:j≠n:=λc=>by subst c;exact zX s (Iu.mpr H)
  show(if j=n then Cel.ow i else _)=_;rw[qY this];exact g.hi j H
 ·obtain⟨x,J,L⟩:=h.sl j b hb
  refine⟨x,J,Sl.mono L G λm j q N I=>?_⟩;have E:=BU I
  have:m≠n:=λc=>by subst c;exact zX E (Iu.mpr C)
  refine⟨?_,by rw[k.2 m E];exact I⟩;show(if m=n then Cel.ow i else _)=_;rw[qY this,GM E];exact N
noncomputable abbrev Rk(α:Type):=α->Sto->D->Sto->Prop
noncomputable def rV(enc:α->D):Rk α:=λv _ d _=>d=enc v
noncomputable def rO(l:α->Ob):Rk α:=λv _ d S=>∃n,d=.ref n/\S[n]?=some (l v)
noncomputable def rN(l:α->Ob):Rk α:=λv S0 d S=>∃n,d=.ref n/\S0.length<=n/\S[n]?=some (l v)
noncomputable def VE(A:List Sl)(m:ME)(R:Rk α)(p:Option α):Prop:=∀v,p=some v->∀S0 e F S,Vs S0 A e F S->∃d S',m e S=.ok d S'/\Keeps S S'/\R v S d S'
noncomputable def VB(A:List Sl)(t:MT)(p:Option Bool):Prop:=∀v,p=some v->∀S0 e F S,Vs S0 A e F S->∃S',t e S=.ok v S'/\Keeps S S'
noncomputable def VL(A:List Sl)(ml:ML)(enc:α->D)(p:Option (List α)):Prop:=∀v,p=some v->∀S0 e F S,Vs S0 A e F S->∃S',ml e S=.ok (v.map enc) S'/\Keeps S S'
noncomputable def VK(A:List Sl)(mi:MI)(enc:α->D)(p:Option (List α)):Prop:=∀v,p=some v->∀S0 e F S,Vs S0 A e F S->∃w S',mi e S=.ok w S'/\Keeps S S'/\∀l,Keeps S' l->w l=some (v.map enc)
noncomputable def VI(A:List Sl)(mi:MI)(enc:α->D)(p:Option (List α)):Prop:=∀v,p=some v->∀S0 e F S,Vs S0 A e F S->∃w S',mi e S=.ok w S'/\Keeps S S'/\∀l m,Fle (QS F S S') l->(∀n o,l n=.fz o->m[n]?=some o)->w m=some (v.map enc)
theorem VI.k(h:VI A mi enc p):VK A mi enc p:=λv s S0 e F S l=>by
 obtain⟨w,S',C,m,E⟩:=h v s S0 e F S l;have g:=l.grow m;exact⟨w,S',C,m,λo k=>E _ o (g.fle o) (g.grow k).fz⟩
noncomputable def eT(enc:α->D)(l:List α):D:=.tup (l.map enc)
noncomputable def eP(a:α->D)(b:β->D)(x:α×β):D:=.tup [a x.1,b x.2]
noncomputable def eP3(a:α->D)(b:β->D)(c:γ->D)(x:α×β×γ):D:=.tup [a x.1,b x.2.1,c x.2.2]
noncomputable def eU(_:Unit):D:=.non
noncomputable def eF(l:ZLi):D:=.fro (l.map D.int)
noncomputable def oL(enc:α->D)(l:List α):Ob:=.lst (l.map enc)
theorem nw(h:VE A m R p)(i:∀v S d S',R v S d S'->R' v S d S'):VE A m R' p:=λv l S0 e F S o=>by
 obtain⟨d,S',s,C,E⟩:=h v l S0 e F S o;exact⟨d,S',s,C,i _ _ _ _ E⟩
theorem HH(h:VE A m (rN l) p):VE A m (rO l) p:=nw h λv S d S' ⟨n,o,_,s⟩=>⟨n,o,s⟩
theorem AI(h:A[i]?=some (.v (enc v))):VE A (AC i) (rV enc) (some v):=λ_ l S0 e F S m=>by
 cases l;obtain⟨x,o,s⟩:=m.sl i _ h;cases s;exact⟨_,S,by unfold AC;rw[o],Keeps.refl S,rfl⟩
theorem Cz(h:A[i]?=some (.z (m v))):VE A (AC i) (rO m) (some v):=λ_ o S0 e F S l=>by
 cases o;obtain⟨x,s,n,rfl,C⟩:=l.sl i _ h;exact⟨_,S,by unfold AC;rw[s],Keeps.refl S,n,rfl,l.fz _ _ C⟩
theorem DW(h:A[i]?=some (.y (m v))):VE A (AC i) (rO m) (some v):=λ_ o S0 e F S l=>by
 cases o;obtain⟨x,s,n,rfl,C,_⟩:=l.sl i _ h;exact⟨_,S,by unfold AC;rw[s],Keeps.refl S,n,rfl,l.fz _ _ C⟩
theorem JN(h:A[i]?=some (.w k (l v))):VE A (AC i) (rO l) (some v):=λ_ m S0 e F S o=>by
 cases m;obtain⟨x,s,n,rfl,E,C⟩:=o.sl i _ h;exact⟨_,S,by unfold AC;rw[s],Keeps.refl S,n,rfl,C⟩
theorem CS(h:d=enc v):VE A (mC d) (rV enc) (some v):=λ_ l S0 e F S m=>by
 cases l;exact⟨d,S,rfl,Keeps.refl S,h⟩
theorem Az(h:p.bind q=some v):∃x,p=some x/\q x=some v:=Option.bind_eq_some_iff.mp h
theorem HG{f:D->D->Sto->Res D}{a b:ME}{m:α->D}{eb:β->D}{o:γ->D}{s:Option α}{C:Option β}{g:α->β->Option γ}(I:VE A a (rV m) s)(hb:VE A b (rV eb) C)
  (J:∀x y z S,g x y=some z->f (m x) (eb y) S=.ok (o z) S):VE A (m2 f a b) (rV o) (s.bind λx=>C.bind λy=>g x y):=λv l S0 e F S E=>by
 obtain⟨x,L,l⟩:=Az l;obtain⟨y,N,O⟩:=Az l;obtain⟨d1,P,Q,G,rfl⟩:=I x L S0 e F S E;obtain⟨d2,H,R,T,rfl⟩:=hb y N S0 e _ P (E.grow G);exact⟨_,H,ER Q R (J x y v H O),G.trans T,rfl⟩
theorem Ve{f:D->D->Sto->Res D}{a b:ME}{m:α->D}{o:β->Ob}{s:γ->D}{C:Option α}{E:Option β}{g:α->β->Option γ}(J:VE A a (rV m) C)(hb:VE A b (rO o) E)
  (L:∀x y z S (n:Nat),S[n]?=some (o y)->g x y=some z->f (m x) (.ref n) S=.ok (s z) S):VE A (m2 f a b) (rV s) (C.bind λx=>E.bind λy=>g x y):=λv l S0 e F S G=>by
 obtain⟨x,N,l⟩:=Az l;obtain⟨y,O,P⟩:=Az l;obtain⟨d1,Q,R,H,rfl⟩:=J x N S0 e F S G;obtain⟨d2,I,T,U,n,rfl,X⟩:=hb y O S0 e _ Q (G.grow H);exact⟨_,I,ER R T (L x y v I n X P),H.trans U,rfl⟩
theorem SA{f:D->D->Sto->Res D}{a b:ME}{m:α->Ob}{eb:β->D}{o:γ->D}{s:Option α}{C:Option β}{g:α->β->Option γ}(J:VE A a (rO m) s)(hb:VE A b (rV eb) C)
  (L:∀x y z S (n:Nat),S[n]?=some (m x)->g x y=some z->f (.ref n) (eb y) S=.ok (o z) S):VE A (m2 f a b) (rV o) (s.bind λx=>C.bind λy=>g x y):=λv l S0 e F S E=>by
 obtain⟨x,N,l⟩:=Az l;obtain⟨y,O,P⟩:=Az l;obtain⟨d1,Q,R,G,n,rfl,T⟩:=J x N S0 e F S E;obtain⟨d2,H,U,I,rfl⟩:=hb y O S0 e _ Q (E.grow G);exact⟨_,H,ER R U (L x y v H n (I.at T) P),G.trans I,rfl⟩
theorem Gb(h:VE A m (rV D.bl) p):VB A (mB m) p:=λv l S0 e F S o=>by
 obtain⟨d,S',s,C,rfl⟩:=h v l S0 e F S o;exact⟨S',Wh s,C⟩
theorem Vi(h:VE A m (rV D.bl) p):VB A (GK m) p:=λv l S0 e F S o=>by
 obtain⟨d,S',s,C,rfl⟩:=h v l S0 e F S o;refine⟨S',?_,C⟩;unfold GK;rw[s];rfl
theorem GU:VB A Gs (some true):=λv l S0 e F S m=>by cases l;exact⟨S,rfl,Keeps.refl S⟩
theorem Yf(h:VB A t p):VB A (QJ t) (p.bind λb=>some (!b)):=λv l S0 e F S m=>by
 obtain⟨x,o,s⟩:=Az l;cases s;obtain⟨S',C,E⟩:=h x o S0 e F S m;exact⟨S',OR C,E⟩
theorem eV(h:VB A t p)(E:VB A u q):VB A (RG t u) (p.bind λb=>if b=true then q else some false):=λv G S0 e F S m=>by
 obtain⟨x,H,o⟩:=Az G;obtain⟨s,C,l⟩:=h x H S0 e F S m
 cases x with
 | true=>
  obtain⟨I,J,L⟩:=E v o S0 e _ s (m.grow l);exact⟨I,(Wc C).trans J,l.trans L⟩
 | false=>cases o;exact⟨s,bK C,l⟩
theorem eS(h:VB A t p)(E:VB A u q):VB A (mOr t u) (p.bind λb=>if b=true then some true else q):=λv G S0 e F S m=>by
 obtain⟨x,H,o⟩:=Az G;obtain⟨s,C,l⟩:=h x H S0 e F S m
 cases x with
 | false=>
  obtain⟨I,J,L⟩:=E v o S0 e _ s (m.grow l);exact⟨I,(ft C).trans J,l.trans L⟩
 | true=>cases o;exact⟨s,pN C,l⟩
theorem Ye(J:VB A t pt)(L:VE A a R N)(hb:VE A b R O)(G:∀v S S1 d S',S.length<=S1.length->R v S1 d S'->R v S d S'):VE A (UH t a b) R (pt.bind λc=>if c=true then N else O):=λv P S0 e F S m=>by
 obtain⟨x,Q,H⟩:=Az P;obtain⟨S1,I,l⟩:=J x Q S0 e F S m
 cases x with
 | true=>
  obtain⟨d,o,s,C,E⟩:=L v H S0 e _ S1 (m.grow l);exact⟨d,o,(WF I).trans s,l.trans C,G _ _ _ _ _ l.1 E⟩
 | false=>
  obtain⟨d,o,s,C,E⟩:=hb v H S0 e _ S1 (m.grow l);exact⟨d,o,(WF I).trans s,l.trans C,G _ _ _ _ _ l.1 E⟩
theorem Gn:∀(v:α) (S S1:Sto) (d:D) (S':Sto),S.length<=S1.length->rV enc v S1 d S'->rV enc v S d S':=λ_ _ _ _ _ _ h=>h
theorem JJ:∀(v:α) (S S1:Sto) (d:D) (S':Sto),S.length<=S1.length->rN m v S1 d S'->rN m v S d S':=λ_ _ _ _ _ l ⟨n,o,s,C⟩=>⟨n,o,Au l s,C⟩
inductive Fw(ρ σ:Type) where
 | rt (r:ρ) | nx (s:σ) | bk (s:σ) | ct (s:σ)
noncomputable def VG(S0:Sto)(F:Fz)(S':Sto)(R:Rk ρ)(B:σ->List Sl)(g:Fl):Fw ρ σ->Prop
 | .nx s=>∃l m,g=.nx l/\Vs S0 (B s) l m S'/\Fle F m
 | .ct s=>∃l m,g=.ct l/\Vs S0 (B s) l m S'/\Fle F m
 | .bk s=>∃l m,g=.bk l/\Vs S0 (B s) l m S'/\Fle F m
 | .rt r=>∃d,g=.rt d/\R r S0 d S'/\Keeps S0 S'
noncomputable def VS(A:List Sl)(b:MS)(R:Rk ρ)(p:Option (Fw ρ σ))(B:σ->List Sl):Prop:=∀f,p=some f->∀S0 e F S,Vs S0 A e F S->∃g S',b e S=.ok g S'/\VG S0 F S' R B g f
noncomputable def BD(p:Option (Fw ρ σ))(q:σ->Option (Fw ρ τ)):Option (Fw ρ τ):=match p with
 | some (.nx s)=>q s
 | some (.rt r)=>some (.rt r)
 | _=>none
theorem VG.up{S0:Sto}{F H:Fz}{S':Sto}{R:Rk ρ}{B:σ->List Sl}{g:Fl}{f:Fw ρ σ}(l:Fle F H)(h:VG S0 H S' R B g f):VG S0 F S' R B g f:=by
 cases f with
 | rt r=>exact h
 | nx s=>obtain⟨m,o,C,E,G⟩:=h;exact⟨m,o,C,E,l.trans G⟩
 | bk s=>obtain⟨m,o,C,E,G⟩:=h;exact⟨m,o,C,E,l.trans G⟩
 | ct s=>obtain⟨m,o,C,E,G⟩:=h;exact⟨m,o,C,E,l.trans G⟩
theorem Aw{a b:MS}{R:Rk ρ}{p:Option (Fw ρ σ)}{q:σ->Option (Fw ρ τ)}{B:σ->List Sl}{C:τ->List Sl}(H:VS A a R p B)(hb:∀s,VS (B s) b R (q s) C):VS A (BH a b) R (BD p q) C:=λf m S0 e F S I=>by
 cases p with
 | none=>cases m
 | some w=>
  obtain⟨g,E,G,l⟩:=H _ rfl S0 e F S I
  cases w with
  | nx s=>
   obtain⟨J,L,rfl,l,o⟩:=l;obtain⟨N,O,P,Q⟩:=hb s f m S0 J L E l;exact⟨N,O,(CP G).trans P,Q.up o⟩
  | rt r=>
   cases m;obtain⟨d,rfl,l,o⟩:=l;exact⟨_,E,Vo G,d,rfl,l,o⟩
  | bk s=>cases m
  | ct s=>cases m
theorem Fb{R:Rk ρ}{B:σ->List Sl}{s:σ}(w:Wk A (B s)):VS A sNx R (some (.nx s)) B:=λf l S0 e F S m=>by
 cases l;exact⟨_,S,rfl,e,F,rfl,m.weak w,Fle.refl F⟩
noncomputable def EC(g:σ->τ)(p:Option (Fw ρ σ)):Option (Fw ρ τ):=match p with
 | some (.nx s)=>some (.nx (g s))
 | some (.rt r)=>some (.rt r)
 | some (.bk s)=>some (.bk (g s))
 | some (.ct s)=>some (.ct (g s))
 | none=>none
theorem C9{b:MS}{R:Rk ρ}{p:Option (Fw ρ σ)}{g:σ->τ}{B:σ->List Sl}{C:τ->List Sl}(h:VS A b R p B)(w:∀s,Wk (B s) (C (g s))):VS A b R (EC g p) C:=λf m S0 e F S J=>by
 cases p with
 | none=>cases m
 | some x=>
  obtain⟨g,H,I,l⟩:=h _ rfl S0 e F S J
  cases x with
  | nx s=>cases m;obtain⟨o,E,rfl,l,G⟩:=l;exact⟨_,H,I,o,E,rfl,l.weak (w s),G⟩
  | rt r=>cases m;exact⟨_,H,I,l⟩
  | bk s=>cases m;obtain⟨o,E,rfl,l,G⟩:=l;exact⟨_,H,I,o,E,rfl,l.weak (w s),G⟩
  | ct s=>cases m;obtain⟨o,E,rfl,l,G⟩:=l;exact⟨_,H,I,o,E,rfl,l.weak (w s),G⟩
theorem Do(h:VE A m (rV enc) p):VS A (CT i m) R (p.bind λv=>some (.nx v)) (λv=>A.set i (.v (enc v))):=λf o S0 e F S l=>by
 obtain⟨v,s,C⟩:=Az o;cases C;obtain⟨d,S',E,G,rfl⟩:=h v s S0 e F S l;exact⟨_,S',M0 E,_,_,rfl,(l.grow G).set i rfl,l.fle S'⟩
theorem FD(h:VE A m (rN o) p):VS A (CT i m) R (p.bind λv=>some (.nx v)) (λv=>A.set i (.y (o v))):=λf C S0 e F S l=>by
 obtain⟨v,E,G⟩:=Az C;cases G;obtain⟨d,S',H,I,n,rfl,s,J⟩:=h v E S0 e F S l;exact⟨_,S',M0 H,_,_,rfl,(l.grow I).set (a:=.y (o v)) i ⟨n,rfl,TB s J,Au l.kp.1 s⟩,l.fle S'⟩
theorem Gv(h:VE A m (rN o) p):VS A (CT i m) R (p.bind λv=>some (.nx v)) (λv=>A.set i (.w i (o v))):=λf s S0 e F S l=>by
 obtain⟨v,C,E⟩:=Az s;cases E;obtain⟨d,S',G,H,n,rfl,I,J⟩:=h v C S0 e F S l;obtain⟨L,N,O⟩:=l.own H (i:=i) I J;exact⟨_,S',M0 G,_,L,rfl,N,O⟩
theorem Pv(h:A[j]?=some (.y o)):VS A (CT i (AC j)) R (some (.nx ())) (λ_:Unit=>A.set i (.y o)):=λf m S0 e F S l=>by
 cases m;obtain⟨x,s,n,rfl,C,E⟩:=l.sl j _ h;exact⟨_,S,M0 (d:=.ref n) (by unfold AC;rw[s]),_,F,rfl,l.set (a:=.y o) i ⟨n,rfl,C,E⟩,Fle.refl F⟩
theorem Ya{b:MS}{R:Rk ρ}{p:Option (Fw ρ σ)}{B:σ->List Sl}{o:Ob}(i:Nat)(l:A[i]?=some (.w i o))(m:((A.set i .u).all (Sl.oth i))=true)(h:VS (A.set i (.y o)) b R p B):VS A b R p B:=λf s S0 e F S C=>by
 obtain⟨E,G,H⟩:=C.freeze m l;obtain⟨g,S',I,J⟩:=h f s S0 e E S G;exact⟨g,S',I,J.up H⟩
theorem E2{m:ME}{enc:ρ->D}{p:Option ρ}{B:σ->List Sl}(h:VE A m (rV enc) p):VS A (DG m) (rV enc) (p.bind λv=>some (.rt v)) B:=λf o S0 e F S l=>by
 obtain⟨v,s,C⟩:=Az o;cases C;obtain⟨d,S',E,G,rfl⟩:=h v s S0 e F S l;exact⟨_,S',Ki E,_,rfl,rfl,l.kp.trans G⟩
theorem FE{m:ME}{o:ρ->Ob}{p:Option ρ}{B:σ->List Sl}(h:VE A m (rN o) p):VS A (DG m) (rN o) (p.bind λv=>some (.rt v)) B:=λf s S0 e F S l=>by
 obtain⟨v,C,E⟩:=Az s;cases E;obtain⟨d,S',G,H,n,rfl,I,J⟩:=h v C S0 e F S l;exact⟨_,S',Ki G,_,rfl,⟨n,rfl,Au l.kp.1 I,J⟩,l.kp.trans H⟩
theorem RQ{i:Nat}{m:ρ->Ob}{v:ρ}{B:σ->List Sl}{k:Nat}(h:A[i]?=some (.w k (m v))):VS A (DG (AC i)) (rN m) (some (.rt v)) B:=λf o S0 e F S l=>by
 cases o;obtain⟨x,s,n,rfl,C,E⟩:=l.sl i _ h;exact⟨_,S,Ki (d:=.ref n) (by unfold AC;rw[s]),_,rfl,⟨n,rfl,(l.ow _ _ C).1,E⟩,l.kp⟩
theorem Zw{i:Nat}{m:ρ->Ob}{v:ρ}{B:σ->List Sl}(h:A[i]?=some (.y (m v))):VS A (DG (AC i)) (rN m) (some (.rt v)) B:=λf o S0 e F S l=>by
 cases o;obtain⟨x,s,n,rfl,C,E⟩:=l.sl i _ h;exact⟨_,S,Ki (d:=.ref n) (by unfold AC;rw[s]),_,rfl,⟨n,rfl,E,l.fz _ _ C⟩,l.kp⟩
theorem Fd{t:MT}{a b:MS}{R:Rk ρ}{pt:Option Bool}{p q:Option (Fw ρ σ)}{B:σ->List Sl}(I:VB A t pt)(J:VS A a R p B)(hb:VS A b R q B):VS A (sIf t a b) R (pt.bind λc=>if c=true then p else q) B:=λf L S0 e F S l=>by
 obtain⟨c,N,E⟩:=Az L;obtain⟨m,G,H⟩:=I c N S0 e F S l
 cases c with
 | true=>
  obtain⟨g,o,s,C⟩:=J f E S0 e _ m (l.grow H);exact⟨g,o,(Hz G).trans s,C.up (l.fle m)⟩
 | false=>
  obtain⟨g,o,s,C⟩:=hb f E S0 e _ m (l.grow H);exact⟨g,o,(Hz G).trans s,C.up (l.fle m)⟩
noncomputable def Wb(l:List α)(x:α):Option (List α):=if l.length < 1000000 then some (l++[x])else none
noncomputable def NR(l k:List α):Option (List α):=if l.length+k.length<=1000000 then some (l++k)else none
theorem ZI(h:n < 1000000):n < sizeLine:=AY h (by decide)
theorem gd(h:n<=1000000):n<=sizeLine:=Au h (by decide)
theorem Vd(hi:A[i]?=some (.w i (oL enc l)))(h:VE A m (rV enc) p)(J:((A.set i .u).all (Sl.oth i))=true) :
  VS A (Ii (RF (AC i) m)) R (p.bind λv=>(Wb l v).bind λs=>some (.nx s)) (λs=>A.set i (.w i (oL enc s))):=λf L S0 e F S C=>by
 obtain⟨v,N,o⟩:=Az L;obtain⟨s,o,O⟩:=Az o;cases O;unfold Wb at o;split at o
 ·rename_i P
  cases o;obtain⟨x,G,n,rfl,Q,E⟩:=C.sl i _ hi;obtain⟨d,S',T,H,rfl⟩:=h v N S0 e F S C;have U:=C.grow H;have I:=Ze (mo:=AC i) (e:=e) (S:=S) (S1:=S) (n:=n) (by unfold AC;rw[G]) E T (H.at E) (by rw[AD];exact ZI P);rw[show l.map enc++[enc v]=(l++[v]).map enc by simp]at I;exact⟨_,_,Pb I,e,_,rfl,U.put J hi G (by rw[GM (BU E)];exact Q),C.fle S'⟩
 ·cases o
theorem dk(hi:A[i]?=some (.w i (oL enc l)))(h:VE A m (rN (oL enc)) p)(J:((A.set i .u).all (Sl.oth i))=true) :
  VS A (Ii (Np (AC i) m)) R (p.bind λv=>(NR l v).bind λs=>some (.nx s)) (λs=>A.set i (.w i (oL enc s))):=λf L S0 e F S C=>by
 obtain⟨v,N,o⟩:=Az L;obtain⟨s,o,O⟩:=Az o;cases O;unfold NR at o;split at o
 ·rename_i P
  cases o;obtain⟨x,G,n,rfl,Q,E⟩:=C.sl i _ hi;obtain⟨d,S',T,H,k,rfl,U,X⟩:=h v N S0 e F S C;have Y:=C.grow H;have I:=cn (mo:=AC i) (e:=e) (S:=S) (S1:=S) (n:=n) (by unfold AC;rw[G]) E T (H.at E) X (λc=>by subst c;exact zX (BU E) (Iu.mpr U)) (by rw[AD,AD];exact gd P);rw[<-CW]at I;exact⟨_,_,Pb I,e,_,rfl,Y.put J hi G (by rw[GM (BU E)];exact Q),C.fle S'⟩
 ·cases o
theorem jX(h:VE A m Rm p):VS A (Ii m) R (p.bind λ_=>some (.nx ())) (λ_:Unit=>A):=λf o S0 e F S l=>by
 obtain⟨v,s,C⟩:=Az o;cases C;obtain⟨d,S',E,G,_⟩:=h v s S0 e F S l;exact⟨_,S',Pb E,e,_,rfl,l.grow G,l.fle S'⟩
theorem Pu(hi:A[i]?=some (.v (D.int x)))(h:VE A m (rV D.int) p):VS A (SX i g m) R (p.bind λy=>some (.nx (g x y))) (λz=>A.set i (.v (D.int z))):=λf o S0 e F S l=>by
 obtain⟨v,s,C⟩:=Az o;cases C;obtain⟨d,S',E,G,rfl⟩:=h v s S0 e F S l;obtain⟨y,H,I⟩:=l.sl i _ hi;cases I;refine⟨_,S',?_,_,_,rfl,(l.grow G).set (a:=.v (D.int (g x v))) i rfl,l.fle S'⟩;unfold SX;rw[H];dsimp only;rw[E];rfl
noncomputable def VT(g:MG)(enc:α->D)(t:α->List Sl->List Sl):Prop:=∀x S0 A e F S,Vs S0 A e F S->∃l,g (enc x) e S=.ok l S/\Vs S0 (t x A) l F S
theorem Du:VT (tgN i) enc (λx A=>A.set i (.v (enc x))):=λx S0 A e F S l=>⟨_,rfl,l.set (a:=.v (enc x)) i rfl⟩
theorem jU:VT (Ig 2 (Cp (tgN i) (Cp (tgN j) JI))) (eP a b) (λx A=>(A.set i (.v (a x.1))).set j (.v (b x.2))):=λx S0 A e F S l=>⟨_,rfl,(l.set (a:=.v (a x.1)) i rfl).set (a:=.v (b x.2)) j rfl⟩
theorem di:VT (Ig 3 (Cp (tgN i) (Cp (tgN j) (Cp (tgN k) JI)))) (eP3 a b c) (λx A=>((A.set i (.v (a x.1))).set j (.v (b x.2.1))).set k (.v (c x.2.2))):=λx S0 A e F S l=>⟨_,rfl,((l.set (a:=.v (a x.1)) i rfl).set (a:=.v (b x.2.1)) j rfl).set (a:=.v (c x.2.2)) k rfl⟩
noncomputable def Ez:List α->σ->(σ->α->Option (Fw ρ σ))->Option (Fw ρ σ)
 | [],s,_=>some (.nx s)
 | x :: l,s,q=>match q s x with
  | some (.nx m)=>Ez l m q
  | some (.ct m)=>Ez l m q
  | some (.bk m)=>some (.nx m)
  | some (.rt r)=>some (.rt r)
  | none=>none
theorem jW{enc:α->D}{g:MG}{t:α->List Sl->List Sl}{b:MS}{R:Rk ρ}{q:σ->α->Option (Fw ρ σ)}{B:σ->List Sl}(hg:VT g enc t)(hb:∀s x,VS (t x (B s)) b R (q s x) B){w:QX}{S0:Sto}{Y:Fz}{m:List α}
  (hw:∀Z wz,Fle Y Z->(∀n o,Z n=.fz o->wz[n]?=some o)->w wz=some (m.map enc)):∀(l:List α) (k:Nat),m.drop k=l->∀(s:σ) (f:Fw ρ σ),Ez l s q=some f->∀e F S,Vs S0 (B s) e F S->Fle Y F->∃h S',Mf w g b (l.length) k e S=.ok h S'/\VG S0 Y S' R B h f:=by
 intro l
 induction l with
 | nil=>
  intro k T s f E e F S P G;cases E
  have:m.length<=k:=by
   have:=congrArg HF T;rw[Io,Ms]at this
   lia
  refine⟨_,S,?_,e,F,rfl,P,G⟩;unfold Mf;rw[hw F S G P.fz];dsimp only;rw[CL (by rw[AD];exact this)]
 | cons x l ih=>
  intro k T s f E e F S P G
  have hx:m[k]?=some x:=by
   have:=congrArg (λz=>z[0]?) T;rw[KD]at this;simpa using this
  have vX:m.drop (k+1)=l:=by
   have H:m.drop (k+1)=(m.drop k).drop 1:=by rw[UV]
   exact H.trans (congrArg (List.drop 1) T)
  obtain⟨H,g1,U⟩:=hg x S0 _ e F S P
  have run:∀h S',b H S=.ok h S'->Mf w g b ((x :: l).length) k e S=(match h with
    | .nx C=>Mf w g b l.length (k+1) C S'
    | .ct C=>Mf w g b l.length (k+1) C S'
    | .bk C=>.ok (.nx C) S'
    | .rt d=>.ok (.rt d) S'
    | .ex c C=>.ok (.ex c C) S'):=λh S' ve=>by
   show Mf w g b (l.length+1) k e S=_
   conv=>lhs;unfold Mf
   rw[hw F S G P.fz];dsimp only;rw[Ai,hx];dsimp only[rX];rw[g1];dsimp only[Res.bind];rw[ve]
   all_goals (cases h <;> rfl)
  unfold Ez at E;split at E
  ·rename_i X I
   obtain⟨h,J,L,C,Q,rfl,N,O⟩:=hb s x _ I S0 H F S U;rw[run _ _ L];exact ih (k+1) vX X f E C Q J N (G.trans O)
  ·rename_i X I
   obtain⟨h,J,L,C,Q,rfl,N,O⟩:=hb s x _ I S0 H F S U;rw[run _ _ L];exact ih (k+1) vX X f E C Q J N (G.trans O)
  ·rename_i X I
   cases E;obtain⟨h,J,L,C,Q,rfl,N,O⟩:=hb s x _ I S0 H F S U;rw[run _ _ L];exact⟨_,J,rfl,C,Q,rfl,N,G.trans O⟩
  ·rename_i r I
   cases E;obtain⟨h,J,L,d,rfl,N,O⟩:=hb s x _ I S0 H F S U;rw[run _ _ L];exact⟨_,J,rfl,d,rfl,N,O⟩
  ·cases E
theorem Eh{enc:α->D}{mi:MI}{g:MG}{t:α->List Sl->List Sl}{b:MS}{R:Rk ρ}{p:Option (List α)}{q:σ->α->Option (Fw ρ σ)}{B:σ->List Sl}{s0:σ}(hi:VI A mi enc p)(G:VT g enc t)(w0:Wk A (B s0))(hb:∀s x,VS (t x (B s)) b R (q s x) B) :
  VS A (FV mi g b) R (p.bind λl=>Ez l s0 q) B:=λf H S0 e F S o=>by
 obtain⟨l,I,J⟩:=Az H;obtain⟨w,m,L,N,C⟩:=hi l I S0 e F S o;have E:=o.grow N
 have O:EY w m=l.length:=by unfold EY;rw[C _ m (Fle.refl _) E.fz];exact AD _
 obtain⟨h,P,Q,T⟩:=jW G hb C l 0 rfl s0 f J e _ m (E.weak w0) (Fle.refl _);refine⟨h,P,?_,T.up (o.fle m)⟩;rw[Km L,O];exact Q
noncomputable def TR(c:α->Option Bool)(m:α->Option β):List α->Option (List β)
 | []=>some []
 | x :: l=>(c x).bind λb=>if b=true then(m x).bind λy=>(TR c m l).bind λo=>some (y :: o)else TR c m l
noncomputable def EV(l:List α)(c:α->Option Bool)(m:α->Option β):Option (List β):=if l.length<=1000000 then TR c m l else none
theorem dn{enc:α->D}{eb:β->D}{g:MG}{P:List (Option D)->Prop}{T:α->List Sl}{c:MT}{m:ME}{Y:α->Option Bool}{Z:α->Option β}
  (hg:∀x S0 e F S s,P s->Vs S0 A e F S->∃E,g (enc x) (s++e) S=.ok (E++e) S/\P E/\Vs S0 (T x) (E++e) F S)
  (hc:∀x,VB (T x) c (Y x)) (hm:∀x,VE (T x) m (rV eb) (Z x)) {w:QX} {S0:Sto} {e:Lo} {o:List α} {S1:Sto} (hf:o.length<=1000000) (hw:∀wz,Keeps S1 wz->w wz=some (o.map enc)) :
  ∀(l:List α) (k:Nat),o.drop k=l->∀(r:List β),TR Y Z l=some r->∀s F S C,P s->Vs S0 A e F S->Keeps S1 S->C.length<=k->∃S',G8 w g c m l.length k (s++e) S C=.ok (C++r.map eb) S'/\Keeps S S':=by
 intro l
 induction l with
 | nil=>
  intro k I r J s F S C hp N H ha;cases J
  have:o.length<=k:=by
   have:=congrArg HF I;rw[Io,Ms]at this
   lia
  refine⟨S,?_,Keeps.refl S⟩;unfold G8;rw[hw S H];dsimp only;rw[CL (by rw[AD];exact this),Mm,CB]
 | cons x l ih=>
  intro k I r J s F S C hp N H ha
  have hx:o[k]?=some x:=by
   have:=congrArg (λz=>z[0]?) I;rw[KD]at this;simpa using this
  have vX:o.drop (k+1)=l:=by
   have e1:o.drop (k+1)=(o.drop k).drop 1:=by rw[UV]
   exact e1.trans (congrArg (List.drop 1) I)
  have xj:k < o.length:=(AF.mp hx).1;obtain⟨E,g1,g2,g3⟩:=hg x S0 e F S s hp N;unfold TR at J;obtain⟨b,h1,L⟩:=Az J;obtain⟨S2,h3,G⟩:=hc x b h1 S0 _ F S g3;have vR:=N.grow G
  show ∃S',G8 w g c m (l.length+1) k (s++e) S C=_/\_
  conv=>arg 1;ext S';arg 1;lhs;unfold G8
  rw[hw S H];dsimp only;rw[Ai,hx];dsimp only[rX];rw[qX (Av ha (ZI (AY xj hf))),g1];dsimp only[okR,Res.bind];rw[h3];dsimp only[okR,Res.bind]
  cases b with
  | true=>
   rw[qX rfl]at L ⊢;obtain⟨y,h5,h6⟩:=Az L;obtain⟨ys,O,h7⟩:=Az h6;cases h7;obtain⟨d,S3,h8,Q,rfl⟩:=hm x y h5 S0 _ _ S2 (g3.grow G);rw[h8];obtain⟨R,U,X⟩:=ih (k+1) vX ys O E _ S3 (C++[eb y]) g2 (vR.grow Q) (H.trans (G.trans Q)) (by rw[AZ,A0];lia);refine⟨R,?_,(G.trans Q).trans X⟩;show G8 w g c m l.length (k+1) (E++e) S3 (C++[eb y])=_;rw[U,Bu];rfl
  | false=>
   rw[qY AH]at L ⊢;obtain⟨R,U,X⟩:=ih (k+1) vX r L E _ S2 C g2 vR (H.trans G) (by lia);exact⟨R,U,G.trans X⟩
theorem ja{enc:α->D}{eb:β->D}{n:Nat}{mi:MI}{g:MG}{P:List (Option D)->Prop}{T:α->List Sl}{c:MT}{m:ME}{p:Option (List α)}{G:α->Option Bool}{H:α->Option β}(hi:VK A mi enc p)(N:P (By n none))
  (O:∀x S0 e F S o,P o->Vs S0 A e F S->∃C,g (enc x) (o++e) S=.ok (C++e) S/\P C/\Vs S0 (T x) (C++e) F S)
  (Q:∀x,VB (T x) c (G x)) (R:∀x,VE (T x) m (rV eb) (H x)):VL A (EQ n mi g c m) eb (p.bind λl=>EV l G H):=λr U S0 e F S I=>by
 obtain⟨l,X,s⟩:=Az U;obtain⟨w,E,Y,J,L⟩:=hi l X S0 e F S I;unfold EV at s;split at s
 ·rename_i Z
  have xA:=I.grow J;obtain⟨S2,h6,h7⟩:=dn O Q R Z L l 0 rfl r s _ _ E [] N xA (Keeps.refl _) (AJ _);refine⟨S2,?_,J.trans h7⟩;rw[WT Y,show EY w E=l.length by unfold EY;rw[L E (Keeps.refl _)];exact AD _];exact h6
 ·cases s
theorem DB{enc:α->D}{eb:β->D}{mi:MI}{c:MT}{m:ME}{p:Option (List α)}{s:α->Option Bool}{C:α->Option β}(hi:VK A mi enc p)(E:∀x,VB (.v (enc x) :: A) c (s x))(G:∀x,VE (.v (enc x) :: A) m (rV eb) (C x)) :
  VL A (EQ 1 mi (tgN 0) c m) eb (p.bind λl=>EV l s C):=
 ja (P:=λo=>∃z,o=[z]) hi ⟨none,rfl⟩ (λx S0 e F S o H I=>by
  obtain⟨z,rfl⟩:=H
  exact⟨[some (enc x)],rfl,⟨_,rfl⟩,I.cons (a:=.v (enc x)) rfl⟩) E G
theorem Cf(h:VL A ml enc p):VE A (ED ml) (rN (oL enc)) p:=λv m S0 e F S o=>by
 obtain⟨S',s,l⟩:=h v m S0 e F S o;exact⟨_,_,ZC s,l.trans (Keeps.app _ _),_,rfl,l.1,Dx _ _⟩
inductive Ar where
 | v (d:D) | z (o:Ob) | q (P:(Nat->Option Ob)->D->Prop)
noncomputable def Ar.ok(S:Sto):Ar->D->Prop
 | .v d,x=>x=d
 | .z o,x=>∃n,x=.ref n/\S[n]?=some o
 | .q P,x=>∀L:Nat->Option Ob,(∀n o,S[n]?=some o->L n=some o)->P L x
noncomputable def Ar.sl:Ar->Sl
 | .v d=>.v d
 | .z o=>.z o
 | .q P=>.q P
noncomputable def Mb(S:Sto):List Ar->List D->Prop
 | [],[]=>True
 | a :: as,d :: l=>a.ok S d/\Mb S as l
 | _,_=>False
theorem Mb.len:∀{as:List Ar} {ds:List D},Mb S as ds->ds.length=as.length
 | [],[],_=>rfl
 | _ :: as,_ :: ds,h=>by rw[At,At,Mb.len h.2]
 | [],_ :: _,h=>h.elim
 | _ :: _,[],h=>h.elim
theorem Mb.at:∀{as:List Ar} {ds:List D},Mb S as ds->∀(i:Nat) (a:Ar),as[i]?=some a->∃d,ds[i]?=some d/\a.ok S d
 | [],[],_,i,a,h=>by simp at h
 | b :: as,d :: ds,h,0,a,q=>by cases q;exact⟨d,rfl,h.1⟩
 | b :: as,d :: ds,h,i+1,a,q=>Mb.at h.2 i a q
 | [],_ :: _,h,_,_,_=>h.elim
 | _ :: _,[],h,_,_,_=>h.elim
noncomputable def VF(f:List D->Sto->Res D)(as:List Ar)(R:Rk α)(p:Option α):Prop:=∀v,p=some v->∀S l,Mb S as l->∃d S',f l S=.ok d S'/\Keeps S S'/\R v S d S'
noncomputable def VA(A:List Sl)(ml:ML)(p:Option γ)(m:γ->List Ar):Prop:=∀v,p=some v->∀S0 e F S,Vs S0 A e F S->∃l S',ml e S=.ok l S'/\Keeps S S'/\Mb S' (m v) l
theorem Ca:VA A BL (some ()) (λ_=>[]):=λv l S0 e F S m=>⟨[],S,rfl,Keeps.refl S,trivial⟩
theorem DL(h:VE A m (rV enc) p)(s:VA A ml q C):VA A (AR m ml) (p.bind λx=>q.bind λy=>some (x,y)) (λz=>.v (enc z.1) :: C z.2):=λv E S0 e F S l=>by
 obtain⟨x,G,H⟩:=Az E;obtain⟨y,I,J⟩:=Az H;cases J;obtain⟨d,L,N,o,rfl⟩:=h x G S0 e F S l;obtain⟨T,O,P,Q,R⟩:=s y I S0 e _ L (l.grow o);exact⟨_,O,DE N P,o.trans Q,rfl,R⟩
theorem Mv(h:VE A m (rO C) p)(E:VA A ml q G):VA A (AR m ml) (p.bind λx=>q.bind λy=>some (x,y)) (λz=>.z (C z.1) :: G z.2):=λv H S0 e F S l=>by
 obtain⟨x,I,J⟩:=Az H;obtain⟨y,L,N⟩:=Az J;cases N;obtain⟨d,O,P,o,n,rfl,Q⟩:=h x I S0 e F S l;obtain⟨X,R,T,s,U⟩:=E y L S0 e _ O (l.grow o);exact⟨_,R,DE P T,o.trans s,⟨n,rfl,s.at Q⟩,U⟩
theorem CO(s:VA A ml p l)(C:∀z,VF f (l z) R (q z))(E:∀z,(l z).length=n)(G:∀v S S1 d S',S.length<=S1.length->R v S1 d S'->R v S d S'):VE A (Cd n f ml) R (p.bind q):=λv H S0 e F S I=>by
 obtain⟨z,J,L⟩:=Az H;obtain⟨N,S1,O,m,o⟩:=s z J S0 e F S I;obtain⟨d,P,Q,T,U⟩:=C z v L S1 N o;exact⟨d,P,(MK O (o.len.trans (E z))).trans Q,m.trans T,G _ _ _ _ _ m.1 U⟩
noncomputable def LP(S:Sto):Fz:=λn=>match S[n]? with
 | some o=>.fz o
 | none=>.no
theorem Vs.start(h:Mb S as ds):Vs S (as.map Ar.sl++By (n - as.length) .u) (Ix n ds) (LP S) S:=by
 refine⟨Keeps.refl S,λn o q=>?_,λn i q=>?_,λn E=>by unfold LP;rw[CL E],λi a l=>?_⟩
 ·unfold LP at q
  split at q
  ·rename_i Q G;cases q;exact G
  ·cases q
 ·unfold LP at q
  split at q <;> cases q
 ·unfold Ix
  by_cases c:i < as.length
  ·rw[Ap (by rw[AD];exact c),Ai]at l
   rw[Ap (by rw[AD,h.len];exact c),Ai]
   cases s:as[i]? with
   | none=>rw[s]at l;cases l
   | some b=>
    rw[s]at l;cases l;obtain⟨d,H,C⟩:=h.at i b s;refine⟨some d,by rw[H];rfl,?_⟩
    cases b with
    | v x=>exact congrArg some C
    | z o=>obtain⟨m,I,J⟩:=C;exact⟨m,congrArg some I,by unfold LP;rw[J]⟩
    | q P=>exact⟨d,rfl,λL N=>C L λn o q=>N n o (by unfold LP;rw[q])⟩
  ·rw[Bj (by rw[AD];lia)]at l
   rw[AD,D2]at l;split at l
   ·rename_i O
    cases l;refine⟨none,?_,trivial⟩;rw[Bj (by rw[AD,h.len];lia),AD,h.len,D2,qX O]
   ·cases l
noncomputable def Gp(p:Option (Fw ρ σ)):Option ρ:=match p with
 | some (.rt r)=>some r
 | _=>none
noncomputable def kl(p:Option (Fw Unit σ)):Option Unit:=match p with
 | some (.rt r)=>some ()
 | some (.nx _)=>some ()
 | _=>none
end
section
variable{S0 S S':Sto}{A:List Sl}{α β γ δ:Type}
section
variable{a b c:ME}{pa pb pc:Option Int}
theorem F9(l:VE A a (rV D.int) pa)(hb:VE A b (rV D.int) pb):VE A (m2 Fh a b) (rV D.int) (pa.bind λx=>pb.bind λy=>some (x+y)):=HG l hb λx y z S h=>by cases h;rfl
theorem Kc(l:VE A a (rV D.int) pa)(hb:VE A b (rV D.int) pb):VE A (m2 Q0 a b) (rV D.int) (pa.bind λx=>pb.bind λy=>some (x - y)):=HG l hb λx y z S h=>by cases h;rfl
noncomputable def gP(x y:Int):Option Int:=if dD x y then some (x * y)else none
noncomputable def iD(x y:Int):Option Int:=if im x y then some (x / y)else none
noncomputable def UG(x y:Int):Option Int:=if 0 < y then some (x % y)else none
theorem dv(l:VE A a (rV D.int) pa)(hb:VE A b (rV D.int) pb):VE A (m2 lB a b) (rV D.int) (pa.bind λx=>pb.bind λy=>gP x y):=HG l hb λx y z S h=>by
 unfold gP at h;split at h
 ·rename_i m;cases h;exact qX m
 ·cases h
theorem jj(l:VE A a (rV D.int) pa)(hb:VE A b (rV D.int) pb):VE A (m2 OA a b) (rV D.int) (pa.bind λx=>pb.bind λy=>iD x y):=HG l hb λx y z S h=>by
 unfold iD at h;split at h
 ·rename_i m;cases h;exact qX m
 ·cases h
theorem Vg(l:VE A a (rV D.int) pa)(hb:VE A b (rV D.int) pb):VE A (m2 OS a b) (rV D.int) (pa.bind λx=>pb.bind λy=>UG x y):=HG l hb λx y z S h=>by
 unfold UG at h;split at h
 ·rename_i m;cases h;exact aK m
 ·cases h
theorem Mu(m:(decide (0 < k)&&decide (k<=1000000))=true)(o:VE A a (rV D.int) pa):VE A (m2 OA a (mC (.int k))) (rV D.int) (pa.bind λx=>some (x / k)):=λv s S0 e F S B=>by
 obtain⟨x,C,E⟩:=Az s;cases E;obtain⟨d,S',G,H,rfl⟩:=o x C S0 e F S B;have l:=DI _ _▸m;exact⟨_,S',ER G rfl (iE (of_decide_eq_true l.1) (of_decide_eq_true l.2)),H,rfl⟩
theorem Lj(l:decide (0 < k)=true)(m:VE A a (rV D.int) pa):VE A (m2 OS a (mC (.int k))) (rV D.int) (pa.bind λx=>some (x % k)):=λv o S0 e F S s=>by
 obtain⟨x,B,C⟩:=Az o;cases C;obtain⟨d,S',E,G,rfl⟩:=m x B S0 e F S s;exact⟨_,S',ER E rfl (aK (of_decide_eq_true l)),G,rfl⟩
theorem R8(l:VE A a (rV D.int) pa):VE A (Xr a) (rV D.int) (pa.bind λx=>some (-x)):=λv m S0 e F S o=>by
 obtain⟨x,s,B⟩:=Az m;cases B;obtain⟨d,S',C,E,rfl⟩:=l x s S0 e F S o;exact⟨_,S',by unfold Xr;rw[C];rfl,E,rfl⟩
theorem dw(l:VE A a (rV D.int) pa)(hb:VE A b (rV D.int) pb):VE A (m2 ltD a b) (rV D.bl) (pa.bind λx=>pb.bind λy=>some (decide (x < y))):=HG l hb λx y z S h=>by cases h;rfl
theorem sS(l:VE A a (rV D.int) pa)(hb:VE A b (rV D.int) pb):VE A (m2 gtD a b) (rV D.bl) (pa.bind λx=>pb.bind λy=>some (decide (y < x))):=HG l hb λx y z S h=>by cases h;rfl
theorem mY(l:VE A a (rV D.int) pa)(hb:VE A b (rV D.int) pb):VE A (m2 geD a b) (rV D.bl) (pa.bind λx=>pb.bind λy=>some (decide (y<=x))):=HG l hb λx y z S h=>by cases h;rfl
theorem W8{f g:D->D->Sto->Res D}{P Q:Int->Int->Bool}(L:∀x y S,f (.int x) (.int y) S=.ok (.bl (P x y)) S)(N:∀x y S,g (.int x) (.int y) S=.ok (.bl (Q x y)) S)(O:VE A a (rV D.int) pa)(hb:VE A b (rV D.int) pb)(R:VE A c (rV D.int) pc) :
  VE A (m3 f g a b c) (rV D.bl) (pa.bind λx=>pb.bind λy=>if P x y=true then pc.bind λz=>some (Q y z)else some false):=λv s S0 e F S B=>by
 obtain⟨x,T,s⟩:=Az s;obtain⟨y,U,l⟩:=Az s;obtain⟨d1,X,G,m,rfl⟩:=O x T S0 e F S B;obtain⟨d2,C,H,E,rfl⟩:=hb y U S0 e _ X (B.grow m);have o:=L x y C
 cases I:P x y with
 | false=>
  rw[I]at l o;cases l;exact⟨_,C,tq G H o,m.trans E,rfl⟩
 | true=>
  rw[I]at l o;rw[qX rfl]at l;obtain⟨w,Y,Z⟩:=Az l;cases Z;obtain⟨d3,J,q3,k3,rfl⟩:=R w Y S0 e _ C ((B.grow m).grow E);exact⟨_,J,m9 G H o q3 (N y w J),(m.trans E).trans k3,rfl⟩
theorem uU(x y:Int)(S:Sto):ltD (.int x) (.int y) S=.ok (.bl (decide (x < y))) S:=rfl
theorem iX(x y:Int)(S:Sto):leD (.int x) (.int y) S=.ok (.bl (decide (x<=y))) S:=rfl
theorem jh(s:VE A a (rV D.int) pa)(hb:VE A b (rV D.int) pb):VE A (mQ Qp (AR a (AR b BL))) (rV D.int) (pa.bind λx=>pb.bind λy=>some (if y < x then y else x)):=λv l S0 e F S m=>by
 obtain⟨x,B,l⟩:=Az l;obtain⟨y,C,E⟩:=Az l;cases E;obtain⟨d1,G,H,o,rfl⟩:=s x B S0 e F S m;obtain⟨d2,I,J,L,rfl⟩:=hb y C S0 e _ G (m.grow o);exact⟨_,I,oh (DE H (DE J rfl)) rfl,o.trans L,rfl⟩
theorem eC{pb}(hb:VE A b (rV D.bl) pb):VE A (gX b) (rV D.int) (pb.bind λx=>some (if x=true then 1 else 0)):=λv l S0 e F S m=>by
 obtain⟨x,o,s⟩:=Az l;cases s;obtain⟨d,S',B,C,rfl⟩:=hb x o S0 e F S m;refine⟨_,S',?_,C,rfl⟩;unfold gX;rw[B];rfl
theorem nj{pa pb}(B:VE A a (rV D.bl) pa)(hb:VE A b (rV D.bl) pb):VE A (gW a b) (rV D.bl) (pa.bind λx=>if x=true then some true else pb):=λv C S0 e F S m=>by
 obtain⟨x,E,o⟩:=Az C;obtain⟨d,S',s,l,rfl⟩:=B x E S0 e F S m
 cases x with
 | false=>
  obtain⟨d,G,H,I,rfl⟩:=hb v o S0 e _ S' (m.grow l);exact⟨_,G,by unfold gW;rw[s];exact H,l.trans I,rfl⟩
 | true=>cases o;exact⟨_,S',by unfold gW;rw[s];rfl,l,rfl⟩
theorem jg{pa}(l:VE A a (rV D.bl) pa):VE A (aN a) (rV D.bl) (pa.bind λx=>some (!x)):=λv m S0 e F S o=>by
 obtain⟨x,s,B⟩:=Az m;cases B;obtain⟨d,S',C,E,rfl⟩:=l x s S0 e F S o;exact⟨_,S',by unfold aN;rw[C];rfl,E,rfl⟩
end
noncomputable def EqN(n:Nat)(enc:α->D)[DecidableEq α]:Prop:=∀x y,eqP n (enc x) (enc y)=some (decide (x=y))
noncomputable def NL(enc:α->D):Prop:=∀x S,PK (enc x) S=none
theorem DX:EqN n D.int:=λx y=>by
 have:MH (.int x) (.int y)=some (decide (x=y)):=rfl
 cases n <;> exact this
theorem qj:EqN n D.bl:=λx y=>by
 have:MH (.bl x) (.bl y)=some (decide (x=y)):=by cases x <;> cases y <;> rfl
 cases n <;> exact this
theorem az:EqN n D.str:=λx y=>by
 have:MH (.str x) (.str y)=some (decide (x=y)):=rfl
 cases n <;> exact this
theorem WR{n:Nat}{enc:α->D}[DecidableEq α](h:EqN n enc):EqN (n+1) (eT enc):=by
 have m:∀l k:List α,eqL (eqP n) (l.map enc) (k.map enc)=some (decide (l=k)):=by
  intro l
  induction l with
  | nil=>intro k;cases k <;> rfl
  | cons x l o=>
   intro k
   cases k with
   | nil=>rfl
   | cons y k=>
    rw[BA,BA];unfold eqL;rw[h x y,o k]
    by_cases c:x=y <;> by_cases d:l=k <;> simp[c,d]
 exact λl k=>m l k
theorem Jo:NL D.int:=λ_ _=>rfl
theorem gJ:NL D.str:=λ_ _=>rfl
theorem pZ:NL (eT enc):=λ_ _=>rfl
section
variable{a b:ME}{enc:α->D}[DecidableEq α]
theorem iH(h:EqN 8 enc)(n:NL enc)(neg:Bool)(x y:α)(S:Sto):eqD neg (enc x) (enc y) S=.ok (.bl (if neg then !decide (x=y)else decide (x=y))) S:=by
 unfold eqD eqB;rw[n x S,n y S];dsimp only;rw[h x y]
theorem LG(h:EqN 8 enc)(n:NL enc)(l:VE A a (rV enc) m)(hb:VE A b (rV enc) o):VE A (m2 (eqD false) a b) (rV D.bl) (m.bind λx=>o.bind λy=>some (decide (x=y))):=HG l hb λx y z S q=>by cases q;exact iH h n false x y S
theorem sQ(h:EqN 8 enc)(n:NL enc)(l:VE A a (rV enc) m)(hb:VE A b (rV enc) o):VE A (m2 (eqD true) a b) (rV D.bl) (m.bind λx=>o.bind λy=>some (!decide (x=y))):=HG l hb λx y z S q=>by cases q;exact iH h n true x y S
theorem YC(h:EqN 8 enc)(x:α):∀l:List α,OB (enc x) (l.map enc)=some (decide (x∈l))
 | []=>by simp[OB]
 | y :: l=>by
  rw[BA];unfold OB;rw[h y x,YC h x l]
  by_cases c:y=x
  ·subst c;simp
  ·have:¬x=y:=λz=>c z.symm
   simp[c,this]
theorem WH(h:EqN 8 enc)(neg:Bool)(x:α){l:List α}{d:D}{S:Sto}(m:Gc d S=some (l.map enc)):inA neg (enc x) d S=.ok (.bl (if neg then !decide (x∈l)else decide (x∈l))) S:=by
 show Jl (inD neg (enc x) d S) _=_
 have e:inD neg (enc x) d S=.ok (.bl (if neg then !decide (x∈l)else decide (x∈l))) S:=by
  unfold inD;rw[m];dsimp only;rw[YC h]
 rw[e];rfl
theorem eD{pl:Option (List α)}(h:EqN 8 enc)(m:VE A a (rV enc) o)(hb:VE A b (rV (eT enc)) pl):VE A (m2 (inA false) a b) (rV D.bl) (o.bind λx=>pl.bind λl=>some (decide (x∈l))):=HG m hb λx l z S q=>by cases q;exact WH h false x rfl
theorem Vf{pl:Option (List α)}(h:EqN 8 enc)(m:VE A a (rV enc) o)(hb:VE A b (rV (eT enc)) pl):VE A (m2 (inA true) a b) (rV D.bl) (o.bind λx=>pl.bind λl=>some (!decide (x∈l))):=HG m hb λx l z S q=>by cases q;exact WH h true x rfl
theorem nv{pl:Option (List α)}(h:EqN 8 enc)(m:VE A a (rV enc) o)(hb:VE A b (rO (oL enc)) pl):VE A (m2 (inA false) a b) (rV D.bl) (o.bind λx=>pl.bind λl=>some (decide (x∈l))):=Ve m hb λx l z S n s q=>by cases q;exact WH h false x (HK s)
theorem nq(h:EqN 8 enc){pl:Option (α×α)}(m:VE A a (rV enc) o)(hb:VE A b (rV (eP enc enc)) pl):VE A (m2 (inA false) a b) (rV D.bl) (o.bind λx=>pl.bind λl=>some (decide (x∈[l.1,l.2]))):=HG m hb λx l z S q=>by cases q;exact WH h false x (l:=[l.1,l.2]) rfl
theorem qk(h:EqN n enc):∀l k:List α,eqL (eqP n) (l.map enc) (k.map enc)=some (decide (l=k)):=by
 intro l
 induction l with
 | nil=>intro k;cases k <;> rfl
 | cons x l m=>
  intro k
  cases k with
  | nil=>rfl
  | cons y k=>
   rw[BA,BA];unfold eqL;rw[h x y,m k]
   by_cases c:x=y <;> by_cases d:l=k <;> simp[c,d]
theorem Uw(h:EqN 8 enc)(neg:Bool)(o:S[n]?=some (oL enc l))(s:S[m]?=some (oL enc k)):eqD neg (.ref n) (.ref m) S=.ok (.bl (if neg then !decide (l=k)else decide (l=k))) S:=by
 unfold eqD eqB;rw[LK o,LK s];dsimp only;rw[AD,AD]
 by_cases c:l.length=k.length
 ·rw[qX c,qk h]
 ·rw[qY c,wY λz=>c (by rw[z])]
theorem mZ{f:D->D->Sto->Res D}{o:β->Ob}{s:γ->Ob}{B:δ->D}{C:Option β}{E:Option γ}{g:β->γ->Option δ}(L:VE A a (rO o) C)(hb:VE A b (rO s) E)
  (N:∀x y z S (n m:Nat),S[n]?=some (o x)->S[m]?=some (s y)->g x y=some z->f (.ref n) (.ref m) S=.ok (B z) S):VE A (m2 f a b) (rV B) (C.bind λx=>E.bind λy=>g x y):=λv l S0 e F S G=>by
 obtain⟨x,O,l⟩:=Az l;obtain⟨y,P,Q⟩:=Az l;obtain⟨d1,R,T,H,n,rfl,U⟩:=L x O S0 e F S G;obtain⟨d2,I,X,J,m,rfl,Y⟩:=hb y P S0 e _ R (G.grow H);exact⟨_,I,ER T X (N x y v I n m (J.at U) Y Q),H.trans J,rfl⟩
theorem ny{l o:Option (List α)}(h:EqN 8 enc)(s:VE A a (rO (oL enc)) l)(hb:VE A b (rO (oL enc)) o):VE A (m2 (eqD false) a b) (rV D.bl) (l.bind λx=>o.bind λy=>some (decide (x=y))):=mZ s hb λx y z S n m B C q=>by cases q;exact Uw h false B C
theorem Yd{l o:Option (List α)}(h:EqN 8 enc)(s:VE A a (rO (oL enc)) l)(hb:VE A b (rO (oL enc)) o):VE A (m2 (eqD true) a b) (rV D.bl) (l.bind λx=>o.bind λy=>some (!decide (x=y))):=mZ s hb λx y z S n m B C q=>by cases q;exact Uw h true B C
end
section
variable{a b m mo:ME}
theorem mF(l:List α)(i:Int)(f:α->β):atI (l.map f) i=(atI l i).map f:=by
 unfold atI;rw[AD]
 cases ixN l.length i with
 | none=>rfl
 | some j=>show(l.map f)[j]?=(l[j]?).map f;rw[Ai]
theorem ZN(o:Gc d S=some (l.map enc))(h:atI l i=some x):ixA d (.int i) S=.ok (enc x) S:=by
 show Jl (ixD d (.int i) S) _=_
 have:ixD d (.int i) S=.ok (enc x) S:=by
  unfold ixD;rw[o];dsimp only;rw[mF,h];rfl
 rw[this];rfl
theorem Vh(o:VE A a (rV (eT enc)) pl)(hb:VE A b (rV D.int) pi):VE A (m2 ixA a b) (rV enc) (pl.bind λl=>pi.bind λi=>atI l i):=HG o hb λl i z S q=>ZN rfl q
theorem dz{pl}(o:VE A a (rV eF) pl)(hb:VE A b (rV D.int) pi):VE A (m2 ixA a b) (rV D.int) (pl.bind λl=>pi.bind λi=>atI l i):=HG o hb λl i z S q=>ZN rfl q
theorem HI(o:VE A a (rO (oL enc)) pl)(hb:VE A b (rV D.int) pi):VE A (m2 ixA a b) (rV enc) (pl.bind λl=>pi.bind λi=>atI l i):=SA o hb λl i z S n s q=>ZN (HK s) q
theorem eE(o:VE A a (rV (eP l s)) p):VE A (m2 ixA a (mC (.int 0))) (rV l) (p.bind λx=>some x.1):=λv B S0 e F S C=>by
 obtain⟨x,E,G⟩:=Az B;cases G;obtain⟨d,S',H,I,rfl⟩:=o x E S0 e F S C;exact⟨_,S',ER H rfl (aa (ds:=[l x.1,s x.2]) rfl (by decide) rfl),I,rfl⟩
theorem du(o:VE A a (rV (eP s l)) p):VE A (m2 ixA a (mC (.int 1))) (rV l) (p.bind λx=>some x.2):=λv B S0 e F S C=>by
 obtain⟨x,E,G⟩:=Az B;cases G;obtain⟨d,S',H,I,rfl⟩:=o x E S0 e F S C;exact⟨_,S',ER H rfl (aa (ds:=[s x.1,l x.2]) rfl (by decide) rfl),I,rfl⟩
theorem ji(o:VE A a (rV (eT enc)) pl):VE A (Me a) (rV D.int) (pl.bind λl=>some (l.length:Int)):=λv s S0 e F S B=>by
 obtain⟨l,C,E⟩:=Az s;cases E;obtain⟨d,S',G,H,rfl⟩:=o l C S0 e F S B;exact⟨_,S',(ZK (ds:=l.map enc) G rfl).trans (by rw[AD]),H,rfl⟩
theorem Zy{pl}(o:VE A a (rV eF) pl):VE A (Me a) (rV D.int) (pl.bind λl=>some (l.length:Int)):=λv s S0 e F S B=>by
 obtain⟨l,C,E⟩:=Az s;cases E;obtain⟨d,S',G,H,rfl⟩:=o l C S0 e F S B;exact⟨_,S',(ZK (ds:=l.map D.int) G rfl).trans (by rw[AD]),H,rfl⟩
theorem Ll(o:VE A a (rO (oL enc)) pl):VE A (Me a) (rV D.int) (pl.bind λl=>some (l.length:Int)):=λv s S0 e F S B=>by
 obtain⟨l,C,E⟩:=Az s;cases E;obtain⟨d,S',G,H,n,rfl,I⟩:=o l C S0 e F S B;exact⟨_,S',(ZK (ds:=l.map enc) G (HK I)).trans (by rw[AD]),H,rfl⟩
theorem LN:∀ns:ZLi,JK (ns.map D.int)=some ns
 | []=>rfl
 | x :: ns=>by rw[BA];unfold JK;rw[LN ns];rfl
theorem Ng(o:VE A a (rO (oL enc)) pl):VE A (IG a) (rV (eT enc)) pl:=λl s S0 e F S B=>by
 obtain⟨d,S',C,E,n,rfl,G⟩:=o l s S0 e F S B;exact⟨_,S',Oy C (HK G),E,rfl⟩
theorem jY(o:VE A a (rO (oL enc)) pl):VL A (Xq a) enc pl:=λl s S0 e F S B=>by
 obtain⟨d,S',C,E,n,rfl,G⟩:=o l s S0 e F S B;exact⟨S',ss C (HK G),E⟩
theorem jZ(h:VL A ml enc pl):VL A (mN aW ml) enc pl:=λl o S0 e F S s=>by
 obtain⟨S',B,C⟩:=h l o S0 e F S s;exact⟨S',by unfold mN;rw[B];rfl,C⟩
theorem D9:VL A BL enc (some []):=λv l S0 e F S o=>by cases l;exact⟨S,rfl,Keeps.refl S⟩
theorem Gw(h:VE A m (rV enc) p)(B:VL A ml enc pl):VL A (AR m ml) enc (p.bind λx=>pl.bind λl=>some (x :: l)):=λv C S0 e F S o=>by
 obtain⟨x,E,G⟩:=Az C;obtain⟨l,H,I⟩:=Az G;cases I;obtain⟨d,J,L,s,rfl⟩:=h x E S0 e F S o;obtain⟨N,O,P⟩:=B l H S0 e _ J (o.grow s);exact⟨N,DE L O,s.trans P⟩
noncomputable def Gq(l:List α):Option (List α):=if l.length<=1000000 then some l else none
theorem EL(h:VL A ml enc pl):VL A (Ev ml) enc (pl.bind Gq):=λv s S0 e F S B=>by
 obtain⟨l,C,o⟩:=Az s;unfold Gq at o;split at o
 ·rename_i E
  cases o;obtain⟨S',G,H⟩:=h _ C S0 e F S B;refine⟨S',?_,H⟩;unfold Ev;rw[G];dsimp only[Res.bind];rw[qX (by rw[AD];exact gd E)]
 ·cases o
theorem Li(h:VL A ml enc pl):VE A (Hr ml) (rV (eT enc)) (pl.bind Gq):=λv s S0 e F S B=>by
 obtain⟨l,C,o⟩:=Az s;unfold Gq at o;split at o
 ·rename_i E
  cases o;obtain⟨S',G,H⟩:=h _ C S0 e F S B;refine⟨_,S',?_,H,rfl⟩;unfold Hr;rw[G];dsimp only[Res.bind];rw[qX (by rw[AD];exact gd E)];rfl
 ·cases o
theorem KI(E:VE A a (rV o) G)(hb:VE A b (rV s) H):VE A (Hr (AR a (AR b BL))) (rV (eP o s)) (G.bind λx=>H.bind λy=>some (x,y)):=λv l S0 e F S B=>by
 obtain⟨x,I,l⟩:=Az l;obtain⟨y,J,L⟩:=Az l;cases L;obtain⟨d1,N,O,C,rfl⟩:=E x I S0 e F S B;obtain⟨d2,P,Q,R,rfl⟩:=hb y J S0 e _ N (B.grow C);exact⟨_,P,Yn (ds:=[o x,s y]) (DE O (DE Q rfl)) (by simp),C.trans R,rfl⟩
theorem Nh(o:VE A a (rV (eT enc)) pl)(hb:VE A b (rV (eT enc)) s):VE A (m2 Fh a b) (rV (eT enc)) (pl.bind λl=>s.bind λk=>NR l k):=HG o hb λl k z S q=>by
 unfold NR at q;split at q
 ·rename_i B
  cases q;unfold eT;rw[CW];exact jr (by rw[AD,AD];exact gd B)
 ·cases q
theorem Z1(H:VE A a (rO (oL enc)) pl)(hb:VE A b (rO (oL enc)) I):VE A (m2 Fh a b) (rN (oL enc)) (pl.bind λl=>I.bind λk=>NR l k):=λv s S0 e F S E=>by
 obtain⟨x,J,s⟩:=Az s;obtain⟨y,L,o⟩:=Az s;obtain⟨d1,N,O,B,n,rfl,P⟩:=H x J S0 e F S E;obtain⟨d2,G,Q,C,m,rfl,R⟩:=hb y L S0 e _ N (E.grow B);unfold NR at o;split at o
 ·rename_i T
  cases o;refine⟨_,_,ER O Q (d:=.ref G.length) (S3:=G++[oL enc (x++y)]) ?_,(B.trans C).trans (Keeps.app _ _),_,rfl,(B.trans C).1,Dx _ _⟩;unfold Fh;dsimp only;rw[C.at P,R];unfold oL;dsimp only;rw[qX (by rw[AD,AD];exact gd T),CW]
 ·cases o
noncomputable def VO(A:List Sl)(mo:MO)(p:Option (Option Int)):Prop:=∀v,p=some v->∀S0 e F S,Vs S0 A e F S->∃S',mo e S=.ok v S'/\Keeps S S'
theorem RT:VO A Uh (some none):=λv l S0 e F S o=>by cases l;exact⟨S,rfl,Keeps.refl S⟩
theorem RS(h:VE A m (rV D.int) pi):VO A (Sm m) (pi.bind λi=>some (some i)):=λv l S0 e F S o=>by
 obtain⟨x,s,B⟩:=Az l;cases B;obtain⟨d,S',C,E,rfl⟩:=h x s S0 e F S o;exact⟨S',by unfold Sm;rw[C];rfl,E⟩
theorem TM(l:List α)(f:α->β)(lo hi:Option Int):Hs (l.map f) lo hi=(Hs l lo hi).map f:=by
 unfold Hs;rw[AD,<-List.map_drop,<-nP]
theorem Z0(G:VE A a (rV (eT enc)) pl)(H:VO A mlo I)(J:VO A mhi ph):VE A (PH a mlo mhi) (rV (eT enc)) (pl.bind λl=>I.bind λx=>ph.bind λy=>some (Hs l x y)):=λv o S0 e F S s=>by
 obtain⟨l,L,o⟩:=Az o;obtain⟨x,N,o⟩:=Az o;obtain⟨y,O,P⟩:=Az o;cases P;obtain⟨d1,Q,R,B,rfl⟩:=G l L S0 e F S s;obtain⟨T,U,C⟩:=H x N S0 e _ Q (s.grow B);obtain⟨E,X,Y⟩:=J y O S0 e _ T ((s.grow B).grow C);refine⟨_,E,?_,(B.trans C).trans Y,rfl⟩;unfold PH;rw[R];dsimp only[Res.bind];rw[U];dsimp only;rw[X];show Res.ok (D.tup (Hs (l.map enc) x y)) E=_;rw[TM];rfl
theorem jl(H:VE A a (rO (oL enc)) pl)(I:VO A mlo J)(L:VO A mhi ph):VE A (OT a mlo mhi) (rN (oL enc)) (pl.bind λl=>J.bind λx=>ph.bind λy=>some (Hs l x y)):=λv o S0 e F S C=>by
 obtain⟨l,N,o⟩:=Az o;obtain⟨x,O,o⟩:=Az o;obtain⟨y,P,Q⟩:=Az o;cases Q;obtain⟨d1,R,T,s,n,rfl,U⟩:=H l N S0 e F S C;obtain⟨X,Y,B⟩:=I x O S0 e _ R (C.grow s);obtain⟨E,Z,G⟩:=L y P S0 e _ X ((C.grow s).grow B);refine⟨.ref E.length,E++[oL enc (Hs l x y)],?_,((s.trans B).trans G).trans (Keeps.app _ _),_,rfl,((s.trans B).trans G).1,Dx _ _⟩;unfold OT;rw[T];dsimp only[Res.bind];rw[Y];dsimp only;rw[Z];dsimp only;unfold Vn;dsimp only;rw[LK ((B.trans G).at U)];show Res.ok _ (E++[Ob.lst (Hs (l.map enc) x y)])=_;rw[TM];rfl
theorem dq{pl}(s:VE A a (rO (oL D.int)) pl):VE A (Dv a) (rN (oL D.int)) (pl.bind λl=>some (Bv l)):=λv B S0 e F S C=>by
 obtain⟨l,E,G⟩:=Az B;cases G;obtain⟨d,S',H,o,n,rfl,I⟩:=s l E S0 e F S C;refine⟨_,_,ID H (OV I) (es:=(Bv l).map D.int) ?_,o.trans (Keeps.app _ _),_,rfl,o.1,Dx _ _⟩;unfold KJ;rw[LN]
noncomputable def Lr(l:List ZLi):Option (List ZLi):=if l.all (λr=>!r.isEmpty)=true then some (Ih l)else none
theorem SZ:∀l:List ZLi,l.all (λr=>!r.isEmpty)=true->M9 (l.map Mc)=some l
 | [],_=>rfl
 | [] :: l,h=>by simp at h
 | (x :: r) :: l,h=>by
  rw[nQ,DI]at h;show M9 (.tup ((x :: r).map D.int) :: l.map Mc)=_;unfold M9;rw[LN,SZ l h.2]
theorem W5{pl}(B:VE A a (rO (oL (eT D.int))) pl):VE A (Dv a) (rN (oL (eT D.int))) (pl.bind Lr):=λv C S0 e F S E=>by
 obtain⟨l,G,o⟩:=Az C;obtain⟨d,S',H,s,n,rfl,I⟩:=B l G S0 e F S E;unfold Lr at o;split at o
 ·rename_i J
  cases o;refine⟨_,_,ID H (OV I) (es:=(Ih l).map Mc) ?_,s.trans (Keeps.app _ _),_,rfl,s.1,Dx _ _⟩
  cases l with
  | nil=>show some ((Bv []).map D.int)=some ((Ih []).map Mc);rw[Ua];unfold Ih;rw[dL];rfl
  | cons x l=>
   unfold KJ;rw[show JK (JF (eT D.int) (x :: l))=none from rfl,show M9 (JF (eT D.int) (x :: l))=some (x :: l)from SZ _ J]
 ·cases o
theorem Pw(o:VE A a (rV (eT enc)) pl):VI A (ES a) enc pl:=λl s S0 e F S B=>by
 obtain⟨d,S',C,E,rfl⟩:=o l s S0 e F S B;exact⟨_,S',Sy (xs:=l.map enc) C,E,λ_ _ _ _=>rfl⟩
theorem R6(s:VE A a (rN (oL enc)) pl):VI A (ES a) enc pl:=λl B S0 e F S C=>by
 obtain⟨d,S',E,G,n,rfl,H,o⟩:=s l B S0 e F S C;exact⟨_,S',LO E o,G,λJ L I h=>EB (h n _ (I _ _ (TB H o)))⟩
theorem nV(h:A[i]?=some (.z (oL enc l))):VI A (ES (AC i)) enc (some l):=λ_ C S0 e F S o=>by
 cases C;obtain⟨x,E,n,rfl,s⟩:=o.sl i _ h;have B:=o.fz _ _ s;exact⟨_,S,LO (n:=n) (by unfold AC;rw[E]) B,Keeps.refl S,λH I G h=>EB (h n _ (G _ _ (by rw[GM (BU B)];exact s)))⟩
theorem KH(h:A[i]?=some (.y (oL enc l))):VI A (ES (AC i)) enc (some l):=λ_ C S0 e F S o=>by
 cases C;obtain⟨x,E,n,rfl,s,_⟩:=o.sl i _ h;have B:=o.fz _ _ s;exact⟨_,S,LO (n:=n) (by unfold AC;rw[E]) B,Keeps.refl S,λH I G h=>EB (h n _ (G _ _ (by rw[GM (BU B)];exact s)))⟩
noncomputable def D3(lo:Int)(n:Nat):ZLi:=(D4 n).map λi:Nat=>lo+i
noncomputable def Nx(j:Int):Option ZLi:=if -1000000<=j/\j<=1000000 then some (D3 0 j.toNat)else none
noncomputable def Vz(i j:Int):Option ZLi:=if -1000000<=i/\i<=1000000/\-1000000<=j/\j<=1000000 then some (D3 i (j - i).toNat)else none
theorem fL(lo:Int)(n:Nat):Jk lo n=(D3 lo n).map D.int:=by
 unfold Jk D3;rw[BC];rfl
theorem Em(B:VE A a (rV D.int) pi):VI A (iR1 (AR a BL)) D.int (pi.bind Nx):=λl C S0 e F S E=>by
 obtain⟨j,G,o⟩:=Az C;obtain⟨d,S',H,I,rfl⟩:=B j G S0 e F S E;unfold Nx at o;split at o
 ·rename_i s
  cases o;exact⟨_,S',gp (j:=j) (DE H rfl) s.1 s.2,I,λ_ _ _ _=>congrArg some (fL _ _)⟩
 ·cases o
theorem JV(G:VE A a (rV D.int) pi)(hb:VE A b (rV D.int) pj):VI A (iR2 (AR a (AR b BL))) D.int (pi.bind λi=>pj.bind λj=>Vz i j):=λl B S0 e F S C=>by
 obtain⟨i,H,B⟩:=Az B;obtain⟨j,I,o⟩:=Az B;obtain⟨d,J,L,E,rfl⟩:=G i H S0 e F S C;obtain⟨d,N,O,P,rfl⟩:=hb j I S0 e _ J (C.grow E);unfold Vz at o;split at o
 ·rename_i s
  cases o;exact⟨_,N,qI (i:=i) (j:=j) (DE L (DE O rfl)) s.1 s.2.1 s.2.2.1 s.2.2.2,E.trans P,λ_ _ _ _=>congrArg some (fL _ _)⟩
 ·cases o
noncomputable def Di(l:List α):List (Int×α):=l.zipIdx.map λx=>((x.2:Int),x.1)
theorem Uz(l:List α):TH (l.map enc)=(Di l).map (eP D.int enc):=by
 unfold TH Di;rw[List.zipIdx_map,BC,BC];rfl
theorem nU(s:VE A a (rO (oL enc)) pl):VK A (ag a) enc (pl.bind λl=>some l.reverse):=λv B S0 e F S C=>by
 obtain⟨l,E,G⟩:=Az B;cases G;obtain⟨d,S',H,I,n,rfl,o⟩:=s l E S0 e F S C;refine⟨W4 (.ref n) (l.map enc).length,S',?_,I,λJ k=>?_⟩
 ·unfold ag
  rw[H];dsimp only[Res.bind];rw[LK o]
 ·unfold W4
  rw[LK (k.at o)];dsimp only;rw[qX rfl,iu]
end
end
section
variable{α β ρ σ κ κ':Type}
noncomputable def oDK(enc:α->D)(l:List (Int×α)):Ob:=.dK (l.map λx=>(Dh x.1,enc x.2))
noncomputable def kP(x:Int×Int):List Key:=[Dh x.1,Dh x.2]
noncomputable def oDP(enc:α->D)(l:List (ZPi×α)):Ob:=.dT (l.map λx=>(kP x.1,enc x.2))
theorem Ou[DecidableEq κ][DecidableEq κ']{m:κ->κ'}(o:∀x y,m x=m y->x=y)(f:α->β)(l:List (κ×α))(k:κ):Al (l.map λx=>(m x.1,f x.2)) (m k)=(Al l k).map f:=by
 unfold Al
 induction l with
 | nil=>rfl
 | cons x l s=>
  rw[BA,CY,CY]
  by_cases c:x.1=k
  ·rw[wX c,wX (show m x.1=m k by rw[c])]
   rfl
  ·rw[wY c,wY λz=>c (o _ _ z)]
   exact s
theorem O5[DecidableEq κ][DecidableEq κ']{m:κ->κ'}(s:∀x y,m x=m y->x=y)(f:α->β)(l:List (κ×α))(k:κ)(v:α):CJ (l.map λx=>(m x.1,f x.2)) (m k) (f v)=(CJ l k v).map λx=>(m x.1,f x.2):=by
 have any:((l.map λx=>(m x.1,f x.2)).any λo=>decide (o.1=m k))=l.any λo=>decide (o.1=k):=by
  rw[List.any_map]
  congr 1
  funext x
  exact decide_eq_decide.mpr ⟨s _ _,λz=>congrArg m z⟩
 unfold CJ;rw[any];split
 ·rw[BC,BC]
  refine DU λx _=>?_
  show(if m x.1=m k then(m x.1,f v)else(m x.1,f x.2))=_
  by_cases c:x.1=k
  ·show _=(λx:κ×α=>(m x.1,f x.2)) (if x.1=k then(x.1,v)else x)
   rw[qX c,qX (show m x.1=m k by rw[c])]
  ·show _=(λx:κ×α=>(m x.1,f x.2)) (if x.1=k then(x.1,v)else x)
   rw[qY c,qY λz=>c (s _ _ z)]
 ·rw[CW]
  rfl
theorem Rf(x y:Int)(h:(Dh x:Key)=Dh y):x=y:=by cases h;rfl
theorem gk(x y:Int×Int)(h:kP x=kP y):x=y:=by
 obtain⟨a,b⟩:=x;obtain⟨c,d⟩:=y;unfold kP at h;cases h;rfl
theorem bC{enc:α->D}{l:List (Int×α)}{n:Nat}{S:Sto}(h:S[n]?=some (oDK enc l))(k:Int):Mg (.ref n) (.int k) S=some ((Al l k).map enc):=by
 unfold Mg;dsimp only;rw[h];show some (Al _ (Dh k))=_;rw[Ou Rf]
theorem iR{enc:α->D}{l:List (ZPi×α)}{n:Nat}{S:Sto}(h:S[n]?=some (oDP enc l))(k:Int×Int):Mg (.ref n) (eP D.int D.int k) S=some ((Al l k).map enc):=by
 unfold Mg;dsimp only;rw[h];show some (Al _ (kP k))=_;rw[Ou gk]
theorem TJ(l:Gc (.ref n) S=none)(h:Mg (.ref n) y S=some o)(neg:Bool):inA neg y (.ref n) S=.ok (.bl (if neg then !o.isSome else o.isSome)) S:=by
 show Jl (inD neg y (.ref n) S) (N0 neg y (.ref n) S)=_;rw[show inD neg y (.ref n) S=.bad by unfold inD;rw[l]];show N0 neg y (.ref n) S=_;unfold N0;rw[h]
theorem OY(l:Gc (.ref n) S=none)(h:Mg (.ref n) y S=some (some d)):ixA (.ref n) y S=.ok d S:=by
 show Jl (ixD (.ref n) y S) (TK (.ref n) y S)=_;rw[show ixD (.ref n) y S=.bad by unfold ixD;rw[l]];show TK (.ref n) y S=_;unfold TK;rw[h]
theorem j8(h:S[n]?=some (oDK enc l)):Gc (.ref n) S=none:=by unfold Gc;dsimp only;rw[h];rfl
theorem oX(h:S[n]?=some (oDP enc l)):Gc (.ref n) S=none:=by unfold Gc;dsimp only;rw[h];rfl
section
theorem W6:VE A Jp (rN (oDK enc)) (some []):=λv l m e F S o=>by cases l;exact⟨_,_,rfl,Keeps.app _ _,_,rfl,AJ _,Dx _ _⟩
theorem eM:VE A NH (rN (oDP enc)) (some []):=λv l m e F S o=>by cases l;exact⟨_,_,rfl,Keeps.app _ _,_,rfl,AJ _,Dx _ _⟩
theorem eI{m}{pl}(s:VE A a (rV D.int) m)(hb:VE A b (rO (oDK enc)) pl):VE A (m2 (inA true) a b) (rV D.bl) (m.bind λx=>pl.bind λl=>some (!(Al l x).isSome)):=Ve s hb λx l z S n o q=>by cases q;rw[TJ (j8 o) (bC o x)];simp
theorem jk{m}{pl}(s:VE A a (rV (eP D.int D.int)) m)(hb:VE A b (rO (oDP enc)) pl):VE A (m2 (inA false) a b) (rV D.bl) (m.bind λx=>pl.bind λl=>some (Al l x).isSome):=Ve s hb λx l z S n o q=>by cases q;rw[TJ (oX o) (iR o x)];simp
theorem eG{m}{pl}(s:VE A a (rV (eP D.int D.int)) m)(hb:VE A b (rO (oDP enc)) pl):VE A (m2 (inA true) a b) (rV D.bl) (m.bind λx=>pl.bind λl=>some (!(Al l x).isSome)):=Ve s hb λx l z S n o q=>by cases q;rw[TJ (oX o) (iR o x)];simp
theorem eN(o:VE A a (rO (oDK enc)) pl)(hb:VE A b (rV D.int) s):VE A (m2 ixA a b) (rV enc) (pl.bind λl=>s.bind λx=>Al l x):=SA o hb λl x z S n m q=>OY (j8 m) (by rw[bC m x,q];rfl)
theorem W7(o:VE A a (rO (oDP enc)) pl)(hb:VE A b (rV (eP D.int D.int)) s):VE A (m2 ixA a b) (rV enc) (pl.bind λl=>s.bind λx=>Al l x):=SA o hb λl x z S n m q=>OY (oX m) (by rw[iR m x,q];rfl)
noncomputable def HE[DecidableEq κ](l:List (κ×α))(k:κ)(v:α):Option (List (κ×α)):=if l.length < 1000000 then some (CJ l k v)else none
theorem Vc{J:κ->D}[DecidableEq κ]{B:List (κ×α)->Ob}{R:Rk ρ}{p:Option α}{L:Option κ}{i:Nat}{l:List (κ×α)}
  (Q:∀(l:List (κ×α)) (k:κ) (v:α) (S:Sto) (n:Nat),S[n]?=some (B l)->l.length < 1000000->QT (.ref n) (J k) (enc v) S=some (S.set n (B (CJ l k v))))
  (hi:A[i]?=some (.w i (B l))) (T:VE A b (rV J) L) (h:VE A m (rV enc) p) (U:((A.set i .u).all (Sl.oth i))=true) :
  VS A (Cq (AC i) b m) R (p.bind λv=>L.bind λk=>(HE l k v).bind λE=>some (.nx E)) (λE=>A.set i (.w i (B E))):=λf X N e F S o=>by
 obtain⟨v,Y,Z⟩:=Az X;obtain⟨k,yJ,h3⟩:=Az Z;obtain⟨E,G,h0⟩:=Az h3;cases h0;unfold HE at G;split at G
 ·rename_i hl
  cases G;obtain⟨x,O,n,rfl,g2,I⟩:=o.sl i _ hi;obtain⟨d,s,h5,C,rfl⟩:=h v Y N e F S o;obtain⟨d,H,h7,P,rfl⟩:=T k yJ N e _ s (o.grow C);have hg:=(o.grow C).grow P;have hn:=(C.trans P).at I
  have hx:Cq (AC i) b m e S=.ok (.nx e) (H.set n (B (CJ l k v))):=by
   unfold Cq;rw[h5];dsimp only[Res.lift];rw[show AC i e s=.ok (.ref n) s by unfold AC;rw[O]];dsimp only;rw[h7];dsimp only;rw[Q l k v H n hn hl]
  have hF:QS (QS F S s) s H n=.ow i:=by rw[GM (BU (C.at I)),GM (BU I)];exact g2
  exact⟨_,_,hx,e,_,rfl,hg.put U hi O hF,(o.fle s).trans ((o.grow C).fle H)⟩
 ·cases G
theorem W2{R:Rk ρ}{p:Option α}{s:Option Int}{i:Nat}{l:List (Int×α)}(hi:A[i]?=some (.w i (oDK enc l)))(B:VE A b (rV D.int) s)(h:VE A m (rV enc) p)(C:((A.set i .u).all (Sl.oth i))=true) :
  VS A (Cq (AC i) b m) R (p.bind λv=>s.bind λk=>(HE l k v).bind λo=>some (.nx o)) (λo=>A.set i (.w i (oDK enc o))):=
 Vc (λl k v S n E G=>by
  unfold QT;dsimp only;rw[E];show(if (l.map _).length < sizeLine then some (S.set n (.dK (CJ (l.map λx=>(Dh x.1,enc x.2)) (Dh k) (enc v))))else none)=_;rw[qX (by rw[AD];exact ZI G),O5 Rf]
  rfl) hi B h C
theorem W1{R:Rk ρ}{p:Option α}{s:Option ZPi}{i:Nat}{l:List (ZPi×α)}(hi:A[i]?=some (.w i (oDP enc l)))(B:VE A b (rV (eP D.int D.int)) s)(h:VE A m (rV enc) p)(C:((A.set i .u).all (Sl.oth i))=true) :
  VS A (Cq (AC i) b m) R (p.bind λv=>s.bind λk=>(HE l k v).bind λo=>some (.nx o)) (λo=>A.set i (.w i (oDP enc o))):=
 Vc (λl k v S n E G=>by
  unfold QT;dsimp only;rw[E];show(if (l.map _).length < sizeLine then some (S.set n (.dT (CJ (l.map λx=>(kP x.1,enc x.2)) (kP k) (enc v))))else none)=_;rw[qX (by rw[AD];exact ZI G),O5 gk]
  rfl) hi B h C
theorem jo(h:VE A m (rV (eT enc)) pl):VB A (GK m) (pl.bind λl=>some (!l.isEmpty)):=λv hv S0 e F S hs=>by
 obtain⟨l,h1,h2⟩:=Az hv;cases h2;obtain⟨d,S',h3,h4,rfl⟩:=h l h1 S0 e F S hs;refine⟨S',?_,h4⟩;unfold GK;rw[h3]
 cases l <;> rfl
theorem jp(h:VE A m (rO (oL enc)) pl):VB A (GK m) (pl.bind λl=>some (!l.isEmpty)):=λv s B e F S C=>by
 obtain⟨l,E,G⟩:=Az s;cases G;obtain⟨d,o,H,I,n,rfl,J⟩:=h l E B e F S C;refine⟨o,?_,I⟩;unfold GK;rw[H];dsimp only[Res.bind]
 have:Qq (.ref n) o=some (!l.isEmpty):=by
  unfold Qq;dsimp only;rw[J]
  cases l <;> rfl
 rw[this]
theorem Yb{b:MS}{R:Rk ρ}{B:σ->List Sl}:VS A b R none B:=λf l=>by cases l
theorem nc(m:VE A a (rO (oL D.int)) pl):VE A (lF a) (rV D.int) (pl.bind λl=>some (Yp l)):=λv o s e F S B=>by
 obtain⟨l,C,E⟩:=Az o;cases E;obtain⟨d,G,H,I,n,rfl,J⟩:=m l C s e F S B;refine⟨_,G,?_,I,rfl⟩;unfold lF;rw[H];dsimp only[Res.bind];rw[LK J];dsimp only;rw[LN]
end
end
section
variable{α ρ σ:Type}
theorem BX:BD (some (.nx s)) q=q s:=rfl
theorem ie:BD (some (.rt r)) q=some (.rt r):=rfl
theorem lE:EC (ρ:=ρ) g (some (.nx s))=some (.nx (g s)):=rfl
theorem aH:Gp (some (.rt r:Fw ρ σ))=some r:=rfl
theorem kj:kl (some (.nx s))=some ():=rfl
theorem Pa{l:List α}{q:σ->α->Option (Fw ρ σ)}{s0:σ}(I:List α->σ->Prop)(B:I [] s0)(h:∀m x s,x∈l->m++[x] <+: l->I m s->∃s',q s x=some (.nx s')/\I (m++[x]) s'):∃s,Ez l s0 q=some (.nx s)/\I l s:=by
 have o:∀(r m:List α) (s:σ),l=m++r->I m s->∃s',Ez r s q=some (.nx s')/\I l s':=by
  intro r
  induction r with
  | nil=>intro m s e A;rw[CB]at e;subst e;exact⟨s,rfl,A⟩
  | cons x r C=>
   intro m s e A;obtain⟨s',E,G⟩:=h m x s (by rw[e];simp) ⟨r,by rw[e];simp⟩ A;obtain⟨H,J,L⟩:=C (m++[x]) s' (by rw[e];simp) G;refine⟨H,?_,L⟩;unfold Ez;rw[E];exact J
 exact o l [] s0 rfl B
theorem iA(I:List α->σ->Prop)(R:ρ->Prop)(E:I [] s0)(h:∀m x s,x∈l->m++[x] <+: l->I m s->(∃s',q s x=some (.nx s')/\I (m++[x]) s')∨∃r,q s x=some (.rt r)/\R r):(∃s,Ez l s0 q=some (.nx s)/\I l s)∨∃r,Ez l s0 q=some (.rt r)/\R r:=by
 have o:∀(r m:List α) (s:σ),l=m++r->I m s->(∃s',Ez r s q=some (.nx s')/\I l s')∨∃y,Ez r s q=some (.rt y)/\R y:=by
  intro r
  induction r with
  | nil=>intro m s e A;rw[CB]at e;subst e;exact .inl ⟨s,rfl,A⟩
  | cons x r G=>
   intro m s e A
   rcases h m x s (by rw[e];simp) ⟨r,by rw[e];simp⟩ A with⟨s',B,C⟩ | ⟨y,B,C⟩
   ·have H:Ez (x :: r) s q=Ez r s' q:=by
     conv=>lhs;unfold Ez
     rw[B]
    rw[H];exact G (m++[x]) s' (by rw[e];simp) C
   ·refine .inr ⟨y,?_,C⟩
    unfold Ez;rw[B]
 exact o l [] s0 rfl E
theorem iV(B:∀x∈l,c x=some (P x))(C:∀x∈l,P x=true->m x=some (f x)):TR c m l=some ((l.filter P).map f):=by
 induction l with
 | nil=>rfl
 | cons x l o=>
  have o:=o (λy s=>B y (AN _ s)) λy s=>C y (AN _ s)
  unfold TR;rw[B x AX];show(if P x=true then _ else _)=_
  cases A:P x with
  | true=>
   rw[qX rfl,C x AX A,o,MX A];rfl
  | false=>
   rw[qY AH,o,MY (by rw[A];exact AH)]
theorem TU(o:l.length<=1000000)(s:∀x∈l,c x=some (P x))(A:∀x∈l,P x=true->m x=some (f x)):EV l c m=some ((l.filter P).map f):=by
 unfold EV;rw[qX o,iV s A]
theorem GY(o:l.length<=1000000)(s:∀x∈l,m x=some (f x)):EV l (λ_=>some true) m=some (l.map f):=by
 rw[TU (P:=λ_=>true) o (λ_ _=>rfl) λx A _=>s x A,bV.mpr λ_ _=>rfl]
theorem IJ(m:l.length<=1000000)(o:∀x∈l,c x=some (P x)):EV l c (λx=>some x)=some (l.filter P):=by
 rw[TU (f:=λx=>x) m o λx s _=>rfl,YK]
theorem bJ(h:l.length < 1000000):Wb l x=some (l++[x]):=qX h
theorem Nq(h:l.length+k.length<=1000000):NR l k=some (l++k):=qX h
theorem lj(h:l.length<=1000000):Gq l=some l:=qX h
theorem qi:Gq ([]:List α)=some []:=rfl
theorem qh(a:α):Gq [a]=some [a]:=qX (by simp)
theorem few2(a b:α):Gq [a,b]=some [a,b]:=qX (by simp)
theorem Ni(l:-1000000<=j)(m:j<=1000000):Nx j=some (D3 0 j.toNat):=qX ⟨l,m⟩
theorem aB(l:-1000000<=i)(m:i<=1000000)(o:-1000000<=j)(s:j<=1000000):Vz i j=some (D3 i (j - i).toNat):=qX ⟨l,m,o,s⟩
theorem CM{lo:Int}{n:Nat}{x:Int}:x∈D3 lo n↔lo<=x/\x < lo+n:=by
 unfold D3;rw[BF]
 constructor
 ·rintro⟨k,l,rfl⟩
  have:=N3.mp l
  lia
 ·rintro⟨m,o⟩
  exact⟨(x - lo).toNat,N3.mpr (by lia),by lia⟩
theorem Bw(lo:Int)(n:Nat):(D3 lo n).length=n:=by unfold D3;rw[AD,dX]
theorem O2(lo:Int)(n:Nat):(D3 lo n).Pairwise (· < ·):=by
 unfold D3;rw[Bn]
 exact List.pairwise_lt_range.imp λh=>by lia
theorem Zd(o:0<=i)(s:i < l.length):∃x,atI l i=some x/\l[i.toNat]?=some x:=by
 have m:i.toNat < l.length:=by lia
 exact⟨l[i.toNat],J6 o (AU m),AU m⟩
theorem bH(h:atI l i=some x):x∈l:=by
 unfold atI at h;obtain⟨j,_,m⟩:=Az h;exact BN m
theorem Rn(k:Int)(h:l≠[]):∃x,atI l (k % (l.length:Int))=some x/\x∈l:=by
 have o:0 < (l.length:Int):=by have:=Ja.mpr h;lia
 obtain⟨x,m,_⟩:=Zd (l:=l) (i:=k % (l.length:Int)) (mW _ (by lia)) (db _ o);exact⟨x,m,bH m⟩
theorem Ra(h:0 < y):UG x y=some (x % y):=qX h
theorem X3(P:α->Bool)(l:List α)(x:α):(l++[x]).filter P=if P x=true then l.filter P++[x]else l.filter P:=by
 rw[List.filter_append]
 cases c:P x with
 | true=>rw[qX rfl,MX c];rfl
 | false=>rw[qY AH,MY (by rw[c];exact AH)];simp
theorem JB[DecidableEq α]:∀{l k:List α},l.Nodup->(∀x∈l,x∈k)->l.length<=k.length
 | [],_,_,_=>Cw _
 | x :: l,k,s,h=>by
  have m:=h x AX;obtain⟨A,B⟩:=Bf.mp s
  have:=JB (l:=l) (k:=k.erase x) B λy o=>(List.mem_erase_of_ne (λz:y=x=>A (by rw[<-z];exact o))).mpr (h y (AN _ o))
  rw[LW m]at this;have:=List.length_pos_of_mem m;rw[At]
  lia
noncomputable def Ok(p:Option α)(P:α->Prop):Prop:=∃v,p=some v/\P v
theorem Ok.pure(h:P v):Ok (some v) P:=⟨v,rfl,h⟩
theorem Ok.is(h:Ok p λr=>r=v):p=some v:=by
 obtain⟨_,l,rfl⟩:=h;exact l
theorem Ok.bind(h:Ok p P)(l:∀v,P v->Ok (q v) Q):Ok (p.bind q) Q:=by
 obtain⟨v,rfl,h⟩:=h;exact l v h
theorem Ok.imp(h:Ok p P)(i:∀v,P v->Q v):Ok p Q:=by
 obtain⟨v,rfl,h⟩:=h;exact⟨v,rfl,i v h⟩
noncomputable def OkF(p:Option (Fw ρ σ))(N:σ->Prop)(R:ρ->Prop):Prop:=(∃s,p=some (.nx s)/\N s)∨∃r,p=some (.rt r)/\R r
theorem OkF.nx(h:N s):OkF (some (.nx s)) N R:=.inl ⟨s,rfl,h⟩
theorem OkF.rt(h:R r):OkF (some (.rt r)) N R:=.inr ⟨r,rfl,h⟩
theorem OkF.seq(h:OkF p N R)(l:∀s,N s->OkF (q s) N' R):OkF (BD p q) N' R:=by
 rcases h with⟨s,rfl,h⟩ | ⟨r,rfl,h⟩
 ·exact l s h
 ·exact .inr ⟨r,rfl,h⟩
theorem OkF.map(h:OkF p N R)(l:∀s,N s->N' (g s)):OkF (EC g p) N' R:=by
 rcases h with⟨s,rfl,h⟩ | ⟨r,rfl,h⟩
 ·exact .inl ⟨_,rfl,l s h⟩
 ·exact .inr ⟨r,rfl,h⟩
theorem OkF.for(I:List α->σ->Prop)(o:I [] s0)(h:∀m x s,x∈l->m++[x] <+: l->I m s->OkF (q s x) (I (m++[x])) R):OkF (Ez l s0 q) (I l) R:=iA I R o h
theorem OkF.out(h:OkF p (λ_=>False) R):Ok (Gp p) R:=by
 rcases h with⟨s,rfl,h⟩ | ⟨r,rfl,h⟩
 ·exact h.elim
 ·exact⟨r,rfl,h⟩
theorem VF.law(h:VF f [.v (eF ns)] (rV D.bl) (some true)):∃S',f [.fro (ns.map D.int)] []=.ok (.bl true) S':=by
 obtain⟨d,S',l,_,rfl⟩:=h true rfl [] [.fro (ns.map D.int)] ⟨rfl,trivial⟩;exact⟨S',l⟩
end
section
noncomputable def P3(x y:Int):Option Int:=if il x y then some (x * 2 ^ y.toNat)else none
noncomputable def j6(x y:Int):Option Int:=if 0<=y then some (x / 2 ^ y.toNat)else none
theorem R7(l:VE A a (rV D.int) m)(hb:VE A b (rV D.int) o):VE A (m2 SN a b) (rV D.int) (m.bind λx=>o.bind λy=>P3 x y):=HG l hb λx y z S h=>by
 unfold P3 at h;split at h
 ·rename_i s;cases h;exact qX s
 ·cases h
theorem nh(l:VE A a (rV D.int) m)(hb:VE A b (rV D.int) o):VE A (m2 XO a b) (rV D.int) (m.bind λx=>o.bind λy=>j6 x y):=HG l hb λx y z S h=>by
 unfold j6 at h;split at h
 ·rename_i s;cases h;exact qX s
 ·cases h
theorem RU(l:VE A a (rV D.int) m)(hb:VE A b (rV D.int) o):VE A (m2 Td a b) (rV D.int) (m.bind λx=>o.bind λy=>some (Bg x y)):=HG l hb λx y z S h=>by cases h;rfl
theorem Z2(h:VE A m (rV D.int) o):VB A (GK m) (o.bind λx=>some (x != 0)):=λv s B e F S C=>by
 obtain⟨l,E,G⟩:=Az s;cases G;obtain⟨d,H,I,J,rfl⟩:=h l E B e F S C;refine⟨H,?_,J⟩;unfold GK;rw[I];rfl
end
section
theorem Px(o:VE A a (rV (eT D.int)) pl):VE A (Dv a) (rN (oL D.int)) (pl.bind λl=>some (Bv l)):=λv s B e F S C=>by
 obtain⟨l,E,G⟩:=Az s;cases G;obtain⟨d,I,H,m,rfl⟩:=o l E B e F S C;refine⟨_,_,ID H (ds:=l.map D.int) rfl (es:=(Bv l).map D.int) ?_,m.trans (Keeps.app _ _),_,rfl,m.1,Dx _ _⟩;unfold KJ;rw[LN]
end
section
variable{ρ σ:Type}
theorem Ex{n:Nat}{b:MS}{as:List Ar}{R:Rk ρ}{p:Option (Fw ρ σ)}{B:σ->List Sl}(h:VS (as.map Ar.sl++By (n - as.length) .u) b R p B):VF (Ei n b) as R (Gp p):=λv hv S ds ha=>by
 cases p with
 | none=>cases hv
 | some x=>
  obtain⟨g,S',h1,h2⟩:=h _ rfl S _ _ S (Vs.start ha)
  cases x with
  | rt r=>cases hv;obtain⟨d,rfl,h2,h3⟩:=h2;exact⟨d,S',_root_.M.M6 h1,h3,h2⟩
  | nx s=>cases hv
  | bk s=>cases hv
  | ct s=>cases hv
theorem nY{n:Nat}{b:MS}{as:List Ar}{p:Option (Fw Unit σ)}{B:σ->List Sl}(h:VS (as.map Ar.sl++By (n - as.length) .u) b (rV eU) p B):VF (Ei n b) as (rV eU) (kl p):=λv hv S ds ha=>by
 cases p with
 | none=>cases hv
 | some x=>
  obtain⟨g,S',h1,h2⟩:=h _ rfl S _ _ S (Vs.start ha)
  cases x with
  | rt r=>obtain⟨d,rfl,h2,h3⟩:=h2;exact⟨d,S',_root_.M.M6 h1,h3,h2⟩
  | nx s=>obtain⟨e',F',rfl,h2,h3⟩:=h2;exact⟨.non,S',_root_.M.Y4 h1,h2.kp,rfl⟩
  | bk s=>cases hv
  | ct s=>cases hv
end
section
variable{κ α:Type}[DecidableEq κ]
theorem DC(l:List (κ×α))(k:κ)(v:α)(k':κ):Al (CJ l k v) k'=if k'=k then some v else Al l k':=by
 have s:∀l:List (κ×α),Al (l.map λm=>if m.1=k then(m.1,v)else m) k'=if k'=k then(Al l k').map (λ_=>v)else Al l k':=by
  intro l
  induction l with
  | nil=>unfold Al;simp
  | cons x l A=>
   unfold Al at A ⊢;rw[BA,CY,CY]
   by_cases c:x.1=k
   ·rw[qX c]
    by_cases d:x.1=k'
    ·rw[wX d,qX (show k'=k from d▸c)]
     rfl
    ·rw[wY d]
     exact A
   ·rw[qY c]
    by_cases d:x.1=k'
    ·rw[wX d,qY (λz:k'=k=>c (d.trans z))]
    ·rw[wY d]
     exact A
 unfold CJ;split
 ·rename_i h
  rw[s]
  by_cases c:k'=k
  ·rw[qX c,qX c]
   subst c
   have:(Al l k').isSome=true:=by
    unfold Al;rw[Hn,dY];obtain⟨x,o,B⟩:=E8.mp h;exact⟨x,o,B⟩
   obtain⟨b,hb⟩:=CD.mp this;rw[hb];rfl
  ·rw[qY c,qY c]
 ·rename_i h
  unfold Al;rw[List.find?_append]
  by_cases c:k'=k
  ·subst c
   rw[qX rfl]
   have:l.find? (λm=>decide (m.1=k'))=none:=by
    rw[KF];intro x o B;exact h (E8.mpr ⟨x,o,B⟩)
   rw[this];simp
  ·rw[qY c]
   have:[(k,v)].find? (λm=>decide (m.1=k'))=none:=by
    rw[KF];intro x o;rw[Ad.mp o];simp
    exact λz=>c z.symm
   rw[this];simp
theorem HX(l:List (κ×α))(k:κ)(v:α):(CJ l k v).map (·.1)=if k∈l.map (·.1)then l.map (·.1)else l.map (·.1)++[k]:=by
 have o:(l.any λs=>decide (s.1=k))=true↔k∈l.map (·.1):=by
  rw[E8,BF];exact⟨λ⟨x,m,e⟩=>⟨x,m,of_decide_eq_true e⟩,λ⟨x,m,e⟩=>⟨x,m,wX e⟩⟩
 unfold CJ
 by_cases c:k∈l.map (·.1)
 ·rw[qX c,qX (o.mpr c),BC]
  refine DU λx _=>?_
  show(if x.1=k then(x.1,v)else x).1=x.1
  split <;> rfl
 ·rw[qY c,qY λz=>c (o.mp z),CW]
  rfl
theorem Cv(l:List (κ×α))(k:κ):(Al l k).isSome=true↔k∈l.map (·.1):=by
 unfold Al;rw[Hn,dY,BF];exact⟨λ⟨x,m,e⟩=>⟨x,m,of_decide_eq_true e⟩,λ⟨x,m,e⟩=>⟨x,m,wX e⟩⟩
end
noncomputable def hb(bits x:Int):Bool:=Bg (bits / 2 ^ x.toNat) 1 != 0
noncomputable abbrev HL:=List ZPi
noncomputable abbrev QL:=List (Int×Bool)
noncomputable def N7(st:HL->Int->QL->Option (Bool×HL×QL))(g:Int):ZLi->HL->QL->Option (Bool×HL×QL)
 | [],H,Q=>some (false,H,Q)
 | x :: r,H,Q=>if (Al Q x).isSome=true then N7 st g r H Q else(HE Q x true).bind λl=>(Al H x).bind λm=>(st H m l).bind λz=>if z.1=true then(HE z.2.1 x g).bind λo=>some (true,o,z.2.2)else N7 st g r z.2.1 z.2.2
noncomputable def IR(T:Int->ZLi)(bits:Int):Nat->HL->Int->QL->Option (Bool×HL×QL)
 | 0,_,_,_=>none
 | n+1,H,g,Q=>match((T g).filter λx=>hb bits x&&!(Al Q x).isSome).find? (λx=>!(Al H x).isSome)with
  | some x=>(HE H x g).bind λl=>some (true,l,Q)
  | none=>N7 (IR T bits n) g ((T g).filter λx=>hb bits x&&!(Al Q x).isSome) H Q
section
noncomputable abbrev w0(T:Int->ZLi)(bits g:Int):ZLi:=(T g).filter (hb bits)
structure KOk{α:Type}(U:ZLi)(l:List (Int×α)):Prop where
 nd:(l.map (·.1)).Nodup
 sub:∀x∈l.map (·.1),x∈U
theorem KOk.len{m:Type}{l:List (Int×m)}(h:KOk U l):l.length<=U.length:=by
 have:=JB h.nd h.sub;rwa [AD]at this
theorem KOk.put{o:Type}{l:List (Int×o)}(h:KOk U l){x:Int}(s:x∈U)(v:o):KOk U (CJ l x v):=by
 by_cases c:x∈l.map (·.1)
 ·exact⟨by rw[HX,qX c];exact h.nd,by rw[HX,qX c];exact h.sub⟩
 ·refine⟨?_,?_⟩
  ·rw[HX,qY c]
   unfold Ga;rw[BM];exact⟨h.nd,by simp,λa A b B z=>c (by rw[Ad.mp B]at z;rw[<-z];exact A)⟩
  ·rw[HX,qY c]
   intro y m
   rcases Ay.mp m with m | m
   ·exact h.sub y m
   ·rw[Ad.mp m];exact s
theorem KOk.more{m:Type}{l:List (Int×m)}{x:Int}(c:(Al l x).isSome=false)(v:m):(CJ l x v).length=l.length+1:=by
 have o:x∉l.map (·.1):=λz=>by rw[(Cv l x).mpr z]at c;cases c
 have:=congrArg HF (HX l x v);rw[qY o,AD,AZ,AD]at this;exact this
noncomputable def MOn(T:Int->ZLi)(bits:Int)(P:Int->Prop)(H:HL):Prop:=(∀x,P x->∀a,Al H x=some a->x∈w0 T bits a)/\∀x y a,P x->P y->Al H x=some a->Al H y=some a->x=y
noncomputable abbrev sn(Q:QL)(x:Int):Prop:=(Al Q x).isSome=true
noncomputable def Good(T:Int->ZLi)(bits:Int)(H:HL)(g:Int)(Q:QL)(l:HL):Prop:=
 (∀x,sn Q x->Al l x=Al H x)/\(MOn T bits (λx=>¬sn Q x) H->(∀x,¬sn Q x->Al H x≠some g)->MOn T bits (λx=>¬sn Q x) l/\∀a,(∃x,¬sn Q x/\Al l x=some a)↔a=g∨∃x,¬sn Q x/\Al H x=some a)
noncomputable def Clo(T:Int->ZLi)(bits:Int)(H:HL)(Q l:QL):Prop:=∀x,sn l x->sn Q x∨∃a,Al H x=some a/\∀y∈w0 T bits a,sn l y
structure uc(T:Int->ZLi)(bits:Int)(U:ZLi)(Gd:Int->Prop)(H:HL)(g:Int)(Q:QL)(z:Bool×HL×QL):Prop where
 h1:KOk U z.2.1
 h2:KOk U z.2.2
 h3:∀x a,Al z.2.1 x=some a->Gd a
 h4:∀x,sn Q x->sn z.2.2 x
 h5:z.1=false->z.2.1=H/\(∀x∈w0 T bits g,sn z.2.2 x)/\Clo T bits H Q z.2.2
 h6:z.1=true->Good T bits H g Q z.2.1
theorem V1{m:Type}{l:List (Int×m)}(h:KOk U l)(o:U.length < 1000000)(x:Int)(v:m):HE l x v=some (CJ l x v):=qX (Av h.len o)
theorem Kd:sn (CJ Q x true) y↔y=x∨sn Q y:=by
 unfold sn;rw[DC]
 by_cases c:y=x
 ·rw[qX c];simp[c]
 ·rw[qY c];simp[c]
theorem XQ(hT:∀g,Gd g->∀x∈T g,x∈U)(hU:U.length < 1000000):∀(n:Nat) (H:HL) (g:Int) (Q:QL),KOk U H->KOk U Q->(∀x a,Al H x=some a->Gd a)->Gd g->U.length < n+Q.length->Ok (IR T bits n H g Q) (uc T bits U Gd H g Q):=by
 intro n
 induction n with
 | zero=>intro H g Q hH hQ hG hg hn;exact zX hQ.len (by lia)
 | succ n ih=>
  intro H g Q hH hQ hG hg hn;unfold IR
  have wm:∀x,x∈(T g).filter (λx=>hb bits x&&!(Al Q x).isSome)↔x∈w0 T bits g/\¬sn Q x:=by
   intro x;unfold w0 sn;rw[Am,Am]
   cases Al Q x <;> simp
  generalize (T g).filter (λx=>hb bits x&&!(Al Q x).isSome)=w at wm
  have wU:∀x∈w,x∈U:=λx N=>hT g hg x (Am.mp ((wm x).mp N).1).1
  cases hf:w.find? (λx=>!(Al H x).isSome)with
  | some x=>
   have N:=VW hf
   have wk:Al H x=none:=by
    have:=jJ hf
    cases q:Al H x with
    | none=>rfl
    | some a=>rw[q]at this;cases this
   obtain⟨x1,P⟩:=(wm x).mp N;show Ok ((HE H x g).bind _) _;rw[V1 hH hU];refine .pure ⟨hH.put (wU x N) g,hQ,λy a o=>?_,λ_ h=>h,λz=>(by cases z),λ_=>⟨λy o=>?_,λm R=>⟨⟨λy o a e=>?_,λy z a o J e1 G=>?_⟩,λa=>⟨?_,?_⟩⟩⟩⟩
   ·rw[show Al (true,CJ H x g,Q).2.1 y=if y=x then some g else Al H y from DC _ _ _ _]at o
    split at o
    ·cases o;exact hg
    ·exact hG y a o
   ·show Al (CJ H x g) y=_
    rw[DC,qY λc:y=x=>P (by rw[<-c];exact o)]
   ·rw[show Al (true,CJ H x g,Q).2.1 y=if y=x then some g else Al H y from DC _ _ _ _]at e
    split at e
    ·rename_i c;cases e;rw[c];exact x1
    ·exact m.1 y o a e
   ·rw[show Al (true,CJ H x g,Q).2.1 y=if y=x then some g else Al H y from DC _ _ _ _]at e1
    rw[show Al (true,CJ H x g,Q).2.1 z=if z=x then some g else Al H z from DC _ _ _ _]at G;split at e1
    ·rename_i c
     cases e1;split at G
     ·rename_i d;rw[c,d]
     ·exact zX G (R z J)
    ·split at G
     ·cases G;exact zX e1 (R y o)
     ·exact m.2 y z a o J e1 G
   ·rintro⟨y,o,e⟩
    rw[show Al (true,CJ H x g,Q).2.1 y=if y=x then some g else Al H y from DC _ _ _ _]at e;split at e
    ·cases e;exact .inl rfl
    ·exact .inr ⟨y,o,e⟩
   ·rintro(rfl | ⟨y,o,e⟩)
    ·exact⟨x,P,by show Al (CJ H x a) x=_;rw[DC,qX rfl]⟩
    ·refine⟨y,o,?_⟩
     show Al (CJ H x g) y=_;rw[DC,qY λc=>by rw[c,wk]at e;cases e];exact e
  | none=>
   have held:∀x∈w,∃a,Al H x=some a:=by
    intro x N;have:=KF.mp hf x N
    cases q:Al H x with
    | none=>rw[q]at this;exact zX rfl this
    | some a=>exact⟨a,rfl⟩
   have key:∀(r:ZLi) (E:QL),(∀x∈r,x∈w)->KOk U E->(∀x,sn Q x->sn E x)->Q.length<=E.length->Clo T bits H Q E->(∀x∈w,x∈r∨sn E x)->Ok (N7 (IR T bits n) g r H E) (uc T bits U Gd H g Q):=by
    intro r
    induction r with
    | nil=>
     intro E _ yU X hl hc hw;refine .pure ⟨hH,yU,hG,X,λ_=>⟨rfl,λx N=>?_,hc⟩,λz=>(by cases z)⟩
     by_cases c:sn Q x
     ·exact X x c
     ·rcases hw x ((wm x).mpr ⟨N,c⟩)with h | h
      ·cases h
      ·exact h
    | cons x r ih2=>
     intro E hr yU X hl hc hw;unfold N7
     by_cases c:(Al E x).isSome=true
     ·rw[qX c]
      refine ih2 E (λy o=>hr y (AN _ o)) yU X hl hc λy o=>?_
      rcases hw y o with h | h
      ·rcases Ae.mp h with rfl | h
       ·exact .inr c
       ·exact .inl h
      ·exact .inr h
     ·rw[qY c,V1 yU hU]
      have Χ:=hr x AX;obtain⟨x1,P⟩:=(wm x).mp Χ;obtain⟨a,O⟩:=held x Χ;have hQ1:=yU.put (wU x Χ) true;have p7:=KOk.more (l:=E) (x:=x) (by cases q:(Al E x).isSome;rfl;exact zX q c) true;obtain⟨z,ez,J⟩:=ih H a (CJ E x true) hH hQ1 hG (hG x a O) (by lia);show Ok ((Al H x).bind _) _;rw[O];show Ok ((IR T bits n H a (CJ E x true)).bind _) _;rw[ez];show Ok (if z.1=true then _ else _) _
      cases ve:z.1 with
      | true=>
       rw[qX rfl,V1 J.h1 hU];obtain⟨g1,g2⟩:=J.h6 ve;refine .pure ⟨J.h1.put (wU x Χ) g,J.h2,λy b o=>?_,λy o=>J.h4 y (Kd.mpr (.inr (X y o))),λq=>(by cases q),λ_=>⟨λy o=>?_,λm R=>?_⟩⟩
       ·rw[show Al (true,CJ z.2.1 x g,z.2.2).2.1 y=if y=x then some g else Al z.2.1 y from DC _ _ _ _]at o
        split at o
        ·cases o;exact hg
        ·exact J.h3 y b o
       ·show Al (CJ z.2.1 x g) y=_
        rw[DC,qY λq:y=x=>P (by rw[<-q];exact o)];exact g1 y (Kd.mpr (.inr (X y o)))
       ·have C:∀y,¬sn (CJ E x true) y->¬sn Q y/\y≠x/\¬sn E y:=λy o=>⟨λq=>o (Kd.mpr (.inr (X y q))),λq=>o (Kd.mpr (.inl q)),λq=>o (Kd.mpr (.inr q))⟩
        obtain⟨m1,m2⟩:=g2 ⟨λy o b e=>m.1 y (C y o).1 b e,λy s b o S e B=>m.2 y s b (C y o).1 (C s S).1 e B⟩ λy o e=>(C y o).2.1 (m.2 y x a (C y o).1 P e O)
        have A:∀y,y=x∨(y≠x/\Al z.2.1 y=Al H y/\sn E y)∨¬sn (CJ E x true) y:=λy=>by
         by_cases q:y=x
         ·exact .inl q
         ·by_cases Y:sn E y
          ·exact .inr (.inl ⟨q,g1 y (Kd.mpr (.inr Y)),Y⟩)
          ·exact .inr (.inr λq3=>(Kd.mp q3).elim q Y)
        have I:∀y,y≠x->Al (CJ z.2.1 x g) y=Al z.2.1 y:=λy q=>by rw[DC,qY q]
        have yV:Al (CJ z.2.1 x g) x=some g:=by rw[DC,qX rfl]
        show MOn T bits _ (CJ z.2.1 x g)/\∀b,(∃y,_/\Al (CJ z.2.1 x g) y=some b)↔_
        refine⟨⟨λy o b e=>?_,λy s b o S e B=>?_⟩,λb=>⟨?_,?_⟩⟩
        ·rcases A y with rfl | ⟨q,Z,Y⟩ | q
         ·rw[yV]at e;cases e;exact x1
         ·rw[I y q,Z]at e;exact m.1 y o b e
         ·rw[I y (C y q).2.1]at e;exact m1.1 y q b e
        ·rcases A y with rfl | ⟨q,Z,Y⟩ | q
         ·rw[yV]at e
          cases e
          rcases A s with rfl | ⟨p,p1,L⟩ | p
          ·rfl
          ·rw[I s p,p1]at B;exact zX B (R s S)
          ·rw[I s (C s p).2.1]at B
           rcases(m2 g).mp ⟨s,p,B⟩with rfl | ⟨y2,L,G⟩
           ·exact zX O (R y o)
           ·exact zX G (R y2 (C y2 L).1)
         ·rw[I y q,Z]at e
          rcases A s with rfl | ⟨p,p1,L⟩ | p
          ·rw[yV]at B;cases B;exact zX e (R y o)
          ·rw[I s p,p1]at B;exact m.2 y s b o S e B
          ·rw[I s (C s p).2.1]at B
           rcases(m2 b).mp ⟨s,p,B⟩with rfl | ⟨y2,L,G⟩
           ·exact zX (m.2 y x b o P e O) q
           ·have:=m.2 y y2 b o (C y2 L).1 e G
            rw[<-this]at L;exact zX Y (C y L).2.2
         ·rw[I y (C y q).2.1]at e
          rcases A s with rfl | ⟨p,p1,L⟩ | p
          ·rw[yV]at B
           cases B
           rcases(m2 g).mp ⟨y,q,e⟩with rfl | ⟨y2,L,G⟩
           ·exact zX O (R s S)
           ·exact zX G (R y2 (C y2 L).1)
          ·rw[I s p,p1]at B
           rcases(m2 b).mp ⟨y,q,e⟩with rfl | ⟨y2,p3,G⟩
           ·exact zX (m.2 s x b S P B O) p
           ·have:=m.2 s y2 b S (C y2 p3).1 B G
            rw[<-this]at p3;exact zX L (C s p3).2.2
          ·rw[I s (C s p).2.1]at B
           exact m1.2 y s b q p e B
        ·rintro⟨y,o,e⟩
         rcases A y with rfl | ⟨q,Z,Y⟩ | q
         ·rw[yV]at e;cases e;exact .inl rfl
         ·rw[I y q,Z]at e;exact .inr ⟨y,o,e⟩
         ·rw[I y (C y q).2.1]at e
          rcases(m2 b).mp ⟨y,q,e⟩with rfl | ⟨y2,L,G⟩
          ·exact .inr ⟨x,P,O⟩
          ·exact .inr ⟨y2,(C y2 L).1,G⟩
        ·rintro(rfl | ⟨y,o,e⟩)
         ·exact⟨x,P,yV⟩
         ·rcases A y with rfl | ⟨q,Z,Y⟩ | q
          ·rw[O]at e
           cases e;obtain⟨s,p,B⟩:=(m2 a).mpr (.inl rfl);exact⟨s,(C s p).1,by rw[I s (C s p).2.1];exact B⟩
          ·exact⟨y,o,by rw[I y q,Z];exact e⟩
          ·obtain⟨s,p,B⟩:=(m2 b).mpr (.inr ⟨y,q,e⟩)
           exact⟨s,(C s p).1,by rw[I s (C s p).2.1];exact B⟩
      | false=>
       rw[qY AH];obtain⟨f1,f2,f3⟩:=J.h5 ve;rw[f1]
       have up:∀y,sn E y->sn z.2.2 y:=λy o=>J.h4 y (Kd.mpr (.inr o))
       refine ih2 z.2.2 (λy o=>hr y (AN _ o)) J.h2 (λy o=>up y (X y o)) ?_ (λy o=>?_) λy o=>?_
       ·have h1:∀k∈E.map (·.1),k∈z.2.2.map (·.1):=λk hk=>(Cv _ _).mp (up k ((Cv _ _).mpr hk))
        have:=JB yU.nd h1;rw[AD,AD]at this
        lia
       ·rcases f3 y o with h | h
        ·rcases Kd.mp h with rfl | h
         ·exact .inr ⟨a,O,f2⟩
         ·rcases hc y h with h | ⟨b,e,k⟩
          ·exact .inl h
          ·exact .inr ⟨b,e,λs S=>up s (k s S)⟩
        ·exact .inr h
       ·rcases hw y o with h | h
        ·rcases Ae.mp h with rfl | h
         ·exact .inr (J.h4 _ (Kd.mpr (.inl rfl)))
         ·exact .inl h
        ·exact .inr (up y h)
   exact key w Q (λ_ h=>h) hQ (λ_ h=>h) (AJ _) (λx N=>.inl N) λx N=>.inl N
end
noncomputable def SK(bits:Int):ZLi->HL->Option HL
 | [],H=>some H
 | g :: r,H=>if hb bits g=true then(HE H g g).bind λl=>SK bits r l else SK bits r H
noncomputable def Sa(T:Int->ZLi)(bits:Int)(n:Nat):ZLi->HL->Option Bool
 | [],_=>some true
 | g :: r,H=>if hb bits g=true then Sa T bits n r H else(IR T bits n H g []).bind λz=>if z.1=true then Sa T bits n r z.2.1 else some false
noncomputable def Uu(T:Int->ZLi)(bits:Int)(n:Nat)(gs:ZLi):Option Bool:=(SK bits gs []).bind λH=>Sa T bits n gs H
noncomputable def Sdr(T:Int->ZLi)(bits:Int)(gs:ZLi):Prop:=∃f:Int->Int,(∀g∈gs,f g∈w0 T bits g)/\∀a∈gs,∀b∈gs,f a=f b->a=b
section
variable{T:Int->ZLi}{bits:Int}{U:ZLi}{Gd:Int->Prop}
theorem bp(C:U.length < 1000000):∀(gs:ZLi) (H:HL),(∀g∈gs,g∈U)->KOk U H->Ok (SK bits gs H) λl=>KOk U l/\∀x,Al l x=if x∈gs/\hb bits x=true then some x else Al H x:=by
 intro gs
 induction gs with
 | nil=>intro H _ h;exact .pure ⟨h,λx=>by rw[qY (by simp)]⟩
 | cons g gs B=>
  intro H m h;unfold SK
  cases c:hb bits g with
  | true=>
   rw[qX rfl,V1 h C]
   refine(B (CJ H g g) (λy o=>m y (AN _ o)) (h.put (m g AX) g)).imp λl ⟨s,A⟩=>⟨s,λx=>?_⟩
   rw[A x,DC]
   by_cases d:x=g
   ·subst d
    rw[qX rfl,qX (show x∈x :: gs/\hb bits x=true from⟨AX,c⟩)]
    split <;> rfl
   ·rw[qY d]
    have:(x∈g :: gs/\hb bits x=true)↔(x∈gs/\hb bits x=true):=by rw[Ae];simp[d]
    by_cases q:x∈gs/\hb bits x=true
    ·rw[qX q,qX (this.mpr q)]
    ·rw[qY q,qY λz=>q (this.mp z)]
  | false=>
   rw[qY AH]
   refine(B H (λy o=>m y (AN _ o)) h).imp λl ⟨s,A⟩=>⟨s,λx=>?_⟩
   rw[A x]
   have:(x∈g :: gs/\hb bits x=true)↔(x∈gs/\hb bits x=true):=by
    rw[Ae];refine⟨λ⟨z,y⟩=>⟨z.elim (λe=>?_) id,y⟩,λ⟨z,y⟩=>⟨.inr z,y⟩⟩;rw[e,c]at y;cases y
   by_cases q:x∈gs/\hb bits x=true
   ·rw[qX q,qX (this.mpr q)]
   ·rw[qY q,qY λz=>q (this.mp z)]
theorem gK{l:Type}:KOk U ([]:List (Int×l)):=⟨Ee,λ_ h=>(nomatch h)⟩
theorem cE(hT:∀g,Gd g->∀x∈T g,x∈U)(hU:U.length < 1000000)(hn:U.length < n)(hg:∀g∈gs,Gd g)(Y:gs.Nodup):∀(r pre:ZLi) (H:HL),gs=pre++r->KOk U H->(∀x a,Al H x=some a->Gd a)->MOn T bits (λ_=>True) H->(∀a,(∃x,Al H x=some a)↔a∈gs/\(a∈pre∨hb bits a=true))->Ok (Sa T bits n r H) λb=>b=true↔Sdr T bits gs:=by
 intro r
 induction r with
 | nil=>
  intro pre H e N O A o;rw[CB]at e;subst e;refine .pure ⟨λ_=>?_,λ_=>rfl⟩
  have ex:∀a:Int,∃x:Int,a∈gs->Al H x=some a:=λa=>by
   by_cases c:a∈gs
   ·obtain⟨x,l⟩:=(o a).mpr ⟨c,.inl c⟩
    exact⟨x,λ_=>l⟩
   ·exact⟨0,λz=>zX z c⟩
  refine⟨λa=>C2 (ex a),λa P=>A.1 _ trivial a (EG (ex a) P),λa P b I e=>?_⟩;have Z:=EG (ex a) P;have h2:=EG (ex b) I;have e:C2 (ex a)=C2 (ex b):=e;rw[e,h2]at Z;cases Z;rfl
 | cons g r ih=>
  intro pre H e N O A o
  have J:g∈gs:=by rw[e];simp
  have Q:g∉pre:=λz=>by
   rw[e]at Y;exact(D1.mp Y).2.2 g z g AX rfl
  unfold Sa
  cases c:hb bits g with
  | true=>
   rw[qX rfl]
   refine ih (pre++[g]) H (by rw[e];simp) N O A λa=>?_
   rw[o a];refine⟨λ⟨z,y⟩=>⟨z,y.elim (λy=>.inl (BO _ y)) .inr⟩,λ⟨z,y⟩=>⟨z,y.elim (λy=>?_) .inr⟩⟩
   rcases Ay.mp y with y | y
   ·exact .inl y
   ·rw[Ad.mp y];exact .inr c
  | false=>
   rw[qY AH];obtain⟨z,ez,C⟩:=XQ (bits:=bits) hT hU n H g [] N gK O (hg g J) (by simpa using hn);rw[ez];show Ok (if z.1=true then _ else _) _
   have no:∀x,¬sn ([]:QL) x:=λx h=>by unfold sn at h;cases h
   have ng:∀x,Al H x≠some g:=λx q=>by
    have:=((o g).mp ⟨x,q⟩).2
    rcases this with h | h
    ·exact Q h
    ·rw[c]at h;cases h
   cases I:z.1 with
   | true=>
    rw[qX rfl];obtain⟨-,g2⟩:=C.h6 I
    obtain⟨m1,m2⟩:=g2 ⟨λx _ a q=>A.1 x trivial a q,λx y a _ _ q E=>A.2 x y a trivial trivial q E⟩ λx _=>ng x
    refine ih (pre++[g]) z.2.1 (by rw[e];simp) C.h1 C.h3 ⟨λx _ a q=>m1.1 x (no x) a q,λx y a _ _ q E=>m1.2 x y a (no x) (no y) q E⟩ λa=>?_
    constructor
    ·rintro⟨x,l⟩
     rcases(m2 a).mp ⟨x,no x,l⟩with rfl | ⟨y,_,s⟩
     ·exact⟨J,.inl (by simp)⟩
     ·obtain⟨L,m⟩:=(o a).mp ⟨y,s⟩
      exact⟨L,m.elim (λq=>.inl (BO _ q)) .inr⟩
    ·rintro⟨L,m⟩
     have:a=g∨∃x,¬sn ([]:QL) x/\Al H x=some a:=by
      rcases m with m | m
      ·rcases Ay.mp m with m | m
       ·obtain⟨x,l⟩:=(o a).mpr ⟨L,.inl m⟩
        exact .inr ⟨x,no x,l⟩
       ·exact .inl (Ad.mp m)
      ·obtain⟨x,l⟩:=(o a).mpr ⟨L,.inr m⟩
       exact .inr ⟨x,no x,l⟩
     obtain⟨x,_,l⟩:=(m2 a).mpr this;exact⟨x,l⟩
   | false=>
    rw[qY AH];obtain⟨f1,f2,f3⟩:=C.h5 I;refine .pure ⟨λq=>(by cases q),?_⟩;rintro⟨f,fw,fi⟩
    exfalso
    have X:=z.2.2.map (·.1)
    have G:∀x∈z.2.2.map (·.1),∃a,Al H x=some a/\∀y∈w0 T bits a,sn z.2.2 y:=λx l=>by
     rcases f3 x ((Cv _ _).mpr l)with h | h
     ·exact zX h (no x)
     ·exact h
    have ex:∀x:Int,∃a:Int,x∈z.2.2.map (·.1)->Al H x=some a/\∀y∈w0 T bits a,sn z.2.2 y:=λx=>by
     by_cases q:x∈z.2.2.map (·.1)
     ·obtain⟨a,h⟩:=G x q
      exact⟨a,λ_=>h⟩
     ·exact⟨0,λE=>zX E q⟩
    have hc:=λx=>EG (ex x)
    generalize hh:(λx=>C2 (ex x))=h at hc
    have B:∀x∈z.2.2.map (·.1),Al H x=some (h x)/\∀y∈w0 T bits (h x),sn z.2.2 y:=λx l=>by rw[<-hh];exact hc x l
    have nd:(f g :: (z.2.2.map (·.1)).map λx=>f (h x)).Nodup:=by
     rw[Bf]
     have R:∀x∈z.2.2.map (·.1),h x∈gs:=λx l=>((o (h x)).mp ⟨x,(B x l).1⟩).1
     refine⟨λq=>?_,?_⟩
     ·obtain⟨x,l,S⟩:=BF.mp q
      have:=fi (h x) (R x l) g J S;exact ng x (by rw[(B x l).1,this])
     ·unfold Ga
      rw[Bn]
      refine C.h2.nd.imp_of_mem λ{x y} l s ne S=>ne ?_
      have:=fi (h x) (R x l) (h y) (R y s) S;exact A.2 x y (h x) trivial trivial (B x l).1 (by rw[this];exact(B y s).1)
    have sub:∀y∈(f g :: (z.2.2.map (·.1)).map λx=>f (h x)),y∈z.2.2.map (·.1):=by
     intro y s
     rcases Ae.mp s with rfl | s
     ·exact(Cv _ _).mp (f2 _ (fw g J))
     ·obtain⟨x,l,rfl⟩:=BF.mp s
      exact(Cv _ _).mp ((B x l).2 _ (fw _ ((o (h x)).mp ⟨x,(B x l).1⟩).1))
    have:=JB nd sub;rw[At,AD]at this;omega
theorem cg(A:∀g,Gd g->∀x∈T g,x∈U)(B:U.length < 1000000)(E:U.length < n)(l:∀g∈gs,Gd g/\g∈T g)(G:gs.Nodup):Ok (Uu T bits n gs) λb=>b=true↔Sdr T bits gs:=by
 unfold Uu
 refine(bp B gs [] (λg h=>A g (l g h).1 g (l g h).2) gK).bind λH ⟨I,C⟩=>?_
 have m:∀x a,Al H x=some a->a=x/\x∈gs/\hb bits x=true:=λx a e=>by
  rw[C x]at e;split at e
  ·rename_i q;cases e;exact⟨rfl,q⟩
  ·cases e
 refine cE A B E (λg h=>(l g h).1) G gs [] H rfl I (λx a e=>?_) ⟨λx _ a e=>?_,λx y a _ _ e J=>?_⟩ λa=>⟨?_,?_⟩
 ·obtain⟨rfl,q,_⟩:=m x a e;exact(l _ q).1
 ·obtain⟨rfl,o,s⟩:=m x a e
  exact Am.mpr ⟨(l _ o).2,s⟩
 ·rw[<-(m x a e).1,<-(m y a J).1]
 ·rintro⟨x,e⟩
  obtain⟨rfl,o,s⟩:=m x a e;exact⟨o,.inr s⟩
 ·rintro⟨o,s⟩
  refine⟨a,?_⟩;rw[C a,qX ⟨o,s.elim (λq=>(nomatch q)) id⟩]
end
section
theorem Lm(h:e[i]?=some (some d)):AC i e S=.ok d S:=by unfold AC;rw[h]
end
section
theorem jm(H:VE A a (rV eF) pl)(I:VO A mlo J)(L:VO A mhi ph):VE A (OT a mlo mhi) (rN (oL D.int)) (pl.bind λl=>J.bind λx=>ph.bind λy=>some (Hs l x y)):=λv m s e F S B=>by
 obtain⟨l,N,m⟩:=Az m;obtain⟨x,O,m⟩:=Az m;obtain⟨y,P,Q⟩:=Az m;cases Q;obtain⟨d1,R,T,o,rfl⟩:=H l N s e F S B;obtain⟨U,X,C⟩:=I x O s e _ R (B.grow o);obtain⟨E,Y,G⟩:=L y P s e _ U ((B.grow o).grow C);refine⟨.ref E.length,E++[oL D.int (Hs l x y)],?_,((o.trans C).trans G).trans (Keeps.app _ _),_,rfl,((o.trans C).trans G).1,Dx _ _⟩;unfold OT;rw[T];dsimp only[Res.bind];rw[X];dsimp only;rw[Y];show Res.ok _ (E++[Ob.lst (Hs (l.map D.int) x y)])=_;rw[TM];rfl
end
section
variable{F:Fz}
noncomputable def loF(F:Fz):Nat->Option Ob:=λn=>match F n with
 | .fz o=>some o
 | _=>none
theorem ga(h:F n=.fz o):loF F n=some o:=by unfold loF;rw[h]
theorem NI(h:loF F n=some o):F n=.fz o:=by
 unfold loF at h;split at h
 ·rename_i m l;cases h;exact l
 ·cases h
end
section
variable{S0 S:Sto}{A:List Sl}{ρ σ:Type}
noncomputable def whF(c:σ->Option Bool)(q:σ->Option (Fw ρ σ)):Nat->σ->Option (Fw ρ σ)
 | 0,_=>none
 | n+1,s=>(c s).bind λt=>if t=true then match q s with
   | some (.nx l)=>whF c q n l
   | some (.ct l)=>whF c q n l
   | some (.bk l)=>some (.nx l)
   | some (.rt r)=>some (.rt r)
   | none=>none
  else some (.nx s)
theorem bY(Y:∀s,VB (B s) t (c s))(hb:∀s,VS (B s) b R (q s) B):∀(n:Nat) (s:σ),VS (B s) (Iz t b n) R (whF c q n s) B:=by
 intro n
 induction n with
 | zero=>intro s f N;cases N
 | succ n X=>
  intro s f N S0 e F S I;unfold whF at N;obtain⟨v,Z,o⟩:=Az N;obtain⟨S1,h3,h4⟩:=Y s v Z S0 e F S I;have J:=I.grow h4
  have run:Iz t b (n+1) e S=if v=true then(b e S1).bind λf l=>match f with
   | .nx m=>Iz t b n m l
   | .ct m=>Iz t b n m l
   | .bk m=>.ok (.nx m) l
   | .rt d=>.ok (.rt d) l
   | .ex c m=>.ok (.ex c m) l
  else .ok (.nx e) S1:=by
   show(t e S).lift e _=_;rw[h3];rfl
  cases v with
  | false=>
   rw[qY AH]at o;cases o;exact⟨_,S1,run.trans (qY AH),e,_,rfl,J,I.fle S1⟩
  | true=>
   rw[qX rfl]at o;rw[run,qX rfl];split at o
   ·rename_i O C
    obtain⟨h,l,E,m,L,rfl,G,H⟩:=hb s _ C S0 e _ S1 J;rw[E];obtain⟨P,Q,T,U⟩:=X O f o S0 m L l G;exact⟨P,Q,T,U.up ((I.fle S1).trans H)⟩
   ·rename_i O C
    obtain⟨h,l,E,m,L,rfl,G,H⟩:=hb s _ C S0 e _ S1 J;rw[E];obtain⟨P,Q,T,U⟩:=X O f o S0 m L l G;exact⟨P,Q,T,U.up ((I.fle S1).trans H)⟩
   ·rename_i O C
    cases o;obtain⟨h,l,E,m,L,rfl,G,H⟩:=hb s _ C S0 e _ S1 J;rw[E];exact⟨_,l,rfl,m,L,rfl,G,(I.fle S1).trans H⟩
   ·rename_i r C
    cases o;obtain⟨h,l,E,d,rfl,G,H⟩:=hb s _ C S0 e _ S1 J;rw[E];exact⟨_,l,rfl,d,rfl,G,H⟩
   ·cases o
theorem W0(w0:Wk A (B s0))(l:∀s,VB (B s) t (c s))(hb:∀s,VS (B s) b R (q s) B):VS A (Iz t b n) R (whF c q n s0) B:=λf m S0 e F S o=>
 bY l hb n s0 f m S0 e F S (o.weak w0)
end
section
variable{β:Type}
noncomputable def rOL(l:β->Ob):Rk (Option β):=λv m d S=>match v with
 | none=>d=.non
 | some b=>∃n,d=.ref n/\m.length<=n/\S[n]?=some (l b)
theorem fN:∀(v:Option β) (S S1:Sto) (d:D) (S':Sto),S.length<=S1.length->rOL m v S1 d S'->rOL m v S d S':=λv S S1 d S' l h=>by
 cases v with
 | none=>exact h
 | some b=>obtain⟨n,o,s,A⟩:=h;exact⟨n,o,Au l s,A⟩
end
section
variable{S0 S S':Sto}{A B:List Sl}{e:Lo}{F:Fz}{α ρ σ:Type}{a b:ME}{enc:α->D}
noncomputable def oFK(enc:α->D)(l:List (Int×α)):Ob:=.fK (l.map λx=>(Dh x.1,enc x.2))
theorem qr(h:S[n]?=some (oFK enc l))(k:Int):Mg (.ref n) (.int k) S=some ((Al l k).map enc):=by
 unfold Mg;dsimp only;rw[h];show some (Al _ (Dh k))=_;rw[Ou Rf]
theorem su(h:S[n]?=some (oFK enc l)):Gc (.ref n) S=none:=by unfold Gc;dsimp only;rw[h];rfl
theorem bd(o:VE A a (rO (oFK enc)) pl)(hb:VE A b (rV D.int) s):VE A (m2 ixA a b) (rV enc) (pl.bind λl=>s.bind λx=>Al l x):=SA o hb λl x z S n m q=>OY (su m) (by rw[qr m x,q];rfl)
theorem lJ(h:S[n]?=some (oFK enc l)):Xv (.ref n) S=some ((l.map (·.1)).map D.int):=by
 unfold Xv;dsimp only;rw[h];show some _=_;rw[BC,BC];rfl
theorem nW(h:A[i]?=some (.y (oFK enc l))):VI A (ah (AC i)) D.int (some (l.map (·.1))):=λ_ o S0 e F S m=>by
 cases o;obtain⟨x,s,n,rfl,C,_⟩:=m.sl i _ h;refine⟨Hw ((l.map (·.1)).map D.int),S,?_,Keeps.refl S,λ_ _ _ _=>rfl⟩;unfold ah;rw[Lm s];dsimp only[Res.bind];rw[lJ (m.fz _ _ C)]
theorem sP{b:MS}{R:Rk ρ}{p:Option (Fw ρ σ)}{B:σ->List Sl}{l:List (Int×α)}(i:Nat)(m:A[i]?=some (.w i (oDK enc l)))(o:((A.set i .u).all (Sl.oth i))=true)(h:VS (A.set i (.y (oFK enc l))) b R p B):VS A (BH (sFz i) b) R p B:=λf G S0 e F S s=>by
 obtain⟨x,C,n,rfl,H,I⟩:=s.sl i _ m;have J:=s.put (o':=oFK enc l) o m C H;have L:(A.set i (.w i (oFK enc l)))[i]?=some (.w i (oFK enc l)):=As (AF.mp m).1;obtain⟨N,E,O⟩:=J.freeze (by rw[rZ];exact o) L;rw[rZ]at E;obtain⟨g,S',P,Q⟩:=h f G S0 e N _ E;refine⟨g,S',?_,Q.up O⟩
 have:sFz i e S=.ok (.nx e) (S.set n (oFK enc l)):=by
  unfold sFz;rw[C];dsimp only;rw[I];rfl
 exact(CP this).trans P
theorem eR(m:VE A a (rO (oDK enc)) pl):VB A (GK a) (pl.bind λl=>some (!l.isEmpty)):=λv o S0 e F S s=>by
 obtain⟨l,C,E⟩:=Az o;cases E;obtain⟨d,S',G,H,n,rfl,I⟩:=m l C S0 e F S s;refine⟨S',?_,H⟩;unfold GK;rw[G];dsimp only[Res.bind];rw[show Qq (.ref n) S'=some (!l.isEmpty) by unfold Qq;dsimp only;rw[I];show some (!(JF _ l).isEmpty)=_;rw[List.isEmpty_map]]
end
noncomputable abbrev Pq:=(Nat->Option Ob)->D->Prop
noncomputable def AtV(P:Pq)(C:Aa)(x:Str)(l:D):Prop:=∀L d,P L d->∃q fs,d=.ref q/\L q=some (.ins C fs)/\fs.lookup x=some l
noncomputable def AtO(P:Pq)(C:Aa)(x:Str)(o:Ob):Prop:=∀L d,P L d->∃q fs n,d=.ref q/\L q=some (.ins C fs)/\fs.lookup x=some (.ref n)/\L n=some o
noncomputable def AtN(P:Pq)(C:Aa)(x:Str):Prop:=∀L d,P L d->∃q fs,d=.ref q/\L q=some (.ins C fs)/\fs.lookup x=none
noncomputable def rQ(P:β->Pq):Rk β:=λv l d S=>∀L:Nat->Option Ob,(∀n o,l.length<=n->S[n]?=some o->L n=some o)->P v L d
section
variable{S0 S S':Sto}{A:List Sl}{e:Lo}{F:Fz}{α β:Type}{enc:α->D}{ob:α->Ob}{i n:Nat}{P:Pq}{Pf Pg:β->Pq}{C:Aa}{x:Str}{v:α}{f:β}
theorem Vs.qAt(l:Vs S0 A e F S)(h:A[i]?=some (.q P)):∃d,e[i]?=some (some d)/\P (loF F) d:=by
 obtain⟨x,m,d,rfl,s⟩:=l.sl i _ h;exact⟨d,m,s _ λn o q=>ga q⟩
theorem nz(m:AtV P C x (enc v))(h:A[i]?=some (.q P)):VE A (EE C x (AC i)) (rV enc) (some v):=λ_ o S0 e F S l=>by
 cases o;obtain⟨d,s,B⟩:=Vs.qAt l h;obtain⟨q,fs,rfl,E,G⟩:=m _ _ B;exact⟨_,S,Kn (Lm s) (l.fz _ _ (NI E)) G,Keeps.refl S,rfl⟩
theorem IP(m:AtO P C x (ob v))(h:A[i]?=some (.q P)):VE A (EE C x (AC i)) (rO ob) (some v):=λ_ o S0 e F S l=>by
 cases o;obtain⟨d,s,B⟩:=Vs.qAt l h;obtain⟨q,fs,n,rfl,E,G,H⟩:=m _ _ B;exact⟨_,S,Kn (Lm s) (l.fz _ _ (NI E)) G,Keeps.refl S,n,rfl,l.fz _ _ (NI H)⟩
theorem nX(B:AtO P C x (oL enc l))(h:A[i]?=some (.q P)):VI A (ES (EE C x (AC i))) enc (some l):=λ_ E S0 e F S m=>by
 cases E;obtain⟨d,G,H⟩:=Vs.qAt m h;obtain⟨q,fs,n,rfl,I,J,L⟩:=B _ _ H;have o:=NI L;have s:=m.fz _ _ o;exact⟨_,S,LO (n:=n) (Kn (Lm G) (m.fz _ _ (NI I)) J) s,Keeps.refl S,λO Q N h=>EB (h n _ (N _ _ (by rw[GM (BU s)];exact o)))⟩
theorem jd(B:AtO P C x (oL enc l))(h:A[i]?=some (.q P)):VI A (NJ (EE C x (AC i))) (eP D.int enc) (some (Di l)):=λ_ E S0 e F S m=>by
 cases E;obtain⟨d,G,H⟩:=Vs.qAt m h;obtain⟨q,fs,n,rfl,I,J,L⟩:=B _ _ H;have o:=NI L;have s:=m.fz _ _ o;refine⟨Qk (Fy (.ref n)),S,?_,Keeps.refl S,λO Q N h=>?_⟩
 ·unfold NJ
  rw[Kn (C:=C) (f:=x) (Lm (S:=S) G) (m.fz _ _ (NI I)) J];dsimp only[Res.bind];rw[EB s]
 ·unfold Qk
  rw[EB (h n _ (N _ _ (by rw[GM (BU s)];exact o)))];exact congrArg some (Uz l)
theorem n9(s:∀L d,Pf f L d->Pg f L d)(h:A[i]?=some (.q (Pf f)))(B:VA A ml q E):VA A (AR (AC i) ml) (q.bind λy=>some (f,y)) (λz=>.q (Pg z.1) :: E z.2):=λv G S0 e F S l=>by
 obtain⟨y,H,I⟩:=Az G;cases I;obtain⟨x,J,d,rfl,N⟩:=l.sl i _ h;obtain⟨U,O,Q,m,R⟩:=B y H S0 e F S l;exact⟨_,O,DE (Lm J) Q,m,λL T=>s _ _ (N L λn o q=>T n o (m.at (l.fz _ _ q))),R⟩
theorem Ot(H:AtN (Pf f) C m)(I:∀L d,Pf f L d->Pg f L d)(h:A[i]?=some (.q (Pf f)))(J:VA A ml p B)(N:∀z,VF g (.q (Pg f) :: B z) R (q z))(O:∀z,(B z).length+1=n)
  (Q:∀v S S1 d S',S.length<=S1.length->R v S1 d S'->R v S d S'):VE A (NG C m n g (AC i) ml) R (p.bind q):=λv T S0 e F S l=>by
 obtain⟨z,U,X⟩:=Az T;obtain⟨x,Y,d,rfl,E⟩:=l.sl i _ h;obtain⟨k,fs,rfl,Z,h7⟩:=H _ _ (E (loF F) λn o q=>ga q);obtain⟨ds,S2,q1,s,G⟩:=J z U S0 e F S l;obtain⟨d,S3,r1,r2,r3⟩:=N z v X S2 (.ref k :: ds) ⟨λL hL=>I _ _ (E L λn o q=>hL n o (s.at (l.fz _ _ q))),G⟩;refine⟨d,S3,?_,s.trans r2,Q _ _ _ _ _ s.1 r3⟩;unfold NG;rw[Lm Y];dsimp only[Res.bind];rw[l.fz _ _ (NI Z)];dsimp only;rw[qX ⟨rfl,h7⟩,q1];dsimp only;rw[qX (by rw[G.len];exact O z)];exact r1
theorem jV(h:VE A m (rQ Pf) p):VS A (CT i m) R (p.bind λv=>some (.nx v)) (λv=>A.set i (.q (Pf v))):=λf s S0 e F S l=>by
 obtain⟨v,B,E⟩:=Az s;cases E;obtain⟨d,S',G,H,I⟩:=h v B S0 e F S l;exact⟨_,S',M0 G,_,_,rfl,(l.grow H).set (a:=.q (Pf v)) (x:=some d) i ⟨d,rfl,λL J=>I L λn o N O=>J n o (TB N O)⟩,l.fle S'⟩
end
noncomputable def kR(r:ZLi):List Key:=r.map Dh
noncomputable def oDR(enc:m->D)(l:List (ZLi×m)):Ob:=.dT (l.map λx=>(kR x.1,enc x.2))
theorem gj(x y:ZLi)(h:kR x=kR y):x=y:=by
 have:∀r:ZLi,(kR r).map (λk:Key=>match k with | .inl i=>i | .inr _=>0)=r:=λr=>by
  unfold kR;rw[BC]
  conv=>rhs;rw[<-N4 r]
  rfl
 rw[<-this x,h,this y]
theorem nA(r:ZLi):N8 (r.map D.int)=some (kR r):=by
 induction r with
 | nil=>rfl
 | cons x r l=>
  rw[BA];unfold N8;rw[l];rfl
section
variable{S0 S S':Sto}{A:List Sl}{e:Lo}{F:Fz}{α:Type}{enc:α->D}{a b m:ME}
theorem uR(h:S[n]?=some (oDR enc l))(k:ZLi):Mg (.ref n) (eT D.int k) S=some ((Al l k).map enc):=by
 unfold Mg;dsimp only;rw[h];show(match N8 (k.map D.int)with | some o=>some (Al (l.map λx:ZLi×α=>(kR x.1,enc x.2)) o) | none=>none)=_;rw[nA];dsimp only;rw[Ou gj]
theorem seqR(h:S[n]?=some (oDR enc l)):Gc (.ref n) S=none:=by unfold Gc;dsimp only;rw[h];rfl
theorem eJ:VE A NH (rN (oDR enc)) (some []):=λv l S0 e F S o=>by cases l;exact⟨_,_,rfl,Keeps.app _ _,_,rfl,AJ _,Dx _ _⟩
theorem R9(s:VE A a (rO (oDR enc)) pl)(hb:VE A b (rV (eT D.int)) B):VE A (m2 ixA a b) (rV enc) (pl.bind λl=>B.bind λx=>Al l x):=SA s hb λl x z S n o q=>OY (seqR o) (by rw[uR o x,q];rfl)
theorem iO(l:List (ZLi×α))(k:ZLi)(v:α)(S:Sto)(n:Nat)(o:S[n]?=some (oDR enc l))(s:l.length < 1000000):QT (.ref n) (eT D.int k) (enc v) S=some (S.set n (oDR enc (CJ l k v))):=by
 unfold QT;dsimp only;rw[o];show(match N8 (k.map D.int)with | some B=>if (l.map _).length < sizeLine then some (S.set n (Ob.dT (CJ (l.map λx:ZLi×α=>(kR x.1,enc x.2)) B (enc v))))else none | none=>none)=_;rw[nA];dsimp only;rw[qX (by rw[AD];exact ZI s),O5 gj];rfl
theorem dm(hi:A[i]?=some (.w i (oDR enc l)))(s:VE A b (rV (eT D.int)) B)(h:VE A m (rV enc) p)(C:((A.set i .u).all (Sl.oth i))=true) :
  VS A (Cq (AC i) b m) R (p.bind λv=>B.bind λk=>(HE l k v).bind λo=>some (.nx o)) (λo=>A.set i (.w i (oDR enc o))):=Vc iO hi s h C
theorem jn(l:VE A a (rV D.int) p):VE A (aO a) (rV D.int) (p.bind λx=>some (Ds x:Int)):=λv o S0 e F S s=>by
 obtain⟨x,B,C⟩:=Az o;cases C;obtain⟨d,S',E,G,rfl⟩:=l x B S0 e F S s;refine⟨_,S',?_,G,rfl⟩;unfold aO;rw[E];rfl
theorem bb(s:VE A a (rO (oDK enc)) pl):VE A (Dv a) (rN (oL D.int)) (pl.bind λl=>some (Bv (l.map (·.1)))):=λv B S0 e F S C=>by
 obtain⟨l,E,G⟩:=Az B;cases G;obtain⟨d,S',H,o,n,rfl,I⟩:=s l E S0 e F S C;refine⟨_,_,ID H (d:=.ref n) (ds:=(l.map (·.1)).map D.int) ?_ (es:=(Bv (l.map (·.1))).map D.int) ?_,o.trans (Keeps.app _ _),_,rfl,o.1,Dx _ _⟩
 ·unfold Jq
  dsimp only;rw[I];show some ((l.map _).map _)=_;rw[BC,BC];rfl
 ·unfold KJ
  rw[LN]
theorem Zx(h:VE A m (rV (eP o eb)) p):VS A (Y3 m (Ig 2 (Cp (tgN i) (Cp (tgN j) JI)))) R (p.bind λv=>some (.nx v)) (λv=>(A.set i (.v (o v.1))).set j (.v (eb v.2))):=λf s S0 e F S l=>by
 obtain⟨v,B,C⟩:=Az s;cases C;obtain⟨d,S',E,G,rfl⟩:=h v B S0 e F S l;refine⟨_,S',?_,_,_,rfl,((l.grow G).set (a:=.v (o v.1)) i rfl).set (a:=.v (eb v.2)) j rfl,l.fle S'⟩;unfold Y3;rw[E];rfl
theorem eO(B:VE A a (rV C) p)(hb:VE A b (rV (eP eb E)) q):VE A (m2 Fh (Hr (AR a BL)) b) (rV (eP3 C eb E)) (p.bind λx=>q.bind λy=>some (x,y)):=λv l S0 e F S o=>by
 obtain⟨x,G,l⟩:=Az l;obtain⟨y,H,I⟩:=Az l;cases I;obtain⟨d1,J,L,s,rfl⟩:=B x G S0 e F S o;obtain⟨d2,N,O,P,rfl⟩:=hb y H S0 e _ J (o.grow s);exact⟨_,N,ER (Yn (DE L rfl) (Nat.le_of_ble_eq_true rfl)) O rfl,s.trans P,rfl⟩
end
section
variable{S0 S S':Sto}{A:List Sl}{e:Lo}{F:Fz}{β σ:Type}{ob:β->Ob}{m:ME}
theorem np{p:Option (Option β)}(h:VE A m (rOL ob) p):VE A (m2 (qE true) m (mC .non)) (rV D.bl) (p.bind λo=>some o.isSome):=λv E S0 e F S G=>by
 obtain⟨o,H,I⟩:=Az E;cases I;obtain⟨d,S',s,B,C⟩:=h o H S0 e F S G
 cases o with
 | none=>cases(show d=.non from C);exact⟨_,S',ER s rfl rfl,B,rfl⟩
 | some l=>obtain⟨n,rfl,_⟩:=C;exact⟨_,S',ER s rfl rfl,B,rfl⟩
theorem dj{B:σ->List Sl}{t:MT}{pt:Option Bool}{i:Nat}{v:β}(E:VB A t pt)(hi:A[i]?=some (.y (ob v))):VS A (DG (UH t (AC i) (mC .non))) (rOL ob) (pt.bind λc=>some (.rt (if c=true then some v else none))) B:=λf G S0 e F S l=>by
 obtain⟨c,H,I⟩:=Az G;cases I;obtain⟨s,C,o⟩:=E c H S0 e F S l
 cases c with
 | true=>
  obtain⟨x,J,n,rfl,L,N⟩:=l.sl i _ hi;exact⟨_,s,Ki (d:=.ref n) ((WF C).trans (Lm J)),_,rfl,⟨n,rfl,N,o.at (l.fz _ _ L)⟩,l.kp.trans o⟩
 | false=>exact⟨_,s,Ki (d:=.non) ((WF C).trans rfl),_,rfl,rfl,l.kp.trans o⟩
end
section
variable{S0 S S':Sto}{A:List Sl}{e:Lo}{F:Fz}{α β:Type}{ob:β->Ob}{a m:ME}{enc:α->D}
theorem U2:∀bs:List Bool,Ku (bs.map D.bl)=some bs
 | []=>rfl
 | b :: bs=>by
  rw[BA];unfold Ku;rw[U2 bs];rfl
theorem dr{pl:Option (List Bool)}(s:VE A a (rO (oL D.bl)) pl):VE A (WB a) (rN (oL D.bl)) (pl.bind λl=>some (upB l)):=λv B S0 e F S C=>by
 obtain⟨l,E,G⟩:=Az B;cases G;obtain⟨d,S',H,o,n,rfl,I⟩:=s l E S0 e F S C;refine⟨_,_,?_,o.trans (Keeps.app _ _),_,rfl,o.1,Dx _ _⟩;unfold WB;rw[H];show(match S'[n]? with | some (.lst J)=>(match Ku J with | some bs=>Res.ok (D.ref S'.length) (S'++[Ob.lst ((upB bs).map D.bl)]) | none=>.bad) | _=>.bad)=_;rw[I];show(match Ku (l.map D.bl)with | some bs=>Res.ok (D.ref S'.length) (S'++[Ob.lst ((upB bs).map D.bl)]) | none=>.bad)=_;rw[U2];rfl
theorem je{p:Option (Option β)}(h:VE A m (rOL ob) p):VE A m (rN ob) (p.bind id):=λv s S0 e F S B=>by
 obtain⟨o,C,l⟩:=Az s;have l:o=some v:=l;subst l;exact h _ C S0 e F S B
theorem ba{pl:Option (List (ZLi×α))}(C:VE A a (rO (oDR enc)) pl):VE A (Dv a) (rN (oL (eT D.int))) (pl.bind λl=>Lr (l.map (·.1))):=λv E S0 e F S G=>by
 obtain⟨l,H,o⟩:=Az E;obtain⟨d,S',I,s,n,rfl,J⟩:=C l H S0 e F S G;unfold Lr at o;split at o
 ·rename_i B
  cases o;refine⟨_,_,ID I (d:=.ref n) (ds:=(l.map (·.1)).map (eT D.int)) ?_ (es:=(Ih (l.map (·.1))).map Mc) ?_,s.trans (Keeps.app _ _),_,rfl,s.1,Dx _ _⟩
  ·unfold Jq
   dsimp only;rw[J];show some ((l.map _).map _)=_;rw[BC,BC]
   congr 1
   refine DU λx _=>?_
   show D.tup ((kR x.1).map Xw)=eT D.int x.1;unfold kR eT;rw[BC];rfl
  ·generalize l.map (·.1)=k at B
   cases k with
   | nil=>show some ((Bv []).map D.int)=some ((Ih []).map Mc);rw[Ua];unfold Ih;rw[dL];rfl
   | cons x l=>
    unfold KJ;rw[show JK (JF (eT D.int) (x :: l))=none from rfl,show M9 (JF (eT D.int) (x :: l))=some (x :: l)from SZ _ B]
 ·cases o
end
end L4
namespace L2
open PySem PySem.Spec PyProof.Rows
section
variable{P:Bs}{w:CQ}{K:AG}{mg:Str->Option Value}{base:DS}
theorem Bc{x m}{st}{f}{fd}{N ps}{k n}(F:Fun K x m st f fd)(B:Bk N ps (BG st))(G:ps.length=n){mb}
  (I:∀(o:Value) (A:Ce) (l:List Env) (s:AS) (H:Hp) (E:XK),Ht k (A.deeper (OE m (BG st) s.heap.objs.size f o))->(A.deeper (OE m (BG st) s.heap.objs.size f o)).units+64 < Fj->N.Nodup ->
   GSs (ZW (CXG P w) P w K mg base N m (BG st) f o A l s H E).q noE (JQ st) mb) :
  DD P w K mg base (CXG P w) (k+1) f fd ps (spM K n (Ei N.length mb)):=lY F B G λo A l s H E C=>I o A l s H E C C.units B.nd
end
end L2
namespace M
open PySem PySem.Spec PyProof.Rows L2
noncomputable def top(i:Nat):DZ:=nM.main.body.getD i (.Pass ⟨0,0,0,0⟩)
structure Wd where
 Web:Aa
 Field:Aa
noncomputable def Wd.excs(W:Wd):List Aa:=[]
noncomputable abbrev Jd:DZ:=top 11
noncomputable abbrev Jc:DZ:=top 12
noncomputable abbrev ON:DZ:=MA (top 10) 0
noncomputable abbrev HM:DZ:=top 13
noncomputable abbrev Y1:DZ:=top 14
noncomputable abbrev OL:DZ:=top 16
noncomputable abbrev P8:DZ:=top 17
noncomputable abbrev P7:DZ:=top 18
noncomputable abbrev SU:DZ:=top 19
noncomputable abbrev Y2:DZ:=top 20
noncomputable abbrev M1:DZ:=top 22
noncomputable abbrev P6:DZ:=top 24
noncomputable abbrev IE:DZ:=top 27
noncomputable abbrev OM:DZ:=top 28
noncomputable abbrev M2:DZ:=top 29
noncomputable abbrev FT:DZ:=MA (top 31) 3
noncomputable abbrev FU:DZ:=MA (top 31) 4
noncomputable abbrev Lw:DZ:=MA (top 31) 0
noncomputable abbrev Kh:DZ:=MA (top 31) 1
noncomputable abbrev Jh:DZ:=MA (top 31) 2
noncomputable abbrev Ji:DZ:=MA (top 31) 5
noncomputable abbrev Ke:DZ:=top 33
noncomputable abbrev SV:DZ:=top 32
noncomputable abbrev Vw:DZ:=top 34
noncomputable abbrev Je:DZ:=top 36
noncomputable abbrev Jf:DZ:=top 38
noncomputable abbrev Lv:DZ:=top 39
noncomputable abbrev HN:DZ:=top 40
noncomputable abbrev M3:DZ:=top 41
noncomputable abbrev Kf:DZ:=top 42
noncomputable abbrev M5:DZ:=top 43
noncomputable abbrev M4:DZ:=top 44
noncomputable abbrev Jg:DZ:=top 45
noncomputable abbrev Kg:DZ:=top 46
noncomputable abbrev Iy:DZ:=top 47
noncomputable abbrev Z9:DZ:=top 48
noncomputable def TX(W:Wd):MS:=
  (BH (CT 2 NH)
  (BH (FV (ES (AC 1)) (Ig 2 (Cp (tgN 3) (Cp (tgN 4) JI)))
  (BH (CT 5 (Hr (AR (mQ Qp (AR (AC 3) (AR (AC 4) BL))) (AR (mQ Ul (AR (AC 3) (AR (AC 4) BL))) BL))))
  (BH (sIf (mB (m2 (eqD false) (m2 ixA (AC 5) (mC (.int 0))) (m2 ixA (AC 5) (mC (.int 1))))) SW sNx)
  (BH (sIf (mOr (mB (m2 ltD (m2 ixA (AC 5) (mC (.int 0))) (mC (.int 0)))) (mB (m2 geD (m2 ixA (AC 5) (mC (.int 1))) (AC 0)))) SW sNx)
  (BH (sIf (mB (m2 (inA false) (AC 5) (AC 2))) SW sNx)
  (Cq (AC 2) (AC 5) (mC (.bl true))))))))
  (DG (IG (Dv (AC 2))))))
noncomputable def Hd(W:Wd):List D->Sto->Res D:=Ei 6 (TX W)
noncomputable def NW(W:Wd):MS:=
  (BH (CT 2 (ED (EQ 1 (iR1 (AR (AC 0) BL)) (tgN 0) Gs (ED (Ev BL)))))
  (BH (FV (ES (AC 1)) (Ig 2 (Cp (tgN 3) (Cp (tgN 4) JI)))
  (BH (Ii (RF (m2 ixA (AC 2) (AC 3)) (AC 4)))
  (Ii (RF (m2 ixA (AC 2) (AC 4)) (AC 3)))))
  (DG (IG (ED (EQ 1 (ES (AC 2)) (tgN 0) Gs (IG (Dv (AC 0)))))))))
noncomputable def Ha(W:Wd):List D->Sto->Res D:=Ei 5 (NW W)
noncomputable def TY(W:Wd):MS:=
  (BH (sIf (QJ (mB (m3 leD leD (mC (.int 1)) (AC 1) (mC (.int 60))))) SW sNx)
  (BH (KL W.Web "places" (AC 0) (AC 1))
  (BH (KL W.Web "ties" (AC 0) (Cd 2 (Hd W) (AR (AC 1) (AR (AC 2) BL))))
  (KL W.Web "near_sets" (AC 0) (Cd 2 (Ha W) (AR (AC 1) (AR (EE W.Web "ties" (AC 0)) BL)))))))
noncomputable def MF(W:Wd):List D->Sto->Res D:=Ei 3 (TY W)
noncomputable def Hj(W:Wd):MS:=
  (sIf (QJ (mB (m3 leD ltD (mC (.int 0)) (AC 1) (EE W.Web "places" (AC 0))))) SW sNx)
noncomputable def HZ(W:Wd):List D->Sto->Res D:=Ei 2 (Hj W)
noncomputable def Zb(W:Wd):MS:=
  (BH (Ii (Cd 2 (HZ W) (AR (AC 0) (AR (AC 1) BL))))
  (DG (m2 ixA (EE W.Web "near_sets" (AC 0)) (AC 1))))
noncomputable def ZU(W:Wd):List D->Sto->Res D:=Ei 2 (Zb W)
noncomputable def OZ(W:Wd):MS:=
  (DG (ED (EQ 1 (iR1 (AR (EE W.Web "places" (AC 0)) BL)) (tgN 0) Gs (IG (Dv (m2 Fh (Hr (AR (AC 0) BL)) (Cd 2 (ZU W) (AR (AC 1) (AR (AC 0) BL)))))))))
noncomputable def MC(W:Wd):List D->Sto->Res D:=Ei 1 (OZ W)
noncomputable def QW(W:Wd):MS:=
  (BH (CT 1 (mC (.int 0)))
  (BH (FV (ES (AC 0)) (tgN 2)
  (SX 1 (λa b=>Ck a b) (m2 SN (mC (.int 1)) (AC 2))))
  (DG (AC 1))))
noncomputable def QR(W:Wd):List D->Sto->Res D:=Ei 3 (QW W)
noncomputable def QV(W:Wd):MS:=
  (BH (CT 1 (ED (Ev BL)))
  (BH (CT 2 (AC 0))
  (BH (Iz (GK (AC 2)) (BH (Ii (RF (AC 1) (m2 Q0 (aO (m2 Td (AC 2) (Xr (AC 2)))) (mC (.int 1)))))
  (SX 2 (λa b=>Bg a b) (m2 Q0 (AC 2) (mC (.int 1))))) wN)
  (DG (AC 1)))))
noncomputable def QQ(W:Wd):List D->Sto->Res D:=Ei 3 (QV W)
noncomputable def YA(W:Wd)(l:List D->Sto->Res D):MS:=
  (BH (CT 5 (ED (EQ 1 (ES (m2 ixA (AC 0) (AC 3))) (tgN 0) (RG (GK (m2 Td (m2 XO (AC 2) (AC 0)) (mC (.int 1)))) (mB (m2 (inA true) (AC 0) (AC 5)))) (AC 0))))
  (BH (FV (ES (AC 5)) (tgN 6)
  (sIf (mB (m2 (inA true) (AC 6) (AC 2))) (BH (Cq (AC 2) (AC 6) (AC 3))
  (DG (mC (.bl true)))) sNx))
  (BH (FV (ES (AC 5)) (tgN 6)
  (sIf (mB (m2 (inA true) (AC 6) (AC 4))) (BH (Cq (AC 4) (AC 6) (mC (.bl true)))
  (sIf (GK (Cd 5 l (AR (AC 0) (AR (AC 1) (AR (AC 2) (AR (m2 ixA (AC 2) (AC 6)) (AR (AC 4) BL))))))) (BH (Cq (AC 2) (AC 6) (AC 3))
  (DG (mC (.bl true)))) sNx)) sNx))
  (DG (mC (.bl false))))))
noncomputable def Gr(W:Wd):Nat->List D->Sto->Res D
 | 0=>λ_ _=>.bad
 | n+1=>Ei 7 (YA W (Gr W n))
noncomputable def Zc(W:Wd):MS:=
  (BH (CT 3 Jp)
  (BH (FV (ES (AC 1)) (tgN 4)
  (sIf (GK (m2 Td (m2 XO (AC 2) (AC 4)) (mC (.int 1)))) (Cq (AC 3) (AC 4) (AC 4)) sNx))
  (BH (FV (ES (AC 1)) (tgN 4)
  (sIf (RG (QJ (GK (m2 Td (m2 XO (AC 2) (AC 4)) (mC (.int 1))))) (QJ (GK (Cd 5 (Gr W 9) (AR (AC 0) (AR (AC 2) (AR (AC 3) (AR (AC 4) (AR Jp BL))))))))) (DG (mC (.bl false))) sNx))
  (DG (mC (.bl true))))))
noncomputable def WP(W:Wd):List D->Sto->Res D:=Ei 5 (Zc W)
noncomputable def NU(W:Wd):MS:=
  (DG (IG (ED (EQ 1 (ES (AC 0)) (tgN 0) Gs (UH (mB (m2 (eqD false) (AC 0) (AC 2))) (AC 3) (AC 0))))))
noncomputable def NO(W:Wd):List D->Sto->Res D:=Ei 3 (NU W)
noncomputable def QU(W:Wd):MS:=
  (BH (CT 2 (ED (Ev (AR (Hr BL) BL))))
  (BH (FV (iR1 (AR (AC 1) BL)) (tgN 3)
  (BH (CT 4 (ED (Ev BL)))
  (BH (FV (ES (AC 2)) (tgN 5)
  (BH (CT 6 (UH (GK (AC 5)) (m2 Fh (m2 ixA (AC 5) (Xr (mC (.int 1)))) (mC (.int 1))) (mC (.int 0))))
  (FV (iR2 (AR (AC 6) (AR (m2 Fh (m2 Fh (m2 Q0 (AC 0) (AC 1)) (AC 3)) (mC (.int 1))) BL))) (tgN 7)
  (Ii (RF (AC 4) (m2 Fh (AC 5) (Hr (AR (AC 7) BL))))))))
  (CT 2 (AC 4)))))
  (DG (AC 2))))
noncomputable def QP(W:Wd):List D->Sto->Res D:=Ei 8 (QU W)
noncomputable def IK(W:Wd):MS:=
  (BH (CT 2 (mC (.int 1)))
  (BH (FV (iR1 (AR (AC 1) BL)) (tgN 3)
  (CT 2 (m2 OA (m2 lB (AC 2) (m2 Q0 (AC 0) (AC 3))) (m2 Fh (AC 3) (mC (.int 1))))))
  (DG (AC 2))))
noncomputable def II(W:Wd):List D->Sto->Res D:=Ei 4 (IK W)
noncomputable def Oa(W:Wd):MS:=
  (BH (sIf (QJ (mB (m3 leD leD (mC (.int 1)) (AC 1) (EE W.Web "places" (AC 0))))) SW sNx)
  (DG (Cd 2 (II W) (AR (EE W.Web "places" (AC 0)) (AR (AC 1) BL)))))
noncomputable def MD(W:Wd):List D->Sto->Res D:=Ei 2 (Oa W)
noncomputable def NV(W:Wd):MS:=
  (BH (sIf (mB (m2 gtD (Cd 2 (MD W) (AR (AC 0) (AR (AC 1) BL))) (mC (.int 400)))) SW sNx)
  (DG (Cd 2 (QP W) (AR (EE W.Web "places" (AC 0)) (AR (AC 1) BL)))))
noncomputable def KR(W:Wd):List D->Sto->Res D:=Ei 2 (NV W)
noncomputable def FW(W:Wd):MS:=
  (BH (CT 2 (m2 ixA (EE W.Field "everything" (AC 0)) (AC 1)))
  (BH (CT 3 (mC (.int 0)))
  (BH (FV (ES (AC 2)) (tgN 4)
  (FV (ES (m2 ixA (EE W.Field "takes" (AC 0)) (AC 4))) (tgN 5)
  (sIf (mB (m2 (inA true) (AC 5) (AC 2))) (SX 3 (λa b=>Ck a b) (m2 SN (mC (.int 1)) (m2 ixA (EE W.Field "numbers" (AC 0)) (IG (Dv (Cd 3 (NO W) (AR (AC 2) (AR (AC 4) (AR (AC 5) BL))))))))) sNx)))
  (DG (AC 3)))))
noncomputable def Da(W:Wd):List D->Sto->Res D:=Ei 6 (FW W)
noncomputable def FX(W:Wd):MS:=
  (BH (CT 2 (m2 ixA (EE W.Field "everything" (AC 0)) (AC 1)))
  (BH (CT 3 (mC (.int 0)))
  (BH (FV (NJ (EE W.Field "place_bits" (AC 0))) (Ig 2 (Cp (tgN 4) (Cp (tgN 5) JI)))
  (sIf (GK (Cd 3 (WP W) (AR (EE W.Field "takes" (AC 0)) (AR (AC 2) (AR (AC 5) BL))))) (SX 3 (λa b=>Ck a b) (m2 SN (mC (.int 1)) (AC 4))) sNx))
  (DG (AC 3)))))
noncomputable def Db(W:Wd):List D->Sto->Res D:=Ei 6 (FX W)
noncomputable def Pc(W:Wd):MS:=
  (BH (KL W.Field "everything" (AC 0) (Cd 2 (KR W) (AR (AC 1) (AR (AC 2) BL))))
  (BH (KL W.Field "kind" (AC 0) (AC 3))
  (BH (KL W.Field "takes" (AC 0) (Cd 1 (MC W) (AR (AC 1) BL)))
  (BH (KL W.Field "numbers" (AC 0) NH)
  (BH (KL W.Field "having" (AC 0) (ED (EQ 1 (iR1 (AR (EE W.Web "places" (AC 1)) BL)) (tgN 0) Gs (mC (.int 0)))))
  (BH (FV (NJ (EE W.Field "everything" (AC 0))) (Ig 2 (Cp (tgN 4) (Cp (tgN 5) JI)))
  (BH (Cq (EE W.Field "numbers" (AC 0)) (AC 5) (AC 4))
  (FV (ES (AC 5)) (tgN 6)
  (XW (λa b=>Ck a b) (EE W.Field "having" (AC 0)) (AC 6) (m2 SN (mC (.int 1)) (AC 4))))))
  (BH (KL W.Field "place_bits" (AC 0) (ED (EQ 1 (ES (EE W.Field "everything" (AC 0))) (tgN 0) Gs (Cd 1 (QR W) (AR (AC 0) BL)))))
  (KL W.Field "known" (AC 0) Jp))))))))
noncomputable def Kr(W:Wd):List D->Sto->Res D:=Ei 7 (Pc W)
noncomputable def LM(W:Wd)(ds:List D)(S:Sto)(k:Key):Int:=match ds,k with
 | .ref q :: _,.inl n=>lmI (if qe "kind" q S=some ("one" : Str)then Da W [.ref q,.int n] S else Db W [.ref q,.int n] S)
 | _,_=>0
noncomputable def Hi(W:Wd):List D->Sto->Res D:=lD "known" (LM W) (Kr W)
noncomputable def Ky(W:Wd):MS:=
  (BH (CT 2 (m2 ixA (EE W.Field "everything" (AC 0)) (AC 1)))
  (DG (ED (EQ 1 (iR1 (AR (Me (EE W.Field "takes" (AC 0))) BL)) (tgN 0) (mB (m2 (inA true) (AC 0) (AC 3))) (AC 0)))))
noncomputable def Kq(W:Wd):List D->Sto->Res D:=Ei 3 (Ky W)
noncomputable def J4(W:Wd):MS:=
  (BH (sIf (mB (m2 (inA true) (AC 1) (EE W.Field "known" (AC 0)))) (Cq (EE W.Field "known" (AC 0)) (AC 1) (UH (mB (m2 (eqD false) (EE W.Field "kind" (AC 0)) (mC (.str "one")))) (NG W.Field "linked_by_one" 2 (Da W) (AC 0) (AR (AC 1) BL)) (NG W.Field "linked_by_all" 2 (Db W) (AC 0) (AR (AC 1) BL)))) sNx)
  (DG (m2 ixA (EE W.Field "known" (AC 0)) (AC 1))))
noncomputable def JD(W:Wd):List D->Sto->Res D:=Ei 2 (J4 W)
noncomputable def Hh(W:Wd):List D->Sto->Res D:=mI "known" (JD W)
noncomputable def J5(W:Wd):MS:=
  (DG (m2 Td (NG W.Field "linked" 2 (Hh W) (AC 0) (AR (AC 1) BL)) (m2 ixA (EE W.Field "having" (AC 0)) (AC 2))))
noncomputable def Jy(W:Wd):List D->Sto->Res D:=Ei 3 (J5 W)
noncomputable def Kv(W:Wd):MS:=
  (BH (CT 2 Jp)
  (BH (FV (ES (Cd 1 (QQ W) (AR (AC 1) BL))) (tgN 3)
  (BH (CT 4 (ED (EQ 1 (ES (NG W.Field "calls" 2 (Kq W) (AC 0) (AR (AC 3) BL))) (tgN 0) (mB (m2 (eqD false) (m2 Td (NG W.Field "behind" 3 (Jy W) (AC 1) (AR (AC 4) (AR (AC 0) BL))) (AC 2)) (mC (.int 0)))) (AC 0))))
  (sIf (GK (AC 4)) (Cq (AC 2) (AC 3) (m2 ixA (AC 4) (mC (.int 0)))) sNx)))
  (DG (AC 2))))
noncomputable def IZ(W:Wd):List D->Sto->Res D:=Ei 5 (Kv W)
noncomputable def TW(W:Wd):MS:=
  (BH (CT 1 Jp)
  (BH (CT 2 (m2 Q0 (m2 SN (mC (.int 1)) (Me (EE W.Field "everything" (AC 0)))) (mC (.int 1))))
  (BH (CT 3 (mC (.int 1)))
  (BH (CT 4 (Cd 2 (IZ W) (AR (AC 0) (AR (AC 2) BL))))
  (BH (Iz (GK (AC 4)) (BH (BH (sFz 4) (FV (ah (AC 4)) (tgN 5)
  (BH (Cq (AC 1) (AC 5) (Hr (AR (AC 3) (AR (m2 ixA (AC 4) (AC 5)) BL))))
  (SX 2 (λa b=>E1 a b) (m2 SN (mC (.int 1)) (AC 5))))))
  (BH (SX 3 (λa b=>a+b) (mC (.int 1)))
  (CT 4 (Cd 2 (IZ W) (AR (AC 0) (AR (AC 2) BL)))))) wN)
  (DG (AC 1)))))))
noncomputable def S9(W:Wd):List D->Sto->Res D:=Ei 6 (TW W)
noncomputable def Wa(W:Wd):MS:=
  (BH (CT 3 (Qr W.Field 4 (Hi W) (AR (AC 0) (AR (AC 1) (AR (AC 2) BL)))))
  (BH (CT 4 (Cd 1 (S9 W) (AR (AC 3) BL)))
  (DG (ED (EQ 1 (ES (Dv (AC 4))) (tgN 0) Gs (m2 Fh (Hr (AR (m2 ixA (EE W.Field "everything" (AC 4)) (AC 0)) BL)) (m2 ixA (AC 5) (AC 0))))))))
noncomputable def WQ(W:Wd):List D->Sto->Res D:=Ei 5 (Wa W)
noncomputable def J1(W:Wd):MS:=
  (BH (CT 3 (Cd 3 (WQ W) (AR (AC 0) (AR (AC 1) (AR (AC 2) BL)))))
  (DG (UH (mB (m2 (eqD false) (Me (AC 3)) (Cd 2 (MD W) (AR (AC 0) (AR (AC 1) BL))))) (AC 3) (mC .non))))
noncomputable def He(W:Wd):List D->Sto->Res D:=Ei 4 (J1 W)
noncomputable def J2(W:Wd):MS:=
  (BH (sIf (mB (m2 ltD (AC 1) (Me (AC 0)))) (DG (m2 ixA (AC 0) (AC 1))) sNx)
  (DG (mC (.int 0))))
noncomputable def E5(W:Wd):List D->Sto->Res D:=Ei 2 (J2 W)
noncomputable def MM(W:Wd):MS:=
  (BH (CT 1 (ED (Ev BL)))
  (BH (FV (iR1 (AR (AC 0) BL)) (tgN 2)
  (FV (iR2 (AR (m2 Fh (AC 2) (mC (.int 1))) (AR (AC 0) BL))) (tgN 3)
  (Ii (RF (AC 1) (Hr (AR (AC 2) (AR (AC 3) BL)))))))
  (DG (AC 1))))
noncomputable def JP(W:Wd):List D->Sto->Res D:=Ei 4 (MM W)
noncomputable def Hk(W:Wd):MS:=
  (BH (sIf (mB (m2 (eqD false) (AC 1) (mC (.int 1)))) (DG (ED (EQ 1 (iR1 (AR (m2 Q0 (AC 0) (mC (.int 1))) BL)) (tgN 0) Gs (Hr (AR (AC 0) (AR (m2 Fh (AC 0) (mC (.int 1))) BL)))))) sNx)
  (BH (sIf (mB (m2 (eqD false) (AC 1) (mC (.int 2)))) (DG (m2 Fh (ED (EQ 1 (iR1 (AR (m2 Q0 (AC 0) (mC (.int 1))) BL)) (tgN 0) Gs (Hr (AR (AC 0) (AR (m2 Fh (AC 0) (mC (.int 1))) BL))))) (ED (Ev (AR (Hr (AR (mC (.int 0)) (AR (m2 Q0 (AC 0) (mC (.int 1))) BL))) BL))))) sNx)
  (BH (sIf (mB (m2 (eqD false) (AC 1) (mC (.int 3)))) (DG (Cd 1 (JP W) (AR (AC 0) BL))) sNx)
  (BH (sIf (mB (m2 (eqD false) (AC 1) (mC (.int 4)))) (DG (ED (EQ 1 (iR2 (AR (mC (.int 1)) (AR (AC 0) BL))) (tgN 0) Gs (Hr (AR (mC (.int 0)) (AR (AC 0) BL)))))) sNx)
  (DG (ED (Ev BL)))))))
noncomputable def Hg(W:Wd):List D->Sto->Res D:=Ei 2 (Hk W)
noncomputable def NX(W:Wd):MS:=
  (BH (CT 3 (Cd 1 (JP W) (AR (AC 2) BL)))
  (BH (CT 4 NH)
  (BH (FV (ES (Cd 2 (Hg W) (AR (AC 2) (AR (m2 OS (m2 OA (Cd 2 (E5 W) (AR (AC 0) (AR (mC (.int 0)) BL))) (mC (.int 7))) (mC (.int 6))) BL)))) (tgN 5)
  (Cq (AC 4) (AC 5) (mC (.bl true))))
  (BH (FV (iR2 (AR (AC 1) (AR (mQ Qp (AR (Me (AC 0)) (AR (mC (.int 63)) BL))) BL))) (tgN 6)
  (BH (CT 5 (m2 ixA (AC 3) (m2 OS (m2 ixA (AC 0) (AC 6)) (Me (AC 3)))))
  (Cq (AC 4) (AC 5) (gW (m2 (inA true) (AC 5) (AC 4)) (aN (m2 ixA (AC 4) (AC 5)))))))
  (DG (ED (EQ 1 (ES (AC 3)) (tgN 0) (RG (mB (m2 (inA false) (AC 0) (AC 5))) (GK (m2 ixA (AC 5) (AC 0)))) (AC 0))))))))
noncomputable def NP(W:Wd):List D->Sto->Res D:=Ei 7 (NX W)
noncomputable def Kw(W:Wd):MS:=
  (BH (sIf (mB (m2 (eqD false) (m2 OS (m2 OA (Cd 2 (E5 W) (AR (AC 0) (AR (mC (.int 0)) BL))) (mC (.int 42))) (mC (.int 2))) (mC (.int 0)))) (DG (ED (mN aW (Xq (AC 1))))) sNx)
  (DG (ED (EQ 1 (ag (AC 1)) (tgN 0) Gs (Hr (AR (m2 ixA (AC 0) (mC (.int 1))) (AR (m2 ixA (AC 0) (mC (.int 0))) BL)))))))
noncomputable def Ko(W:Wd):List D->Sto->Res D:=Ei 2 (Kw W)
noncomputable def NZ(W:Wd):MS:=
  (BH (CT 2 (ED (Ev BL)))
  (BH (FV (ES (AC 0)) (tgN 3)
  (sIf (mB (m2 (inA false) (AC 1) (AC 3))) (Ii (RF (AC 2) (m2 Q0 (m2 Fh (m2 ixA (AC 3) (mC (.int 0))) (m2 ixA (AC 3) (mC (.int 1)))) (AC 1)))) sNx))
  (DG (Dv (AC 2)))))
noncomputable def KS(W:Wd):List D->Sto->Res D:=Ei 4 (NZ W)
noncomputable def NY(W:Wd):MS:=
  (BH (CT 2 (ED (Ev (AR (Hr BL) BL))))
  (BH (FV (iR1 (AR (AC 1) BL)) (tgN 3)
  (BH (CT 4 (ED (Ev BL)))
  (BH (FV (ES (AC 2)) (tgN 5)
  (BH (CT 6 (mC (.int 0)))
  (BH (sIf (mB (m2 (eqD true) (AC 5) (Hr BL))) (CT 6 (m2 Fh (m2 ixA (AC 5) (Xr (mC (.int 1)))) (mC (.int 1)))) sNx)
  (Ii (Np (AC 4) (ED (EQ 1 (iR2 (AR (AC 6) (AR (m2 Fh (m2 Fh (m2 Q0 (AC 0) (AC 1)) (AC 3)) (mC (.int 1))) BL))) (tgN 0) Gs (m2 Fh (AC 6) (Hr (AR (AC 0) BL))))))))))
  (CT 2 (AC 4)))))
  (DG (AC 2))))
noncomputable def NQ(W:Wd):List D->Sto->Res D:=Ei 7 (NY W)
noncomputable def J3(W:Wd):MS:=
  (BH (sIf (mB (m2 (eqD false) (AC 3) (mC (.str "one")))) (BH (CT 4 (ED (EQ 1 (iR1 (AR (Me (AC 1)) BL)) (tgN 0) (mB (m2 (inA false) (AC 3) (Cd 2 (KS W) (AR (AC 1) (AR (m2 ixA (AC 2) (AC 0)) BL))))) (AC 0))))
  (DG (Dv (ED (EQ 1 (ES (AC 4)) (tgN 0) Gs (m2 Fh (m2 Fh (PH (AC 2) Uh (Sm (AC 0))) (Hr (AR (AC 3) BL))) (PH (AC 2) (Sm (m2 Fh (AC 0) (mC (.int 1)))) Uh))))))) sNx)
  (BH (CT 5 (ED (Ev (AR (Hr BL) BL))))
  (BH (FV (ES (AC 1)) (tgN 6)
  (BH (CT 7 (m2 Fh (ED (Ev (AR (AC 6) BL))) (Cd 2 (KS W) (AR (AC 0) (AR (AC 6) BL)))))
  (BH (CT 8 (ED (Ev BL)))
  (BH (FV (ES (AC 5)) (tgN 9)
  (Ii (Np (AC 8) (ED (EQ 1 (ES (AC 7)) (tgN 0) (mB (m2 (inA true) (AC 0) (AC 10))) (m2 Fh (AC 10) (Hr (AR (AC 0) BL))))))))
  (CT 5 (AC 8))))))
  (DG (Dv (ED (EQ 1 (ES (AC 5)) (tgN 0) (mB (m2 (inA false) (AC 3) (AC 0))) (AC 0))))))))
noncomputable def Jx(W:Wd):List D->Sto->Res D:=Ei 10 (J3 W)
noncomputable def Kx(W:Wd):MS:=
  (BH (Y3 (m2 ixA (AC 2) (AC 3)) (Ig 2 (Cp (tgN 6) (Cp (tgN 7) JI))))
  (BH (FV (iR1 (AR (AC 6) BL)) (tgN 8)
  (BH (sIf (mOr (mB (m2 (inA false) (AC 7) (AC 3))) (mOr (mB (m2 ltD (AC 7) (mC (.int 0)))) (mB (m2 geD (AC 7) (AC 1))))) (DG (mC (.bl false))) sNx)
  (BH (CT 9 (Cd 4 (Jx W) (AR (AC 0) (AR (AC 3) (AR (AC 7) (AR (AC 5) BL))))))
  (BH (sIf (mB (m2 (eqD false) (AC 9) (ED (Ev BL)))) (DG (mC (.bl true))) sNx)
  (BH (CT 10 (m2 lB (AC 8) (AC 8)))
  (BH (sIf (mB (m2 (eqD true) (AC 4) (ED (Ev BL)))) (CT 10 (m2 Fh (m2 ixA (AC 4) (m2 OS (AC 8) (Me (AC 4)))) (AC 8))) sNx)
  (BH (CT 3 (IG (Dv (m2 ixA (AC 9) (m2 OS (AC 10) (Me (AC 9)))))))
  (BH (CT 11 (AC 6))
  (BH (Y3 (m2 ixA (AC 2) (AC 3)) (Ig 2 (Cp (tgN 6) (Cp (tgN 7) JI))))
  (sIf (mB (m2 geD (AC 6) (AC 11))) (DG (mC (.bl false))) sNx))))))))))
  (DG (mC (.bl false)))))
noncomputable def Kp(W:Wd):List D->Sto->Res D:=Ei 12 (Kx W)
noncomputable def JE(W:Wd):MS:=
  (BH (CT 3 (ED (EQ 1 (iR2 (AR (mC (.int 1)) (AR (m2 Fh (AC 1) (mC (.int 1))) BL))) (tgN 0) Gs (m2 (qE true) (Cd 3 (He W) (AR (AC 1) (AR (AC 0) (AR (AC 3) BL)))) (mC .non)))))
  (BH (sIf (mOr (mB (m2 (eqD true) (AC 3) (WB (AC 3)))) (GK (m2 ixA (AC 3) (Xr (mC (.int 1)))))) (DG (Xr (mC (.int 1)))) sNx)
  (DG (lF (ED (EQ 1 (ES (AC 3)) (tgN 0) Gs (gX (AC 0))))))))
noncomputable def JC(W:Wd):List D->Sto->Res D:=Ei 4 (JE W)
noncomputable def ij(W:Wd):MS:=
  (BH (CT 1 (Cd 2 (E5 W) (AR (AC 0) (AR (mC (.int 0)) BL))))
  (BH (CT 2 (m2 Fh (m2 Fh (mC (.int 2)) (m2 OS (AC 1) (mC (.int 5)))) (gX (m2 (eqD false) (m2 OS (m2 OA (AC 1) (mC (.int 84))) (mC (.int 8))) (mC (.int 1))))))
  (BH (CT 3 (Cd 3 (NP W) (AR (AC 0) (AR (mC (.int 2)) (AR (AC 2) BL)))))
  (BH (CT 4 (Qr W.Web 3 (MF W) (AR (AC 2) (AR (Cd 2 (Ko W) (AR (AC 0) (AR (AC 3) BL))) BL))))
  (BH (CT 5 (Cd 2 (E5 W) (AR (AC 0) (AR (mC (.int 1)) BL))))
  (BH (CT 6 (m2 ixA (ED (Ev (AR (mC (.str "one")) (AR (mC (.str "all")) BL)))) (m2 OS (AC 5) (mC (.int 2)))))
  (BH (CT 7 (Cd 3 (JC W) (AR (AC 4) (AR (AC 2) (AR (AC 6) BL)))))
  (BH (sIf (mB (m2 ltD (AC 7) (mC (.int 1)))) (DG (m2 (eqD false) (AC 7) (mC (.int 0)))) sNx)
  (BH (CT 8 (AC 7))
  (BH (sIf (mB (m2 (eqD false) (m2 OS (m2 OA (AC 5) (mC (.int 2))) (mC (.int 3))) (mC (.int 1)))) (CT 8 (m2 Fh (mC (.int 1)) (m2 OS (m2 OA (AC 5) (mC (.int 6))) (AC 7)))) sNx)
  (BH (CT 9 NH)
  (BH (FV (ES (Cd 3 (He W) (AR (AC 4) (AR (AC 8) (AR (AC 6) BL))))) (Ig 3 (Cp (tgN 10) (Cp (tgN 11) (Cp (tgN 12) JI))))
  (Cq (AC 9) (AC 10) (Hr (AR (AC 11) (AR (AC 12) BL)))))
  (BH (CT 13 (Cd 2 (NQ W) (AR (AC 2) (AR (AC 8) BL))))
  (BH (sIf (mB (m2 (eqD true) (Dv (AC 9)) (AC 13))) (DG (mC (.bl false))) sNx)
  (BH (CT 14 (OT (AC 0) Uh (Sm (mC (.int 63)))))
  (BH (FV (iR1 (AR (Me (AC 13)) BL)) (tgN 15)
  (sIf (QJ (GK (Cd 6 (Kp W) (AR (AC 3) (AR (AC 2) (AR (AC 9) (AR (m2 ixA (AC 13) (AC 15)) (AR (OT (AC 14) (Sm (m2 OS (AC 15) (mC (.int 5)))) Uh) (AR (AC 6) BL))))))))) (DG (mC (.bl false))) sNx))
  (DG (mC (.bl true)))))))))))))))))))
noncomputable def av(W:Wd):List D->Sto->Res D:=Ei 16 (ij W)
set_option genInjectivity false in
structure Txt(K:AG)(mg:Str->Option Value)(W:Wd) where
 d_checked_ties:Dfn K mg "checked_ties" "checked_ties" Jd ["places", "ties"]
 d_near_sets_of:Dfn K mg "near_sets_of" "near_sets_of" Jc ["places", "ties"]
 d_Web_init:Mtd K "__init__" "Web.__init__" ON ["self", "places", "ties"]
 d_refuse_no_place:Dfn K mg "refuse_no_place" "refuse_no_place" HM ["web", "place"]
 d_near:Dfn K mg "near" "near" Y1 ["web", "place"]
 d_takes_of:Dfn K mg "takes_of" "takes_of" OL ["web"]
 d_bits_of:Dfn K mg "bits_of" "bits_of" P8 ["some"]
 d_members:Dfn K mg "members" "members" P7 ["bits"]
 d_settle:Dfn K mg "settle" "settle" SU ["takes", "bits", "holders", "guard", "seen"]
 d_fits:Dfn K mg "fits" "fits" Y2 ["takes", "guards", "bits"]
 d_with_step:Dfn K mg "with_step" "with_step" M1 ["standing", "guard", "place"]
 d_sets_of:Dfn K mg "sets_of" "sets_of" P6 ["places", "size"]
 d_ways_to_choose:Dfn K mg "ways_to_choose" "ways_to_choose" IE ["places", "size"]
 d_how_many:Dfn K mg "how_many" "how_many" OM ["web", "guards"]
 d_standings:Dfn K mg "standings" "standings" M2 ["web", "guards"]
 d_Field_linked_by_one:Mtd K "linked_by_one" "Field.linked_by_one" FT ["self", "number"]
 d_Field_linked_by_all:Mtd K "linked_by_all" "Field.linked_by_all" FU ["self", "number"]
 d_Field_init:Mtd K "__init__" "Field.__init__" Lw ["self", "web", "guards", "kind"]
 d_Field_calls:Mtd K "calls" "Field.calls" Kh ["self", "number"]
 d_Field_linked:Mtd K "linked" "Field.linked" Jh ["self", "number"]
 d_Field_behind:Mtd K "behind" "Field.behind" Ji ["self", "number", "call"]
 d_falling_now:Dfn K mg "falling_now" "falling_now" Ke ["field", "left"]
 d_fallen:Dfn K mg "fallen" "fallen" SV ["field"]
 d_falls:Dfn K mg "falls" "falls" Vw ["web", "guards", "kind"]
 d_caller_paper:Dfn K mg "caller_paper" "caller_paper" Je ["web", "guards", "kind"]
 d__law_cell_at:Dfn K mg "_law_cell_at" "_law_cell_at" Jf ["script", "k"]
 d__law_pairs:Dfn K mg "_law_pairs" "_law_pairs" Lv ["places"]
 d__law_first_ties:Dfn K mg "_law_first_ties" "_law_first_ties" HN ["places", "style"]
 d__law_ties:Dfn K mg "_law_ties" "_law_ties" M3 ["script", "first", "places"]
 d__law_handed:Dfn K mg "_law_handed" "_law_handed" Kf ["script", "ties"]
 d__law_near:Dfn K mg "_law_near" "_law_near" M5 ["ties", "place"]
 d__law_sets:Dfn K mg "_law_sets" "_law_sets" M4 ["places", "guards"]
 d__law_answers:Dfn K mg "_law_answers" "_law_answers" Jg ["ties", "standing", "call", "kind"]
 d__law_beaten:Dfn K mg "_law_beaten" "_law_beaten" Kg ["ties", "places", "told", "standing", "cells", "kind"]
 d__law_greatest:Dfn K mg "_law_greatest" "_law_greatest" Iy ["web", "places", "kind"]
 d_law:Dfn K mg "law" "law" Z9 ["script"]
 c_Web:Own K mg "Web" W.Web d_Web_init.f
 n_Web_places:FY K W.Web "places"
 n_Web_ties:FY K W.Web "ties"
 n_Web_near_sets:FY K W.Web "near_sets"
 c_Field:Own K mg "Field" W.Field d_Field_init.f
 n_Field_everything:FY K W.Field "everything"
 n_Field_kind:FY K W.Field "kind"
 n_Field_takes:FY K W.Field "takes"
 n_Field_numbers:FY K W.Field "numbers"
 n_Field_having:FY K W.Field "having"
 n_Field_place_bits:FY K W.Field "place_bits"
 n_Field_known:FY K W.Field "known"
 m_Field_linked_by_one:Wg K W.Field "linked_by_one" d_Field_linked_by_one.f
 m_Field_linked_by_all:Wg K W.Field "linked_by_all" d_Field_linked_by_all.f
 m_Field_calls:Wg K W.Field "calls" d_Field_calls.f
 m_Field_linked:Wg K W.Field "linked" d_Field_linked.f
 m_Field_behind:Wg K W.Field "behind" d_Field_behind.f
 b_enumerate:mg "enumerate" = none
 b_int:mg "int" = none
 b_len:mg "len" = none
 b_list:mg "list" = none
 b_max:mg "max" = none
 b_min:mg "min" = none
 b_range:mg "range" = none
 b_reversed:mg "reversed" = none
 b_sorted:mg "sorted" = none
 b_sum:mg "sum" = none
 b_tuple:mg "tuple" = none
 g_MOST_PLACES:∃tk,mg "MOST_PLACES" = some (.int 60 tk)
 g_MOST_STANDINGS:∃tk,mg "MOST_STANDINGS" = some (.int 400 tk)
section
variable{P:Bs}{w:CQ}{K:AG}{mg:Str->Option Value}{base:DS}{W:Wd}
theorem Q3:Bk ["places", "ties", "found", "one", "other", "tie"] ["places", "ties"] (BG Jd):=Fg
theorem RB(T:Txt K mg W):DD P w K mg base (CXG P w) 1 T.d_checked_ties.f T.d_checked_ties.fd ["places", "ties"] (spM K 2 (Hd W)):=by
 refine Bc (k:=0) T.d_checked_ties.F Q3 rfl λ_ _ _ _ _ _ o l m=>?_
 exact(AM (CH 2 m PZ)
  (AM (DH (good_none rfl).own rfl (DN (AA (pv 1))) (OX rfl (EU (B0 3 m) (EU (B0 4 m) MB)))
  (AM (CH 5 m (FF (AK (ak rfl rfl T.b_min (AK (AA (pv 3)) (AK (AA (pv 4)) Aq))) (AK (lS rfl rfl T.b_max (AK (AA (pv 3)) (AK (AA (pv 4)) Aq))) Aq))))
  (AM (Dw (Df (Jn l) (DO l (AA (pv 5)) ge_int) (DO l (AA (pv 5)) ge_int) (DV _)) (Af Js) CG)
  (AM (Dw (cZ (ai (Df Xi (DO l (AA (pv 5)) ge_int) ge_int (DV _)) (ZP (Df gB (DO l (AA (pv 5)) ge_int) (AA (pv 0)) (DV _))))) (Af Js) CG)
  (AM (Dw (Uq l (AA (pv 5)) (AA (pv 2))) (Af Js) CG)
  (Af (G1 (Av (B9 (by decide:1<=64) _) l) (AA (pv 2)) (AA (pv 5)) Jw rfl)))))))
  (Af (Bp (Jv rfl T.b_tuple (FO rfl rfl T.b_sorted (AA (pv 2))))))))
theorem Q2:Bk ["places", "ties", "rows", "one", "other"] ["places", "ties"] (BG Jc):=Fg
theorem RA(T:Txt K mg W):DD P w K mg base (CXG P w) 1 T.d_near_sets_of.f T.d_near_sets_of.fd ["places", "ties"] (spM K 2 (Ha W)):=by
 refine Bc (k:=0) T.d_near_sets_of.F Q2 rfl λ_ _ _ _ _ _ o m l=>?_
 exact(AM (PR (i:=2) (own:=["place"]) (N':=["place", "·1", "·2", "·3", "·4", "·5"]) rfl rfl l rfl (by first | exact Oh rfl | exact Nb rfl) (DY (by kernel_rfl)) (EF rfl T.b_range (AK (AA (pv 0)) Aq)) (λ_ _ _ _ _ _=>(B0 0 (by decide +kernel:(["place", "·1", "·2", "·3", "·4", "·5"]:List Str).Nodup))) (λ_ _ _ _ _ _=>ET) (λ_ _ _ _ _ _=>(Cn (Ge Aq))))
  (AM (DH (good_none rfl).own rfl (DN (AA (pv 1))) (OX rfl (EU (B0 3 l) (EU (B0 4 l) MB)))
  (AM (JO (JY (DO m (AA (pv 2)) (AA (pv 3))) (AA (pv 4))))
  (Af (JO (JY (DO m (AA (pv 2)) (AA (pv 4))) (AA (pv 3)))))))
  (Af (Bp (Jv rfl T.b_tuple (Cn (Ep (own:=["row"]) (N':=["row", "·1", "·2", "·3", "·4", "·5"]) rfl (DY (by kernel_rfl)) (DN (AA (pv 2))) (λ_ _ _ _ _ _=>(B0 0 (by decide +kernel:(["row", "·1", "·2", "·3", "·4", "·5"]:List Str).Nodup))) (λ_ _ _ _ _ _=>ET) (λ_ _ _ _ _ _=>(Jv rfl T.b_tuple (FO rfl rfl T.b_sorted (AA (pv 0))))))))))))
theorem XU:Bk ["self", "places", "ties"] ["self", "places", "ties"] (BG ON):=Fg
theorem Xg(T:Txt K mg W):DD P w K mg base (CXG P w) 2 T.d_Web_init.f T.d_Web_init.fd ["self", "places", "ties"] (spM K 3 (MF W)):=by
 refine Bc (k:=1) T.d_Web_init.F XU rfl λ_ _ _ _ _ _ l m o=>?_
 exact(AM (Dw (QN (Sz Xj Xj ge_int (AA (pv 1)) (X2 rfl T.g_MOST_PLACES.choose_spec))) (Af Js) CG)
  (AM (Kk T.c_Web.cl T.n_Web_places (AA (pv 0)) (AA (pv 1)) rfl)
  (AM (Kk T.c_Web.cl T.n_Web_ties (AA (pv 0)) (gcl T.d_checked_ties (RB T) l (AK (AA (pv 1)) (AK (AA (pv 2)) Aq))) rfl)
  (Af (Kk T.c_Web.cl T.n_Web_near_sets (AA (pv 0)) (gcl T.d_near_sets_of (RA T) l (AK (AA (pv 1)) (AK (Dg T.c_Web.cl T.n_Web_ties (AA (pv 0)) rfl) Aq))) rfl)))))
theorem OJ:Bk ["web", "place"] ["web", "place"] (BG HM):=Fg
theorem OP(T:Txt K mg W):DD P w K mg base (CXG P w) 1 T.d_refuse_no_place.f T.d_refuse_no_place.fd ["web", "place"] (spM K 2 (HZ W)):=by
 refine Bc (k:=0) T.d_refuse_no_place.F OJ rfl λ_ _ _ _ _ _ l m o=>?_
 exact(Af (Dw (QN (Sz Xj Xi ge_int (AA (pv 1)) (Dg T.c_Web.cl T.n_Web_places (AA (pv 0)) rfl))) (Af Js) CG))
theorem j9:Bk ["web", "place"] ["web", "place"] (BG Y1):=Fg
theorem kx(T:Txt K mg W):DD P w K mg base (CXG P w) 2 T.d_near.f T.d_near.fd ["web", "place"] (spM K 2 (ZU W)):=by
 refine Bc (k:=1) T.d_near.F j9 rfl λ_ _ _ _ _ _ l m o=>?_
 exact(AM (JO (gcl T.d_refuse_no_place (OP T) l (AK (AA (pv 0)) (AK (AA (pv 1)) Aq))))
  (Af (Bp (DO m (Dg T.c_Web.cl T.n_Web_near_sets (AA (pv 0)) rfl) (AA (pv 1))))))
theorem XS:Bk ["web"] ["web"] (BG OL):=Fg
theorem Xf(T:Txt K mg W):DD P w K mg base (CXG P w) 3 T.d_takes_of.f T.d_takes_of.fd ["web"] (spM K 1 (MC W)):=by
 refine Bc (k:=2) T.d_takes_of.F XS rfl λ_ _ _ _ _ _ l m o=>?_
 exact(Af (Bp (Cn (Ep (own:=["place"]) (N':=["place", "web"]) rfl (DY (by kernel_rfl)) (EF rfl T.b_range (AK (Dg T.c_Web.cl T.n_Web_places (AA (pv 0)) rfl) Aq)) (λ_ _ _ _ _ _=>(B0 0 (by decide +kernel:(["place", "web"]:List Str).Nodup))) (λ_ _ _ _ _ _=>ET) (λ_ _ _ _ _ _=>(Jv rfl T.b_tuple (FO rfl rfl T.b_sorted (BK Dp (FF (AK (AA (pv 0)) Aq)) (gcl T.d_near (kx T) l (AK (AA (pv 1)) (AK (AA (pv 0)) Aq)))))))))))
theorem Y0:Bk ["some", "bits", "place"] ["some"] (BG P8):=Fg
theorem Y9(T:Txt K mg W):DD P w K mg base (CXG P w) 1 T.d_bits_of.f T.d_bits_of.fd ["some"] (spM K 1 (QR W)):=by
 refine Bc (k:=0) T.d_bits_of.F Y0 rfl λ_ _ _ _ _ _ m o l=>?_
 exact(AM (CH 1 l ge_int)
  (AM (DH (good_none rfl).own rfl (DN (AA (pv 0))) (B0 2 l)
  (Af (Ur 1 l ae (BK QE ge_int (AA (pv 2))))))
  (Af (Bp (AA (pv 1))))))
theorem Yz:Bk ["bits", "told", "left"] ["bits"] (BG P7):=Fg
theorem Y8(T:Txt K mg W):DD P w K mg base (CXG P w) 1 T.d_members.f T.d_members.fd ["bits"] (spM K 1 (QQ W)):=by
 refine Bc (k:=0) T.d_members.F Yz rfl λ_ _ _ _ _ _ m o l=>?_
 exact(AM (CH 1 l (Cn (Ge Aq)))
  (AM (CH 2 l (AA (pv 0)))
  (AM (Xz wN (good_none rfl).own (E4 (AA (pv 2))) (AM (JO (JY (AA (pv 1)) (BK Kj (lV (BK QG (AA (pv 2)) (S6 (AA (pv 2))))) ge_int)))
  (Af (Ur 2 l qG (BK Kj (AA (pv 2)) ge_int)))))
  (Af (Bp (AA (pv 1)))))))
theorem bz:Bk ["takes", "bits", "holders", "guard", "seen", "wanted", "place"] ["takes", "bits", "holders", "guard", "seen"] (BG SU):=Fg
theorem Ug(T:Txt K mg W):∀n:Nat,DD P w K mg base (CXG P w) (0+n) T.d_settle.f T.d_settle.fd ["takes", "bits", "holders", "guard", "seen"] (spM K 5 (Gr W n))
 | 0=>qc
 | n+1=>by
  refine Bc (k:=0+n) T.d_settle.F bz rfl λ_ _ _ _ _ _ s l o=>?_
  exact(AM (PR (i:=5) (own:=["place"]) (N':=["place", "·1", "bits", "·3", "·4", "seen", "·6", "·7"]) rfl rfl o rfl (by first | exact Oh rfl | exact Nb rfl) (DY (by kernel_rfl)) (DN (DO l (AA (pv 0)) (AA (pv 3)))) (λ_ _ _ _ _ _=>(B0 0 (by decide +kernel:(["place", "·1", "bits", "·3", "·4", "seen", "·6", "·7"]:List Str).Nodup))) (λ_ _ _ _ _ _=>(Jt (cZ (ZQ (E4 (BK QG (BK ZA (AA (pv 2)) (AA (pv 0))) ge_int)) (WK (Jr l (AA (pv 0)) (AA (pv 5)))))))) (λ_ _ _ _ _ _=>(AA (pv 0))))
  (AM (DH (good_none rfl).own rfl (DN (AA (pv 5))) (B0 6 o)
  (Af (Dw (Jr l (AA (pv 6)) (AA (pv 2))) (AM (G1 (Av (B9 (by decide:1<=64) _) l) (AA (pv 2)) (AA (pv 6)) (AA (pv 3)) rfl)
  (Af (Bp Jw))) CG)))
  (AM (DH (good_none rfl).own rfl (DN (AA (pv 5))) (B0 6 o)
  (Af (Dw (Jr l (AA (pv 6)) (AA (pv 4))) (AM (G1 (Av (B9 (by decide:1<=64) _) l) (AA (pv 4)) (AA (pv 6)) Jw rfl)
  (Af (Dw (E4 (WN (Ug T n) (good_none rfl).pass (s.mono (AJ _)) rfl T.d_settle.m T.d_settle.kp T.d_settle.b (AK (AA (pv 0)) (AK (AA (pv 1)) (AK (AA (pv 2)) (AK (DO l (AA (pv 2)) (AA (pv 6))) (AK (AA (pv 4)) Aq))))))) (AM (G1 (Av (B9 (by decide:1<=64) _) l) (AA (pv 2)) (AA (pv 6)) (AA (pv 3)) rfl)
  (Af (Bp Jw))) CG))) CG)))
  (Af (Bp Jw)))))
theorem kA:Bk ["takes", "guards", "bits", "holders", "guard"] ["takes", "guards", "bits"] (BG Y2):=Fg
theorem kz(T:Txt K mg W):DD P w K mg base (CXG P w) 11 T.d_fits.f T.d_fits.fd ["takes", "guards", "bits"] (spM K 3 (WP W)):=by
 refine Bc (k:=10) T.d_fits.F kA rfl λ_ _ _ _ _ _ o s l=>?_
 exact(AM (CH 3 l NK)
  (AM (DH (good_none rfl).own rfl (DN (AA (pv 1))) (B0 4 l)
  (Af (Dw (E4 (BK QG (BK ZA (AA (pv 2)) (AA (pv 4))) ge_int)) (Af (G1 (Av (B9 (by decide:1<=64) _) s) (AA (pv 3)) (AA (pv 4)) (AA (pv 4)) rfl)) CG)))
  (AM (DH (good_none rfl).own rfl (DN (AA (pv 1))) (B0 4 l)
  (Af (Dw (cZ (ZQ (QN (E4 (BK QG (BK ZA (AA (pv 2)) (AA (pv 4))) ge_int))) (WK (QN (E4 (WN (Ug T 9) (good_none rfl).pass (o.mono (by decide)) rfl T.d_settle.m T.d_settle.kp T.d_settle.b (AK (AA (pv 0)) (AK (AA (pv 2)) (AK (AA (pv 3)) (AK (AA (pv 4)) (AK NK Aq))))))))))) (Af (Bp Jw)) CG)))
  (Af (Bp Jw)))))
theorem Vq:Bk ["standing", "guard", "place"] ["standing", "guard", "place"] (BG M1):=Fg
theorem V5(T:Txt K mg W):DD P w K mg base (CXG P w) 1 T.d_with_step.f T.d_with_step.fd ["standing", "guard", "place"] (spM K 3 (NO W)):=by
 refine Bc (k:=0) T.d_with_step.F Vq rfl λ_ _ _ _ _ _ m l o=>?_
 exact(Af (Bp (Jv rfl T.b_tuple (Cn (Ep (own:=["other"]) (N':=["other", "·1", "guard", "place"]) rfl (DY (by kernel_rfl)) (DN (AA (pv 0))) (λ_ _ _ _ _ _=>(B0 0 (by decide +kernel:(["other", "·1", "guard", "place"]:List Str).Nodup))) (λ_ _ _ _ _ _=>ET) (λ_ _ _ _ _ _=>(PY (Df (Jn l) (AA (pv 0)) (AA (pv 2)) (DV _)) (AA (pv 3)) (AA (pv 0)))))))))
theorem Yy:Bk ["places", "size", "told", "step", "longer", "some", "least", "place"] ["places", "size"] (BG P6):=Fg
theorem Y7(T:Txt K mg W):DD P w K mg base (CXG P w) 1 T.d_sets_of.f T.d_sets_of.fd ["places", "size"] (spM K 2 (QP W)):=by
 refine Bc (k:=0) T.d_sets_of.F Yy rfl λ_ _ _ _ _ _ o m l=>?_
 exact(AM (CH 2 l (Cn (Ge (AK (FF Aq) Aq))))
  (AM (DH (good_none rfl).own rfl (EF rfl T.b_range (AK (AA (pv 1)) Aq)) (B0 3 l)
  (AM (CH 4 l (Cn (Ge Aq)))
  (AM (DH (good_none rfl).own rfl (DN (AA (pv 2))) (B0 5 l)
  (AM (CH 6 l (PY (E4 (AA (pv 5))) (BK Dp (DO m (AA (pv 5)) (S6 ge_int)) ge_int) ge_int))
  (Af (DH (good_none rfl).own rfl (JX rfl T.b_range (AK (AA (pv 6)) (AK (BK Dp (BK Dp (BK Kj (AA (pv 0)) (AA (pv 1))) (AA (pv 3))) ge_int) Aq))) (B0 7 l)
  (Af (JO (JY (AA (pv 4)) (BK Dp (AA (pv 5)) (FF (AK (AA (pv 7)) Aq))))))))))
  (Af (CH 2 l (AA (pv 4)))))))
  (Af (Bp (AA (pv 2))))))
theorem O1:Bk ["places", "size", "ways", "step"] ["places", "size"] (BG IE):=Fg
theorem PB(T:Txt K mg W):DD P w K mg base (CXG P w) 1 T.d_ways_to_choose.f T.d_ways_to_choose.fd ["places", "size"] (spM K 2 (II W)):=by
 refine Bc (k:=0) T.d_ways_to_choose.F O1 rfl λ_ _ _ _ _ _ m o l=>?_
 exact(AM (CH 2 l ge_int)
  (AM (DH (good_none rfl).own rfl (EF rfl T.b_range (AK (AA (pv 1)) Aq)) (B0 3 l)
  (Af (CH 2 l (BK No (BK fy (AA (pv 2)) (BK Kj (AA (pv 0)) (AA (pv 3)))) (BK Dp (AA (pv 3)) ge_int)))))
  (Af (Bp (AA (pv 2))))))
theorem XT:Bk ["web", "guards"] ["web", "guards"] (BG OM):=Fg
theorem Qo(T:Txt K mg W):DD P w K mg base (CXG P w) 2 T.d_how_many.f T.d_how_many.fd ["web", "guards"] (spM K 2 (MD W)):=by
 refine Bc (k:=1) T.d_how_many.F XT rfl λ_ _ _ _ _ _ l m o=>?_
 exact(AM (Dw (QN (Sz Xj Xj ge_int (AA (pv 1)) (Dg T.c_Web.cl T.n_Web_places (AA (pv 0)) rfl))) (Af Js) CG)
  (Af (Bp (gcl T.d_ways_to_choose (PB T) l (AK (Dg T.c_Web.cl T.n_Web_places (AA (pv 0)) rfl) (AK (AA (pv 1)) Aq))))))
theorem Vr:Bk ["web", "guards"] ["web", "guards"] (BG M2):=Fg
theorem V6(T:Txt K mg W):DD P w K mg base (CXG P w) 3 T.d_standings.f T.d_standings.fd ["web", "guards"] (spM K 2 (KR W)):=by
 refine Bc (k:=2) T.d_standings.F Vr rfl λ_ _ _ _ _ _ l m o=>?_
 exact(AM (Dw (Df tW (gcl T.d_how_many (Qo T) l (AK (AA (pv 0)) (AK (AA (pv 1)) Aq))) (X2 rfl T.g_MOST_STANDINGS.choose_spec) (DV _)) (Af Js) CG)
  (Af (Bp (gcl T.d_sets_of (Y7 T) l (AK (Dg T.c_Web.cl T.n_Web_places (AA (pv 0)) rfl) (AK (AA (pv 1)) Aq))))))
theorem Ls:Bk ["self", "number", "standing", "told", "guard", "place"] ["self", "number"] (BG FT):=Fg
theorem L6(T:Txt K mg W):DD P w K mg base (CXG P w) 2 T.d_Field_linked_by_one.f T.d_Field_linked_by_one.fd ["self", "number"] (spM K 2 (Da W)):=by
 refine Bc (k:=1) T.d_Field_linked_by_one.F Ls rfl λ_ _ _ _ _ _ o m l=>?_
 exact(AM (CH 2 l (DO m (Dg T.c_Field.cl T.n_Field_everything (AA (pv 0)) rfl) (AA (pv 1))))
  (AM (CH 3 l ge_int)
  (AM (DH (good_none rfl).own rfl (DN (AA (pv 2))) (B0 4 l)
  (Af (DH (good_none rfl).own rfl (DN (DO m (Dg T.c_Field.cl T.n_Field_takes (AA (pv 0)) rfl) (AA (pv 4)))) (B0 5 l)
  (Af (Dw (Jr m (AA (pv 5)) (AA (pv 2))) (Af (Ur 3 l ae (BK QE ge_int (DO m (Dg T.c_Field.cl T.n_Field_numbers (AA (pv 0)) rfl) (Jv rfl T.b_tuple (FO rfl rfl T.b_sorted (gcl T.d_with_step (V5 T) o (AK (AA (pv 2)) (AK (AA (pv 4)) (AK (AA (pv 5)) Aq)))))))))) CG)))))
  (Af (Bp (AA (pv 3)))))))
theorem Lu:Bk ["self", "number", "standing", "told", "other", "bits"] ["self", "number"] (BG FU):=Fg
theorem L8(T:Txt K mg W):DD P w K mg base (CXG P w) 12 T.d_Field_linked_by_all.f T.d_Field_linked_by_all.fd ["self", "number"] (spM K 2 (Db W)):=by
 refine Bc (k:=11) T.d_Field_linked_by_all.F Lu rfl λ_ _ _ _ _ _ m o l=>?_
 exact(AM (CH 2 l (DO o (Dg T.c_Field.cl T.n_Field_everything (AA (pv 0)) rfl) (AA (pv 1))))
  (AM (CH 3 l ge_int)
  (AM (DH (good_none rfl).own rfl (aj rfl T.b_enumerate (Dg T.c_Field.cl T.n_Field_place_bits (AA (pv 0)) rfl)) (OX rfl (EU (B0 4 l) (EU (B0 5 l) MB)))
  (Af (Dw (E4 (gcl T.d_fits (kz T) m (AK (Dg T.c_Field.cl T.n_Field_takes (AA (pv 0)) rfl) (AK (AA (pv 2)) (AK (AA (pv 5)) Aq))))) (Af (Ur 3 l ae (BK QE ge_int (AA (pv 4))))) CG)))
  (Af (Bp (AA (pv 3)))))))
theorem UC:Bk ["self", "web", "guards", "kind", "number", "standing", "place"] ["self", "web", "guards", "kind"] (BG Lw):=Fg
theorem Sk(T:Txt K mg W):DD P w K mg base (CXG P w) 13 T.d_Field_init.f T.d_Field_init.fd ["self", "web", "guards", "kind"] (spM K 4 (Kr W)):=by
 refine Bc (k:=12) T.d_Field_init.F UC rfl λ_ _ _ _ _ _ l o m=>?_
 exact(AM (Kk T.c_Field.cl T.n_Field_everything (AA (pv 0)) (gcl T.d_standings (V6 T) l (AK (AA (pv 1)) (AK (AA (pv 2)) Aq))) rfl)
  (AM (Kk T.c_Field.cl T.n_Field_kind (AA (pv 0)) (AA (pv 3)) rfl)
  (AM (Kk T.c_Field.cl T.n_Field_takes (AA (pv 0)) (gcl T.d_takes_of (Xf T) l (AK (AA (pv 1)) Aq)) rfl)
  (AM (Kk T.c_Field.cl T.n_Field_numbers (AA (pv 0)) PZ rfl)
  (AM (Kk T.c_Field.cl T.n_Field_having (AA (pv 0)) (Cn (Ep (own:=["place"]) (N':=["place", "·1", "·2", "·3", "·4", "·5", "·6", "·7"]) rfl (DY (by kernel_rfl)) (EF rfl T.b_range (AK (Dg T.c_Web.cl T.n_Web_places (AA (pv 1)) rfl) Aq)) (λ_ _ _ _ _ _=>(B0 0 (by decide +kernel:(["place", "·1", "·2", "·3", "·4", "·5", "·6", "·7"]:List Str).Nodup))) (λ_ _ _ _ _ _=>ET) (λ_ _ _ _ _ _=>ge_int))) rfl)
  (AM (DH (good_none rfl).own rfl (aj rfl T.b_enumerate (Dg T.c_Field.cl T.n_Field_everything (AA (pv 0)) rfl)) (OX rfl (EU (B0 4 m) (EU (B0 5 m) MB)))
  (AM (G1 (Av (B9 (by decide:1<=64) _) o) (Dg T.c_Field.cl T.n_Field_numbers (AA (pv 0)) rfl) (AA (pv 5)) (AA (pv 4)) rfl)
  (Af (DH (good_none rfl).own rfl (DN (AA (pv 5))) (B0 6 m)
  (Af (lL (Dg T.c_Field.cl T.n_Field_having (AA (pv 0)) rfl) (AA (pv 6)) (BK QE ge_int (AA (pv 4))) ae))))))
  (AM (Kk T.c_Field.cl T.n_Field_place_bits (AA (pv 0)) (Cn (Ep (own:=["standing"]) (N':=["standing", "·1", "·2", "·3", "·4", "·5", "·6", "·7"]) rfl (DY (by kernel_rfl)) (DN (Dg T.c_Field.cl T.n_Field_everything (AA (pv 0)) rfl)) (λ_ _ _ _ _ _=>(B0 0 (by decide +kernel:(["standing", "·1", "·2", "·3", "·4", "·5", "·6", "·7"]:List Str).Nodup))) (λ_ _ _ _ _ _=>ET) (λ_ _ _ _ _ _=>(gcl T.d_bits_of (Y9 T) l (AK (AA (pv 0)) Aq))))) rfl)
  (Af (Kk T.c_Field.cl T.n_Field_known (AA (pv 0)) NK rfl)))))))))
theorem UE(T:Txt K mg W):DD P w K mg base (CXG P w) 13 T.d_Field_init.f T.d_Field_init.fd ["self", "web", "guards", "kind"] (spM K 4 (Hi W)):=lZ (Sk T)
theorem SS:Bk ["self", "number", "standing"] ["self", "number"] (BG Kh):=Fg
theorem Si(T:Txt K mg W):DD P w K mg base (CXG P w) 1 T.d_Field_calls.f T.d_Field_calls.fd ["self", "number"] (spM K 2 (Kq W)):=by
 refine Bc (k:=0) T.d_Field_calls.F SS rfl λ_ _ _ _ _ _ o l m=>?_
 exact(AM (CH 2 m (DO l (Dg T.c_Field.cl T.n_Field_everything (AA (pv 0)) rfl) (AA (pv 1))))
  (Af (Bp (Cn (Ep (own:=["place"]) (N':=["place", "·1", "·2", "standing"]) rfl (DY (by kernel_rfl)) (EF rfl T.b_range (AK (Kl rfl T.b_len (Dg T.c_Field.cl T.n_Field_takes (AA (pv 0)) rfl)) Aq)) (λ_ _ _ _ _ _=>(B0 0 (by decide +kernel:(["place", "·1", "·2", "standing"]:List Str).Nodup))) (λ_ _ _ _ _ _=>(Jt (Jr l (AA (pv 0)) (AA (pv 3))))) (λ_ _ _ _ _ _=>(AA (pv 0))))))))
theorem Q7:Bk ["self", "number"] ["self", "number"] (BG Jh):=Fg
theorem QD(T:Txt K mg W):DD P w K mg base (CXG P w) 13 T.d_Field_linked.f T.d_Field_linked.fd ["self", "number"] (spM K 2 (JD W)):=by
 refine Bc (k:=12) T.d_Field_linked.F Q7 rfl λ_ _ _ _ _ _ m l o=>?_
 exact(AM (Dw (Jr l (AA (pv 1)) (Dg T.c_Field.cl T.n_Field_known (AA (pv 0)) rfl)) (Af (G1 (Av (B9 (by decide:1<=64) _) l) (Dg T.c_Field.cl T.n_Field_known (AA (pv 0)) rfl) (AA (pv 1)) (PY (Df (Jn l) (Dg T.c_Field.cl T.n_Field_kind (AA (pv 0)) rfl) WL (DV _)) (PX (AA (pv 0)) T.c_Field.cl T.m_Field_linked_by_one (L6 T) (good_none rfl).pass (m.mono (by decide)) T.d_Field_linked_by_one.b (AK (AA (pv 1)) Aq)) (PX (AA (pv 0)) T.c_Field.cl T.m_Field_linked_by_all (L8 T) (good_none rfl).pass (m.mono (by decide)) T.d_Field_linked_by_all.b (AK (AA (pv 1)) Aq))) rfl)) CG)
  (Af (Bp (DO l (Dg T.c_Field.cl T.n_Field_known (AA (pv 0)) rfl) (AA (pv 1))))))
theorem RD(T:Txt K mg W):DD P w K mg base (CXG P w) 13 T.d_Field_linked.f T.d_Field_linked.fd ["self", "number"] (spM K 2 (Hh W)):=qd (QD T)
theorem Q9:Bk ["self", "number", "call"] ["self", "number", "call"] (BG Ji):=Fg
theorem RE(T:Txt K mg W):DD P w K mg base (CXG P w) 14 T.d_Field_behind.f T.d_Field_behind.fd ["self", "number", "call"] (spM K 3 (Jy W)):=by
 refine Bc (k:=13) T.d_Field_behind.F Q9 rfl λ_ _ _ _ _ _ l m o=>?_
 exact(Af (Bp (BK QG (PX (AA (pv 0)) T.c_Field.cl T.m_Field_linked (RD T) (good_none rfl).pass (l.mono (by decide)) T.d_Field_linked.b (AK (AA (pv 1)) Aq)) (DO m (Dg T.c_Field.cl T.n_Field_having (AA (pv 0)) rfl) (AA (pv 2))))))
theorem SO:Bk ["field", "left", "told", "number", "lost"] ["field", "left"] (BG Ke):=Fg
theorem ND(T:Txt K mg W):DD P w K mg base (CXG P w) 15 T.d_falling_now.f T.d_falling_now.fd ["field", "left"] (spM K 2 (IZ W)):=by
 refine Bc (k:=14) T.d_falling_now.F SO rfl λ_ _ _ _ _ _ l m o=>?_
 exact(AM (CH 2 o NK)
  (AM (DH (good_none rfl).own rfl (DN (gcl T.d_members (Y8 T) l (AK (AA (pv 1)) Aq))) (B0 3 o)
  (AM (PR (i:=4) (own:=["call"]) (N':=["call", "field", "left", "·3", "number", "·5"]) rfl rfl o rfl (by first | exact Oh rfl | exact Nb rfl) (DY (by kernel_rfl)) (DN (PX (AA (pv 0)) T.c_Field.cl T.m_Field_calls (Si T) (good_none rfl).pass (l.mono (by decide)) T.d_Field_calls.b (AK (AA (pv 3)) Aq))) (λ_ _ _ _ _ _=>(B0 0 (by decide +kernel:(["call", "field", "left", "·3", "number", "·5"]:List Str).Nodup))) (λ_ _ _ _ _ _=>(Jt (Df (Jn m) (BK QG (PX (AA (pv 1)) T.c_Field.cl T.m_Field_behind (RE T) (good_none rfl).pass (l.mono (by decide)) T.d_Field_behind.b (AK (AA (pv 4)) (AK (AA (pv 0)) Aq))) (AA (pv 2))) ge_int (DV _)))) (λ_ _ _ _ _ _=>(AA (pv 0))))
  (Af (Dw (E4 (AA (pv 4))) (Af (G1 (Av (B9 (by decide:1<=64) _) m) (AA (pv 2)) (AA (pv 3)) (DO m (AA (pv 4)) ge_int) rfl)) CG))))
  (Af (Bp (AA (pv 2))))))
theorem b9:Bk ["field", "told", "left", "stage", "falling", "number"] ["field"] (BG SV):=Fg
theorem cL(T:Txt K mg W):DD P w K mg base (CXG P w) 16 T.d_fallen.f T.d_fallen.fd ["field"] (spM K 1 (S9 W)):=by
 refine Bc (k:=15) T.d_fallen.F b9 rfl λ_ _ _ _ _ _ m o l=>?_
 exact(AM (CH 1 l NK)
  (AM (CH 2 l (BK Kj (BK QE ge_int (Kl rfl T.b_len (Dg T.c_Field.cl T.n_Field_everything (AA (pv 0)) rfl))) ge_int))
  (AM (CH 3 l ge_int)
  (AM (CH 4 l (gcl T.d_falling_now (ND T) m (AK (AA (pv 0)) (AK (AA (pv 2)) Aq))))
  (AM (Xz wN (good_none rfl).own (E4 (AA (pv 4))) (AM (uI (i:=4) (DH (good_none rfl).own rfl (lO (AA (pv 4))) (B0 5 l)
  (AM (G1 (Av (B9 (by decide:1<=64) _) o) (AA (pv 1)) (AA (pv 5)) (FF (AK (AA (pv 3)) (AK (DO o (AA (pv 4)) (AA (pv 5))) Aq))) rfl)
  (Af (Ur 2 l qF (BK QE ge_int (AA (pv 5))))))))
  (AM (Ur 3 l qH ge_int)
  (Af (CH 4 l (gcl T.d_falling_now (ND T) m (AK (AA (pv 0)) (AK (AA (pv 2)) Aq))))))))
  (Af (Bp (AA (pv 1)))))))))
theorem fH:Bk ["web", "guards", "kind", "field", "gone"] ["web", "guards", "kind"] (BG Vw):=Fg
theorem fx(T:Txt K mg W):DD P w K mg base (CXG P w) 17 T.d_falls.f T.d_falls.fd ["web", "guards", "kind"] (spM K 3 (WQ W)):=by
 refine Bc (k:=16) T.d_falls.F fH rfl λ_ _ _ _ _ _ l o s=>?_
 exact(AM (CH 3 s (am T.c_Field.mk' (UE T) (good_none rfl).pass (l.mono (by decide)) rfl T.c_Field.m T.d_Field_init.b (AK (AA (pv 0)) (AK (AA (pv 1)) (AK (AA (pv 2)) Aq)))))
  (AM (CH 4 s (gcl T.d_fallen (cL T) l (AK (AA (pv 3)) Aq)))
  (Af (Bp (Cn (Ep (own:=["number"]) (N':=["number", "·1", "·2", "·3", "field", "gone"]) rfl (DY (by kernel_rfl)) (DN (FO rfl rfl T.b_sorted (AA (pv 4)))) (λ_ _ _ _ _ _=>(B0 0 (by decide +kernel:(["number", "·1", "·2", "·3", "field", "gone"]:List Str).Nodup))) (λ_ _ _ _ _ _=>ET) (λ_ _ _ _ _ _=>(BK Dp (FF (AK (DO o (Dg T.c_Field.cl T.n_Field_everything (AA (pv 4)) rfl) (AA (pv 0))) Aq)) (DO o (AA (pv 5)) (AA (pv 0)))))))))))
theorem Q4:Bk ["web", "guards", "kind", "paper"] ["web", "guards", "kind"] (BG Je):=Fg
theorem Ma(T:Txt K mg W):DD P w K mg base (CXG P w) 18 T.d_caller_paper.f T.d_caller_paper.fd ["web", "guards", "kind"] (spM K 3 (He W)):=by
 refine Bc (k:=17) T.d_caller_paper.F Q4 rfl λ_ _ _ _ _ _ l m o=>?_
 exact(AM (CH 3 o (gcl T.d_falls (fx T) l (AK (AA (pv 0)) (AK (AA (pv 1)) (AK (AA (pv 2)) Aq)))))
  (Af (Bp (PY (Df (Jn m) (Kl rfl T.b_len (AA (pv 3))) (gcl T.d_how_many (Qo T) l (AK (AA (pv 0)) (AK (AA (pv 1)) Aq))) (DV _)) (AA (pv 3)) g8))))
theorem Q5:Bk ["script", "k"] ["script", "k"] (BG Jf):=Fg
theorem G0(T:Txt K mg W):DD P w K mg base (CXG P w) 1 T.d__law_cell_at.f T.d__law_cell_at.fd ["script", "k"] (spM K 2 (E5 W)):=by
 refine Bc (k:=0) T.d__law_cell_at.F Q5 rfl λ_ _ _ _ _ _ m l o=>?_
 exact(AM (Dw (Df Xi (AA (pv 1)) (Kl rfl T.b_len (AA (pv 0))) (DV _)) (Af (Bp (DO l (AA (pv 0)) (AA (pv 1))))) CG)
  (Af (Bp ge_int)))
theorem UB:Bk ["places", "found", "one", "other"] ["places"] (BG Lv):=Fg
theorem N6(T:Txt K mg W):DD P w K mg base (CXG P w) 1 T.d__law_pairs.f T.d__law_pairs.fd ["places"] (spM K 1 (JP W)):=by
 refine Bc (k:=0) T.d__law_pairs.F UB rfl λ_ _ _ _ _ _ m o l=>?_
 exact(AM (CH 1 l (Cn (Ge Aq)))
  (AM (DH (good_none rfl).own rfl (EF rfl T.b_range (AK (AA (pv 0)) Aq)) (B0 2 l)
  (Af (DH (good_none rfl).own rfl (JX rfl T.b_range (AK (BK Dp (AA (pv 2)) ge_int) (AK (AA (pv 0)) Aq))) (B0 3 l)
  (Af (JO (JY (AA (pv 1)) (FF (AK (AA (pv 2)) (AK (AA (pv 3)) Aq)))))))))
  (Af (Bp (AA (pv 1))))))
theorem OK:Bk ["places", "style"] ["places", "style"] (BG HN):=Fg
theorem OQ(T:Txt K mg W):DD P w K mg base (CXG P w) 2 T.d__law_first_ties.f T.d__law_first_ties.fd ["places", "style"] (spM K 2 (Hg W)):=by
 refine Bc (k:=1) T.d__law_first_ties.F OK rfl λ_ _ _ _ _ _ m l o=>?_
 exact(AM (Dw (Df (Jn l) (AA (pv 1)) ge_int (DV _)) (Af (Bp (Cn (Ep (own:=["k"]) (N':=["k", "·1", "·2"]) rfl (DY (by kernel_rfl)) (EF rfl T.b_range (AK (BK Kj (AA (pv 0)) ge_int) Aq)) (λ_ _ _ _ _ _=>(B0 0 (by decide +kernel:(["k", "·1", "·2"]:List Str).Nodup))) (λ_ _ _ _ _ _=>ET) (λ_ _ _ _ _ _=>(FF (AK (AA (pv 0)) (AK (BK Dp (AA (pv 0)) ge_int) Aq)))))))) CG)
  (AM (Dw (Df (Jn l) (AA (pv 1)) ge_int (DV _)) (Af (Bp (BK Dp (Cn (Ep (own:=["k"]) (N':=["k", "·1", "·2"]) rfl (DY (by kernel_rfl)) (EF rfl T.b_range (AK (BK Kj (AA (pv 0)) ge_int) Aq)) (λ_ _ _ _ _ _=>(B0 0 (by decide +kernel:(["k", "·1", "·2"]:List Str).Nodup))) (λ_ _ _ _ _ _=>ET) (λ_ _ _ _ _ _=>(FF (AK (AA (pv 0)) (AK (BK Dp (AA (pv 0)) ge_int) Aq)))))) (Cn (Ge (AK (FF (AK ge_int (AK (BK Kj (AA (pv 0)) ge_int) Aq))) Aq)))))) CG)
  (AM (Dw (Df (Jn l) (AA (pv 1)) ge_int (DV _)) (Af (Bp (gcl T.d__law_pairs (N6 T) m (AK (AA (pv 0)) Aq)))) CG)
  (AM (Dw (Df (Jn l) (AA (pv 1)) ge_int (DV _)) (Af (Bp (Cn (Ep (own:=["k"]) (N':=["k", "·1", "·2"]) rfl (DY (by kernel_rfl)) (JX rfl T.b_range (AK ge_int (AK (AA (pv 0)) Aq))) (λ_ _ _ _ _ _=>(B0 0 (by decide +kernel:(["k", "·1", "·2"]:List Str).Nodup))) (λ_ _ _ _ _ _=>ET) (λ_ _ _ _ _ _=>(FF (AK ge_int (AK (AA (pv 0)) Aq)))))))) CG)
  (Af (Bp (Cn (Ge Aq))))))))
theorem Vt:Bk ["script", "first", "places", "pairs", "there", "tie", "k"] ["script", "first", "places"] (BG M3):=Fg
theorem V7(T:Txt K mg W):DD P w K mg base (CXG P w) 3 T.d__law_ties.f T.d__law_ties.fd ["script", "first", "places"] (spM K 3 (NP W)):=by
 refine Bc (k:=2) T.d__law_ties.F Vt rfl λ_ _ _ _ _ _ o l m=>?_
 exact(AM (CH 3 m (gcl T.d__law_pairs (N6 T) o (AK (AA (pv 2)) Aq)))
  (AM (CH 4 m PZ)
  (AM (DH (good_none rfl).own rfl (DN (gcl T.d__law_first_ties (OQ T) o (AK (AA (pv 2)) (AK (BK Jm (BK No (gcl T.d__law_cell_at (G0 T) o (AK (AA (pv 0)) (AK ge_int Aq))) ge_int) ge_int) Aq)))) (B0 5 m)
  (Af (G1 (Av (B9 (by decide:1<=64) _) l) (AA (pv 4)) (AA (pv 5)) Jw rfl)))
  (AM (DH (good_none rfl).own rfl (JX rfl T.b_range (AK (AA (pv 1)) (AK (ak rfl rfl T.b_min (AK (Kl rfl T.b_len (AA (pv 0))) (AK ge_int Aq))) Aq))) (B0 6 m)
  (AM (CH 5 m (DO l (AA (pv 3)) (BK Jm (DO l (AA (pv 0)) (AA (pv 6))) (Kl rfl T.b_len (AA (pv 3))))))
  (Af (G1 (Av (B9 (by decide:1<=64) _) l) (AA (pv 4)) (AA (pv 5)) (L2.uJ (g7 l (AA (pv 5)) (AA (pv 4))) (qU (qV (DO l (AA (pv 4)) (AA (pv 5)))))) rfl))))
  (Af (Bp (Cn (Ep (own:=["tie"]) (N':=["tie", "·1", "·2", "·3", "·4", "there", "·6", "·7"]) rfl (DY (by kernel_rfl)) (DN (AA (pv 3))) (λ_ _ _ _ _ _=>(B0 0 (by decide +kernel:(["tie", "·1", "·2", "·3", "·4", "there", "·6", "·7"]:List Str).Nodup))) (λ_ _ _ _ _ _=>(Jt (cZ (ZQ (Uq l (AA (pv 0)) (AA (pv 5))) (WK (E4 (DO l (AA (pv 5)) (AA (pv 0))))))))) (λ_ _ _ _ _ _=>(AA (pv 0)))))))))))
theorem SQ:Bk ["script", "ties"] ["script", "ties"] (BG Kf):=Fg
theorem Sf(T:Txt K mg W):DD P w K mg base (CXG P w) 2 T.d__law_handed.f T.d__law_handed.fd ["script", "ties"] (spM K 2 (Ko W)):=by
 refine Bc (k:=1) T.d__law_handed.F SQ rfl λ_ _ _ _ _ _ m l o=>?_
 exact(AM (Dw (Df (Jn l) (BK Jm (BK No (gcl T.d__law_cell_at (G0 T) m (AK (AA (pv 0)) (AK ge_int Aq))) ge_int) ge_int) ge_int (DV _)) (Af (Bp (lT rfl T.b_list (AA (pv 1))))) CG)
  (Af (Bp (Cn (Ep (own:=["tie"]) (N':=["tie", "·1", "·2"]) rfl (DY (by kernel_rfl)) (qQ rfl T.b_reversed (AA (pv 1))) (λ_ _ _ _ _ _=>(B0 0 (by decide +kernel:(["tie", "·1", "·2"]:List Str).Nodup))) (λ_ _ _ _ _ _=>ET) (λ_ _ _ _ _ _=>(FF (AK (DO l (AA (pv 0)) ge_int) (AK (DO l (AA (pv 0)) ge_int) Aq)))))))))
theorem Vv:Bk ["ties", "place", "found", "tie"] ["ties", "place"] (BG M5):=Fg
theorem PD(T:Txt K mg W):DD P w K mg base (CXG P w) 1 T.d__law_near.f T.d__law_near.fd ["ties", "place"] (spM K 2 (KS W)):=by
 refine Bc (k:=0) T.d__law_near.F Vv rfl λ_ _ _ _ _ _ o l m=>?_
 exact(AM (CH 2 m (Cn (Ge Aq)))
  (AM (DH (good_none rfl).own rfl (DN (AA (pv 0))) (B0 3 m)
  (Af (Dw (Uq l (AA (pv 1)) (AA (pv 3))) (Af (JO (JY (AA (pv 2)) (BK Kj (BK Dp (DO l (AA (pv 3)) ge_int) (DO l (AA (pv 3)) ge_int)) (AA (pv 1)))))) CG)))
  (Af (Bp (FO rfl rfl T.b_sorted (AA (pv 2)))))))
theorem Vu:Bk ["places", "guards", "rows", "k", "longer", "row", "least"] ["places", "guards"] (BG M4):=Fg
theorem V8(T:Txt K mg W):DD P w K mg base (CXG P w) 1 T.d__law_sets.f T.d__law_sets.fd ["places", "guards"] (spM K 2 (NQ W)):=by
 refine Bc (k:=0) T.d__law_sets.F Vu rfl λ_ _ _ _ _ _ o m l=>?_
 exact(AM (CH 2 l (Cn (Ge (AK (FF Aq) Aq))))
  (AM (DH (good_none rfl).own rfl (EF rfl T.b_range (AK (AA (pv 1)) Aq)) (B0 3 l)
  (AM (CH 4 l (Cn (Ge Aq)))
  (AM (DH (good_none rfl).own rfl (DN (AA (pv 2))) (B0 5 l)
  (AM (CH 6 l ge_int)
  (AM (Dw (Df (aJ m) (AA (pv 5)) (FF Aq) (DV _)) (Af (CH 6 l (BK Dp (DO m (AA (pv 5)) (S6 ge_int)) ge_int))) CG)
  (Af (JO (Ut (AA (pv 4)) (Cn (Ep (own:=["place"]) (N':=["place", "·1", "·2", "·3", "·4", "·5", "row", "·7"]) rfl (DY (by kernel_rfl)) (JX rfl T.b_range (AK (AA (pv 6)) (AK (BK Dp (BK Dp (BK Kj (AA (pv 0)) (AA (pv 1))) (AA (pv 3))) ge_int) Aq))) (λ_ _ _ _ _ _=>(B0 0 (by decide +kernel:(["place", "·1", "·2", "·3", "·4", "·5", "row", "·7"]:List Str).Nodup))) (λ_ _ _ _ _ _=>ET) (λ_ _ _ _ _ _=>(BK Dp (AA (pv 6)) (FF (AK (AA (pv 0)) Aq))))))))))))
  (Af (CH 2 l (AA (pv 4)))))))
  (Af (Bp (AA (pv 2))))))
theorem Q6:Bk ["ties", "standing", "call", "kind", "some", "rows", "guard", "steps", "longer", "row"] ["ties", "standing", "call", "kind"] (BG Jg):=Fg
theorem RC(T:Txt K mg W):DD P w K mg base (CXG P w) 2 T.d__law_answers.f T.d__law_answers.fd ["ties", "standing", "call", "kind"] (spM K 4 (Jx W)):=by
 refine Bc (k:=1) T.d__law_answers.F Q6 rfl λ_ _ _ _ _ _ o m l=>?_
 exact(AM (Dw (Df (Jn m) (AA (pv 3)) WL (DV _)) (AM (PR (i:=4) (own:=["k"]) (N':=["k", "ties", "standing", "call", "·4", "·5", "·6", "·7", "·8", "·9", "·10"]) rfl rfl l rfl (by first | exact Oh rfl | exact Nb rfl) (DY (by kernel_rfl)) (EF rfl T.b_range (AK (Kl rfl T.b_len (AA (pv 1))) Aq)) (λ_ _ _ _ _ _=>(B0 0 (by decide +kernel:(["k", "ties", "standing", "call", "·4", "·5", "·6", "·7", "·8", "·9", "·10"]:List Str).Nodup))) (λ_ _ _ _ _ _=>(Jt (Uq m (AA (pv 3)) (gcl T.d__law_near (PD T) o (AK (AA (pv 1)) (AK (DO m (AA (pv 2)) (AA (pv 0))) Aq)))))) (λ_ _ _ _ _ _=>(AA (pv 0))))
  (Af (Bp (FO rfl rfl T.b_sorted (Cn (Ep (own:=["k"]) (N':=["k", "·1", "standing", "call", "·4", "·5", "·6", "·7", "·8", "·9", "·10"]) rfl (DY (by kernel_rfl)) (DN (AA (pv 4))) (λ_ _ _ _ _ _=>(B0 0 (by decide +kernel:(["k", "·1", "standing", "call", "·4", "·5", "·6", "·7", "·8", "·9", "·10"]:List Str).Nodup))) (λ_ _ _ _ _ _=>ET) (λ_ _ _ _ _ _=>(BK Dp (BK Dp (Us (AA (pv 2)) Rh (Rg (AA (pv 0)))) (FF (AK (AA (pv 3)) Aq))) (Us (AA (pv 2)) (Rg (BK Dp (AA (pv 0)) ge_int)) Rh))))))))) CG)
  (AM (CH 5 l (Cn (Ge (AK (FF Aq) Aq))))
  (AM (DH (good_none rfl).own rfl (DN (AA (pv 1))) (B0 6 l)
  (AM (CH 7 l (BK Dp (Cn (Ge (AK (AA (pv 6)) Aq))) (gcl T.d__law_near (PD T) o (AK (AA (pv 0)) (AK (AA (pv 6)) Aq)))))
  (AM (CH 8 l (Cn (Ge Aq)))
  (AM (DH (good_none rfl).own rfl (DN (AA (pv 5))) (B0 9 l)
  (Af (JO (Ut (AA (pv 8)) (Cn (Ep (own:=["place"]) (N':=["place", "·1", "·2", "·3", "·4", "·5", "·6", "·7", "·8", "·9", "row"]) rfl (DY (by kernel_rfl)) (DN (AA (pv 7))) (λ_ _ _ _ _ _=>(B0 0 (by decide +kernel:(["place", "·1", "·2", "·3", "·4", "·5", "·6", "·7", "·8", "·9", "row"]:List Str).Nodup))) (λ_ _ _ _ _ _=>(Jt (Jr m (AA (pv 0)) (AA (pv 10))))) (λ_ _ _ _ _ _=>(BK Dp (AA (pv 10)) (FF (AK (AA (pv 0)) Aq))))))))))
  (Af (CH 5 l (AA (pv 8))))))))
  (Af (Bp (FO rfl rfl T.b_sorted (Cn (Ep (own:=["row"]) (N':=["row", "·1", "·2", "call", "·4", "·5", "·6", "·7", "·8", "·9", "·10"]) rfl (DY (by kernel_rfl)) (DN (AA (pv 5))) (λ_ _ _ _ _ _=>(B0 0 (by decide +kernel:(["row", "·1", "·2", "call", "·4", "·5", "·6", "·7", "·8", "·9", "·10"]:List Str).Nodup))) (λ_ _ _ _ _ _=>(Jt (Uq m (AA (pv 3)) (AA (pv 0))))) (λ_ _ _ _ _ _=>(AA (pv 0)))))))))))
theorem SR:Bk ["ties", "places", "told", "standing", "cells", "kind", "number", "call", "k", "rows", "cell", "last"] ["ties", "places", "told", "standing", "cells", "kind"] (BG Kg):=Fg
theorem Sg(T:Txt K mg W):DD P w K mg base (CXG P w) 3 T.d__law_beaten.f T.d__law_beaten.fd ["ties", "places", "told", "standing", "cells", "kind"] (spM K 6 (Kp W)):=by
 refine Bc (k:=2) T.d__law_beaten.F SR rfl λ_ _ _ _ _ _ o m l=>?_
 exact(AM (gw (DO m (AA (pv 2)) (AA (pv 3))) (OX rfl (EU (B0 6 l) (EU (B0 7 l) MB))))
  (AM (DH (good_none rfl).own rfl (EF rfl T.b_range (AK (AA (pv 6)) Aq)) (B0 8 l)
  (AM (Dw (cZ (ai (Uq m (AA (pv 7)) (AA (pv 3))) (ai (Df Xi (AA (pv 7)) ge_int (DV _)) (ZP (Df gB (AA (pv 7)) (AA (pv 1)) (DV _)))))) (Af (Bp Jw)) CG)
  (AM (CH 9 l (gcl T.d__law_answers (RC T) o (AK (AA (pv 0)) (AK (AA (pv 3)) (AK (AA (pv 7)) (AK (AA (pv 5)) Aq))))))
  (AM (Dw (Df (Jn m) (AA (pv 9)) (Cn (Ge Aq)) (DV _)) (Af (Bp Jw)) CG)
  (AM (CH 10 l (BK fy (AA (pv 8)) (AA (pv 8))))
  (AM (Dw (Df (aJ m) (AA (pv 4)) (Cn (Ge Aq)) (DV _)) (Af (CH 10 l (BK Dp (DO m (AA (pv 4)) (BK Jm (AA (pv 8)) (Kl rfl T.b_len (AA (pv 4))))) (AA (pv 8))))) CG)
  (AM (CH 3 l (Jv rfl T.b_tuple (FO rfl rfl T.b_sorted (DO m (AA (pv 9)) (BK Jm (AA (pv 10)) (Kl rfl T.b_len (AA (pv 9))))))))
  (AM (CH 11 l (AA (pv 6)))
  (AM (gw (DO m (AA (pv 2)) (AA (pv 3))) (OX rfl (EU (B0 6 l) (EU (B0 7 l) MB))))
  (Af (Dw (Df gB (AA (pv 6)) (AA (pv 11)) (DV _)) (Af (Bp Jw)) CG)))))))))))
  (Af (Bp Jw))))
theorem P5:Bk ["web", "places", "kind", "told"] ["web", "places", "kind"] (BG Iy):=Fg
theorem QC(T:Txt K mg W):DD P w K mg base (CXG P w) 19 T.d__law_greatest.f T.d__law_greatest.fd ["web", "places", "kind"] (spM K 3 (JC W)):=by
 refine Bc (k:=18) T.d__law_greatest.F P5 rfl λ_ _ _ _ _ _ m l o=>?_
 exact(AM (PR (i:=3) (own:=["guards"]) (N':=["guards", "web", "·2", "kind", "·4"]) rfl rfl o rfl (by first | exact Oh rfl | exact Nb rfl) (DY (by kernel_rfl)) (JX rfl T.b_range (AK ge_int (AK (BK Dp (AA (pv 1)) ge_int) Aq))) (λ_ _ _ _ _ _=>(B0 0 (by decide +kernel:(["guards", "web", "·2", "kind", "·4"]:List Str).Nodup))) (λ_ _ _ _ _ _=>ET) (λ_ _ _ _ _ _=>(WM k9 (gcl T.d_caller_paper (Ma T) m (AK (AA (pv 1)) (AK (AA (pv 0)) (AK (AA (pv 3)) Aq)))) g8 (DV _))))
  (AM (Dw (cZ (ai (Df (aJ l) (AA (pv 3)) (gz rfl rfl T.b_sorted (AA (pv 3))) (DV _)) (ZP (E4 (DO l (AA (pv 3)) (S6 ge_int)))))) (Af (Bp (S6 ge_int))) CG)
  (Af (Bp (qT rfl rfl T.b_sum (Cn (Ep (own:=["one"]) (N':=["one", "·1", "·2", "·3", "·4"]) rfl (DY (by kernel_rfl)) (DN (AA (pv 3))) (λ_ _ _ _ _ _=>(B0 0 (by decide +kernel:(["one", "·1", "·2", "·3", "·4"]:List Str).Nodup))) (λ_ _ _ _ _ _=>ET) (λ_ _ _ _ _ _=>(ao rfl T.b_int (AA (pv 0)))))))))))
theorem oZ:Bk ["script", "head", "places", "ties", "web", "cell", "kind", "most", "guards", "told", "standing", "number", "call", "some", "cells", "k"] ["script"] (BG Z9):=Fg
theorem pX(T:Txt K mg W):DD P w K mg base (CXG P w) 20 T.d_law.f T.d_law.fd ["script"] (spM K 1 (av W)):=by
 refine Bc (k:=19) T.d_law.F oZ rfl λ_ _ _ _ _ _ o s l=>?_
 exact(AM (CH 1 l (gcl T.d__law_cell_at (G0 T) o (AK (AA (pv 0)) (AK ge_int Aq))))
  (AM (CH 2 l (BK Dp (BK Dp ge_int (BK Jm (AA (pv 1)) ge_int)) (ao rfl T.b_int (WM (Jn s) (BK Jm (BK No (AA (pv 1)) ge_int) ge_int) ge_int (DV _)))))
  (AM (CH 3 l (gcl T.d__law_ties (V7 T) o (AK (AA (pv 0)) (AK ge_int (AK (AA (pv 2)) Aq)))))
  (AM (CH 4 l (am T.c_Web.mk' (Xg T) (good_none rfl).pass (o.mono (by decide)) rfl T.c_Web.m T.d_Web_init.b (AK (AA (pv 2)) (AK (gcl T.d__law_handed (Sf T) o (AK (AA (pv 0)) (AK (AA (pv 3)) Aq))) Aq))))
  (AM (CH 5 l (gcl T.d__law_cell_at (G0 T) o (AK (AA (pv 0)) (AK ge_int Aq))))
  (AM (CH 6 l (DO s (Cn (Ge (AK WL (AK WL Aq)))) (BK Jm (AA (pv 5)) ge_int)))
  (AM (CH 7 l (gcl T.d__law_greatest (QC T) o (AK (AA (pv 4)) (AK (AA (pv 2)) (AK (AA (pv 6)) Aq)))))
  (AM (Dw (Df Xi (AA (pv 7)) ge_int (DV _)) (Af (Bp (WM (Jn s) (AA (pv 7)) ge_int (DV _)))) CG)
  (AM (CH 8 l (AA (pv 7)))
  (AM (Dw (Df (Jn s) (BK Jm (BK No (AA (pv 5)) ge_int) ge_int) ge_int (DV _)) (Af (CH 8 l (BK Dp ge_int (BK Jm (BK No (AA (pv 5)) ge_int) (AA (pv 7)))))) CG)
  (AM (CH 9 l PZ)
  (AM (DH (good_none rfl).own rfl (DN (gcl T.d_caller_paper (Ma T) o (AK (AA (pv 4)) (AK (AA (pv 8)) (AK (AA (pv 6)) Aq))))) (OX rfl (EU (B0 10 l) (EU (B0 11 l) (EU (B0 12 l) MB))))
  (Af (G1 (Av (B9 (by decide:1<=64) _) s) (AA (pv 9)) (AA (pv 10)) (FF (AK (AA (pv 11)) (AK (AA (pv 12)) Aq))) rfl)))
  (AM (CH 13 l (gcl T.d__law_sets (V8 T) o (AK (AA (pv 2)) (AK (AA (pv 8)) Aq))))
  (AM (Dw (Df (aJ s) (FO rfl rfl T.b_sorted (AA (pv 9))) (AA (pv 13)) (DV _)) (Af (Bp Jw)) CG)
  (AM (CH 14 l (X1 (AA (pv 0)) Rh (Rg ge_int)))
  (AM (DH (good_none rfl).own rfl (EF rfl T.b_range (AK (Kl rfl T.b_len (AA (pv 13))) Aq)) (B0 15 l)
  (Af (Dw (QN (E4 (gcl T.d__law_beaten (Sg T) o (AK (AA (pv 3)) (AK (AA (pv 2)) (AK (AA (pv 9)) (AK (DO s (AA (pv 13)) (AA (pv 15))) (AK (X1 (AA (pv 14)) (Rg (BK Jm (AA (pv 15)) ge_int)) Rh) (AK (AA (pv 6)) Aq))))))))) (Af (Bp Jw)) CG)))
  (Af (Bp Jw))))))))))))))))))
end
open PySem L2
open Srt (ltL)
noncomputable def pairD(x:Int×Int):D:=.tup [.int x.1,.int x.2]
noncomputable def nrm(x:Int×Int):Int×Int:=(if x.2 < x.1 then x.2 else x.1,if x.2 > x.1 then x.2 else x.1)
noncomputable def Vy(x:Int×Int):ZLi:=[x.1,x.2]
noncomputable def PP(x:Int×Int):List Key:=[.inl x.1,.inl x.2]
theorem Xx(h:PP x=PP y):x=y:=by
 unfold PP at h;simp at h;exact UR h.1 h.2
theorem OW:∀ns:ZLi,JK (ns.map D.int)=some ns
 | []=>rfl
 | n :: ns=>by
  rw[BA];unfold JK;rw[OW ns];rfl
theorem SY:∀l:List ZLi,(∀r∈l,r≠[])->M9 (l.map Mc)=some l
 | [],_=>rfl
 | [] :: l,h=>zX rfl (h [] AX)
 | (n :: o) :: l,h=>by
  rw[BA];unfold Mc M9;rw[OW,show JF (λr:ZLi=>D.tup (r.map D.int)) l=l.map Mc from rfl,SY l λr m=>h r (AN _ m)]
theorem Yu(l:List ZLi)(h:∀r∈l,r≠[]):KJ (l.map Mc)=some ((Ih l).map Mc):=by
 unfold KJ
 cases l with
 | nil=>simp[JK,Ih]
 | cons r l=>
  have:JK ((r :: l).map Mc)=none:=rfl;rw[this,SY _ h]
theorem Yv(ns:ZLi):KJ (ns.map D.int)=some ((Bv ns).map D.int):=by
 unfold KJ;rw[OW]
noncomputable def NE(ps:List ZPi):List (List Key×D):=ps.map λx=>(PP (nrm x),.bl true)
theorem gU(ps:List ZPi)(x:Int×Int):(Al (NE ps) (PP (nrm x))).isSome=decide (nrm x∈ps.map nrm):=by
 unfold Al NE
 induction ps with
 | nil=>rfl
 | cons y ps l=>
  rw[BA,CY]
  by_cases e:PP (nrm y)=PP (nrm x)
  ·rw[wX e]
   simp[Xx e]
  ·rw[wY e]
   have m:nrm x≠nrm y:=λz=>e (by rw[z])
   simp only[BA,Ae,m,false_or];exact l
theorem gR(ps:List ZPi)(x:Int×Int)(h:nrm x∉ps.map nrm):CJ (NE ps) (PP (nrm x)) (.bl true)=NE (ps++[x]):=by
 unfold CJ;rw[qY]
 ·simp[NE]
 ·intro z
  obtain⟨y,l,e⟩:=E8.mp z;obtain⟨a,m,rfl⟩:=BF.mp l;exact h (by rw[<-Xx (of_decide_eq_true e)];exact bS m)
theorem t9(h:S[n]?=some (.dT l))(neg:Bool):inA neg (pairD x) (.ref n) S=.ok (.bl (if neg then !(Al l (PP x)).isSome else(Al l (PP x)).isSome)) S:=by
 show Jl (inD neg (pairD x) (.ref n) S) (N0 neg (pairD x) (.ref n) S)=_
 have e:inD neg (pairD x) (.ref n) S=.bad:=by
  unfold inD Gc;dsimp only;rw[h]
 have m:Mg (.ref n) (pairD x) S=some (Al l (PP x)):=by
  unfold Mg pairD;dsimp only;rw[h];rfl
 rw[e];show N0 neg (pairD x) (.ref n) S=_;unfold N0;rw[m]
theorem iP(m:mv e S=.ok v S)(ho:mo e S=.ok (.ref d) S)(hi:mi e S=.ok (pairD x) S)(h:S[d]?=some (.dT l))(o:l.length < sizeLine) :
  Cq mo mi mv e S=.ok (.nx e) (S.set d (.dT (CJ l (PP x) v))):=by
 unfold Cq;rw[m];dsimp only[Res.lift];rw[ho];dsimp only[Res.lift];rw[hi];dsimp only[Res.lift]
 have:QT (.ref d) (pairD x) v S=some (S.set d (.dT (CJ l (PP x) v))):=by
  unfold QT pairD;dsimp only;rw[h];show(if l.length < sizeLine then some (S.set d (.dT (CJ l (PP x) v)))else none)=_;rw[qX o]
 rw[this]
theorem ix0(x:Int×Int)(S:Sto):ixA (pairD x) (.int 0) S=.ok (.int x.1) S:=rfl
theorem ix1(x:Int×Int)(S:Sto):ixA (pairD x) (.int 1) S=.ok (.int x.2) S:=rfl
noncomputable def Fit(p:Int)(x:Int×Int):Prop:=(nrm x).1≠(nrm x).2/\0<=(nrm x).1/\(nrm x).2 < p
noncomputable abbrev qz(W:Wd):MS:=BH (CT 5 (Hr (AR (mQ Qp (AR (AC 3) (AR (AC 4) BL))) (AR (mQ Ul (AR (AC 3) (AR (AC 4) BL))) BL))))
  (BH (sIf (mB (m2 (eqD false) (m2 ixA (AC 5) (mC (.int 0))) (m2 ixA (AC 5) (mC (.int 1))))) SW sNx)
  (BH (sIf (mOr (mB (m2 ltD (m2 ixA (AC 5) (mC (.int 0))) (mC (.int 0)))) (mB (m2 geD (m2 ixA (AC 5) (mC (.int 1))) (AC 0)))) SW sNx)
  (BH (sIf (mB (m2 (inA false) (AC 5) (AC 2))) SW sNx)
  (Cq (AC 2) (AC 5) (mC (.bl true))))))
theorem V9(h:t e S=.ok false S):sIf t a sNx e S=.ok (.nx e) S:=(Hz (a:=a) (b:=sNx) h).trans rfl
theorem ee(l:S[n]?=some (.dT (NE ps)))(o:ps.length<=100000)(s:Fit p x)(m:nrm x∉ps.map nrm) :
  qz W [sI p,some t,sR n,sI x.1,sI x.2,z5] S=oN [sI p,some t,sR n,sI x.1,sI x.2,some (pairD (nrm x))] (S.set n (.dT (NE (ps++[x])))):=by
 have A:CT 5 (Hr (AR (mQ Qp (AR (AC 3) (AR (AC 4) BL))) (AR (mQ Ul (AR (AC 3) (AR (AC 4) BL))) BL))) [sI p,some t,sR n,sI x.1,sI x.2,z5] S =
   oN [sI p,some t,sR n,sI x.1,sI x.2,some (pairD (nrm x))] S:=
  M0 (i:=5) (Yn (ds:=[.int (nrm x).1,.int (nrm x).2]) (DE (oh (ds:=[.int x.1,.int x.2]) (S1:=S) rfl rfl) (DE (oh (ds:=[.int x.1,.int x.2]) (S1:=S) rfl rfl) rfl)) (by simp))
 obtain⟨B,C,E⟩:=s;refine(CP A).trans ((CP (V9 (Wh (ER (ER rfl rfl (ix0 _ _)) (ER rfl rfl (ix1 _ _)) (ql (wY B)))))).trans ((CP (V9 ((ft (Wh (ER (ER rfl rfl (ix0 _ _)) rfl (pq (wY (by lia)))))).trans (Wh (ER (ER rfl rfl (ix1 _ _)) rfl (qW (wY (by lia)))))))).trans ((CP (V9 (Wh (ER rfl rfl ?_)))).trans ?_)))
 ·rw[t9 l,gU,wY m]
  rfl
 ·rw[iP (x:=nrm x) rfl rfl rfl l (by unfold NE;rw[AD];exact Av o (by decide)),gR _ _ m]
theorem cW(h:m e S=.ok d S1)(l:Fy d S1=some xs):ES m e S=.ok (Fy d) S1:=by
 unfold ES;rw[h];dsimp only[Res.bind];rw[l]
noncomputable def GN(p:Int)(ps:List ZPi):Prop:=(∀x∈ps,Fit p x)/\(ps.map nrm).Nodup
theorem GN.snoc:GN p (ps++[x])↔GN p ps/\Fit p x/\nrm x∉ps.map nrm:=by
 unfold GN;rw[CW,D1]
 constructor
 ·rintro⟨m,o,A,s⟩
  exact⟨⟨λy l=>m y (by simp[l]),o⟩,m x (by simp),λz=>s _ z _ (by simp) rfl⟩
 ·rintro⟨⟨m,o⟩,A,s⟩
  refine⟨λy l=>?_,o,by simp,λa B b hb e=>?_⟩
  ·rcases Ay.mp l with l | l
   ·exact m y l
   ·rw[Ad.mp l];exact A
  ·simp at hb
   subst hb;subst e;exact s B
theorem GN.take(h:GN p ps)(i:Nat):GN p (ps.take i):=by
 refine⟨λx l=>h.1 x (List.mem_of_mem_take l),?_⟩;rw[nP];exact h.2.sublist (dU _ _)
theorem take_snoc{m:Type}{l:List m}{i:Nat}{x:m}(h:l[i]?=some x):l.take (i+1)=l.take i++[x]:=by
 rw[Ft,h];rfl
theorem WV(W:Wd){p:Int}{d:D}{S:Sto}{ps:List ZPi}(C:∀l,Keeps S l->Fy d l=some (ps.map pairD))(J:ps.length<=90000)(G:GN p ps) :
  ∃o s z5,FV (ES (AC 1)) (Ig 2 (Cp (tgN 3) (Cp (tgN 4) JI))) (qz W) [sI p,some d,sR S.length,none,none,none] (S++[.dT []])=oN [sI p,some d,sR S.length,o,s,z5] (S++[.dT (NE ps)]):=by
 rw[Km (cW (m:=AC 1) (d:=d) (S1:=S++[.dT []]) rfl (C _ (Keeps.app _ _)))]
 obtain⟨f,l,h,o,s,z5,rfl,rfl⟩:=NM (v:=Fy d) (g:=Ig 2 (Cp (tgN 3) (Cp (tgN 4) JI))) (b:=qz W) (xs:=ps.map pairD) (e:=[sI p,some d,sR S.length,none,none,none]) (S:=S++[.dT []]) (λi e l=>(∃o s z5,e=[sI p,some d,sR S.length,o,s,z5])/\l=S++[.dT (NE (ps.take i))]) (λf l=>∃o s z5,f=.nx [sI p,some d,sR S.length,o,s,z5]/\l=S++[.dT (NE ps)]) ⟨⟨none,none,none,rfl⟩,by simp[NE]⟩ (by rintro i e l ⟨_,rfl⟩;exact C _ (Keeps.app _ _))
  (by
   rintro i y e l A ⟨⟨o,s,z5,rfl⟩,rfl⟩;rw[Ai]at A
   cases B:ps[i]? with
   | none=>rw[B]at A;cases A
   | some x=>
    rw[B]at A;cases A;have L:=(AF.mp B).1;have E:=G.take (i+1);rw[take_snoc B]at E;obtain⟨_,H,I⟩:=GN.snoc.mp E;refine⟨[sI p,some d,sR S.length,sI x.1,sI x.2,z5],_,rfl,_,_,ee (W:=W) (p:=p) (t:=d) (z5:=z5) (x:=x) (Dx S (.dT (NE (ps.take i)))) (by rw[Dk];lia) H I,⟨_,_,_,rfl⟩,?_⟩;rw[take_snoc B]
    simp)
  (by
   rintro e l ⟨⟨o,s,z5,rfl⟩,rfl⟩;rw[AD,MR]
   exact⟨_,_,_,rfl,rfl⟩)
 exact⟨o,s,z5,h⟩
noncomputable def Lp(ps:List ZPi):List ZLi:=Ih (ps.map λx=>Vy (nrm x))
theorem WW(W:Wd){p:Int}{d:D}{S:Sto}{ps:List ZPi}(l:∀S',Keeps S S'->Fy d S'=some (ps.map pairD))(o:ps.length<=90000)(s:GN p ps) :
  ∃S',Hd W [.int p,d] S=.ok (.tup ((Lp ps).map Mc)) S'/\Keeps S S':=by
 obtain⟨A,B,C,E⟩:=WV W l o s
 ·have G:Jq (.ref S.length) (S++[.dT (NE ps)])=some ((ps.map λx=>Vy (nrm x)).map Mc):=by
   unfold Jq;dsimp only;rw[Dx];dsimp only;unfold NE;rw[BC,BC];rfl
  have H:=ID (m:=AC 2) (e:=[sI p,some d,sR S.length,A,B,C]) (S:=S++[.dT (NE ps)]) rfl G (Yu _ (by intro r I;obtain⟨x,_,rfl⟩:=BF.mp I;simp[Vy]));refine⟨S++[.dT (NE ps)]++[.lst ((Lp ps).map Mc)],M6 ?_,(Keeps.app S _).trans (Keeps.app _ _)⟩;refine IN (CP (e:=[sI p,some d,none,none,none,none]) (e1:=[sI p,some d,sR S.length,none,none,none]) (S:=S) (S1:=S++[.dT []]) rfl) ?_;refine IN (CP E) ?_;exact Ki (Oy H (HK (Dx _ _)))
open PySem L2
noncomputable def DM(ts:List ZPi)(x:Nat):ZLi:=ts.flatMap λt=>(if t.1=(x:Int)then[t.2]else[])++(if t.2=(x:Int)then[t.1]else[])
theorem Xm(ts:List ZPi)(t:Int×Int)(x:Nat):DM (ts++[t]) x=DM ts x++((if t.1=(x:Int)then[t.2]else[])++(if t.2=(x:Int)then[t.1]else[])):=by
 unfold DM;rw[bU];simp
noncomputable def HP(p:Nat)(F:Nat->ZLi):Sto:=(D4 p).map λx=>Ob.lst ((F x).map D.int)
noncomputable def GB(k p:Nat):List D:=(D4 p).map λx=>D.ref (k+x)
noncomputable def stN(S:Sto)(p:Nat)(F:Nat->ZLi):Sto:=S++HP p F++[.lst (GB S.length p)]
theorem Jj(p:Nat)(F:Nat->ZLi):(HP p F).length=p:=by simp[HP]
theorem Vl(S:Sto)(p:Nat)(F:Nat->ZLi):(stN S p F).length=S.length+p+1:=by simp[stN,Jj];lia
theorem P1(S:Sto)(p:Nat)(F:Nat->ZLi):Keeps S (stN S p F):=(Keeps.app S _).trans (Keeps.app _ _)
theorem Mz(S:Sto)(p:Nat)(F:Nat->ZLi):(stN S p F)[S.length+p]?=some (.lst (GB S.length p)):=by
 have:S.length+p=(S++HP p F).length:=by simp[Jj]
 unfold stN;rw[this];exact Dx _ _
theorem Lq(S:Sto)(F:Nat->ZLi)(h:a < p):(stN S p F)[S.length+a]?=some (.lst ((F a).map D.int)):=by
 unfold stN;rw[Bu,Bj (by lia),Ap (by rw[Jj];lia),show S.length+a - S.length=a by lia];unfold HP;rw[Ai,E6 h];rfl
theorem Z8(S:Sto)(F:Nat->ZLi)(l:ZLi)(h:a < p):(stN S p F).set (S.length+a) (.lst (l.map D.int))=stN S p (λx=>if x=a then l else F x):=by
 apply Hv
 intro j
 by_cases e:S.length+a=j
 ·subst e
  rw[As (by rw[Vl];lia),Lq _ _ h,qX rfl]
 ·rw[Ah e]
  by_cases m:j < S.length
  ·rw[(P1 S p F).2 j m,(P1 S p _).2 j m]
  by_cases o:j - S.length < p
  ·have s:j=S.length+(j - S.length):=by lia
   rw[s,Lq S F o,Lq S _ o,qY (by lia)]
  by_cases A:j=S.length+p
  ·subst A
   rw[Mz,Mz]
  ·rw[CL (by rw[Vl];lia),CL (by rw[Vl];lia)]
theorem aY(F:Nat->ZLi)(h:a < p):ixA (.ref (S.length+p)) (.int a) (stN S p F)=.ok (.ref (S.length+a)) (stN S p F):=by
 show Jl (ixD _ _ _) _=_;have l:Gc (.ref (S.length+p)) (stN S p F)=some (GB S.length p):=HK (Mz S p F)
 have m:atI (GB S.length p) (a:Int)=some (.ref (S.length+a)):=by
  unfold atI ixN;rw[show(GB S.length p).length=p by simp[GB],qX (by lia),qX (by lia)];simp only[AE,A9];unfold GB;rw[Ai,E6 h];rfl
 have:ixD (.ref (S.length+p)) (.int a) (stN S p F)=.ok (.ref (S.length+a)) (stN S p F):=by
  unfold ixD;rw[l];dsimp only;rw[m]
 rw[this];rfl
theorem fB(S:Sto):∀p:Nat,S++HP (p+1) (λ_=>[])=S++HP p (λ_=>[])++[.lst []]:=λp=>by
 unfold HP;rw[Tf,CW,Bu];rfl
theorem cB(G:p<=60)(C:mp e S=.ok (.int p) S) :
  EQ 1 (iR1 (AR mp BL)) (tgN 0) Gs (ED (Ev BL)) e S=.ok (GB S.length p) (S++HP p λ_=>[]):=by
 have s:iR1 (AR mp BL) e S=.ok (Hw (Jk 0 p)) S:=by
  have:=gp (ml:=AR mp BL) (e:=e) (S:=S) (S1:=S) (j:=p) (DE C rfl) (by lia) (by lia);simpa using this
 obtain⟨r,S1,A,o,⟨z,_⟩,rfl,rfl⟩:=bD (v:=Hw (Jk 0 p)) (g:=tgN 0) (c:=Gs) (m:=ED (Ev BL)) (xs:=Jk 0 p) (e:=none :: e) (S:=S)
  (λi o B l=>(∃z,o=z :: e)/\B=S++HP i (λ_=>[])/\l=GB S.length i)
  ⟨⟨none,rfl⟩,by simp[HP],rfl⟩ (λ_ _ _ _ _=>rfl)
  (by
   rintro i d o B l E ⟨⟨z,rfl⟩,rfl,rfl⟩;obtain⟨s,rfl⟩:=fM E;refine⟨by simp[GB];exact Av (m:=60) (by lia) (by decide),some (.int (0+i)) :: e,_,rfl,true,_,rfl,.inl ⟨rfl,.ref (S++HP i λ_=>[]).length,_,rfl,⟨_,rfl⟩,(fB S i).symm,?_⟩⟩;unfold GB;rw[Tf,CW,AZ,Jj]
   rfl)
 rw[cD]at A;exact(WT s).trans A
noncomputable abbrev bG:MS:=BH (Ii (RF (m2 ixA (AC 2) (AC 3)) (AC 4))) (Ii (RF (m2 ixA (AC 2) (AC 4)) (AC 3)))
noncomputable def In(p:Nat)(t:Int×Int):Prop:=0<=t.1/\t.1 < p/\0<=t.2/\t.2 < p/\t.1≠t.2
theorem cA(l:In p t)(I:∀x,(F x).length < 200000) :
  bG [some m,some d1,sR (S.length+p),sI t.1,sI t.2] (stN S p F)=.ok (.nx [some m,some d1,sR (S.length+p),sI t.1,sI t.2])
   (stN S p λx=>F x++((if t.1=(x:Int)then[t.2]else[])++(if t.2=(x:Int)then[t.1]else[]))):=by
 obtain⟨a,s⟩:∃a:Nat,t.1=a:=⟨t.1.toNat,by have:=l.1;lia⟩
 obtain⟨b,hb⟩:∃b:Nat,t.2=b:=⟨t.2.toNat,by have:=l.2.2.1;lia⟩
 obtain⟨_,A,_,O,J⟩:=l
 have L:a≠b:=λe=>J (by rw[s,hb,e])
 rw[s,hb]
 have B:∀x,((F x).map D.int).length < sizeLine:=λx=>by rw[AD];exact rp (I x) (by decide)
 have C:=Ze (mo:=m2 ixA (AC 2) (AC 3)) (ma:=AC 4) (e:=[some m,some d1,sR (S.length+p),sI a,sI b]) (S:=stN S p F) (S1:=stN S p F) (S2:=stN S p F) (n:=S.length+a) (y:=.int b) (ER rfl rfl (aY F (by lia))) (Lq S F (by lia)) rfl (Lq S F (by lia)) (B a);rw[show(F a).map D.int++[D.int b]=(F a++[(b:Int)]).map D.int by simp,Z8 S F _ (by lia)]at C
 have E:(stN S p λx=>if x=a then F a++[(b:Int)]else F x)[S.length+b]?=some (.lst ((F b).map D.int)):=by
  rw[Lq S _ (by lia),qY (Ch L)]
 have G:=Ze (mo:=m2 ixA (AC 2) (AC 4)) (ma:=AC 3) (e:=[some m,some d1,sR (S.length+p),sI a,sI b]) (S:=stN S p λx=>if x=a then F a++[(b:Int)]else F x) (S1:=stN S p λx=>if x=a then F a++[(b:Int)]else F x) (S2:=stN S p λx=>if x=a then F a++[(b:Int)]else F x) (n:=S.length+b) (y:=.int a) (ER rfl rfl (aY _ (by lia))) E rfl E (B b);rw[show(F b).map D.int++[D.int a]=(F b++[(a:Int)]).map D.int by simp,Z8 S _ _ (by lia)]at G;unfold bG;rw[CP (Pb C),Pb G]
 congr 2
 funext x
 by_cases o:x=b
 ·subst o
  have:¬((a:Int)=(x:Int)):=by lia
  simp[this]
 ·by_cases H:x=a
  ·subst H
   have:¬((b:Int)=(x:Int)):=by lia
   simp[o,this]
  ·have N:¬((a:Int)=(x:Int)):=by lia
   have A:¬((b:Int)=(x:Int)):=by lia
   simp[o,H,N,A]
theorem ZD(ts:List ZPi)(x:Nat):(DM ts x).length<=2 * ts.length:=by
 unfold DM
 induction ts with
 | nil=>simp
 | cons t ts l=>
  rw[LC,AZ,At]
  have:((if t.1=(x:Int)then[t.2]else[])++(if t.2=(x:Int)then[t.1]else[])).length<=2:=by split <;> split <;> simp
  lia
noncomputable def P4(p:Nat)(ts:List ZPi):List D:=(D4 p).map λx=>.tup ((Bv (DM ts x)).map D.int)
theorem lA(W:Wd)(L:p<=60)(N:∀t∈ts,In p t)(O:ts.length<=90000)(S:Sto) :
  ∃S',Ha W [.int p,.tup (ts.map pairD)] S=.ok (.tup (P4 p ts)) S'/\Keeps S S':=by
 have H:=M0 (i:=2) (ZC (cB L (mp:=AC 0) (e:=[sI p,some (.tup (ts.map pairD)),none,none,none]) (S:=S) rfl));have P:(S++HP p λ_=>[])++[.lst (GB S.length p)]=stN S p (DM []):=rfl
 have Q:(S++HP p λ_=>[]).length=S.length+p:=by simp[Jj]
 rw[P,Q]at H
 obtain⟨f,S1,R,⟨l,o,rfl⟩,rfl⟩:=NM (v:=Hw (ts.map pairD)) (g:=Ig 2 (Cp (tgN 3) (Cp (tgN 4) JI))) (b:=bG) (xs:=ts.map pairD) (e:=[sI p,some (.tup (ts.map pairD)),sR (S.length+p),none,none]) (S:=stN S p (DM []))
  (λi e S'=>(∃l o,e=[sI p,some (.tup (ts.map pairD)),sR (S.length+p),l,o])/\S'=stN S p (DM (ts.take i)))
  (λf S'=>(∃l o,f=.nx [sI p,some (.tup (ts.map pairD)),sR (S.length+p),l,o])/\S'=stN S p (DM ts))
  ⟨⟨none,none,rfl⟩,rfl⟩ (λ_ _ _ _=>rfl)
  (by
   rintro i y e S' A ⟨⟨l,o,rfl⟩,rfl⟩;rw[Ai]at A
   cases B:ts[i]? with
   | none=>rw[B]at A;cases A
   | some t=>
    rw[B]at A;cases A;refine⟨[sI p,some (.tup (ts.map pairD)),sR (S.length+p),sI t.1,sI t.2],_,rfl,_,_,cA (N t (BN B)) (λx=>?_),⟨_,_,rfl⟩,?_⟩
    ·have:=ZD (ts.take i) x
     rw[Dk]at this;exact Av (Au this (Nat.mul_le_mul_left 2 (Au (jD _ _) O))) (by decide)
    ·rw[take_snoc B,show DM (ts.take i++[t])=_ from funext λx=>Xm _ _ x])
  (by
   rintro e S' ⟨⟨l,o,rfl⟩,rfl⟩;rw[AD,MR]
   exact⟨⟨_,_,rfl⟩,rfl⟩)
 have T:=(Km (g:=Ig 2 (Cp (tgN 3) (Cp (tgN 4) JI))) (b:=bG) (Sy (m:=AC 1) (e:=[sI p,some (.tup (ts.map pairD)),sR (S.length+p),none,none]) (S:=stN S p (DM [])) (S1:=stN S p (DM [])) (xs:=ts.map pairD) rfl)).trans R
 obtain⟨r,U,X,C,⟨z,_⟩,K,rfl⟩:=bD (v:=Fy (.ref (S.length+p))) (g:=tgN 0) (c:=Gs) (m:=IG (Dv (AC 0))) (xs:=GB S.length p) (e:=[none,sI p,some (.tup (ts.map pairD)),sR (S.length+p),l,o]) (S:=stN S p (DM ts))
  (λi C S' s=>(∃z,C=[z,sI p,some (.tup (ts.map pairD)),sR (S.length+p),l,o])/\Keeps (stN S p (DM ts)) S'/\s=(D4 i).map λx=>.tup ((Bv (DM ts x)).map D.int))
  ⟨⟨none,rfl⟩,.refl _,rfl⟩ (λi C S' s h=>EB (h.2.1.at (Mz S p _)))
  (by
   rintro i d C S' s E ⟨⟨z,rfl⟩,K,rfl⟩
   have I:i < p:=by
    have:=(AF.mp E).1;simpa[GB]using this
   unfold GB at E;rw[Ai,E6 I]at E;cases E;have G:Jq (.ref (S.length+i)) S'=some ((DM ts i).map D.int):=OV (K.at (Lq S _ I));have Y:=ID (m:=AC 0) (e:=[sR (S.length+i),sI p,some (.tup (ts.map pairD)),sR (S.length+p),l,o]) (S:=S') (S1:=S') rfl G (Yv _);refine⟨by simp;exact Av (m:=60) (by lia) (by decide),[sR (S.length+i),sI p,some (.tup (ts.map pairD)),sR (S.length+p),l,o],_,rfl,true,_,rfl,.inl ⟨rfl,_,_,Oy Y (HK (Dx _ _)),⟨_,rfl⟩,K.trans (Keeps.app _ _),?_⟩⟩;rw[Tf,CW]
   rfl)
 have J:=(WT (n:=1) (g:=tgN 0) (c:=Gs) (m:=IG (Dv (AC 0))) (LO (m:=AC 2) (e:=[sI p,some (.tup (ts.map pairD)),sR (S.length+p),l,o]) (S:=stN S p (DM ts)) (S1:=stN S p (DM ts)) rfl (Mz S p _))).trans X;rw[show(GB S.length p).length=p by simp[GB]]at J;refine⟨U++[.lst (P4 p ts)],M6 ?_,((P1 S p _).trans K).trans (Keeps.app _ _)⟩;unfold NW;refine IN (CP H) ?_;refine IN (CP T) ?_;exact Ki (Oy (ZC J) (HK (Dx _ _)))
open PySem L2
open Srt (ltL)
noncomputable def toP(r:ZLi):Int×Int:=(r.getD 0 0,r.getD 1 0)
noncomputable def HD(ps:List ZPi):List ZPi:=(Lp ps).map toP
theorem SH(h:r∈Lp ps):∃x∈ps,r=Vy (nrm x):=by
 have:=(Et _).mem_iff.mp h;obtain⟨x,l,rfl⟩:=BF.mp this;exact⟨x,l,rfl⟩
theorem bm(ps:List ZPi):(HD ps).map Vy=Lp ps:=by
 unfold HD;rw[BC]
 conv=>rhs;rw[<-N4 (Lp ps)]
 refine DU λr l=>?_
 obtain⟨x,_,rfl⟩:=SH l;rfl
theorem Yo(ps:List ZPi):(Lp ps).map Mc=(HD ps).map pairD:=by
 rw[<-bm,BC];rfl
theorem eZ(h:t∈HD ps):∃x∈ps,t=nrm x:=by
 obtain⟨r,l,rfl⟩:=BF.mp h;obtain⟨x,m,rfl⟩:=SH l;exact⟨x,m,rfl⟩
theorem P0(ps:List ZPi):(HD ps).Perm (ps.map nrm):=by
 unfold HD Lp;have:=(Et (ps.map λx=>Vy (nrm x))).map toP;refine this.trans ?_;rw[BC];exact Zq rfl
theorem pY(x:Int×Int):(nrm x).1<=(nrm x).2:=by
 unfold nrm;dsimp only
 split <;> split <;> lia
theorem Fit.in{p:Nat}{x:Int×Int}(h:Fit p x):In p (nrm x):=by
 obtain⟨l,m,o⟩:=h;have:=pY x;exact⟨m,by lia,by lia,o,l⟩
theorem tZ:¬(("places" : Str) = "ties"):=by decide +kernel
theorem tf:¬(("places" : Str) = "near_sets"):=by decide +kernel
theorem tY:¬(("ties" : Str) = "near_sets"):=by decide +kernel
theorem put2(a b:D):KB "ties" b [(("places" : Str),a)]=([("places",a),("ties",b)]:List (Str×D)):=by
 show(if ("places" : Str) = "ties" then _ else _)=_;rw[qY tZ];rfl
theorem put3(a b c:D):KB "near_sets" c [(("places" : Str),a),("ties",b)]=([("places",a),("ties",b),("near_sets",c)]:List (Str×D)):=by
 show(if ("places" : Str) = "near_sets" then _ else _)=_;rw[qY tf]
 have:KB "near_sets" c [(("ties" : Str),b)]=([("ties",b),("near_sets",c)]:List (Str×D)):=by
  show(if ("ties" : Str) = "near_sets" then _ else _)=_;rw[qY tY];rfl
 rw[this]
theorem tu(a b c:D):([("places",a),("ties",b),("near_sets",c)]:List (Str×D)).lookup ("places" : Str)=some a:=by
 rw[Bd,show(("places" : Str)=="places")=true by decide +kernel]
theorem tt(a b c:D):([("places",a),("ties",b),("near_sets",c)]:List (Str×D)).lookup ("near_sets" : Str)=some c:=by
 rw[Bd,show(("near_sets" : Str)=="places")=false by decide +kernel];dsimp only;rw[Bd,show(("near_sets" : Str)=="ties")=false by decide +kernel];dsimp only;rw[Bd,show(("near_sets" : Str)=="near_sets")=true by decide +kernel]
theorem pr(a b:D):([("places",a),("ties",b)]:List (Str×D)).lookup ("ties" : Str)=some b:=by
 rw[Bd,show(("ties" : Str)=="places")=false by decide +kernel];dsimp only;rw[Bd,show(("ties" : Str)=="ties")=true by decide +kernel]
open PySem L2 L4
noncomputable def GJ(W:Wd)(w:Nat×List ZPi):Ob:=.ins W.Web [("places",.int w.1),("ties",.tup (w.2.map pairD)),("near_sets",.tup (P4 w.1 w.2))]
noncomputable def QI(p:Nat)(ts:List ZPi):List ZLi:=(D4 p).map λx=>Bv (DM ts x)
theorem gN(p:Nat)(ts:List ZPi):D.tup (P4 p ts)=eT (eT D.int) (QI p ts):=by
 unfold P4 QI eT;rw[BC];rfl
open Classical in
noncomputable def dh(x:Int)(l:List ZPi):Option (Nat×List ZPi):=if 1<=x/\x<=60/\GN x l/\l.length<=90000 then some (x.toNat,HD l)else none
section
variable{W:Wd}{A:List Sl}{a b m:ME}{p:Option (Nat×List ZPi)}
theorem Zz{l:Type}{f:Str}{enc:l->D}{g:Nat×List ZPi->l}(h:VE A m (rO (GJ W)) p)(o:∀w,([("places",D.int w.1),("ties",.tup (w.2.map pairD)),("near_sets",.tup (P4 w.1 w.2))]:List (Str×D)).lookup f=some (enc (g w))):VE A (EE W.Web f m) (rV enc) (p.bind λw=>some (g w)):=λv s B e F S C=>by
 obtain⟨w,E,G⟩:=Az s;cases G;obtain⟨d,H,I,J,n,rfl,L⟩:=h w E B e F S C;exact⟨_,H,Kn I L (o w),J,rfl⟩
theorem JW(h:VE A m (rO (GJ W)) p):VE A (EE W.Web "places" m) (rV D.int) (p.bind λw=>some (w.1:Int)):=Zz h λw=>tu _ _ _
theorem jf(h:VE A m (rO (GJ W)) p):VE A (EE W.Web "near_sets" m) (rV (eT (eT D.int))) (p.bind λw=>some (QI w.1 w.2)):=Zz h λw=>by rw[<-gN];exact tt _ _ _
theorem nT(W:Wd){p:Nat}(h1:1<=p)(hp:p<=60){d:D}{S:Sto}{ps:List ZPi}(hv:∀S',Keeps S S'->Fy d S'=some (ps.map pairD))(hl:ps.length<=90000)(hf:GN p ps){e:Lo}{ml:ML}{S0:Sto}(ha:ml e S0=.ok [.int p,d] S) :
  ∃S',Qr W.Web 3 (MF W) ml e S0=.ok (.ref S.length) S'/\Keeps S S'/\S'[S.length]?=some (GJ W (p,HD ps)):=by
 have t0:QJ (mB (m3 leD leD (mC (.int 1)) (AC 1) (mC (.int 60)))) [sR S.length,sI p,some d] (S++[.ins W.Web []])=.ok false (S++[.ins W.Web []]):=
  OR (b:=true) (Wh (m9 (S3:=S++[.ins W.Web []]) rfl rfl (gc (wX (by lia))) rfl (gc (wX (by lia)))))
 have yB:(S++[Ob.ins W.Web []])[S.length]?=some (.ins W.Web []):=Dx _ _;have e1:=RW (C:=W.Web) (f:="places") (mo:=AC 0) (mv:=AC 1) (e:=[sR S.length,sI p,some d]) (S:=S++[.ins W.Web []]) (v:=.int p) rfl rfl yB (by decide);have K1:Keeps S ((S++[Ob.ins W.Web []]).set S.length (.ins W.Web (KB "places" (.int p) []))):=(Keeps.app S _).set (AJ _) _;generalize hS1:(S++[Ob.ins W.Web []]).set S.length (.ins W.Web (KB "places" (.int p) []))=S1 at e1 K1
 have xB:S1[S.length]?=some (.ins W.Web [("places",.int p)]):=by rw[<-hS1];exact As (by simp)
 obtain⟨S2,c2,K2⟩:=WW W (p:=p) (d:=d) (S:=S1) (ps:=ps) (λS' k=>hv S' (K1.trans k)) hl hf;rw[Yo]at c2;have e2:=RW (C:=W.Web) (f:="ties") (mo:=AC 0) (mv:=Cd 2 (Hd W) (AR (AC 1) (AR (AC 2) BL))) (e:=[sR S.length,sI p,some d]) (S:=S1) ((MK rfl rfl).trans c2) rfl (K2.at xB) (by simp);have K3:Keeps S (S2.set S.length (.ins W.Web (KB "ties" (.tup ((HD ps).map pairD)) [("places",.int p)]))):=(K1.trans K2).set (AJ _) _;rw[put2]at e2 K3;have ϰ:S.length < S2.length:=(AF.mp (K2.at xB)).1;generalize hS3:S2.set S.length (.ins W.Web [("places",.int p),("ties",.tup ((HD ps).map pairD))])=S3 at e2 K3
 have yI:S3[S.length]?=some (.ins W.Web [("places",.int p),("ties",.tup ((HD ps).map pairD))]):=by rw[<-hS3];exact As ϰ
 obtain⟨S4,c4,K4⟩:=lA W hp (ts:=HD ps) (λt ht=>by
  obtain⟨x,hx,rfl⟩:=eZ ht
  exact(hf.1 x hx).in) (by rw[(P0 ps).length_eq,AD];exact hl) S3
 have e3:=RW (C:=W.Web) (f:="near_sets") (mo:=AC 0) (mv:=Cd 2 (Ha W) (AR (AC 1) (AR (EE W.Web "ties" (AC 0)) BL))) (e:=[sR S.length,sI p,some d]) (S:=S3)
  ((MK (DE (S1:=S3) rfl (DE (Kn rfl yI (pr _ _)) rfl)) rfl).trans c4) rfl (K4.at yI) (by simp)
 have ϱ:S.length < S4.length:=(AF.mp (K4.at yI)).1;rw[put3]at e3;refine⟨_,aM ha rfl (Y4 (e:=[sR S.length,sI p,some d]) ?_),(K3.trans K4).set (AJ _) _,As ϱ⟩;unfold TY;refine IN (CP (e:=[sR S.length,sI p,some d]) (e1:=[sR S.length,sI p,some d]) (S1:=S++[.ins W.Web []]) (IN (Hz t0) rfl)) ?_;rw[CP e1,CP e2];exact e3
theorem nZ{C:Option Int}{pl:Option (List ZPi)}(I:VE A a (rV D.int) C)(hb:VE A b (rO (oL (eP D.int D.int))) pl):VE A (Qr W.Web 3 (MF W) (AR a (AR b BL))) (rN (GJ W)) (C.bind λx=>pl.bind λl=>dh x l):=λv s S0 e F S E=>by
 obtain⟨x,J,s⟩:=Az s;obtain⟨l,L,o⟩:=Az s;obtain⟨d1,N,O,B,rfl⟩:=I x J S0 e F S E;obtain⟨d2,P,Q,G,n,rfl,R⟩:=hb l L S0 e _ N (E.grow B);unfold dh at o;split at o
 ·rename_i T
  cases o;obtain⟨c1,c2,U,X⟩:=T;have H:((x.toNat:Nat):Int)=x:=Bq (by lia);obtain⟨Y,Z,h6,h7⟩:=nT W (p:=x.toNat) (d:=.ref n) (S:=P) (ps:=l) (by lia) (by lia) (λS' k=>EB (k.at R)) X (by rw[H];exact U) (ml:=AR a (AR b BL)) (e:=e) (S0:=S) (by rw[H];exact DE O (DE Q rfl));exact⟨_,Y,Z,(B.trans G).trans h6,_,rfl,(B.trans G).1,h7⟩
 ·cases o
end
noncomputable def K2(h s:Nat)(S l:Sto):Prop:=S.length<=l.length/\∀j,j < S.length->j≠h->j≠s->l[j]?=S[j]?
theorem K2.trans(a:K2 h s S S1)(b:K2 h s S1 S2):K2 h s S S2:=⟨Au a.1 b.1,λj q l m=>(b.2 j (AY q a.1) l m).trans (a.2 j q l m)⟩
theorem K2.of{h s:Nat}{S S1:Sto}(a:Keeps S S1):K2 h s S S1:=⟨a.1,λj q _ _=>a.2 j q⟩
theorem K2.seth(a:K2 h s S S1)(o:Ob):K2 h s S (S1.set h o):=⟨by rw[D5];exact a.1,λj q l m=>by rw[Ah (Ch l)];exact a.2 j q l m⟩
theorem K2.sets(a:K2 h s S S1)(o:Ob):K2 h s S (S1.set s o):=⟨by rw[D5];exact a.1,λj q m l=>by rw[Ah (Ch l)];exact a.2 j q m l⟩
theorem K2.at(a:K2 h s S S1)(l:S[j]?=some o)(m:j≠h)(A:j≠s):S1[j]?=some o:=by rw[a.2 j (BU l) m A];exact l
noncomputable def Tk(l:List ZLi)(g:Int):ZLi:=(atI l g).getD []
theorem qo{m}{enc}{l}{S}{n}(o:S[n]?=some (oDK enc l))(s:l.length < 1000000)(k:Int)(v:m):QT (.ref n) (.int k) (enc v) S=some (S.set n (oDK enc (CJ l k v))):=by
 unfold QT;dsimp only;rw[o];show(if (l.map _).length < sizeLine then some (S.set n (.dK (CJ (l.map λx=>(Dh x.1,enc x.2)) (Dh k) (enc v))))else none)=_;rw[qX (by rw[AD];exact ZI s),O5 Rf];rfl
theorem Rj{m:Type}{enc:m->D}{l:List (Int×m)}{mo mi mv:ME}{e:Lo}{S:Sto}{n:Nat}{k:Int}{v:m}(o:mv e S=.ok (enc v) S)(ho:mo e S=.ok (.ref n) S)(hi:mi e S=.ok (.int k) S)(s:S[n]?=some (oDK enc l))(A:l.length < 1000000):Cq mo mi mv e S=.ok (.nx e) (S.set n (oDK enc (CJ l k v))):=by
 unfold Cq;rw[o];dsimp only[Res.lift];rw[ho];dsimp only;rw[hi];dsimp only;rw[qo s A]
theorem Lz{m o:Type}[DecidableEq m]{l s:List (m×o)}{k:m}{v:o}(h:HE l k v=some s):l.length < 1000000/\s=CJ l k v:=by
 unfold HE at h;split at h
 ·rename_i c;cases h;exact⟨c,rfl⟩
 ·cases h
theorem bZ(m:S[tN]?=some (oL (eT D.int) B))(s:S[hN]?=some (oDK D.int H))(A:S[sN]?=some (oDK D.bl Q))(C:hN≠sN) :
  ∃F,Vs [] [.z (oL (eT D.int) B),.v (D.int bits),.w 2 (oDK D.int H),.v (D.int g),.w 4 (oDK D.bl Q),.u,.u] [sR tN,sI bits,sR hN,sI g,sR sN,none,none] F S:=by
 have E:tN≠hN:=λc=>by rw[c,s]at m;cases m
 have G:tN≠sN:=λc=>by rw[c,A]at m;cases m
 refine⟨λn=>if n=hN then .ow 2 else if n=sN then .ow 4 else match S[n]? with | some o=>.fz o | none=>.no,⟨Cw _,λj h=>(nomatch h)⟩,λn o q=>?_,λn i q=>?_,λn I=>?_,λi a l=>?_⟩
 ·split at q
  ·cases q
  ·split at q
   ·cases q
   ·cases w:S[n]? with
    | none=>rw[w]at q;cases q
    | some J=>rw[w]at q;cases q;rfl
 ·refine⟨Cw _,?_⟩
  split at q
  ·rename_i c;rw[c];exact BU s
  ·split at q
   ·rename_i c;rw[c];exact BU A
   ·cases w:S[n]? with
    | none=>rw[w]at q;cases q
    | some J=>rw[w]at q;cases q
 ·show(if n=hN then Cel.ow 2 else if n=sN then .ow 4 else match S[n]? with | some o=>.fz o | none=>.no)=_
  rw[qY λc=>zX (BU s) (by rw[<-c];lia),qY λc=>zX (BU A) (by rw[<-c];lia),CL I]
 ·match i,l with
  | 0,l=>cases l;exact⟨_,rfl,tN,rfl,by show(if tN=hN then Cel.ow 2 else if tN=sN then .ow 4 else match S[tN]? with | some o=>.fz o | none=>.no)=_;rw[qY E,qY G,m]⟩
  | 1,l=>cases l;exact⟨_,rfl,rfl⟩
  | 2,l=>cases l;exact⟨_,rfl,hN,rfl,qX rfl,s⟩
  | 3,l=>cases l;exact⟨_,rfl,rfl⟩
  | 4,l=>cases l;exact⟨_,rfl,sN,rfl,by show(if sN=hN then Cel.ow 2 else if sN=sN then .ow 4 else match S[sN]? with | some o=>.fz o | none=>.no)=_;rw[qY (Ch C),qX rfl],A⟩
  | 5,l=>cases l;exact⟨_,rfl,trivial⟩
  | 6,l=>cases l;exact⟨_,rfl,trivial⟩
  | i+7,l=>cases l
noncomputable abbrev my:ME:=ED (EQ 1 (ES (m2 ixA (AC 0) (AC 3))) (tgN 0) (RG (GK (m2 Td (m2 XO (AC 2) (AC 0)) (mC (.int 1)))) (mB (m2 (inA true) (AC 0) (AC 5)))) (AC 0))
theorem jS{S:Sto}{tN hN B:Nat}{o:List ZLi}{bits g:Int}{H:HL}{Q:QL}(I:S[tN]?=some (oL (eT D.int) o))(J:S[hN]?=some (oDK D.int H))(L:S[B]?=some (oDK D.bl Q))(N:hN≠B)(G:0<=g/\g < o.length)(O:∀t∈o,t.length<=1000/\∀x∈t,0<=x) :
  ∃n s,my [sR tN,sI bits,sR hN,sI g,sR B,none,none] S=.ok (.ref n) s/\Keeps S s/\S.length<=n/\s[n]?=some (oL D.int ((Tk o g).filter λx=>hb bits x&&!(Al Q x).isSome)):=by
 obtain⟨F,V⟩:=bZ (bits:=bits) (g:=g) I J L N;obtain⟨t,C,-⟩:=Zd (l:=o) G.1 G.2;have P:=O t (bH C)
 have m:=Cf (DB (enc:=D.int) (eb:=D.int) (A:=[.z (oL (eT D.int) o),.v (D.int bits),.w 2 (oDK D.int H),.v (D.int g),.w 4 (oDK D.bl Q),.u,.u]) (VI.k (Pw (HI (Cz (v:=o) (i:=0) rfl) (AI (v:=g) (i:=3) rfl))))
  (λx=>eV (Z2 (RU (nh (AI (v:=bits) (i:=2) rfl) (AI (v:=x) (i:=0) rfl)) (CS (v:=1) rfl))) (Gb (eI (AI (v:=x) (i:=0) rfl) (JN (v:=Q) (i:=5) rfl)))) (λx=>AI (v:=x) (i:=0) rfl))
 simp only[AE]at m;rw[C]at m;simp only[AE]at m
 have R:EV t (λx=>((j6 bits x).bind λE=>some (Bg E 1)).bind (λx=>some (x != 0)) |>.bind λb=>if b=true then some (!(Al Q x).isSome)else some false) (λx=>some x)=some (t.filter λx=>hb bits x&&!(Al Q x).isSome):=IJ (by lia) λx T=>by
  rw[show j6 bits x=some (bits / 2 ^ x.toNat)from qX (P.2 x T)];show(if (Bg (bits / 2 ^ x.toNat) 1 != 0)=true then _ else _)=_;show(if hb bits x=true then _ else _)=_
  cases hb bits x <;> rfl
 obtain⟨d,s,U,X,n,rfl,Y,Z⟩:=m _ R [] _ F S V;refine⟨n,s,U,X,Y,?_⟩;unfold Tk;rw[C];exact Z
theorem lg{w:ZLi}{p:Int->Bool}{i:Nat}{x:Int}(h:∀j,j < i->∀y,w[j]?=some y->p y=false)(l:w[i]?=some x)(m:p x=true):w.find? p=some x:=by
 rw[List.find?_eq_some_iff_getElem];obtain⟨o,e⟩:=AF.mp l;refine⟨m,i,o,e,λj s=>?_⟩;rw[h j s _ (AU (by lia))];rfl
theorem lc{w:ZLi}{p:Int->Bool}(h:∀j,j < w.length->∀y,w[j]?=some y->p y=false):w.find? p=none:=by
 rw[KF];intro x o l;obtain⟨i,m,e⟩:=B2 o;rw[h i m x (by rw[AU m,e])]at l;cases l
noncomputable abbrev e7(tN:Nat)(bits:Int)(hN:Nat)(g:Int)(l:Nat)(z5 m:Option D):Lo:=[sR tN,sI bits,sR hN,sI g,sR l,z5,m]
noncomputable abbrev bS1:MS:=sIf (mB (m2 (inA true) (AC 6) (AC 2))) (BH (Cq (AC 2) (AC 6) (AC 3)) (DG (mC (.bl true)))) sNx
noncomputable abbrev bS2(l:List D->Sto->Res D):MS:=sIf (mB (m2 (inA true) (AC 6) (AC 4))) (BH (Cq (AC 4) (AC 6) (mC (.bl true)))
  (sIf (GK (Cd 5 l (AR (AC 0) (AR (AC 1) (AR (AC 2) (AR (m2 ixA (AC 2) (AC 6)) (AR (AC 4) BL))))))) (BH (Cq (AC 2) (AC 6) (AC 3)) (DG (mC (.bl true)))) sNx)) sNx
theorem nB(m:S[n]?=some (oDK enc l))(x:Int):inA true (.int x) (.ref n) S=.ok (.bl (!(Al l x).isSome)) S:=by
 rw[TJ (j8 m) (bC m x)];simp
theorem t8(m:S[n]?=some (oDK enc l))(o:Al l x=some v):ixA (.ref n) (.int x) S=.ok (enc v) S:=OY (j8 m) (by rw[bC m x,o];rfl)
theorem bv(W:Wd){o:List ZLi}{bits:Int}(hT:∀t∈o,t.length<=1000/\∀x∈t,0<=x):∀(n:Nat) (H:HL) (g:Int) (Q:QL) (z:Bool×HL×QL),IR (Tk o) bits n H g Q=some z->0<=g/\g < o.length->(∀x a,Al H x=some a->0<=a/\a < o.length)->(∀x a,Al z.2.1 x=some a->0<=a/\a < o.length) /\
  ∀(S:Sto) (tN hN sN:Nat),S[tN]?=some (oL (eT D.int) o)->S[hN]?=some (oDK D.int H)->S[sN]?=some (oDK D.bl Q)->hN≠sN->∃S',Gr W n [.ref tN,.int bits,.ref hN,.int g,.ref sN] S=.ok (.bl z.1) S'/\S'[hN]?=some (oDK D.int z.2.1)/\S'[sN]?=some (oDK D.bl z.2.2)/\K2 hN sN S S':=by
 intro n
 induction n with
 | zero=>intro H g Q z A;cases A
 | succ n ih=>
  intro H g Q z A hg U;unfold IR at A
  have wD:∀(H:HL) (x:Int),(∀x a,Al H x=some a->0<=a/\a < o.length)->∀y a,Al (CJ H x g) y=some a->0<=a/\a < o.length:=λH x U y a e=>by
   rw[DC]at e;split at e
   ·cases e;exact hg
   ·exact U y a e
  have lp:∀(r:ZLi) (s:HL) (l:QL),(∀x a,Al s x=some a->0<=a/\a < o.length)->N7 (IR (Tk o) bits n) g r s l=some z->∀x a,Al z.2.1 x=some a->0<=a/\a < o.length:=by
   intro r
   induction r with
   | nil=>intro s l X e;cases e;exact X
   | cons x r Y=>
    intro s l X e;unfold N7 at e;split at e
    ·exact Y s l X e
    ·obtain⟨Q1,-,e⟩:=Az e
     obtain⟨O,e2,e⟩:=Az e;obtain⟨L,e3,e⟩:=Az e;have:=(ih s O Q1 L e3 (X x O e2) X).1;split at e
     ·obtain⟨H',G,e5⟩:=Az e
      cases e5;rw[(Lz G).2];exact wD _ x this
     ·exact Y _ _ this e
  refine⟨?_,λS tN hN sN N hh hs Z=>?_⟩
  ·split at A
   ·obtain⟨H',G,e5⟩:=Az A
    cases e5;rw[(Lz G).2];exact wD _ _ U
   ·exact lp _ _ _ U A
  ·have t1:tN≠hN:=λc=>by rw[c,hh]at N;cases N
   have t2:tN≠sN:=λc=>by rw[c,hs]at N;cases N
   obtain⟨wN,S1,w1,w2,w3,P⟩:=jS (bits:=bits) N hh hs Z hg hT;generalize (Tk o g).filter (λx=>hb bits x&&!(Al Q x).isSome)=w at A P
   have wh:wN≠hN:=λc=>zX (BU hh) (by lia)
   have ws:wN≠sN:=λc=>zX (BU hs) (by lia)
   have s5:CT 5 my (Ix 7 [.ref tN,.int bits,.ref hN,.int g,.ref sN]) S=.ok (.nx (e7 tN bits hN g sN (some (.ref wN)) none)) S1:=M0 (i:=5) w1;have Ψ:=w2.at hh;have xA:=w2.at hs;have ht1:=w2.at N;have k1:K2 hN sN S S1:=K2.of w2
   have it:∀m S',S'[wN]?=some (oL D.int w)->ES (AC 5) (e7 tN bits hN g sN (some (.ref wN)) m) S'=.ok (Fy (.ref wN)) S':=λm S' h=>LO (n:=wN) rfl h
   obtain⟨f,S2,q1,q2⟩:=NM (v:=Fy (.ref wN)) (g:=tgN 6) (b:=bS1) (xs:=w.map D.int) (e:=e7 tN bits hN g sN (some (.ref wN)) none) (S:=S1)
    (λi e S'=>(∃m,e=e7 tN bits hN g sN (some (.ref wN)) m)/\S'=S1/\∀j,j < i->∀y,w[j]?=some y->(!(Al H y).isSome)=false)
    (λf S'=>((∃m,f=.nx (e7 tN bits hN g sN (some (.ref wN)) m))/\S'=S1/\w.find? (λx=>!(Al H x).isSome)=none)∨∃x,w.find? (λx=>!(Al H x).isSome)=some x/\f=.rt (.bl true)/\S'=S1.set hN (oDK D.int (CJ H x g)))
    ⟨⟨none,rfl⟩,rfl,λj hj=>zX hj (Nc j)⟩ (by rintro i e S' ⟨_,rfl,_⟩;exact EB P)
    (by
     rintro i d e S' B ⟨⟨m,rfl⟩,rfl,ve⟩;rw[Ai]at B
     cases J:w[i]? with
     | none=>rw[J]at B;cases B
     | some x=>
      rw[J]at B;cases B;refine⟨e7 tN bits hN g sN (some (.ref wN)) (some (.int x)),S',rfl,?_⟩;have E:mB (m2 (inA true) (AC 6) (AC 2)) (e7 tN bits hN g sN (some (.ref wN)) (some (.int x))) S'=.ok (!(Al H x).isSome) S':=Wh (ER rfl rfl (nB Ψ x))
      cases c:(Al H x).isSome with
      | true=>
       rw[c]at E;refine⟨_,S',(Hz E).trans rfl,⟨_,rfl⟩,rfl,λj hj y hy=>?_⟩
       by_cases q:j=i
       ·subst q;rw[J]at hy;cases hy;rw[c];rfl
       ·exact ve j (by lia) y hy
      | false=>
       rw[c]at E;have R:w.find? (λx=>!(Al H x).isSome)=some x:=lg ve J (by rw[c];rfl);rw[R]at A;obtain⟨H',G,e5⟩:=Az A;obtain⟨hl,-⟩:=Lz G;have dp:=Rj (mo:=AC 2) (mi:=AC 6) (mv:=AC 3) (e:=e7 tN bits hN g sN (some (.ref wN)) (some (.int x))) (k:=x) (v:=g) rfl rfl rfl Ψ hl
       exact⟨.rt (.bl true),_,(Hz E).trans ((qX rfl).trans ((CP dp).trans rfl)),.inr ⟨x,R,rfl,rfl⟩⟩)
    (by
     rintro e S' ⟨⟨m,rfl⟩,rfl,ve⟩;rw[AD]at ve
     exact .inl ⟨⟨m,rfl⟩,rfl,lc ve⟩)
   have run:∀{S':Sto} {d:D},YA W (Gr W n) (Ix 7 [.ref tN,.int bits,.ref hN,.int g,.ref sN]) S=.ok (.rt d) S'->Gr W (n+1) [.ref tN,.int bits,.ref hN,.int g,.ref sN] S=.ok d S':=λh=>M6 h
   rcases q2 with⟨⟨m,rfl⟩,rfl,R⟩ | ⟨x,R,rfl,rfl⟩
   ·rw[R]at A
    dsimp only at A
    obtain⟨f,S3,p1,p2⟩:=NM (v:=Fy (.ref wN)) (g:=tgN 6) (b:=bS2 (Gr W n)) (xs:=w.map D.int) (e:=e7 tN bits hN g sN (some (.ref wN)) m) (S:=S2)
     (λi e S'=>(∃m,e=e7 tN bits hN g sN (some (.ref wN)) m)/\S'[wN]?=some (oL D.int w)/\K2 hN sN S S'/\∃s l,S'[hN]?=some (oDK D.int s)/\S'[sN]?=some (oDK D.bl l)/\(∀x a,Al s x=some a->0<=a/\a < o.length)/\N7 (IR (Tk o) bits n) g (w.drop i) s l=some z)
     (λf S'=>K2 hN sN S S'/\S'[hN]?=some (oDK D.int z.2.1)/\S'[sN]?=some (oDK D.bl z.2.2)/\((f=.rt (.bl true)/\z.1=true)∨((∃m,f=.nx (e7 tN bits hN g sN (some (.ref wN)) m))/\z.1=false)))
     ⟨⟨m,rfl⟩,P,k1,H,Q,Ψ,xA,U,A⟩ (by rintro i e S' ⟨_,h,_⟩;exact EB h)
     (by
      rintro i d e S' B ⟨⟨m,rfl⟩,a1,a2,s,l,a3,T,a5,C⟩;rw[Ai]at B
      cases J:w[i]? with
      | none=>rw[J]at B;cases B
      | some x=>
       rw[J]at B;cases B;obtain⟨hi,ex⟩:=AF.mp J;rw[Dd hi,ex]at C;unfold N7 at C;refine⟨e7 tN bits hN g sN (some (.ref wN)) (some (.int x)),S',rfl,?_⟩;have E:mB (m2 (inA true) (AC 6) (AC 4)) (e7 tN bits hN g sN (some (.ref wN)) (some (.int x))) S'=.ok (!(Al l x).isSome) S':=Wh (ER rfl rfl (nB T x))
       cases c:(Al l x).isSome with
       | true=>
        rw[c]at E;rw[qX c]at C;exact⟨_,S',(Hz E).trans rfl,⟨_,rfl⟩,a1,a2,s,l,a3,T,a5,C⟩
       | false=>
        rw[c]at E;rw[qY (by rw[c];exact AH)]at C;obtain⟨Q1,b1,a7⟩:=Az C;obtain⟨O,b2,a8⟩:=Az a7;obtain⟨L,b3,a9⟩:=Az a8;obtain⟨hl,rfl⟩:=Lz b1
        clear C a7 a8
        have dp:=Rj (enc:=D.bl) (mo:=AC 4) (mi:=AC 6) (mv:=mC (.bl true)) (e:=e7 tN bits hN g sN (some (.ref wN)) (some (.int x))) (k:=x) (v:=true) rfl rfl rfl T hl;have zS:=BU T
        have c3:(S'.set sN (oDK D.bl (CJ l x true)))[hN]?=some (oDK D.int s):=by rw[Ah (Ch Z)];exact a3
        have c4:(S'.set sN (oDK D.bl (CJ l x true)))[sN]?=some (oDK D.bl (CJ l x true)):=As zS
        have c5:(S'.set sN (oDK D.bl (CJ l x true)))[tN]?=some (oL (eT D.int) o):=by rw[Ah (Ch t2)];exact a2.at N t1 t2
        have c1:(S'.set sN (oDK D.bl (CJ l x true)))[wN]?=some (oL D.int w):=by rw[Ah (Ch ws)];exact a1
        have c2:=a2.sets (oDK D.bl (CJ l x true));generalize S'.set sN (oDK D.bl (CJ l x true))=S4 at dp c1 c2 c3 c4 c5;obtain⟨r1,r2⟩:=ih s O (CJ l x true) L b3 (a5 x O b2) a5;obtain⟨S5,r3,r4,r5,r6⟩:=r2 S4 tN hN sN c5 c3 c4 Z;have arg:AR (AC 0) (AR (AC 1) (AR (AC 2) (AR (m2 ixA (AC 2) (AC 6)) (AR (AC 4) BL)))) (e7 tN bits hN g sN (some (.ref wN)) (some (.int x))) S4=.ok [.ref tN,.int bits,.ref hN,.int O,.ref sN] S4:=DE rfl (DE rfl (DE rfl (DE (ER (x:=.ref hN) (y:=.int x) rfl rfl (t8 c3 b2)) (DE rfl rfl))))
        have xX:GK (Cd 5 (Gr W n) (AR (AC 0) (AR (AC 1) (AR (AC 2) (AR (m2 ixA (AC 2) (AC 6)) (AR (AC 4) BL)))))) (e7 tN bits hN g sN (some (.ref wN)) (some (.int x))) S4=.ok L.1 S5:=by
         unfold GK;rw[(MK (n:=5) arg rfl).trans r3];rfl
        have d1:=r6.at c1 wh ws;have d2:=c2.trans r6
        cases I:L.1 with
        | true=>
         rw[I]at xX;rw[qX I]at a9;obtain⟨H',G,e5⟩:=Az a9;obtain⟨wt,rfl⟩:=Lz G;cases e5;have dp2:=Rj (mo:=AC 2) (mi:=AC 6) (mv:=AC 3) (e:=e7 tN bits hN g sN (some (.ref wN)) (some (.int x))) (k:=x) (v:=g) rfl rfl rfl r4 wt;refine⟨.rt (.bl true),_,(Hz E).trans ((qX rfl).trans ((CP dp).trans ((Hz xX).trans ((qX rfl).trans ((CP dp2).trans rfl))))),d2.seth _,As (BU r4),?_,.inl ⟨rfl,rfl⟩⟩;rw[Ah Z];exact r5
        | false=>
         rw[I]at xX;rw[qY (by rw[I];exact AH)]at a9
         exact⟨_,S5,(Hz E).trans ((qX rfl).trans ((CP dp).trans ((Hz xX).trans rfl))),⟨_,rfl⟩,d1,d2,L.2.1,L.2.2,r4,r5,r1,a9⟩)
     (by
      rintro e S' ⟨⟨m,rfl⟩,a1,a2,s,l,a3,T,a5,C⟩;rw[AD,Mn (AJ _)]at C;unfold N7 at C;cases C
      exact⟨a2,a3,T,.inr ⟨⟨m,rfl⟩,rfl⟩⟩)
    obtain⟨p3,p4,p5,p6⟩:=p2;have l1:=(Km (g:=tgN 6) (b:=bS1) (it none S2 P)).trans q1;have l2:=(Km (g:=tgN 6) (b:=bS2 (Gr W n)) (it m S2 P)).trans p1
    rcases p6 with⟨rfl,p6⟩ | ⟨⟨z7,rfl⟩,p6⟩
    ·rw[p6]
     exact⟨S3,run ((CP s5).trans ((CP l1).trans (Vo l2))),p4,p5,p3⟩
    ·rw[p6]
     exact⟨S3,run ((CP s5).trans ((CP l1).trans ((CP l2).trans rfl))),p4,p5,p3⟩
   ·rw[R]at A
    obtain⟨H',G,e5⟩:=Az A;obtain⟨hl,rfl⟩:=Lz G;cases e5;have l1:=(Km (g:=tgN 6) (b:=bS1) (it none S1 P)).trans q1;refine⟨_,run ((CP s5).trans (Vo l1)),As (BU Ψ),?_,k1.seth _⟩;rw[Ah Z];exact xA
noncomputable abbrev e5(tN:Nat)(gs:ZLi)(bits:Int)(hN:Nat)(z:Option D):Lo:=[sR tN,some (eT D.int gs),sI bits,sR hN,z]
noncomputable abbrev pp:MT:=GK (m2 Td (m2 XO (AC 2) (AC 4)) (mC (.int 1)))
theorem sV(h:m e S=.ok (.bl b) S1):GK m e S=.ok b S1:=by
 unfold GK;rw[h];rfl
theorem sU(h:m e S=.ok (.int i) S1):GK m e S=.ok (i != 0) S1:=by
 unfold GK;rw[h];rfl
theorem ic(h:0<=g):pp (e5 tN gs bits hN (some (.int g))) S=.ok (hb bits g) S:=by
 have l:m2 XO (AC 2) (AC 4) (e5 tN gs bits hN (some (.int g))) S=.ok (.int (bits / 2 ^ g.toNat)) S:=ER rfl rfl (qX h);exact sU (ER (f:=Td) (mb:=mC (.int 1)) (y:=.int 1) l rfl rfl)
noncomputable abbrev bF1:MS:=sIf pp (Cq (AC 3) (AC 4) (AC 4)) sNx
noncomputable abbrev tp(W:Wd)(n:Nat):ME:=Cd 5 (Gr W n) (AR (AC 0) (AR (AC 2) (AR (AC 3) (AR (AC 4) (AR Jp BL)))))
noncomputable abbrev bF2(W:Wd)(n:Nat):MS:=sIf (RG (QJ pp) (QJ (GK (tp W n)))) (DG (mC (.bl false))) sNx
theorem lb(W:Wd)(hT:∀t∈G,t.length<=1000/\∀x∈t,0<=x)(U:∀g∈gs,0<=g/\g < G.length)(X:Uu (Tk G) bits 9 gs=some b)(Y:S[tN]?=some (oL (eT D.int) G)) :
  ∃S',WP W [.ref tN,eT D.int gs,.int bits] S=.ok (.bl b) S'/\Keeps S S':=by
 unfold Uu at X;obtain⟨L,hs,hr⟩:=Az X;have O:CT 3 Jp (Ix 5 [.ref tN,eT D.int gs,.int bits]) S=.ok (.nx (e5 tN gs bits S.length none)) (S++[.dK []]):=rfl;have Z:(S++[Ob.dK []])[S.length]?=some (oDK D.int []):=Dx _ _;have k0:=Keeps.app S [.dK []];have tl:=BU Y;generalize S++[Ob.dK []]=S0 at O Z k0
 obtain⟨f,S1,q1,⟨P,rfl⟩,q2,q3,q4⟩:=NM (v:=Hw (gs.map D.int)) (g:=tgN 4) (b:=bF1) (xs:=gs.map D.int) (e:=e5 tN gs bits S.length none) (S:=S0)
  (λi e S'=>(∃z,e=e5 tN gs bits S.length z)/\Keeps S S'/\∃m,S'[S.length]?=some (oDK D.int m)/\(∀x a,Al m x=some a->0<=a/\a < G.length)/\SK bits (gs.drop i) m=some L)
  (λf S'=>(∃z,f=.nx (e5 tN gs bits S.length z))/\Keeps S S'/\S'[S.length]?=some (oDK D.int L)/\∀x a,Al L x=some a->0<=a/\a < G.length)
  ⟨⟨none,rfl⟩,k0,[],Z,λx a e=>(nomatch e),hs⟩ (λ_ _ _ _=>rfl)
  (by
   rintro i d e S' s ⟨⟨z,rfl⟩,o,m,A,E,l⟩;rw[Ai]at s
   cases C:gs[i]? with
   | none=>rw[C]at s;cases s
   | some g=>
    rw[C]at s;cases s;have J:=U g (BN C);obtain⟨Q,ex⟩:=AF.mp C;rw[Dd Q,ex]at l;unfold SK at l;refine⟨e5 tN gs bits S.length (some (.int g)),S',rfl,?_⟩;have B:=ic (tN:=tN) (hN:=S.length) (gs:=gs) (bits:=bits) (S:=S') J.1
    cases c:hb bits g with
    | true=>
     rw[c]at B;rw[qX c]at l;obtain⟨H',R,H⟩:=Az l;obtain⟨hl,rfl⟩:=Lz R;have dp:=Rj (mo:=AC 3) (mi:=AC 4) (mv:=AC 4) (e:=e5 tN gs bits S.length (some (.int g))) (k:=g) (v:=g) rfl rfl rfl A hl;refine⟨_,_,(Hz B).trans ((qX rfl).trans dp),⟨_,rfl⟩,o.set (AJ _) _,_,As (BU A),λx a e=>?_,H⟩;rw[DC]at e;split at e
     ·cases e;exact J
     ·exact E x a e
    | false=>
     rw[c]at B;rw[qY (by rw[c];exact AH)]at l
     exact⟨_,S',(Hz B).trans rfl,⟨_,rfl⟩,o,m,A,E,l⟩)
  (by
   rintro e S' ⟨⟨z,rfl⟩,o,m,A,E,l⟩;rw[AD,Mn (AJ _)]at l;cases l
   exact⟨⟨z,rfl⟩,o,A,E⟩)
 obtain⟨f,S2,p1,p2,p3⟩:=NM (v:=Hw (gs.map D.int)) (g:=tgN 4) (b:=bF2 W 9) (xs:=gs.map D.int) (e:=e5 tN gs bits S.length P) (S:=S1)
  (λi e S'=>(∃z,e=e5 tN gs bits S.length z)/\Keeps S S'/\∃m,S'[S.length]?=some (oDK D.int m)/\(∀x a,Al m x=some a->0<=a/\a < G.length)/\Sa (Tk G) bits 9 (gs.drop i) m=some b)
  (λf S'=>Keeps S S'/\((f=.rt (.bl false)/\b=false)∨((∃z,f=.nx (e5 tN gs bits S.length z))/\b=true)))
  ⟨⟨P,rfl⟩,q2,L,q3,q4,hr⟩ (λ_ _ _ _=>rfl)
  (by
   rintro i d e S' s ⟨⟨z,rfl⟩,o,m,A,E,l⟩;rw[Ai]at s
   cases C:gs[i]? with
   | none=>rw[C]at s;cases s
   | some g=>
    rw[C]at s;cases s;have J:=U g (BN C);obtain⟨Q,ex⟩:=AF.mp C;rw[Dd Q,ex]at l;unfold Sa at l;refine⟨e5 tN gs bits S.length (some (.int g)),S',rfl,?_⟩;have B:=ic (tN:=tN) (hN:=S.length) (gs:=gs) (bits:=bits) (S:=S') J.1
    cases c:hb bits g with
    | true=>
     rw[c]at B;rw[qX c]at l;exact⟨_,S',(Hz (bK (OR B))).trans rfl,⟨_,rfl⟩,o,m,A,E,l⟩
    | false=>
     rw[c]at B;rw[qY (by rw[c];exact AH)]at l;obtain⟨w,R,H⟩:=Az l
     clear l
     have hl:=BU A;have b0:(S'++[Ob.dK []])[S'.length]?=some (oDK D.bl []):=Dx _ _;have I:=Keeps.app S' [.dK []];have arg:AR (AC 0) (AR (AC 2) (AR (AC 3) (AR (AC 4) (AR Jp BL)))) (e5 tN gs bits S.length (some (.int g))) S'=.ok [.ref tN,.int bits,.ref S.length,.int g,.ref S'.length] (S'++[.dK []]):=rfl;generalize S'++[Ob.dK []]=S4 at b0 I arg;obtain⟨r1,r2⟩:=bv W (bits:=bits) hT 9 m g [] w R J E;obtain⟨S5,r3,r4,r5,r6⟩:=r2 S4 tN S.length S'.length (I.at (o.at Y)) (I.at A) b0 (by lia);have N:GK (tp W 9) (e5 tN gs bits S.length (some (.int g))) S'=.ok w.1 S5:=sV ((MK (n:=5) arg rfl).trans r3)
     have kS:Keeps S S5:=⟨Au (Au o.1 I.1) r6.1,λj T=>by
      have h4:j < S4.length:=AY T (Au o.1 I.1)
      rw[r6.2 j h4 (by lia) (by have:=o.1;lia),I.2 j (AY T o.1),o.2 j T]⟩
     cases hw:w.1 with
     | true=>
      rw[hw]at N;rw[qX hw]at H;exact⟨_,S5,(Hz ((Wc (OR B)).trans (OR N))).trans rfl,⟨_,rfl⟩,kS,w.2.1,r4,r1,H⟩
     | false=>
      rw[hw]at N;rw[qY (by rw[hw];exact AH)]at H;cases H
      exact⟨.rt (.bl false),S5,(Hz ((Wc (OR B)).trans (OR N))).trans rfl,kS,.inl ⟨rfl,rfl⟩⟩)
  (by
   rintro e S' ⟨⟨z,rfl⟩,o,m,A,E,l⟩;rw[AD,Mn (AJ _)]at l;cases l
   exact⟨o,.inr ⟨⟨z,rfl⟩,rfl⟩⟩)
 have it:∀z S',ES (AC 1) (e5 tN gs bits S.length z) S'=.ok (Hw (gs.map D.int)) S':=λz S'=>Sy (xs:=gs.map D.int) rfl
 have l1:=(Km (g:=tgN 4) (b:=bF1) (it none S0)).trans q1;have l2:=(Km (g:=tgN 4) (b:=bF2 W 9) (it P S1)).trans p1;refine⟨S2,M6 (n:=5) (mb:=Zc W) ?_,p2⟩;unfold Zc
 rcases p3 with⟨rfl,rfl⟩ | ⟨⟨z,rfl⟩,rfl⟩
 ·exact(CP O).trans ((CP l1).trans (Vo l2))
 ·exact(CP O).trans ((CP l1).trans ((CP l2).trans rfl))
open Classical in
noncomputable def Se(l:List ZLi)(gs:ZLi)(bits:Int):Option Bool:=if (∀t∈l,t.length<=1000/\∀x∈t,0<=x)/\∀g∈gs,0<=g/\g < l.length then Uu (Tk l) bits 9 gs else none
theorem oB(W:Wd)(m:List ZLi)(gs:ZLi)(bits:Int):VF (WP W) [.z (oL (eT D.int) m),.v (eT D.int gs),.v (D.int bits)] (rV D.bl) (Se m gs bits):=λv l S s A=>by
 unfold Se at l;split at l
 ·rename_i o
  match s,A with
  | [d1,d2,d3],⟨⟨n,B,C⟩,E,G,_⟩=>
   cases B;cases E;cases G;obtain⟨H,I,J⟩:=lb W o.1 o.2 l C;exact⟨_,H,I,J,rfl⟩
 ·cases l
noncomputable def HS(l:ZLi)(m:Int):Option (Fw Int Unit):=
 BD (if (decide (m < (l.length:Int)))=true then(atI l m).bind λo=>some (.rt o)else some (.nx ())) λ_=>some (.rt (0:Int))
noncomputable def Cj(l:ZLi)(m:Int):Option Int:=Gp (HS l m)
theorem HJ(W:Wd)(l:ZLi)(m:Int):VF (E5 W) [.v (eF l),.v (D.int m)] (rV D.int) (Cj l m):=by
 refine Ex (n:=2) (b:=J2 W) (p:=HS l m) (B:=λ_=>[]) ?_;show VS [.v (eF l),.v (D.int m)] _ _ _ _;unfold J2 HS;exact(Aw (Fd (B:=(λ(_:Unit)=>[.v (eF l),.v (D.int m)])) (Gb (dw (AI rfl) (Zy (AI rfl)))) (E2 (dz (AI rfl) (AI rfl))) (Fb (.refl _))) (λ_=>(E2 (CS rfl))))
noncomputable def Ly(A:Int):Option (Fw (List ZPi) Unit):=
 BD (((some []).bind Gq).bind λC=>some (.nx C)) λE=>BD (((some A).bind Nx).bind λl=>Ez l E λ(G:(List ZPi)) B=>EC (λH=>H) ((Vz (B+(1:Int)) A).bind λm=>Ez m G λ(I:(List ZPi)) J=>EC (λo=>o) ((Wb I (B,J)).bind λs=>some (.nx s)))) λL=>some (.rt L)
noncomputable def HW(l:Int):Option (List ZPi):=Gp (Ly l)
theorem Ow(W:Wd)(l:Int):VF (JP W) [.v (D.int l)] (rN (oL (eP D.int D.int))) (HW l):=by
 refine Ex (n:=4) (b:=MM W) (p:=Ly l) (B:=λ_=>[]) ?_;show VS [.v (D.int l),.u,.u,.u] _ _ _ _;unfold MM Ly;exact(Aw (Gv (Cf (EL D9))) (λo=>(Aw (Eh (s0:=o) (B:=(λ(s:(List ZPi))=>[.v (D.int l),.w 1 ((oL (eP D.int D.int)) s),.u,.u])) (Em (AI rfl)) Du (.refl _) (λA C=>(C9 (Eh (s0:=A) (B:=(λ(m:(List ZPi))=>[.v (D.int l),.w 1 ((oL (eP D.int D.int)) m),.v (D.int C),.u])) (JV (F9 (AI rfl) (CS rfl)) (AI rfl)) Du (.refl _) (λG H=>(C9 (Vd rfl (KI (AI rfl) (AI rfl)) rfl) (λE=>(.same (.same (.same (.drop .nil)))))))) (λI=>(.same (.same (.drop (.same .nil)))))))) (λJ=>(RQ rfl)))))
noncomputable def HR(l:Int)(m:Int):Option (Fw (List ZPi) Unit):=
 BD (if (decide (m=(1:Int)))=true then(((some (l - (1:Int))).bind Nx).bind λo=>EV o (λs=>some true) (λs=>some (s,(s+(1:Int))))).bind λJ=>some (.rt J)else some (.nx ())) λ_=>BD (if (decide (m=(2:Int)))=true then((((some (l - (1:Int))).bind Nx).bind λA=>EV A (λB=>some true) (λB=>some (B,(B+(1:Int))))).bind λL=>((some (((0:Int),(l - (1:Int))) :: [])).bind Gq).bind λC=>NR L C).bind λN=>some (.rt N)else some (.nx ())) λ_=>BD (if (decide (m=(3:Int)))=true then(HW l).bind λO=>some (.rt O)else some (.nx ())) λ_=>BD (if (decide (m=(4:Int)))=true then((Vz (1:Int) l).bind λE=>EV E (λI=>some true) (λI=>some ((0:Int),I))).bind λG=>some (.rt G)else some (.nx ())) λ_=>((some []).bind Gq).bind λH=>some (.rt H)
noncomputable def En(l:Int)(m:Int):Option (List ZPi):=Gp (HR l m)
theorem Ox(W:Wd)(l:Int)(m:Int):VF (Hg W) [.v (D.int l),.v (D.int m)] (rN (oL (eP D.int D.int))) (En l m):=by
 refine Ex (n:=2) (b:=Hk W) (p:=HR l m) (B:=λ_=>[]) ?_;show VS [.v (D.int l),.v (D.int m)] _ _ _ _;unfold Hk HR;exact(Aw (Fd (B:=(λ(_:Unit)=>[.v (D.int l),.v (D.int m)])) (Gb (LG DX Jo (AI rfl) (CS rfl))) (FE (Cf (DB (VI.k (Em (Kc (AI rfl) (CS rfl)))) (λs=>GU) (λs=>(KI (AI rfl) (F9 (AI rfl) (CS rfl))))))) (Fb (.refl _))) (λ_=>(Aw (Fd (B:=(λ(_:Unit)=>[.v (D.int l),.v (D.int m)])) (Gb (LG DX Jo (AI rfl) (CS rfl))) (FE (Z1 (HH (Cf (DB (VI.k (Em (Kc (AI rfl) (CS rfl)))) (λA=>GU) (λA=>(KI (AI rfl) (F9 (AI rfl) (CS rfl))))))) (HH (Cf (EL (Gw (KI (CS rfl) (Kc (AI rfl) (CS rfl))) D9)))))) (Fb (.refl _))) (λ_=>(Aw (Fd (B:=(λ(_:Unit)=>[.v (D.int l),.v (D.int m)])) (Gb (LG DX Jo (AI rfl) (CS rfl))) (FE (CO (DL (AI rfl) Ca) (λo=>Ow W o.1) (λ_=>rfl) JJ)) (Fb (.refl _))) (λ_=>(Aw (Fd (B:=(λ(_:Unit)=>[.v (D.int l),.v (D.int m)])) (Gb (LG DX Jo (AI rfl) (CS rfl))) (FE (Cf (DB (VI.k (JV (CS rfl) (AI rfl))) (λC=>GU) (λC=>(KI (CS rfl) (AI rfl)))))) (Fb (.refl _))) (λ_=>(FE (Cf (EL D9)))))))))))
noncomputable def KN(o:ZLi)(R:Int)(O:Int):Option (Fw (List ZPi) Unit):=
 BD ((HW O).bind λS=>some (.nx S)) λs=>BD (some (.nx [])) λT=>BD (((((((Cj o (0:Int)).bind λU=>some (U / 7)).bind λX=>some (X % 6)).bind λY=>some (Y,())).bind λZ=>some (O,Z)).bind λP=>En P.1 P.2.1).bind λA=>Ez A T λ(vL:(List (ZPi×Bool))) xC=>EC (λε=>ε) ((HE vL xC true).bind λB=>some (.nx B))) λC=>BD ((((some (o.length:Int)).bind λQ=>some (if (63:Int) < Q then(63:Int)else Q)).bind λyL=>Vz R yL).bind λE=>Ez E C λ(G:(List (ZPi×Bool))) yZ=>BD ((((atI o yZ).bind λH=>UG H (s.length:Int)).bind λzZ=>atI s zZ).bind λA'=>some (.nx A')) λI=>EC (λη=>η) ((if (!(Al G I).isSome)=true then some true else(Al G I).bind λB'=>some (!B')).bind λJ=>(HE G I J).bind λL=>some (.nx L))) λl=>(EV s (λm=>if ((Al l m).isSome)=true then Al l m else some false) (λm=>some m)).bind λN=>some (.rt N)
noncomputable def Ij(l:ZLi)(m:Int)(o:Int):Option (List ZPi):=Gp (KN l m o)
theorem XE(W:Wd)(l:ZLi)(m:Int)(o:Int):VF (NP W) [.v (eF l),.v (D.int m),.v (D.int o)] (rN (oL (eP D.int D.int))) (Ij l m o):=by
 refine Ex (n:=7) (b:=NX W) (p:=KN l m o) (B:=λ_=>[]) ?_;show VS [.v (eF l),.v (D.int m),.v (D.int o),.u,.u,.u,.u] _ _ _ _;unfold NX KN;exact(Aw (FD (CO (DL (AI rfl) Ca) (λI=>Ow W I.1) (λ_=>rfl) JJ)) (λG=>(Aw (Gv eM) (λJ=>(Aw (Eh (s0:=J) (B:=(λ(A:(List (ZPi×Bool)))=>[.v (eF l),.v (D.int m),.v (D.int o),.y ((oL (eP D.int D.int)) G),.w 4 ((oDP D.bl) A),.u,.u])) (R6 (CO (DL (AI rfl) (DL (Lj rfl (Mu rfl (CO (DL (AI rfl) (DL (CS rfl) Ca)) (λs=>HJ W s.1 s.2.1) (λ_=>rfl) Gn))) Ca)) (λH=>Ox W H.1 H.2.1) (λ_=>rfl) JJ)) Du (.refl _) (λO P=>(C9 (W1 rfl (AI rfl) (CS rfl) rfl) (λQ=>(.same (.same (.same (.same (.same (.drop (.same .nil))))))))))) (λC=>(Aw (Eh (s0:=C) (B:=(λ(E:(List (ZPi×Bool)))=>[.v (eF l),.v (D.int m),.v (D.int o),.y ((oL (eP D.int D.int)) G),.w 4 ((oDP D.bl) E),.u,.u])) (JV (AI rfl) (jh (Zy (AI rfl)) (CS rfl))) Du (.refl _) (λR S=>(Aw (Do (HI (DW rfl) (Vg (dz (AI rfl) (AI rfl)) (Ll (DW rfl))))) (λT=>(C9 (W1 rfl (AI rfl) (nj (eG (AI rfl) (JN rfl)) (jg (W7 (JN rfl) (AI rfl)))) rfl) (λU=>(.same (.same (.same (.same (.same (.drop (.drop .nil))))))))))))) (λL=>(FE (Cf (DB (VI.k (KH rfl)) (λN=>(eV (Gb (jk (AI rfl) (JN rfl))) (Vi (W7 (JN rfl) (AI rfl))))) (λN=>(AI rfl)))))))))))))
noncomputable def IT(o:ZLi)(m:(List ZPi)):Option (Fw (List ZPi) Unit):=
 BD (((((Cj o (0:Int)).bind λs=>some (s / 42)).bind λA=>some (A % 2)).bind λB=>some (decide (B=(0:Int)))).bind λC=>if C=true then some (.rt m)else some (.nx ())) λ_=>(EV m.reverse (λl=>some true) (λl=>some (l.2,l.1))).bind λE=>some (.rt E)
noncomputable def IW(l:ZLi)(m:(List ZPi)):Option (List ZPi):=Gp (IT l m)
theorem Tx(W:Wd)(l:ZLi)(m:(List ZPi)):VF (Ko W) [.v (eF l),.z ((oL (eP D.int D.int)) m)] (rN (oL (eP D.int D.int))) (IW l m):=by
 refine Ex (n:=2) (b:=Kw W) (p:=IT l m) (B:=λ_=>[]) ?_;show VS [.v (eF l),.z ((oL (eP D.int D.int)) m)] _ _ _ _;unfold Kw IT;exact(Aw (Fd (B:=(λ(_:Unit)=>[.v (eF l),.z ((oL (eP D.int D.int)) m)])) (Gb (LG DX Jo (Lj rfl (Mu rfl (CO (DL (AI rfl) (DL (CS rfl) Ca)) (λo=>HJ W o.1 o.2.1) (λ_=>rfl) Gn))) (CS rfl))) (FE (Cf (jZ (jY (Cz rfl))))) (Fb (.refl _))) (λ_=>(FE (Cf (DB (nU (Cz rfl)) (λs=>GU) (λs=>(KI (du (AI rfl)) (eE (AI rfl)))))))))
noncomputable def KO(s:(List ZPi))(m:Int):Option (Fw ZLi Unit):=
 BD (((some []).bind Gq).bind λA=>some (.nx A)) λB=>BD (Ez s B λ(o:ZLi) l=>EC (λC=>C) (if (decide (m∈[l.1,l.2]))=true then EC (λE=>E) ((Wb o ((l.1+l.2) - m)).bind λG=>some (.nx G))else some (.nx o))) λH=>some (.rt (Bv H))
noncomputable def Il(l:(List ZPi))(m:Int):Option ZLi:=Gp (KO l m)
theorem Ql(W:Wd)(l:(List ZPi))(m:Int):VF (KS W) [.z ((oL (eP D.int D.int)) l),.v (D.int m)] (rN (oL D.int)) (Il l m):=by
 refine Ex (n:=4) (b:=NZ W) (p:=KO l m) (B:=λ_=>[]) ?_;show VS [.z ((oL (eP D.int D.int)) l),.v (D.int m),.u,.u] _ _ _ _;unfold NZ KO;exact(Aw (Gv (Cf (EL D9))) (λo=>(Aw (Eh (s0:=o) (B:=(λ(s:ZLi)=>[.z ((oL (eP D.int D.int)) l),.v (D.int m),.w 2 ((oL D.int) s),.u])) (nV rfl) Du (.refl _) (λE A=>(C9 (Fd (B:=(λ(C:ZLi)=>[.z ((oL (eP D.int D.int)) l),.v (D.int m),.w 2 ((oL D.int) C),.v ((eP D.int D.int) A)])) (Gb (nq DX (AI rfl) (AI rfl))) (C9 (Vd rfl (Kc (F9 (eE (AI rfl)) (du (AI rfl))) (AI rfl)) rfl) (λG=>(.refl _))) (Fb (.refl _))) (λH=>(.same (.same (.same (.drop .nil)))))))) (λI=>(FE (dq (JN rfl)))))))
noncomputable def NC(O:Int)(L:Int):Option (Fw (List ZLi) Unit):=
 BD (((((some []).bind Gq).bind λP=>some (P :: [])).bind Gq).bind λQ=>some (.nx Q)) λR=>BD (((some L).bind Nx).bind λl=>Ez l R λ(S:(List ZLi)) T=>BD (((some []).bind Gq).bind λU=>some (.nx U)) λX=>BD (Ez S X λ(Y:(List ZLi)) m=>BD (some (.nx (0:Int))) λo=>BD ((((some []).bind Gq).bind λZ=>some (!decide (m=Z))).bind λs=>if s=true then EC (λA=>A) (((atI m (-(1:Int))).bind λyN=>some (yN+(1:Int))).bind λxm=>some (.nx xm))else some (.nx o)) λB=>EC (λC=>C) (((Vz B (((O - L)+T)+(1:Int))).bind λE=>EV E (λN=>some true) (λN=>((some (N :: [])).bind Gq).bind λG=>NR m G)).bind λH=>(NR Y H).bind λI=>some (.nx I))) λJ=>EC (λ_=>J) (some (.nx ()))) λyO=>some (.rt yO)
noncomputable def Ik(l:Int)(m:Int):Option (List ZLi):=Gp (NC l m)
theorem XF(W:Wd)(l:Int)(m:Int):VF (NQ W) [.v (D.int l),.v (D.int m)] (rN (oL (eT D.int))) (Ik l m):=by
 refine Ex (n:=7) (b:=NY W) (p:=NC l m) (B:=λ_=>[]) ?_;show VS [.v (D.int l),.v (D.int m),.u,.u,.u,.u,.u] _ _ _ _;unfold NY NC;exact(Aw (FD (Cf (EL (Gw (Li D9) D9)))) (λE=>(Aw (Eh (s0:=E) (B:=(λ(o:(List ZLi))=>[.v (D.int l),.v (D.int m),.y ((oL (eT D.int)) o),.u,.u,.u,.u])) (Em (AI rfl)) Du (.refl _) (λA C=>(Aw (Gv (Cf (EL D9))) (λG=>(Aw (Eh (s0:=G) (B:=(λ(s:(List ZLi))=>[.v (D.int l),.v (D.int m),.y ((oL (eT D.int)) A),.v (D.int C),.w 4 ((oL (eT D.int)) s),.u,.u])) (KH rfl) Du (.refl _) (λH I=>(Aw (Do (CS rfl)) (λJ=>(Aw (Fd (B:=(λ(L:Int)=>[.v (D.int l),.v (D.int m),.y ((oL (eT D.int)) A),.v (D.int C),.w 4 ((oL (eT D.int)) H),.v ((eT D.int) I),.v (D.int L)])) (Gb (sQ (WR DX) pZ (AI rfl) (Li D9))) (C9 (Do (F9 (Vh (AI rfl) (R8 (CS rfl))) (CS rfl))) (λN=>(.refl _))) (Fb (.refl _))) (λO=>(C9 (dk rfl (Cf (DB (VI.k (JV (AI rfl) (F9 (F9 (Kc (AI rfl) (AI rfl)) (AI rfl)) (CS rfl)))) (λP=>GU) (λP=>(Nh (AI rfl) (Li (Gw (AI rfl) D9)))))) rfl) (λQ=>(.same (.same (.same (.same (.same (.drop (.drop .nil))))))))))))))) (λR=>(C9 (Ya 4 rfl rfl (Pv rfl)) (λ_=>(.same (.same (.same (.drop (.drop (.same (.same .nil))))))))))))))) (λS=>(Zw rfl)))))
noncomputable def Ff(m:(Nat×List ZPi))(l:Int):Option (Fw Unit Unit):=
 ((if decide ((0:Int)<=l)=true then some (decide (l < (m.1:Int)))else some false).bind λo=>some (!o)).bind λs=>if s=true then none else some (.nx ())
noncomputable def HV(l:(Nat×List ZPi))(m:Int):Option Unit:=kl (Ff l m)
theorem Ov(W:Wd)(l:(Nat×List ZPi))(m:Int):VF (HZ W) [.z ((GJ W) l),.v (D.int m)] (rV eU) (HV l m):=by
 refine nY (n:=2) (b:=Hj W) (p:=Ff l m) (B:=λ_=>[.z ((GJ W) l),.v (D.int m)]) ?_;show VS [.z ((GJ W) l),.v (D.int m)] _ _ _ _;unfold Hj Ff;exact(Fd (B:=(λ(_:Unit)=>[.z ((GJ W) l),.v (D.int m)])) (Yf (Gb (W8 iX uU (CS rfl) (AI rfl) (JW (Cz rfl))))) Yb (Fb (.refl _)))
noncomputable def V0(l:(Nat×List ZPi))(m:Int):Option (Fw ZLi Unit):=
 BD ((HV l m).bind λ_=>some (.nx ())) λ_=>(atI (QI l.1 l.2) m).bind λo=>some (.rt o)
noncomputable def V2(l:(Nat×List ZPi))(m:Int):Option ZLi:=Gp (V0 l m)
theorem oA(W:Wd)(l:(Nat×List ZPi))(m:Int):VF (ZU W) [.z ((GJ W) l),.v (D.int m)] (rV (eT D.int)) (V2 l m):=by
 refine Ex (n:=2) (b:=Zb W) (p:=V0 l m) (B:=λ_=>[]) ?_;show VS [.z ((GJ W) l),.v (D.int m)] _ _ _ _;unfold Zb V0;exact(Aw (jX (CO (Mv (Cz rfl) (DL (AI rfl) Ca)) (λo=>Ov W o.1 o.2.1) (λ_=>rfl) Gn)) (λ_=>(E2 (Vh (jf (Cz rfl)) (AI rfl)))))
noncomputable def Lx(s:(Nat×List ZPi)):Option (Fw (List ZLi) Unit):=
 (((some (s.1:Int)).bind Nx).bind λl=>EV l (λm=>some true) (λm=>(((some (m :: [])).bind Gq).bind λA=>(V2 s m).bind λB=>NR A B).bind λC=>some (Bv C))).bind λo=>some (.rt o)
noncomputable def L1(l:(Nat×List ZPi)):Option (List ZLi):=Gp (Lx l)
theorem Yg(W:Wd)(l:(Nat×List ZPi)):VF (MC W) [.z ((GJ W) l)] (rN (oL (eT D.int))) (L1 l):=by
 refine Ex (n:=1) (b:=OZ W) (p:=Lx l) (B:=λ_=>[]) ?_;show VS [.z ((GJ W) l)] _ _ _ _;unfold OZ Lx;exact(FE (Cf (DB (VI.k (Em (JW (Cz rfl)))) (λo=>GU) (λo=>(Ng (HH (Px (Nh (Li (Gw (AI rfl) D9)) (CO (Mv (Cz rfl) (DL (AI rfl) Ca)) (λm=>oA W m.1 m.2.1) (λ_=>rfl) Gn)))))))))
noncomputable def Nk(l:ZLi):Option (Fw Int Unit):=
 BD (some (.nx (0:Int))) λm=>BD (Ez l m λ(o:Int) s=>EC (λA=>A) ((P3 (1:Int) s).bind λB=>some (.nx (Ck o B)))) λC=>some (.rt C)
noncomputable def G5(l:ZLi):Option Int:=Gp (Nk l)
theorem bg(W:Wd)(l:ZLi):VF (QR W) [.v ((eT D.int) l)] (rV D.int) (G5 l):=by
 refine Ex (n:=3) (b:=QW W) (p:=Nk l) (B:=λ_=>[]) ?_;show VS [.v ((eT D.int) l),.u,.u] _ _ _ _;unfold QW Nk;exact(Aw (Do (CS rfl)) (λm=>(Aw (Eh (s0:=m) (B:=(λ(o:Int)=>[.v ((eT D.int) l),.v (D.int o),.u])) (Pw (AI rfl)) Du (.refl _) (λs A=>(C9 (Pu rfl (R7 (CS rfl) (AI rfl))) (λC=>(.same (.same (.drop .nil))))))) (λE=>(E2 (AI rfl))))))
noncomputable def Nj(s:Int):Option (Fw ZLi Unit):=
 BD (((some []).bind Gq).bind λA=>some (.nx A)) λB=>BD (some (.nx s)) λC=>BD (whF (λ(l:ZLi×Int)=>some (l.2 != 0)) (λ(l:ZLi×Int)=>BD ((Wb l.1 ((Ds (Bg l.2 (-l.2)):Int) - (1:Int))).bind λm=>some (.nx m)) λE=>EC (λo=>(E,o)) (some (.nx (Bg l.2 (l.2 - (1:Int)))))) wN (B,C)) λG=>some (.rt G.1)
noncomputable def Nl(l:Int):Option ZLi:=Gp (Nj l)
theorem bf(W:Wd)(l:Int):VF (QQ W) [.v (D.int l)] (rN (oL D.int)) (Nl l):=by
 refine Ex (n:=3) (b:=QV W) (p:=Nj l) (B:=λ_=>[]) ?_;show VS [.v (D.int l),.u,.u] _ _ _ _;unfold QV Nj;exact(Aw (Gv (Cf (EL D9))) (λo=>(Aw (Do (AI rfl)) (λs=>(Aw (W0 (s0:=(o,s)) (B:=(λ(m:ZLi×Int)=>[.v (D.int l),.w 1 ((oL D.int) m.1),.v (D.int m.2)])) (.refl _) (λA=>(Z2 (AI rfl))) (λA=>(Aw (Vd rfl (Kc (jn (RU (AI rfl) (R8 (AI rfl)))) (CS rfl)) rfl) (λE=>(C9 (Pu rfl (Kc (AI rfl) (CS rfl))) (λC=>(.refl _))))))) (λG=>(RQ rfl)))))))
noncomputable def KM(m:ZLi)(o:Int)(s:Int):Option (Fw ZLi Unit):=
 (EV m (λl=>some true) (λl=>if (decide (l=o))=true then some s else some l)).bind λA=>some (.rt A)
noncomputable def KP(l:ZLi)(m:Int)(o:Int):Option ZLi:=Gp (KM l m o)
theorem XC(W:Wd)(l:ZLi)(m:Int)(o:Int):VF (NO W) [.v ((eT D.int) l),.v (D.int m),.v (D.int o)] (rV (eT D.int)) (KP l m o):=by
 refine Ex (n:=3) (b:=NU W) (p:=KM l m o) (B:=λ_=>[]) ?_;show VS [.v ((eT D.int) l),.v (D.int m),.v (D.int o)] _ _ _ _;unfold NU KM;exact(E2 (Ng (HH (Cf (DB (VI.k (Pw (AI rfl))) (λs=>GU) (λs=>(Ye (Gb (LG DX Jo (AI rfl) (AI rfl))) (AI rfl) (AI rfl) Gn)))))))
noncomputable def P9(I:Int)(H:Int):Option (Fw (List ZLi) Unit):=
 BD (((((some []).bind Gq).bind λJ=>some (J :: [])).bind Gq).bind λL=>some (.nx L)) λN=>BD (((some H).bind Nx).bind λl=>Ez l N λ(O:(List ZLi)) P=>BD (((some []).bind Gq).bind λQ=>some (.nx Q)) λR=>BD (Ez O R λ(S:(List ZLi)) m=>BD ((if (!m.isEmpty)=true then(atI m (-(1:Int))).bind λT=>some (T+(1:Int))else some (0:Int)).bind λU=>some (.nx U)) λo=>EC (λs=>s) ((Vz o (((I - H)+P)+(1:Int))).bind λA=>Ez A S λ(X:(List ZLi)) Y=>EC (λB=>B) ((((some (Y :: [])).bind Gq).bind λZ=>NR m Z).bind λyL=>(Wb X yL).bind λC=>some (.nx C)))) λE=>EC (λ_=>E) (some (.nx ()))) λG=>some (.rt G)
noncomputable def Uf(l:Int)(m:Int):Option (List ZLi):=Gp (P9 l m)
theorem be(W:Wd)(l:Int)(m:Int):VF (QP W) [.v (D.int l),.v (D.int m)] (rN (oL (eT D.int))) (Uf l m):=by
 refine Ex (n:=8) (b:=QU W) (p:=P9 l m) (B:=λ_=>[]) ?_;show VS [.v (D.int l),.v (D.int m),.u,.u,.u,.u,.u,.u] _ _ _ _;unfold QU P9;exact(Aw (FD (Cf (EL (Gw (Li D9) D9)))) (λG=>(Aw (Eh (s0:=G) (B:=(λ(o:(List ZLi))=>[.v (D.int l),.v (D.int m),.y ((oL (eT D.int)) o),.u,.u,.u,.u,.u])) (Em (AI rfl)) Du (.refl _) (λC E=>(Aw (Gv (Cf (EL D9))) (λH=>(Aw (Eh (s0:=H) (B:=(λ(I:(List ZLi))=>[.v (D.int l),.v (D.int m),.y ((oL (eT D.int)) C),.v (D.int E),.w 4 ((oL (eT D.int)) I),.u,.u,.u])) (KH rfl) Du (.refl _) (λJ L=>(Aw (Do (Ye (jo (AI rfl)) (F9 (Vh (AI rfl) (R8 (CS rfl))) (CS rfl)) (CS rfl) Gn)) (λs=>(C9 (Eh (s0:=J) (B:=(λ(A:(List ZLi))=>[.v (D.int l),.v (D.int m),.y ((oL (eT D.int)) C),.v (D.int E),.w 4 ((oL (eT D.int)) A),.v ((eT D.int) L),.v (D.int s),.u])) (JV (AI rfl) (F9 (F9 (Kc (AI rfl) (AI rfl)) (AI rfl)) (CS rfl))) Du (.refl _) (λR S=>(C9 (Vd rfl (Nh (AI rfl) (Li (Gw (AI rfl) D9))) rfl) (λN=>(.same (.same (.same (.same (.same (.same (.same (.drop .nil)))))))))))) (λO=>(.same (.same (.same (.same (.same (.drop (.drop (.same .nil)))))))))))))) (λP=>(C9 (Ya 4 rfl rfl (Pv rfl)) (λ_=>(.same (.same (.same (.drop (.drop (.same (.same (.same .nil)))))))))))))))) (λQ=>(Zw rfl)))))
noncomputable def IF(o:Int)(s:Int):Option (Fw Int Unit):=
 BD (some (.nx (1:Int))) λA=>BD (((some s).bind Nx).bind λl=>Ez l A λ(B:Int) m=>EC (λC=>C) (((gP B (o - m)).bind λE=>iD E (m+(1:Int))).bind λG=>some (.nx G))) λH=>some (.rt H)
noncomputable def LI(l:Int)(m:Int):Option Int:=Gp (IF l m)
theorem Py(W:Wd)(l:Int)(m:Int):VF (II W) [.v (D.int l),.v (D.int m)] (rV D.int) (LI l m):=by
 refine Ex (n:=4) (b:=IK W) (p:=IF l m) (B:=λ_=>[]) ?_;show VS [.v (D.int l),.v (D.int m),.u,.u] _ _ _ _;unfold IK IF;exact(Aw (Do (CS rfl)) (λo=>(Aw (Eh (s0:=o) (B:=(λ(s:Int)=>[.v (D.int l),.v (D.int m),.v (D.int s),.u])) (Em (AI rfl)) Du (.refl _) (λA C=>(C9 (Do (jj (dv (AI rfl) (Kc (AI rfl) (AI rfl))) (F9 (AI rfl) (CS rfl)))) (λE=>(.same (.same (.same (.drop .nil)))))))) (λG=>(E2 (AI rfl))))))
noncomputable def OO(m:(Nat×List ZPi))(l:Int):Option (Fw Int Unit):=
 BD (((if decide ((1:Int)<=l)=true then some (decide (l<=(m.1:Int)))else some false).bind λo=>some (!o)).bind λs=>if s=true then none else some (.nx ())) λ_=>(LI (m.1:Int) l).bind λA=>some (.rt A)
noncomputable def G4(l:(Nat×List ZPi))(m:Int):Option Int:=Gp (OO l m)
theorem SD(W:Wd)(l:(Nat×List ZPi))(m:Int):VF (MD W) [.z ((GJ W) l),.v (D.int m)] (rV D.int) (G4 l m):=by
 refine Ex (n:=2) (b:=Oa W) (p:=OO l m) (B:=λ_=>[]) ?_;show VS [.z ((GJ W) l),.v (D.int m)] _ _ _ _;unfold Oa OO;exact(Aw (Fd (B:=(λ(_:Unit)=>[.z ((GJ W) l),.v (D.int m)])) (Yf (Gb (W8 iX iX (CS rfl) (AI rfl) (JW (Cz rfl))))) Yb (Fb (.refl _))) (λ_=>(E2 (CO (DL (JW (Cz rfl)) (DL (AI rfl) Ca)) (λo=>Py W o.1 o.2.1) (λ_=>rfl) Gn))))
noncomputable def NB(l:(Nat×List ZPi))(m:Int):Option (Fw (List ZLi) Unit):=
 BD (((G4 l m).bind λo=>some (decide ((400:Int) < o))).bind λs=>if s=true then none else some (.nx ())) λ_=>(Uf (l.1:Int) m).bind λA=>some (.rt A)
noncomputable def GD(l:(Nat×List ZPi))(m:Int):Option (List ZLi):=Gp (NB l m)
theorem XD(W:Wd)(l:(Nat×List ZPi))(m:Int):VF (KR W) [.z ((GJ W) l),.v (D.int m)] (rN (oL (eT D.int))) (GD l m):=by
 refine Ex (n:=2) (b:=NV W) (p:=NB l m) (B:=λ_=>[]) ?_;show VS [.z ((GJ W) l),.v (D.int m)] _ _ _ _;unfold NV NB;exact(Aw (Fd (B:=(λ(_:Unit)=>[.z ((GJ W) l),.v (D.int m)])) (Gb (sS (CO (Mv (Cz rfl) (DL (AI rfl) Ca)) (λo=>SD W o.1 o.2.1) (λ_=>rfl) Gn) (CS rfl))) Yb (Fb (.refl _))) (λ_=>(FE (CO (DL (JW (Cz rfl)) (DL (AI rfl) Ca)) (λs=>be W s.1 s.2.1) (λ_=>rfl) JJ))))
structure Fp where
 ev:List ZLi
 kd:Str
 tk:List ZLi
 nu:List (ZLi×Int)
 hv:ZLi
 pb:ZLi
noncomputable abbrev fdF(a b c h k m:Nat)(kd:Str):List (Str×D):=[("everything",.ref a),("kind",.str kd),("takes",.ref b),("numbers",.ref c),("having",.ref h),("place_bits",.ref k),("known",.ref m)]
noncomputable def YD(W:Wd)(f:Fp)(L:Nat->Option Ob)(q m:Nat):Prop:=∃a b c h k,L q=some (.ins W.Field (fdF a b c h k m f.kd))/\L a=some (oL (eT D.int) f.ev)/\L b=some (oL (eT D.int) f.tk)/\L c=some (oDR D.int f.nu)/\L h=some (oL D.int f.hv)/\L k=some (oL D.int f.pb)
noncomputable def IL(W:Wd)(f:Fp)(L:Nat->Option Ob)(d:D):Prop:=∃q m,d=.ref q/\YD W f L q m
section
variable{W:Wd}{f:Fp}{P P':Pq}{C:Aa}{x:Str}{d:D}{o:Ob}
theorem AtO.of(h:∀L d,P L d->P' L d)(z:AtO P' C x o):AtO P C x o:=λL d q=>z L d (h L d q)
theorem AtN.of(h:∀L d,P L d->P' L d)(z:AtN P' C x):AtN P C x:=λL d q=>z L d (h L d q)
theorem lW:AtV (IL W f) W.Field "kind" (D.str f.kd):=λL d ⟨q,m,e,a,b,c,h,k,g,_⟩=>⟨q,_,e,g,rfl⟩
theorem IY:AtO (IL W f) W.Field "everything" (oL (eT D.int) f.ev):=λL d ⟨q,m,e,a,b,c,h,k,g,l,_⟩=>⟨q,_,a,e,g,rfl,l⟩
theorem S7:AtO (IL W f) W.Field "takes" (oL (eT D.int) f.tk):=λL d ⟨q,m,e,a,b,c,h,k,g,s,l,_⟩=>⟨q,_,b,e,g,rfl,l⟩
theorem ZT:AtO (IL W f) W.Field "numbers" (oDR D.int f.nu):=λL d ⟨q,m,e,a,b,c,h,k,g,s,A,l,_⟩=>⟨q,_,c,e,g,rfl,l⟩
theorem cc:AtO (IL W f) W.Field "having" (oL D.int f.hv):=λL d ⟨q,m,e,a,b,c,h,k,g,s,A,B,l,_⟩=>⟨q,_,h,e,g,rfl,l⟩
theorem UK:AtO (IL W f) W.Field "place_bits" (oL D.int f.pb):=λL d ⟨q,m,e,a,b,c,h,k,g,s,A,B,E,l⟩=>⟨q,_,k,e,g,rfl,l⟩
theorem hX(l:∀a b c h k m kd,(fdF a b c h k m kd).lookup x=none):AtN (IL W f) W.Field x:=λL d ⟨q,m,e,a,b,c,h,k,g,_⟩=>⟨q,_,e,g,l ..⟩
end
noncomputable def IV(m:Fp)(o:Int):Option (Fw ZLi Unit):=
 BD ((atI m.ev o).bind λs=>some (.nx s)) λA=>(((some (m.tk.length:Int)).bind Nx).bind λB=>EV B (λl=>some (!decide (l∈A))) (λl=>some l)).bind λC=>some (.rt C)
noncomputable def Go(l:Fp)(m:Int):Option ZLi:=Gp (IV l m)
theorem T9(W:Wd)(l:Fp)(m:Int):VF (Kq W) [.q (IL W l),.v (D.int m)] (rN (oL D.int)) (Go l m):=by
 refine Ex (n:=3) (b:=Ky W) (p:=IV l m) (B:=λ_=>[]) ?_;show VS [.q (IL W l),.v (D.int m),.u] _ _ _ _;unfold Ky IV;exact(Aw (Do (HI (IP IY rfl) (AI rfl))) (λs=>(FE (Cf (DB (VI.k (Em (Ll (IP S7 rfl)))) (λo=>(Gb (Vf DX (AI rfl) (AI rfl)))) (λo=>(AI rfl)))))))
noncomputable def EZ(l:Fp)(C:Int):Option (Fw Int Unit):=
 BD ((atI l.ev C).bind λE=>some (.nx E)) λm=>BD (some (.nx (0:Int))) λG=>BD (Ez m G λ(H:Int) s=>EC (λI=>I) ((atI l.tk s).bind λJ=>Ez J H λ(A:Int) B=>EC (λL=>L) (if (!decide (B∈m))=true then EC (λN=>N) (((((KP m s B).bind λO=>some (Bv O)).bind λP=>Al l.nu P).bind λo=>P3 (1:Int) o).bind λQ=>some (.nx (Ck A Q)))else some (.nx A)))) λR=>some (.rt R)
noncomputable def Eb(l:Fp)(m:Int):Option Int:=Gp (EZ l m)
theorem Hx(W:Wd)(l:Fp)(m:Int):VF (Da W) [.q (IL W l),.v (D.int m)] (rV D.int) (Eb l m):=by
 refine Ex (n:=6) (b:=FW W) (p:=EZ l m) (B:=λ_=>[]) ?_;show VS [.q (IL W l),.v (D.int m),.u,.u,.u,.u] _ _ _ _;unfold FW EZ;exact(Aw (Do (HI (IP IY rfl) (AI rfl))) (λs=>(Aw (Do (CS rfl)) (λG=>(Aw (Eh (s0:=G) (B:=(λ(A:Int)=>[.q (IL W l),.v (D.int m),.v ((eT D.int) s),.v (D.int A),.u,.u])) (Pw (AI rfl)) Du (.refl _) (λH E=>(C9 (Eh (s0:=H) (B:=(λ(I:Int)=>[.q (IL W l),.v (D.int m),.v ((eT D.int) s),.v (D.int I),.v (D.int E),.u])) (Pw (HI (IP S7 rfl) (AI rfl))) Du (.refl _) (λL J=>(C9 (Fd (B:=(λ(C:Int)=>[.q (IL W l),.v (D.int m),.v ((eT D.int) s),.v (D.int C),.v (D.int E),.v (D.int J)])) (Gb (Vf DX (AI rfl) (AI rfl))) (C9 (Pu rfl (R7 (CS rfl) (R9 (IP ZT rfl) (Ng (HH (Px (CO (DL (AI rfl) (DL (AI rfl) (DL (AI rfl) Ca))) (λo=>XC W o.1 o.2.1 o.2.2.1) (λ_=>rfl) Gn))))))) (λN=>(.refl _))) (Fb (.refl _))) (λO=>(.same (.same (.same (.same (.same (.drop .nil)))))))))) (λP=>(.same (.same (.same (.same (.drop (.same .nil)))))))))) (λQ=>(E2 (AI rfl))))))))
noncomputable def Ea(l:Fp)(s:Int):Option (Fw Int Unit):=
 BD ((atI l.ev s).bind λA=>some (.nx A)) λB=>BD (some (.nx (0:Int))) λC=>BD (Ez (Di l.pb) C λ(m:Int) o=>EC (λE=>E) ((Se l.tk B o.2).bind λG=>if G=true then EC (λH=>H) ((P3 (1:Int) o.1).bind λI=>some (.nx (Ck m I)))else some (.nx m))) λJ=>some (.rt J)
noncomputable def Ec(l:Fp)(m:Int):Option Int:=Gp (Ea l m)
theorem Hy(W:Wd)(l:Fp)(m:Int):VF (Db W) [.q (IL W l),.v (D.int m)] (rV D.int) (Ec l m):=by
 refine Ex (n:=6) (b:=FX W) (p:=Ea l m) (B:=λ_=>[]) ?_;show VS [.q (IL W l),.v (D.int m),.u,.u,.u,.u] _ _ _ _;unfold FX Ea;exact(Aw (Do (HI (IP IY rfl) (AI rfl))) (λA=>(Aw (Do (CS rfl)) (λE=>(Aw (Eh (s0:=E) (B:=(λ(o:Int)=>[.q (IL W l),.v (D.int m),.v ((eT D.int) A),.v (D.int o),.u,.u])) (jd UK rfl) jU (.refl _) (λH C=>(C9 (Fd (B:=(λ(G:Int)=>[.q (IL W l),.v (D.int m),.v ((eT D.int) A),.v (D.int G),.v (D.int C.1),.v (D.int C.2)])) (Vi (CO (Mv (IP S7 rfl) (DL (AI rfl) (DL (AI rfl) Ca))) (λs=>oB W s.1 s.2.1 s.2.2.1) (λ_=>rfl) Gn)) (C9 (Pu rfl (R7 (CS rfl) (AI rfl))) (λI=>(.refl _))) (Fb (.refl _))) (λJ=>(.same (.same (.same (.same (.drop (.drop .nil)))))))))) (λL=>(E2 (AI rfl))))))))
noncomputable def L3(f:Fp)(n:Int):Option Int:=if decide (f.kd = "one")=true then Eb f n else Ec f n
noncomputable def Gf(W:Wd)(f:Fp)(L:Nat->Option Ob)(d:D):Prop:=∃q m l,d=.ref q/\YD W f L q m/\L m=some (.mem l)/\∀n z:Int,0<=n->n < 1000->L3 f n=some z->l (.inl n)=z
section
variable{W:Wd}{f:Fp}{x:Str}{L L':Nat->Option Ob}{qn m:Nat}
theorem Gf.q:∀L d,Gf W f L d->IL W f L d:=λL d ⟨q,m,l,e,h,_⟩=>⟨q,m,e,h⟩
theorem N9:AtO (Gf W f) W.Field "everything" (oL (eT D.int) f.ev):=AtO.of Gf.q IY
theorem cf:AtO (Gf W f) W.Field "having" (oL D.int f.hv):=AtO.of Gf.q cc
theorem hZ(l:∀a b c h k m kd,(fdF a b c h k m kd).lookup x=none):AtN (Gf W f) W.Field x:=AtN.of Gf.q (hX l)
theorem YD.mono(h:∀n o,L n=some o->L' n=some o):YD W f L qn m->YD W f L' qn m:=λ⟨a,b,c,d,k,l,s,A,B,C,E⟩=>⟨a,b,c,d,k,h _ _ l,h _ _ s,h _ _ A,h _ _ B,h _ _ C,h _ _ E⟩
end
noncomputable abbrev ZH(W:Wd):ME:=UH (mB (m2 (eqD false) (EE W.Field "kind" (AC 0)) (mC (.str "one")))) (NG W.Field "linked_by_one" 2 (Da W) (AC 0) (AR (AC 1) BL)) (NG W.Field "linked_by_all" 2 (Db W) (AC 0) (AR (AC 1) BL))
theorem dy(W:Wd)(f:Fp)(n:Int):VE [.q (IL W f),.v (D.int n)] (ZH W) (rV D.int) (L3 f n):=
 Ye (Gb (LG az gJ (nz lW rfl) (CS rfl)))
  (Ot (Pf:=IL W) (Pg:=IL W) (hX λ_ _ _ _ _ _ _=>rfl) (λ_ _ h=>h) rfl (DL (AI rfl) Ca) (λz=>Hx W f z.1) (λ_=>rfl) Gn)
  (Ot (Pf:=IL W) (Pg:=IL W) (hX λ_ _ _ _ _ _ _=>rfl) (λ_ _ h=>h) rfl (DL (AI rfl) Ca) (λz=>Hy W f z.1) (λ_=>rfl) Gn) Gn
noncomputable def GF(f:Fp)(n:Int):Option Int:=if 0<=n/\n < 1000 then L3 f n else none
theorem Z3{o s:Type}[DecidableEq o]{l:List (o×s)}{k:o}{v:s}(h:Al l k=some v):(k,v)∈l:=by
 unfold Al at h
 cases m:l.find? λA=>decide (A.1=k)with
 | none=>rw[m]at h;cases h
 | some x=>
  rw[m]at h;cases h
  have B:x.1=k:=by have:=jJ m;exact of_decide_eq_true this
  subst B;exact VW m
theorem ZJ{W:Wd}{f:Fp}{n z:Int}{S:Sto}{q m:Nat}{lk:Key->Int}(zp:0<=n)(zD:n < 1000)(hz:L3 f n=some z)(hl:lk (.inl n)=z)(hC:YD W f (λk=>S[k]?) q m)(hm:S[m]?=some (.mem lk)):nF (JD W) [.ref q,.int n] S m lk z:=by
 intro f' hk;obtain⟨a,b,c,h,k,g0,g1,g2,g3,g4,g5⟩:=hC
 have ne:∀j o,S[j]?=some o->o≠Ob.mem lk->j≠m:=λj o h1 h2 e=>by
  subst e;rw[hm]at h1;cases h1;exact h2 rfl
 have yk:(S.set m (.dK f'))[m]?=some (.dK f'):=As (BU hm)
 have z9:∀j o,S[j]?=some o->o≠Ob.mem lk->(S.set m (.dK f'))[j]?=some o:=λj o h1 h2=>by rw[Ah (Ch (ne j o h1 h2))];exact h1
 have xB:=z9 q _ g0 (λz=>nomatch z);have C1:YD W f (λk=>(S.set m (.dK f'))[k]?) q m:=⟨a,b,c,h,k,xB,z9 a _ g1 (λz=>nomatch z),z9 b _ g2 (λz=>nomatch z),z9 c _ g3 (λz=>nomatch z),z9 h _ g4 (λz=>nomatch z),z9 k _ g5 (λz=>nomatch z)⟩
 have st:∀j,j < S.length->j≠m->(S.set m (.dK f'))[j]?=S[j]?:=λj _ hj=>Ah (Ch hj)
 generalize hS1:S.set m (.dK f')=S1 at yk xB C1 st
 have fk:∀S2:Sto,S2[q]?=some (.ins W.Field (fdF a b c h k m f.kd))->EE W.Field "known" (AC 0) [sR q,sI n] S2=.ok (.ref m) S2:=λS2 h2=>Kn (n:=q) (by rfl) h2 rfl
 have sq:∀(S2:Sto) l,S2[m]?=some (.dK l)->Gc (.ref m) S2=none:=λS2 l h2=>by unfold Gc;dsimp only;rw[h2];try rfl
 have dg:∀(S2:Sto) l,S2[m]?=some (.dK l)->Mg (.ref m) (.int n) S2=some (Al l (.inl n)):=λS2 l h2=>by unfold Mg;dsimp only;rw[h2];try rfl
 have vK:mB (m2 (inA true) (AC 1) (EE W.Field "known" (AC 0))) [sR q,sI n] S1=.ok (!(Al f' (.inl n)).isSome) S1:=
  Wh (ER (x:=.int n) (S1:=S1) (by rfl) (fk S1 xB) (TJ (sq S1 f' yk) (dg S1 f' yk) true))
 cases hv:Al f' (.inl n)with
 | some d=>
  have hd:d=.int z:=by rw[<-hl];exact(hk.2 _ (Z3 hv)).2
  subst hd;rw[hv]at vK;refine⟨S1,f',?_,yk,hk,st⟩;refine _root_.M.M6 ?_;unfold J4;refine IN (CP (e1:=[sR q,sI n]) (S1:=S1) (IN (Hz vK) rfl)) ?_;exact Ki (ER (fk S1 xB) (y:=.int n) (by rfl) (OY (sq S1 f' yk) (by rw[dg S1 f' yk,hv])))
 | none=>
  rw[hv]at vK;have hQ:Mb S1 [.q (IL W f),.v (D.int n)] [.ref q,.int n]:=⟨λL hL=>⟨q,m,rfl,C1.mono hL⟩,rfl,trivial⟩;obtain⟨d,S2,hE,kS,rfl⟩:=dy W f n z hz S1 _ _ S1 (Vs.start (n:=2) hQ);have u7:=kS.at yk;have hq2:=kS.at xB
  have hlen:f'.length < sizeLine:=by
   have h1:=JB hk.1 (k:=WA) λx hx=>by
    obtain⟨y,hy,rfl⟩:=BF.mp hx;exact(hk.2 y hy).1
   rw[AD]at h1
   have h2:WA.length=1000:=by unfold WA;rw[AD,dX]
   rw[h2]at h1;exact ZI (Av h1 (by decide))
  have nk:Dh n∉f'.map (·.1):=λhx=>by
   have:=(Cv f' (.inl n)).mpr hx;rw[hv]at this;cases this
  have pe:CJ f' (.inl n) (D.int z)=f'++[(.inl n,D.int z)]:=by
   unfold CJ;rw[qY];intro c;obtain⟨y,hy,h2⟩:=E8.mp c;exact nk (BF.mpr ⟨y,hy,of_decide_eq_true h2⟩)
  have hk2:mK lk (f'++[(.inl n,D.int z)]):=by
   refine⟨?_,λx hx=>?_⟩
   ·rw[CW]
    exact D1.mpr ⟨hk.1,(Bf.mpr ⟨MV,Ee⟩),λx hx y hy=>by
     rw[Ad.mp hy];intro e;subst e
     exact nk hx⟩
   ·rcases Ay.mp hx with h1 | h1
    ·exact hk.2 x h1
    ·rw[Ad.mp h1]
     refine⟨?_,by rw[hl]⟩;unfold WA;exact BF.mpr ⟨n.toNat,N3.mpr (by lia),by show Dh ((n.toNat:Nat):Int)=_;rw[Bq zp]⟩
  have wD:Cq (EE W.Field "known" (AC 0)) (AC 1) (ZH W) [sR q,sI n] S1=oN [sR q,sI n] (S2.set m (.dK (f'++[(.inl n,D.int z)]))):=by
   unfold Cq;rw[show ZH W [sR q,sI n] S1=.ok (.int z) S2 from hE];dsimp only[Res.lift];rw[fk S2 hq2];dsimp only;rw[show AC 1 [sR q,sI n] S2=.ok (.int n) S2 from rfl];dsimp only
   rw[show QT (.ref m) (.int n) (.int z) S2=some (S2.set m (.dK (f'++[(.inl n,D.int z)]))) by
    unfold QT;dsimp only;rw[u7];show(if f'.length < sizeLine then some (S2.set m (.dK (CJ f' (Dh n) (D.int z))))else none)=_
    rw[qX hlen,pe]]
  have hm3:(S2.set m (.dK (f'++[(.inl n,D.int z)])))[m]?=some (.dK (f'++[(.inl n,D.int z)])):=As (BU u7)
  have yI:(S2.set m (.dK (f'++[(.inl n,D.int z)])))[q]?=some (.ins W.Field (fdF a b c h k m f.kd)):=by
   rw[Ah]
   ·exact hq2
   ·intro e
    subst e;rw[yk]at xB;cases xB
  have wB:∀j,j < S.length->j≠m->(S2.set m (.dK (f'++[(.inl n,D.int z)])))[j]?=S[j]?:=λj hj vq=>by
   rw[Ah (Ch vq),kS.2 j (by rw[<-hS1,D5];exact hj)];exact st j hj vq
  refine⟨_,f'++[(.inl n,D.int z)],?_,hm3,hk2,wB⟩;refine M6 ?_;unfold J4;refine IN (CP (e1:=[sR q,sI n]) (IN (Hz vK) wD)) ?_;refine Ki (ER (fk _ yI) (y:=.int n) (by rfl) (OY (sq _ _ hm3) ?_));rw[dg _ _ hm3,<-pe,DC,qX rfl]
theorem SF(W:Wd)(f:Fp)(n:Int):VF (Hh W) [.q (Gf W f),.v (D.int n)] (rV D.int) (GF f n):=λz l S E G=>by
 match E,G with
 | [d,x],⟨H,I,_⟩=>
  cases I
  obtain⟨q,m,O,rfl,B,C,A⟩:=H (λk=>S[k]?) λ_ _ h=>h
  unfold GF at l;split at l
  ·rename_i s
   have o:=ZJ s.1 s.2 l (A n z s.1 s.2 l) B C;refine⟨.int z,S,?_,Keeps.refl S,rfl⟩;unfold Hh mI
   rw[show Uk "known" [.ref q,.int n] S=some m by
    obtain⟨a,b,c,h,k,J,_⟩:=B;unfold Uk;dsimp only;rw[show S[q]?=_ from J]
    rfl]
   dsimp only;rw[show S[m]?=_ from C];dsimp only;obtain⟨P,Q,L,_⟩:=o [] ⟨Ee,λ_ N=>nomatch N⟩;rw[L];dsimp only;rw[qX o]
  ·cases l
noncomputable def nuS(l:List (ZLi×Int))(x:Int×ZLi):List (ZLi×Int):=CJ l x.2 x.1
noncomputable def hvP(k:Int)(h:ZLi)(p:Int):ZLi:=h.set p.toNat (Ck (h.getD p.toNat 0) (1 * 2 ^ k.toNat))
noncomputable def hvS(h:ZLi)(x:Int×ZLi):ZLi:=x.2.foldl (hvP x.1) h
noncomputable def nuF(ev:List ZLi):List (ZLi×Int):=(Di ev).foldl nuS []
noncomputable def hv0(n:Nat):ZLi:=(D3 0 n).map λ_=>0
noncomputable def hvF(n:Nat)(ev:List ZLi):ZLi:=(Di ev).foldl hvS (hv0 n)
noncomputable def Nm(w:Nat×List ZPi)(g:Int)(kd:Str):Option Fp:=
 (GD w g).bind λl=>(L1 w).bind λm=>(EV l (λ_=>some true) G5).bind λo=>
  if l.length<=1000/\w.1<=1000/\∀r∈l,∀x∈r,0<=x/\x < (w.1:Int)then some ⟨l,kd,m,nuF l,hvF w.1 l,o⟩else none
structure Fc(W:Wd)(S1:Sto)(fs:List (Str×D))(T:Sto):Prop where
 kp:Keeps S1 T
 at':T[S1.length]?=some (.ins W.Field fs)
section
variable{W:Wd}{S1 T T':Sto}{fs:List (Str×D)}{x:Str}{d:D}{e:Lo}{m:ME}{j:Nat}{o:Ob}
theorem Fc.put(h:Fc W S1 fs T)(k:Keeps T T'):Fc W S1 (KB x d fs) (T'.set S1.length (.ins W.Field (KB x d fs))):=⟨(h.kp.trans k).set (AJ _) _,As (BU (k.at h.at'))⟩
theorem Fc.set(h:Fc W S1 fs T)(l:S1.length < j):Fc W S1 fs (T.set j o):=⟨h.kp.set (Mr l) _,by rw[Ah (FS l)];exact h.at'⟩
theorem Fc.step(h:Fc W S1 fs T)(l:e[0]?=some (some (.ref S1.length)))(s:m e T=.ok d T')(k:Keeps T T')(A:fs.length < 1000):KL W.Field x (AC 0) m e T=.ok (.nx e) (T'.set S1.length (.ins W.Field (KB x d fs))):=RW s (Lm l) (k.at h.at') A
theorem Fe(h:T[j]?=some o)(l:q < j):(T.set q o')[j]?=some o:=by rw[Ah (BJ l)];exact h
theorem Vs.all(h:∀(i:Nat) (a:Sl),A[i]?=some a->∃x,e[i]?=some x/\a.ok T (LP T) T x):Vs T A e (LP T) T:=by
 refine⟨Keeps.refl T,λn o q=>?_,λn i q=>?_,λn l=>by unfold LP;rw[CL l],h⟩
 ·unfold LP at q
  split at q
  ·rename_i B s;cases q;exact s
  ·cases q
 ·unfold LP at q
  split at q <;> cases q
theorem Zg(h:T[j]?=some o):LP T j=.fz o:=by unfold LP;rw[h]
theorem l8(ho:mo e T=.ok (.ref n) T)(hi:mi e T=.ok (.int p) T)(A:mv e T=.ok (.int y) T)(B:T[n]?=some (.lst xs))(C:0<=p)(l:xs[p.toNat]?=some (.int z)):XW g mo mi mv e T=.ok (.nx e) (T.set n (.lst (xs.set p.toNat (.int (g z y))))):=by
 have s:atL (.ref n) T=some (n,xs):=by unfold atL;dsimp only;rw[B]
 unfold XW;rw[ho];dsimp only[Res.lift];rw[hi];dsimp only;rw[s];dsimp only;rw[qX C,l];dsimp only;rw[A];dsimp only;rw[s];dsimp only;rw[qX (AF.mp l).1]
end
theorem WI(k:Int):∀(r h:ZLi),(r.foldl (hvP k) h).length=h.length
 | [],h=>rfl
 | p :: r,h=>by
  show(r.foldl (hvP k) (hvP k h p)).length=_;rw[WI k r];exact D5
theorem gq:∀(l:List (Int×ZLi)) (h:ZLi),(l.foldl hvS h).length=h.length
 | [],h=>rfl
 | x :: l,h=>by
  show(l.foldl hvS (hvS h x)).length=_;rw[gq l];exact WI _ _ _
theorem gC:∀(l:List (Int×ZLi)) (h:List (ZLi×Int)),(l.foldl nuS h).length<=h.length+l.length
 | [],h=>AJ _
 | x :: l,h=>by
  have m:=gC l (nuS h x)
  have o:(nuS h x).length<=h.length+1:=by
   unfold nuS CJ;split
   ·rw[AD];exact OH _
   ·rw[AZ];exact AJ _
  show(l.foldl nuS (nuS h x)).length<=_;rw[At]
  lia
theorem cu(ev:List l)(i:Nat):(Di ev)[i]?=(ev[i]?).map λr=>((i:Int),r):=by
 unfold Di;rw[Ai,JH]
 cases ev[i]? <;> simp
noncomputable abbrev eF7(q wn:Nat)(g:Int)(kd:Str)(a b c:Option D):Lo:=[sR q,sR wn,sI g,some (.str kd),a,b,c]
noncomputable abbrev nlA(W:Wd):MS:=XW (λa b=>Ck a b) (EE W.Field "having" (AC 0)) (AC 6) (m2 SN (mC (.int 1)) (AC 4))
noncomputable abbrev nlB(W:Wd):MS:=BH (Cq (EE W.Field "numbers" (AC 0)) (AC 5) (AC 4)) (FV (ES (AC 5)) (tgN 6) (nlA W))
noncomputable abbrev nlG:MG:=Ig 2 (Cp (tgN 4) (Cp (tgN 5) JI))
noncomputable abbrev eF8(q wn:Nat)(g:Int)(kd:Str)(i:Nat)(r:ZLi)(z:Option D):Lo:=eF7 q wn g kd (some (.int (i:Int))) (some (eT D.int r)) z
theorem Xk(W:Wd)(hF:Fc W S1 fs T)(fa:fs.lookup ("everything" : Str)=some (.ref a)) (fc:fs.lookup ("numbers" : Str)=some (.ref c)) (fh:fs.lookup ("having" : Str)=some (.ref h)) (ha:S1.length < a) (Ϧ:a < c) (wJ:c < h) (Ta:T[a]?=some (oL (eT D.int) ev)) (Tc:T[c]?=some (oDR D.int ([]:List (ZLi×Int)))) (Th:T[h]?=some (oL D.int (hv0 n))) (hev:ev.length<=1000) (hr:∀r∈ev,∀x∈r,0<=x/\x < (n:Int)) :
  ∃s e5 l B,FV (NJ (EE W.Field "everything" (AC 0))) nlG (nlB W) (eF7 S1.length wn g kd none none none) T=.ok (.nx (eF7 S1.length wn g kd s e5 l)) B /\
   Fc W S1 fs B/\B[c]?=some (oDR D.int (nuF ev))/\B[h]?=some (oL D.int (hvF n ev))/\∀j,j≠c->j≠h->B[j]?=T[j]?:=by
 have hi:NJ (EE W.Field "everything" (AC 0)) (eF7 S1.length wn g kd none none none) T=.ok (Qk (Fy (.ref a))) T:=by
  unfold NJ;rw[Kn (C:=W.Field) (f:="everything") (m:=AC 0) (n:=S1.length) (by rfl) hF.at' fa];dsimp only[Res.bind];rw[EB Ta]
 have J':(hv0 n).length=n:=by unfold hv0;rw[AD,Bw]
 obtain⟨f,B,I,J⟩:=NM (v:=Qk (Fy (.ref a))) (g:=nlG) (b:=nlB W) (xs:=(Di ev).map (eP D.int (eT D.int))) (e:=eF7 S1.length wn g kd none none none) (S:=T)
  (λi e S=>(∃s e5 l,e=eF7 S1.length wn g kd s e5 l)/\Fc W S1 fs S/\S[c]?=some (oDR D.int (((Di ev).take i).foldl nuS []))/\S[h]?=some (oL D.int (((Di ev).take i).foldl hvS (hv0 n)))/\∀j,j≠c->j≠h->S[j]?=T[j]?)
  (λf S=>∃s e5 l,f=.nx (eF7 S1.length wn g kd s e5 l)/\Fc W S1 fs S/\S[c]?=some (oDR D.int (nuF ev))/\S[h]?=some (oL D.int (hvF n ev))/\∀j,j≠c->j≠h->S[j]?=T[j]?)
  ⟨⟨_,_,_,rfl⟩,hF,Tc,Th,λ_ _ _=>rfl⟩
  (λi e S L=>by
   obtain⟨_,_,_,_,h5⟩:=L;unfold Qk;rw[EB (xs:=ev.map (eT D.int)) (show S[a]?=_ from(h5 a (by lia) (by lia)).trans Ta)]
   exact congrArg some (Uz ev))
  (λi d e S N L=>by
   obtain⟨⟨s,e5,l,rfl⟩,Z,O,Sh,So⟩:=L;rw[Ai]at N;obtain⟨⟨k,r⟩,hx,rfl⟩:=Hm.mp N;have yH:=hx;rw[cu]at yH;obtain⟨r0,P,hr2⟩:=Hm.mp yH;cases hr2;have hrm:r∈ev:=BN P;have wx:i < ev.length:=(AF.mp P).1
   have tk:(Di ev).take (i+1)=(Di ev).take i++[((i:Int),r)]:=by
    rw[Ft,hx];rfl
   refine⟨eF8 S1.length wn g kd i r l,S,rfl,?_⟩
   have Q:Cq (EE W.Field "numbers" (AC 0)) (AC 5) (AC 4) (eF8 S1.length wn g kd i r l) S=.ok (.nx (eF8 S1.length wn g kd i r l)) (S.set c (oDR D.int (CJ (((Di ev).take i).foldl nuS []) r (i:Int)))):=by
    unfold Cq;rw[show AC 4 (eF8 S1.length wn g kd i r l) S=.ok (.int (i:Int)) S from rfl];dsimp only[Res.lift];rw[Kn (C:=W.Field) (f:="numbers") (m:=AC 0) (n:=S1.length) (by rfl) Z.at' fc];dsimp only;rw[show AC 5 (eF8 S1.length wn g kd i r l) S=.ok (eT D.int r) S from rfl];dsimp only
    rw[iO (enc:=D.int) _ r (i:Int) S c O (by
     have:=gC ((Di ev).take i) [];rw[Dk]at this;show(((Di ev).take i).foldl nuS []).length < _;have h0:([]:List (ZLi×Int)).length=0:=rfl
     lia)]
   have R:Fc W S1 fs (S.set c (oDR D.int (CJ (((Di ev).take i).foldl nuS []) r (i:Int)))):=Z.set (by lia);have E:(S.set c (oDR D.int (CJ (((Di ev).take i).foldl nuS []) r (i:Int))))[h]?=some (oL D.int (((Di ev).take i).foldl hvS (hv0 n))):=Fe Sh wJ;have U:(S.set c (oDR D.int (CJ (((Di ev).take i).foldl nuS []) r (i:Int))))[c]?=some (oDR D.int (CJ (((Di ev).take i).foldl nuS []) r (i:Int))):=As (BU O)
   have X:∀j,j≠c->j≠h->(S.set c (oDR D.int (CJ (((Di ev).take i).foldl nuS []) r (i:Int))))[j]?=T[j]?:=λj I J=>by rw[Ah (Ch I)];exact So j I J
   generalize S.set c (oDR D.int (CJ (((Di ev).take i).foldl nuS []) r (i:Int)))=S2 at Q R E U X;generalize hH:((Di ev).take i).foldl hvS (hv0 n)=H at E
   have hHl:H.length=n:=by rw[<-hH,gq,J']
   obtain⟨f,S3,q1,q2⟩:=NM (v:=Fy (eT D.int r)) (g:=tgN 6) (b:=nlA W) (xs:=r.map D.int) (e:=eF8 S1.length wn g kd i r l) (S:=S2)
    (λj e S=>(∃z,e=eF8 S1.length wn g kd i r z)/\Fc W S1 fs S/\S[h]?=some (oL D.int ((r.take j).foldl (hvP (i:Int)) H))/\∀j,j≠h->S[j]?=S2[j]?)
    (λf S=>∃z,f=.nx (eF8 S1.length wn g kd i r z)/\Fc W S1 fs S/\S[h]?=some (oL D.int (r.foldl (hvP (i:Int)) H))/\∀j,j≠h->S[j]?=S2[j]?)
    ⟨⟨_,rfl⟩,R,E,λ_ _=>rfl⟩ (λ_ _ _ _=>rfl)
    (λj d e S N hJ=>by
     obtain⟨⟨z,rfl⟩,A,o,G⟩:=hJ;rw[Ai]at N;obtain⟨p,Q,rfl⟩:=Hm.mp N;have hpr:=hr r hrm p (BN Q);refine⟨eF8 S1.length wn g kd i r (some (.int p)),S,rfl,?_⟩
     have hlp:p.toNat < ((r.take j).foldl (hvP (i:Int)) H).length:=by rw[WI,hHl];lia
     have Ϝ:m2 SN (mC (.int 1)) (AC 4) (eF8 S1.length wn g kd i r (some (.int p))) S=.ok (.int (1 * 2 ^ (i:Int).toNat)) S:=by
      refine ER (x:=.int 1) (y:=.int (i:Int)) rfl rfl ?_;unfold SN L2.intOp;dsimp only;rw[qX (show il 1 (i:Int)from⟨by lia,by lia,by decide⟩)]
     have ha:=l8 (g:=λa b=>Ck a b) (mo:=EE W.Field "having" (AC 0)) (mi:=AC 6) (p:=p) (z:=((r.take j).foldl (hvP (i:Int)) H).getD p.toNat 0) (Kn (C:=W.Field) (f:="having") (m:=AC 0) (n:=S1.length) (e:=eF8 S1.length wn g kd i r (some (.int p))) (by rfl) A.at' fh) (by rfl) Ϝ o hpr.1 (by
      rw[Ai,Bz,AU hlp]
      rfl)
     refine⟨_,_,ha,⟨_,rfl⟩,A.set (by lia),?_,λk hk=>by rw[Ah (Ch hk)];exact G k hk⟩;rw[As (BU o),Ft,Q];show some (Ob.lst _)=some (Ob.lst _);rw[show(some p).toList=[p]from rfl,Hu,List.foldl_cons,UU];unfold hvP
     rw[List.map_set])
    (λe S hJ=>by
     obtain⟨⟨z,rfl⟩,A,o,G⟩:=hJ;rw[AD,MR]at o
     exact⟨z,rfl,A,o,G⟩)
   obtain⟨z,rfl,hS4,Sh4,Y⟩:=q2;refine⟨_,S3,(CP Q).trans (IN (Km (v:=Fy (eT D.int r)) (S1:=S2) (by rfl)) q1),⟨_,_,_,rfl⟩,hS4,?_,?_,λj I J=>(Y j J).trans (X j I J)⟩
   ·rw[Y c (by lia),U,tk,Hu]
    rfl
   ·rw[Sh4,tk,Hu,hH]
    rfl)
  (λe S L=>by
   obtain⟨⟨s,e5,l,rfl⟩,Z,O,Sh,So⟩:=L;rw[AD,MR]at O Sh
   exact⟨s,e5,l,rfl,Z,O,Sh,So⟩)
 obtain⟨s,e5,l,rfl,h3⟩:=J;exact⟨s,e5,l,B,(Km hi).trans I,h3⟩
noncomputable abbrev y1(a:Nat):List (Str×D):=KB "everything" (.ref a) []
noncomputable abbrev y2(a:Nat)(kd:Str):List (Str×D):=KB "kind" (.str kd) (y1 a)
noncomputable abbrev y3(a:Nat)(kd:Str)(b:Nat):List (Str×D):=KB "takes" (.ref b) (y2 a kd)
noncomputable abbrev y4(a:Nat)(kd:Str)(b c:Nat):List (Str×D):=KB "numbers" (.ref c) (y3 a kd b)
noncomputable abbrev y5(a:Nat)(kd:Str)(b c h:Nat):List (Str×D):=KB "having" (.ref h) (y4 a kd b c)
noncomputable abbrev y6(a:Nat)(kd:Str)(b c h k:Nat):List (Str×D):=KB "place_bits" (.ref k) (y5 a kd b c h)
noncomputable abbrev y7(a:Nat)(kd:Str)(b c h k m:Nat):List (Str×D):=KB "known" (.ref m) (y6 a kd b c h k)
noncomputable abbrev eF9(S1:Sto)(wn:Nat)(g:Int)(kd:Str):Lo:=eF7 S1.length wn g kd none none none
theorem iC(W:Wd)(E:Nm w g kd=some f)(hw:S1[wn]?=some (GJ W w)) :
  ∃S,Hi W [.ref S1.length,.ref wn,.int g,.str kd] (S1++[.ins W.Field []])=.ok .non S/\Keeps S1 S/\∀L:Nat->Option Ob,(∀n o,S1.length<=n->S[n]?=some o->L n=some o)->Gf W f L (.ref S1.length):=by
 unfold Nm at E;obtain⟨B,hev,E⟩:=Az E;obtain⟨T,htk,E⟩:=Az E;obtain⟨pb,hpb,E⟩:=Az E;split at E
 case isFalse=>cases E
 rename_i hg;obtain⟨Φ,hg2,hg3⟩:=hg;cases E;have F0:Fc W S1 [] (S1++[.ins W.Field []]):=⟨Keeps.app _ _,Dx _ _⟩
 have l0:(S1++[Ob.ins W.Field []]).length=S1.length+1:=by rw[AZ];rfl
 generalize S1++[Ob.ins W.Field []]=T0 at F0 l0;obtain⟨d,U1,c1,k1,a,rfl,ha,hA⟩:=XD W w g B hev T0 [.ref wn,.int g] ⟨⟨wn,rfl,F0.kp.at hw⟩,rfl,trivial⟩;have m1:Cd 2 (KR W) (AR (AC 1) (AR (AC 2) BL)) (eF9 S1 wn g kd) T0=.ok (.ref a) U1:=(MK (ds:=[.ref wn,.int g]) (S1:=T0) rfl rfl).trans c1;have s1:=F0.step (x:="everything") (e:=eF9 S1 wn g kd) rfl m1 k1 (by decide);have F1:=F0.put (x:="everything") (d:=.ref a) k1
 have J:S1.length < a:=by lia
 have A1:(U1.set S1.length (.ins W.Field (y1 a)))[a]?=some (oL (eT D.int) B):=Fe hA J;generalize U1.set S1.length (.ins W.Field (y1 a))=T1 at s1 F1 A1;have s2:=F1.step (x:="kind") (m:=AC 3) (e:=eF9 S1 wn g kd) (d:=.str kd) rfl rfl (Keeps.refl T1) (Av (AJ 1) (by decide));have F2:=F1.put (x:="kind") (d:=.str kd) (Keeps.refl T1);have A2:(T1.set S1.length (.ins W.Field (y2 a kd)))[a]?=some (oL (eT D.int) B):=Fe A1 J;generalize T1.set S1.length (.ins W.Field (y2 a kd))=T2 at s2 F2 A2;obtain⟨d,U3,c3,k3,b,rfl,hb,hB⟩:=Yg W w T htk T2 [.ref wn] ⟨⟨wn,rfl,F2.kp.at hw⟩,trivial⟩;have ab:a < b:=AY (BU A2) hb;have m3:Cd 1 (MC W) (AR (AC 1) BL) (eF9 S1 wn g kd) T2=.ok (.ref b) U3:=(MK (ds:=[.ref wn]) (S1:=T2) rfl rfl).trans c3;have s3:=F2.step (x:="takes") (e:=eF9 S1 wn g kd) rfl m3 k3 (Av (AJ 2) (by decide));have F3:=F2.put (x:="takes") (d:=.ref b) k3;have A3:(U3.set S1.length (.ins W.Field (y3 a kd b)))[a]?=some (oL (eT D.int) B):=Fe (k3.at A2) J;have B3:(U3.set S1.length (.ins W.Field (y3 a kd b)))[b]?=some (oL (eT D.int) T):=Fe hB (by lia);generalize U3.set S1.length (.ins W.Field (y3 a kd b))=G at s3 F3 A3 B3;have bc:b < G.length:=BU B3;have m4:NH (eF9 S1 wn g kd) G=.ok (.ref G.length) (G++[oDR D.int ([]:List (ZLi×Int))]):=rfl;have U:=Keeps.app G [oDR D.int ([]:List (ZLi×Int))];have s4:=F3.step (x:="numbers") (e:=eF9 S1 wn g kd) rfl m4 U (Av (AJ 3) (by decide));have P:=F3.put (x:="numbers") (d:=.ref G.length) U;have C3:(G++[oDR D.int ([]:List (ZLi×Int))])[G.length]?=some (oDR D.int ([]:List (ZLi×Int))):=Dx _ _;generalize hc:G.length=c at bc s4 P C3;generalize G++[oDR D.int ([]:List (ZLi×Int))]=U4 at U s4 P C3;have A4:=Fe (o':=.ins W.Field (y4 a kd b c)) (U.at A3) J;have B4:=Fe (o':=.ins W.Field (y4 a kd b c)) (U.at B3) (show S1.length < b by lia);have C4:=Fe (o':=.ins W.Field (y4 a kd b c)) C3 (show S1.length < c by lia);generalize U4.set S1.length (.ins W.Field (y4 a kd b c))=T4 at s4 P A4 B4 C4
 have v5:((((some w).bind λx2=>some (x2.1:Int)).bind Nx).bind λl=>EV l (λ_=>some true) (λ_=>some (0:Int)))=some (hv0 w.1):=by
  show((Nx (w.1:Int)).bind λl=>EV l (λ_=>some true) (λ_=>some (0:Int)))=_;rw[Ni (by lia) (by lia)];show EV (D3 0 (w.1:Int).toNat) _ _=_;rw[A9,GY (f:=λ_=>(0:Int)) (by rw[Bw];lia) λ_ _=>rfl];rfl
 obtain⟨d,U5,m5,X,h,rfl,hh,hH⟩:=(Cf (DB (VI.k (Em (JW (Cz (A:=[.u,.z (GJ W w),.u,.u,.u,.u,.u]) (i:=1) rfl)))) (λ_=>GU) (λ_=>CS (enc:=D.int) (v:=0) (d:=.int 0) rfl))) _ v5 T4 (eF9 S1 wn g kd) _ T4 (Vs.all λi x s=>by
  match i,s with
  | 0,s=>cases s;exact⟨_,rfl,trivial⟩
  | 1,s=>cases s;exact⟨_,rfl,wn,rfl,Zg (P.kp.at hw)⟩
  | 2,s=>cases s;exact⟨_,rfl,trivial⟩
  | 3,s=>cases s;exact⟨_,rfl,trivial⟩
  | 4,s=>cases s;exact⟨_,rfl,trivial⟩
  | 5,s=>cases s;exact⟨_,rfl,trivial⟩
  | 6,s=>cases s;exact⟨_,rfl,trivial⟩
  | n+7,s=>cases s)
 have s5:=P.step (x:="having") (e:=eF9 S1 wn g kd) rfl m5 X (Av (AJ 4) (by decide));have F5:=P.put (x:="having") (d:=.ref h) X;have ch:c < h:=AY (BU C4) hh;have A5:=Fe (o':=.ins W.Field (y5 a kd b c h)) (X.at A4) J;have B5:=Fe (o':=.ins W.Field (y5 a kd b c h)) (X.at B4) (show S1.length < b by lia);have C5:=Fe (o':=.ins W.Field (y5 a kd b c h)) (X.at C4) (show S1.length < c by lia);have H5:=Fe (o':=.ins W.Field (y5 a kd b c h)) hH (show S1.length < h by lia);generalize U5.set S1.length (.ins W.Field (y5 a kd b c h))=T5 at s5 F5 A5 B5 C5 H5;obtain⟨Y,e5,Z,T6,s6,F6,C6,H6,O6⟩:=Xk W (wn:=wn) (g:=g) (kd:=kd) (n:=w.1) F5 rfl rfl rfl J (by lia) ch A5 C5 H5 Φ hg3;have A6:=(O6 a (by lia) (by lia)).trans A5;have B6:=(O6 b (by lia) (by lia)).trans B5;have v7:((some B).bind λl=>EV l (λ_=>some true) (λx=>((some x).bind λx=>(some ()).bind λy=>some (x,y)).bind λz=>G5 z.1))=some pb:=hpb
 obtain⟨d,U7,m7,Q,k,rfl,hk,hK⟩:=(Cf (DB (VI.k (nX (A:=[.q (λL d=>∃q fs n,d=.ref q/\L q=some (.ins W.Field fs)/\fs.lookup ("everything" : Str)=some (.ref n)/\L n=some (oL (eT D.int) B)),.u,.u,.u,.u,.u,.u]) (i:=0) (l:=B) (enc:=eT D.int) (C:=W.Field) (x:="everything") (λL d h=>h) rfl)) (λ_=>GU) (λx=>CO (DL (AI (i:=0) rfl) Ca) (λz=>bg W z.1) (λ_=>rfl) Gn))) _ v7 T6 (eF7 S1.length wn g kd Y e5 Z) _ T6 (Vs.all λi x s=>by
  match i,s with
  | 0,s=>cases s;exact⟨_,rfl,.ref S1.length,rfl,λL O=>⟨S1.length,_,a,rfl,O _ _ (Zg F6.at'),rfl,O _ _ (Zg A6)⟩⟩
  | 1,s=>cases s;exact⟨_,rfl,trivial⟩
  | 2,s=>cases s;exact⟨_,rfl,trivial⟩
  | 3,s=>cases s;exact⟨_,rfl,trivial⟩
  | 4,s=>cases s;exact⟨_,rfl,trivial⟩
  | 5,s=>cases s;exact⟨_,rfl,trivial⟩
  | 6,s=>cases s;exact⟨_,rfl,trivial⟩
  | n+7,s=>cases s)
 have s7:=F6.step (x:="place_bits") (e:=eF7 S1.length wn g kd Y e5 Z) rfl m7 Q (Av (AJ 5) (by decide));have F7:=F6.put (x:="place_bits") (d:=.ref k) Q;have vX:h < k:=AY (BU H6) hk
 have cell:∀{j:Nat} {o:Ob},U7[j]?=some o->S1.length < j->(U7.set S1.length (.ins W.Field (y6 a kd b c h k)))[j]?=some o:=λI h2=>Fe I h2
 have A7:=cell (Q.at A6) J;have B7:=cell (Q.at B6) (by lia);have C7:=cell (Q.at C6) (by lia);have H7:=cell (Q.at H6) (by lia);have K7:=cell hK (by lia);generalize U7.set S1.length (.ins W.Field (y6 a kd b c h k))=H at s7 F7 A7 B7 C7 H7 K7
 clear cell
 have m8:Jp (eF7 S1.length wn g kd Y e5 Z) H=.ok (.ref H.length) (H++[.dK []]):=rfl;have N:=Keeps.app H [Ob.dK []];have s8:=F7.step (x:="known") (e:=eF7 S1.length wn g kd Y e5 Z) rfl m8 N (Av (AJ 6) (by decide));have F8:=F7.put (x:="known") (d:=.ref H.length) N;have M7:(H++[Ob.dK []])[H.length]?=some (.dK []):=Dx _ _;have km:k < H.length:=BU K7;generalize H.length=m at s8 F8 M7 km;generalize H++[Ob.dK []]=U8 at N s8 F8 M7
 have cell:∀{j:Nat} {o:Ob},U8[j]?=some o->S1.length < j->(U8.set S1.length (.ins W.Field (y7 a kd b c h k m)))[j]?=some o:=λI h2=>Fe I h2
 have A8:=cell (N.at A7) J;have B8:=cell (N.at B7) (by lia);have C8:=cell (N.at C7) (by lia);have H8:=cell (N.at H7) (by lia);have K8:=cell (N.at K7) (by lia);have M8:=cell M7 (by lia);generalize U8.set S1.length (.ins W.Field (y7 a kd b c h k m))=T8 at s8 F8 A8 B8 C8 H8 K8 M8
 clear cell
 have Q8:T8[S1.length]?=some (.ins W.Field (fdF a b c h k m kd)):=F8.at'
 have run:Kr W [.ref S1.length,.ref wn,.int g,.str kd] T0=.ok .non T8:=by
  refine Y4 (e:=eF7 S1.length wn g kd Y e5 Z) ?_;unfold Pc;show(BH _ _) (eF9 S1 wn g kd) T0=_;rw[CP s1,CP s2,CP s3,CP s4,CP s5,CP s6,CP s7];exact s8
 have C:YD W ⟨B,kd,T,nuF B,hvF w.1 B,pb⟩ (λk=>T8[k]?) S1.length m:=⟨a,b,c,h,k,Q8,A8,B8,C8,H8,K8⟩
 have lkOk:∀n z:Int,0<=n->n < 1000->L3 ⟨B,kd,T,nuF B,hvF w.1 B,pb⟩ n=some z->LM W [.ref S1.length,.ref wn,.int g,.str kd] T8 (.inl n)=z:=λn z _ _ R=>by
  have hQ:Mb T8 [.q (IL W ⟨B,kd,T,nuF B,hvF w.1 B,pb⟩),.v (D.int n)] [.ref S1.length,.int n]:=⟨λL O=>⟨_,m,rfl,C.mono O⟩,rfl,trivial⟩;unfold LM;dsimp only;rw[show qe "kind" S1.length T8=some kd by unfold qe;rw[Q8];rfl];unfold L3 at R;dsimp only at R
  by_cases ck:kd = "one"
  ·rw[wX ck,qX rfl]at R
   obtain⟨d,S,I,_,rfl⟩:=Hx W _ n z R T8 _ hQ;rw[qX (congrArg some ck),I];rfl
  ·rw[wY ck,qY AH]at R
   obtain⟨d,S,I,_,rfl⟩:=Hy W _ n z R T8 _ hQ;rw[qY (λe=>ck (Br e)),I];rfl
 refine⟨T8.set m (.mem (LM W [.ref S1.length,.ref wn,.int g,.str kd] T8)),?_,F8.kp.set (by lia) _,λL O=>⟨S1.length,m,_,rfl,?_,O m _ (by lia) (As (BU M8)),lkOk⟩⟩
 ·unfold Hi lD
  rw[run];dsimp only
  rw[show Uk "known" [.ref S1.length,.ref wn,.int g,.str kd] T8=some m by
   unfold Uk;dsimp only;rw[Q8]
   rfl]
  dsimp only;rw[M8]
 ·have up:∀{j:Nat} {o:Ob},T8[j]?=some o->S1.length<=j->j < m->L j=some o:=λI h2 h3=>O _ _ h2 (by rw[Ah (FS h3)];exact I)
  exact⟨a,b,c,h,k,up Q8 (AJ _) (by lia),up A8 (by lia) (by lia),up B8 (by lia) (by lia),up C8 (by lia) (by lia),up H8 (by lia) (by lia),up K8 (by lia) (by omega)⟩
theorem eQ{W:Wd}{A:List Sl}{ml:ML}{p:Option ((Nat×List ZPi)×Int×Str×Unit)}(m:VA A ml p (λz=>[.z (GJ W z.1),.v (D.int z.2.1),.v (D.str z.2.2.1)])):VE A (Qr W.Field 4 (Hi W) ml) (rQ (Gf W)) (p.bind λz=>Nm z.1 z.2.1 z.2.2.1):=λf s B e F S C=>by
 obtain⟨z,E,G⟩:=Az s;obtain⟨H,Z,I,l,J⟩:=m z E B e F S C
 match H,J with
 | [d1,d2,d3],⟨⟨wn,N,hw⟩,O,P,_⟩=>
  cases N;cases O;cases P;obtain⟨Q,R,T,U⟩:=iC W G hw;exact⟨_,Q,aM I rfl R,l.trans T,λL X=>U L λn o Y=>X n o (Au l.1 Y)⟩
noncomputable def HU(l:Fp)(m:Int)(o:Int):Option (Fw Int Unit):=
 ((GF l (m,()).1).bind λs=>(atI l.hv o).bind λA=>some (Bg s A)).bind λB=>some (.rt B)
noncomputable def GH(l:Fp)(m:Int)(o:Int):Option Int:=Gp (HU l m o)
theorem SG(W:Wd)(l:Fp)(m:Int)(o:Int):VF (Jy W) [.q (Gf W l),.v (D.int m),.v (D.int o)] (rV D.int) (GH l m o):=by
 refine Ex (n:=3) (b:=J5 W) (p:=HU l m o) (B:=λ_=>[]) ?_;show VS [.q (Gf W l),.v (D.int m),.v (D.int o)] _ _ _ _;unfold J5 HU;exact(E2 (RU (Ot (Pf:=Gf W) (Pg:=Gf W) (hZ λ_ _ _ _ _ _ _=>rfl) (λ_ _ h=>h) rfl (DL (AI rfl) Ca) (λs=>SF W l s.1) (λ_=>rfl) Gn) (HI (IP cf rfl) (AI rfl))))
noncomputable def IS(G:Fp)(H:Int):Option (Fw (List ZPi) Unit):=
 BD (some (.nx [])) λN=>BD ((Nl H).bind λl=>Ez l N λ(I:(List ZPi)) m=>BD (((Go G (m,()).1).bind λo=>EV o (λs=>(((some (m,(s,()))).bind λJ=>GH G J.1 J.2.1).bind λO=>some (Bg O H)).bind λP=>some (decide (P=(0:Int)))) (λs=>some s)).bind λA=>some (.nx A)) λL=>EC (λB=>B) (if (!L.isEmpty)=true then EC (λQ=>Q) ((atI L (0:Int)).bind λR=>(HE I m R).bind λC=>some (.nx C))else some (.nx I))) λE=>some (.rt E)
noncomputable def Eu(l:Fp)(m:Int):Option (List ZPi):=Gp (IS l m)
theorem N5(W:Wd)(l:Fp)(m:Int):VF (IZ W) [.q (Gf W l),.v (D.int m)] (rN (oDK D.int)) (Eu l m):=by
 refine Ex (n:=5) (b:=Kv W) (p:=IS l m) (B:=λ_=>[]) ?_;show VS [.q (Gf W l),.v (D.int m),.u,.u,.u] _ _ _ _;unfold Kv IS;exact(Aw (Gv W6) (λA=>(Aw (Eh (s0:=A) (B:=(λ(C:(List ZPi))=>[.q (Gf W l),.v (D.int m),.w 2 ((oDK D.int) C),.u,.u])) (R6 (CO (DL (AI rfl) Ca) (λE=>bf W E.1) (λ_=>rfl) JJ)) Du (.refl _) (λO G=>(Aw (FD (Cf (DB (VI.k (R6 (Ot (Pf:=Gf W) (Pg:=IL W) (hZ λ_ _ _ _ _ _ _=>rfl) Gf.q rfl (DL (AI rfl) Ca) (λo=>T9 W l o.1) (λ_=>rfl) JJ))) (λH=>(Gb (LG DX Jo (RU (Ot (Pf:=Gf W) (Pg:=Gf W) (hZ λ_ _ _ _ _ _ _=>rfl) (λ_ _ h=>h) rfl (DL (AI rfl) (DL (AI rfl) Ca)) (λs=>SG W l s.1 s.2.1) (λ_=>rfl) Gn) (AI rfl)) (CS rfl)))) (λH=>(AI rfl))))) (λI=>(C9 (Fd (B:=(λ(J:(List ZPi))=>[.q (Gf W l),.v (D.int m),.w 2 ((oDK D.int) J),.v (D.int G),.y ((oL D.int) I)])) (jp (DW rfl)) (C9 (W2 rfl (AI rfl) (HI (DW rfl) (CS rfl)) rfl) (λP=>(.refl _))) (Fb (.refl _))) (λL=>(.same (.same (.same (.drop (.drop .nil))))))))))) (λN=>(RQ rfl)))))
noncomputable def O4(m:Fp):Option (Fw (List (Int×ZPi)) Unit):=
 BD (some (.nx [])) λH=>BD (((P3 (1:Int) (m.ev.length:Int)).bind λI=>some (I - (1:Int))).bind λJ=>some (.nx J)) λE=>BD (some (.nx (1:Int))) λo=>BD ((Eu m E).bind λs=>some (.nx s)) λA=>BD (whF (λ(l:(List (Int×ZPi))×Int×Int×(List ZPi))=>some (!l.2.2.2.isEmpty)) (λ(l:(List (Int×ZPi))×Int×Int×(List ZPi))=>BD (Ez (l.2.2.2.map (·.1)) (l.1,l.2.1) λ(G:(List (Int×ZPi))×Int) B=>BD (((Al l.2.2.2 B).bind λL=>some (l.2.2.1,L)).bind λN=>(HE G.1 B N).bind λO=>some (.nx O)) λP=>EC (λQ=>(P,Q)) ((P3 (1:Int) B).bind λR=>some (.nx (E1 G.2 R)))) λC=>BD (some (.nx (l.2.2.1+(1:Int)))) λS=>EC (λT=>(C.1,C.2,S,T)) ((Eu m C.2).bind λU=>some (.nx U))) wN (H,E,o,A)) λX=>some (.rt X.1)
noncomputable def O9(l:Fp):Option (List (Int×ZPi)):=Gp (O4 l)
theorem eW(W:Wd)(l:Fp):VF (S9 W) [.q (Gf W l)] (rN (oDK (eP D.int D.int))) (O9 l):=by
 refine Ex (n:=6) (b:=TW W) (p:=O4 l) (B:=λ_=>[]) ?_;show VS [.q (Gf W l),.u,.u,.u,.u,.u] _ _ _ _;unfold TW O4;exact(Aw (Gv W6) (λH=>(Aw (Do (Kc (R7 (CS rfl) (Ll (IP N9 rfl))) (CS rfl))) (λI=>(Aw (Do (CS rfl)) (λE=>(Aw (Gv (CO (n9 (Pf:=Gf W) (Pg:=Gf W) (λ_ _ h=>h) rfl (DL (AI rfl) Ca)) (λm=>N5 W m.1 m.2.1) (λ_=>rfl) JJ)) (λG=>(Aw (W0 (s0:=(H,I,E,G)) (B:=(λ(C:(List (Int×ZPi))×Int×Int×(List ZPi))=>[.q (Gf W l),.w 1 ((oDK (eP D.int D.int)) C.1),.v (D.int C.2.1),.v (D.int C.2.2.1),.w 4 ((oDK D.int) C.2.2.2),.u])) (.refl _) (λo=>(eR (JN rfl))) (λo=>(Aw (sP 4 rfl rfl (Eh (s0:=(o.1,o.2.1)) (B:=(λ(s:(List (Int×ZPi))×Int)=>[.q (Gf W l),.w 1 ((oDK (eP D.int D.int)) s.1),.v (D.int s.2),.v (D.int o.2.2.1),.y ((oFK D.int) o.2.2.2),.u])) (nW rfl) Du (.refl _) (λJ L=>(Aw (W2 rfl (AI rfl) (KI (AI rfl) (bd (DW rfl) (AI rfl))) rfl) (λN=>(C9 (Pu rfl (R7 (CS rfl) (AI rfl))) (λO=>(.same (.same (.same (.same (.same (.drop .nil))))))))))))) (λP=>(Aw (Pu rfl (CS rfl)) (λQ=>(C9 (Gv (CO (n9 (Pf:=Gf W) (Pg:=Gf W) (λ_ _ h=>h) rfl (DL (AI rfl) Ca)) (λA=>N5 W A.1 A.2.1) (λ_=>rfl) JJ)) (λR=>(.refl _))))))))) (λS=>(RQ rfl)))))))))))
noncomputable def RY(A:(Nat×List ZPi))(B:Int)(C:Str):Option (Fw (List (ZLi×Int×Int)) Unit):=
 BD (((some (A,(B,(C,())))).bind λm=>Nm m.1 m.2.1 m.2.2.1).bind λE=>some (.nx E)) λs=>BD ((O9 s).bind λG=>some (.nx G)) λl=>(EV (Bv (l.map (·.1))) (λo=>some true) (λo=>(atI s.ev o).bind λH=>(Al l o).bind λI=>some (H,I))).bind λJ=>some (.rt J)
noncomputable def RZ(l:(Nat×List ZPi))(m:Int)(o:Str):Option (List (ZLi×Int×Int)):=Gp (RY l m o)
theorem jq(W:Wd)(l:(Nat×List ZPi))(m:Int)(o:Str):VF (WQ W) [.z ((GJ W) l),.v (D.int m),.v (D.str o)] (rN (oL (eP3 (eT D.int) D.int D.int))) (RZ l m o):=by
 refine Ex (n:=5) (b:=Wa W) (p:=RY l m o) (B:=λ_=>[]) ?_;show VS [.z ((GJ W) l),.v (D.int m),.v (D.str o),.u,.u] _ _ _ _;unfold Wa RY;exact(Aw (jV (eQ (Mv (Cz rfl) (DL (AI rfl) (DL (AI rfl) Ca))))) (λE=>(Aw (FD (CO (n9 (Pf:=Gf W) (Pg:=Gf W) (λ_ _ h=>h) rfl Ca) (λs=>eW W s.1) (λ_=>rfl) JJ)) (λA=>(FE (Cf (DB (VI.k (R6 (bb (DW rfl)))) (λC=>GU) (λC=>(eO (HI (IP N9 rfl) (AI rfl)) (eN (DW rfl) (AI rfl)))))))))))
noncomputable def HQ(l:(Nat×List ZPi))(m:Int)(s:Str):Option (Fw (Option (List (ZLi×Int×Int))) Unit):=
 BD ((RZ l m s).bind λA=>some (.nx A)) λo=>((G4 l m).bind λB=>some (decide ((o.length:Int)=B))).bind λC=>some (.rt (if C=true then some o else none))
noncomputable def EN(l:(Nat×List ZPi))(m:Int)(o:Str):Option (Option (List (ZLi×Int×Int))):=Gp (HQ l m o)
theorem Mw(W:Wd)(m:(Nat×List ZPi))(o:Int)(s:Str):VF (He W) [.z ((GJ W) m),.v (D.int o),.v (D.str s)] (rOL (oL (eP3 (eT D.int) D.int D.int))) (EN m o s):=by
 refine Ex (n:=4) (b:=J1 W) (p:=HQ m o s) (B:=λ_=>[]) ?_;show VS [.z ((GJ W) m),.v (D.int o),.v (D.str s),.u] _ _ _ _;unfold J1 HQ;exact(Aw (FD (CO (Mv (Cz rfl) (DL (AI rfl) (DL (AI rfl) Ca))) (λA=>jq W A.1 A.2.1 A.2.2.1) (λ_=>rfl) JJ)) (λC=>(dj (Gb (LG DX Jo (Ll (DW rfl)) (CO (Mv (Cz rfl) (DL (AI rfl) Ca)) (λl=>SD W l.1 l.2.1) (λ_=>rfl) Gn))) rfl)))
open PySem L2
theorem gD(h:x.1 < x.2):nrm x=x:=by
 unfold nrm;rw[qY (by lia),qX (by omega)]
theorem gF(x:Int×Int):nrm (x.2,x.1)=nrm x:=by
 unfold nrm;dsimp only
 congr 1
 ·split <;> split <;> lia
 ·split <;> split <;> lia
theorem fE(h:l.Perm l'):Ih l=Ih l':=P2 ((Et l).trans (h.trans (Et l').symm)) (O0 l) (O0 l')
theorem jt(h:(ps.map nrm).Perm (qs.map nrm)):HD ps=HD qs:=by
 unfold HD Lp;have:=h.map Vy;rw[BC,BC]at this;rw[show(λx=>Vy (nrm x))=Vy∘nrm from rfl,fE this]
theorem GN.of(h:(ps.map nrm).Perm (l.map nrm))(f:GN p l):GN p ps:=by
 refine⟨λx m=>?_,h.nodup_iff.mpr f.2⟩;obtain⟨y,o,e⟩:=BF.mp (h.mem_iff.mp (bS m));have:=f.1 y o;unfold Fit at this ⊢;rw[<-e];exact this
noncomputable def nr(ts:List ZPi)(x:Nat):ZLi:=Bv (DM ts x)
theorem ZB:z∈nr ts x↔((x:Int),z)∈ts∨(z,(x:Int))∈ts:=by
 unfold nr;rw[(EM _).mem_iff];unfold DM;rw[ir]
 constructor
 ·rintro⟨t,l,h⟩
  rcases Ay.mp h with h | h
  ·split at h
   ·rename_i e
    rw[Ad.mp h,<-e];exact .inl l
   ·cases h
  ·split at h
   ·rename_i e
    rw[Ad.mp h,<-e];exact .inr l
   ·cases h
 ·rintro(h | h)
  ·exact⟨_,h,BO _ (by simp)⟩
  ·exact⟨_,h,BW _ (by simp)⟩
open PySem L2 L4
theorem WX(ns:ZLi)(k:Nat):Cj ns (k:Int)=some (ns.getD k 0):=by
 unfold Cj HS
 by_cases c:k < ns.length
 ·rw[wX (show(k:Int) < (ns.length:Int) by lia),qX rfl,J6 (x:=ns[k]) (by lia) (by rw[A9];exact AU c)]
  simp only[AE,ie,aH];rw[Bz,AU c];rfl
 ·rw[wY (show ¬(k:Int) < (ns.length:Int) by lia),qY AH]
  simp only[BX,aH];rw[Bz,CL (by lia)];rfl
noncomputable def prs(o:Nat):List ZPi:=(HW o).getD []
theorem Ue:∀o:Nat,o < 8->HW o=some (prs o)/\(∀x∈prs o,0<=x.1/\x.1 < x.2/\x.2 < o)/\(prs o).Nodup/\(prs o).length<=21/\(2<=o->prs o≠[])/\∀y:Nat,y < 7->((prs o).filter λx=>decide ((y:Int)∈[x.1,x.2])).length<=6:=by decide +kernel
theorem cj:∀o:Nat,o < 8->∀s:Nat,s < 6->∃fs,En o s=some fs/\fs.length<=21:=by
 have h:∀o:Nat,o < 8->∀s:Nat,s < 6->(match En o s with | some fs=>decide (fs.length<=21) | none=>false)=true:=by decide +kernel
 intro o l s m;have:=h o l s m
 cases q:En o s with
 | none=>rw[q]at this;cases this
 | some fs=>rw[q]at this;exact⟨fs,rfl,of_decide_eq_true this⟩
theorem Qm[DecidableEq l](m:List (l×o))(k:l)(v:o):(CJ m k v).length<=m.length+1:=by
 unfold CJ;split
 ·rw[AD];lia
 ·rw[AZ];simp
theorem oF(ns:ZLi)(wZ:ns.length<=63)(f:Nat)(hf:f<=1000){o:Nat}(Q:2<=o)(ho:o < 8):∃P,Ij ns f o=some ((prs o).filter P):=by
 obtain⟨X,-,-,hl,R,-⟩:=Ue o ho;obtain⟨fs,S,B⟩:=cj o ho (ns.getD 0 0 / 7 % 6).toNat (by lia);rw[Bq (by lia)]at S;unfold Ij KN;simp only[AE];rw[X,show Cj ns 0=some (ns.getD 0 0)from WX ns 0];simp only[AE,BX];rw[S];simp only[AE]
 obtain⟨Y,Z,l1⟩:=Pa (ρ:=List ZPi) (l:=fs) (s0:=([]:List (ZPi×Bool))) (q:=λvL xC=>EC (λε=>ε) ((HE vL xC true).bind λC=>some (.nx C))) (λm s=>s.length<=m.length) (AJ _) (by
  intro m x s T E hs;have:=E.length_le;rw[AZ,A0]at this;refine⟨CJ s x true,?_,?_⟩
  ·rw[show HE s x true=some (CJ s x true)from qX (by lia)]
   rfl
  ·rw[AZ,A0]
   exact Au (Qm _ _ _) (by lia))
 rw[Z];simp only[BX];rw[aB (by lia) (by lia) (by split <;> lia) (by split <;> lia)];simp only[AE]
 have vB:0 < ((prs o).length:Int):=by have:=Ja.mpr (R Q);lia
 obtain⟨G,e4,-⟩:=Pa (ρ:=List ZPi) (l:=D3 (f:Int) ((if (63:Int) < (ns.length:Int)then(63:Int)else(ns.length:Int)) - (f:Int)).toNat) (s0:=Y) (q:=λH yZ=>BD (((atI ns yZ).bind λI=>UG I ((prs o).length:Int)).bind (λzZ=>atI (prs o) zZ) |>.bind λA'=>some (.nx A')) λJ=>EC (λη=>η) ((if (!(Al H J).isSome)=true then some true else(Al H J).bind λL=>some (!L)).bind λN=>(HE H J N).bind λO=>some (.nx O))) (λm s=>s.length<=21+m.length) (Au l1 B) (by
  intro m x s T E hs;have U:=E.length_le;rw[AZ,A0,Bw]at U;obtain⟨Ξ,Ο⟩:=CM.mp T;obtain⟨y,ey,-⟩:=Zd (l:=ns) (i:=x) (by lia) (by split at Ο <;> lia);rw[ey];simp only[AE];rw[Ra vB];simp only[AE];obtain⟨t,et,-⟩:=Rn (l:=prs o) y (R Q);rw[et];simp only[AE,BX]
  have hb:∃b,(if (!(Al s t).isSome)=true then some true else(Al s t).bind λL=>some (!L))=some b:=by
   cases Al s t with
   | none=>exact⟨true,rfl⟩
   | some b=>exact⟨!b,rfl⟩
  obtain⟨b,hb⟩:=hb;rw[hb];simp only[AE];refine⟨CJ s t b,?_,?_⟩
  ·rw[show HE s t b=some (CJ s t b)from qX (by split at U <;> lia)]
   rfl
  ·rw[AZ,A0]
   exact Au (Qm _ _ _) (by lia))
 refine⟨λx=>match Al G x with | some b=>b | none=>false,?_⟩;have A:=e4;simp only[Option.bind_assoc,AE]at A ⊢;rw[A];simp only[BX]
 rw[IJ (P:=λx=>match Al G x with | some b=>b | none=>false) (by lia) (by
  intro x _
  cases Al G x with
  | none=>rfl
  | some b=>rfl)]
 rfl
structure LQ(o:Nat)(ts:List ZPi):Prop where
 rg:∀x∈ts,0<=x.1/\x.1 < x.2/\x.2 < o
 nd:ts.Nodup
 ln:ts.length<=21
 dg:∀y:Nat,y < 7->(ts.filter λx=>decide ((y:Int)∈[x.1,x.2])).length<=6
theorem jv(ho:o < 8)(P:Int×Int->Bool):LQ o ((prs o).filter P):=by
 obtain⟨-,l,m,s,-,A⟩:=Ue o ho;refine⟨λx B=>l x (Am.mp B).1,m.filter _,Au (Cy _ _) s,λy C=>?_⟩;refine Au ?_ (A y C);exact(uv _ List.filter_sublist).length_le
theorem gu(ns:ZLi)(m:ts.length<=1000):∃l,IW ns ts=some l/\(l=ts∨l=ts.reverse.map λx=>(x.2,x.1)):=by
 unfold IW IT;rw[show Cj ns 0=some (ns.getD 0 0)from WX ns 0];simp only[AE]
 by_cases c:ns.getD 0 0 / 42 % 2=0
 ·rw[wX c,qX rfl]
  exact⟨ts,rfl,.inl rfl⟩
 ·rw[wY c,qY AH]
  simp only[BX];rw[GY (f:=λx:Int×Int=>(x.2,x.1)) (by rw[bT];lia) λx _=>rfl];exact⟨_,rfl,.inr rfl⟩
theorem LQ.nrm(h:LQ o ts):ts.map nrm=ts:=by
 conv=>rhs;rw[<-N4 ts]
 exact DU λx l=>gD (h.rg x l).2.1
theorem LQ.fit(h:LQ o ts):GN o ts:=by
 refine⟨λx l=>?_,by rw[h.nrm];exact h.nd⟩;have:=h.rg x l;unfold Fit;rw[gD this.2.1];omega
theorem LQ.mem(h:LQ o ts):t∈HD ts↔t∈ts:=by
 rw[(P0 ts).mem_iff,h.nrm]
theorem LQ.web(h:LQ o ts)(A:1<=o)(ho:o<=60)(e:l=ts∨l=ts.reverse.map λx=>(x.2,x.1)):dh (o:Int) l=some (o,HD ts):=by
 have m:(l.map M.nrm).Perm (ts.map M.nrm):=by
  rcases e with rfl | rfl
  ·exact bW _
  ·rw[BC,show(M.nrm∘λx:Int×Int=>(x.2,x.1))=M.nrm from funext λx=>gF x,iu]
   exact Qb _
 have s:l.length=ts.length:=by have:=m.length_eq;rwa [AD,AD]at this
 unfold dh;rw[qX ⟨by lia,by lia,GN.of m h.fit,by rw[s];have:=h.ln;lia⟩,jt m,A9]
theorem gM{o:Nat}{us:List ZPi}{g:Int}(l:0<=g)(m:g < o):atI (QI o us) g=some (nr us g.toNat):=by
 refine J6 l ?_;unfold QI;rw[Ai,E6 (by lia)];rfl
theorem pd{o:Nat}{us:List ZPi}{g:Int}(l:0<=g)(m:g < o):V2 (o,us) g=some (nr us g.toNat):=by
 unfold V2 V0 HV Ff;simp only[AE];rw[wX l,qX rfl,wX m];simp only[AE];show Gp (BD (((kl (some (Fw.nx ()))).bind λ_=>some (.nx ()))) λ_=>_)=_;simp only[kj,AE,BX];rw[gM l m];rfl
noncomputable def lnr(ts:List ZPi)(y:Int):ZLi:=(ts.filter λx=>decide (y∈[x.1,x.2])).map λx=>x.1+x.2 - y
theorem aU(L:ts.length<=1000)(y:Int):Il ts y=some (Bv (lnr ts y)):=by
 unfold Il KO;simp only[AE,lj (show([]:ZLi).length<=1000000 by decide),BX]
 obtain⟨s,e,rfl⟩:=Pa (ρ:=ZLi) (l:=ts) (s0:=([]:ZLi)) (q:=λA o=>EC (λB=>B) (if decide (y∈[o.1,o.2])=true then EC (λC=>C) ((Wb A (o.1+o.2 - y)).bind λE=>some (.nx E))else some (.nx A))) (λm s=>s=lnr m y) rfl (by
  rintro m x s N G rfl;have H:=G.length_le;rw[AZ,A0]at H
  have I:(lnr m y).length<=m.length:=by unfold lnr;rw[AD];exact Cy _ _
  have J:lnr (m++[x]) y=if decide (y∈[x.1,x.2])=true then lnr m y++[x.1+x.2 - y]else lnr m y:=by
   unfold lnr;rw[X3];split
   ·rw[CW];rfl
   ·rfl
  rw[J]
  cases c:decide (y∈[x.1,x.2])with
  | true=>
   rw[qX rfl,qX rfl,bJ (by lia)];exact⟨_,rfl,rfl⟩
  | false=>exact⟨_,rfl,rfl⟩)
 rw[e];rfl
theorem aT:z∈lnr ts y↔(y,z)∈ts∨(z,y)∈ts:=by
 unfold lnr;rw[BF]
 constructor
 ·rintro⟨x,o,rfl⟩
  obtain⟨m,l⟩:=Am.mp o;have l:=of_decide_eq_true l
  rcases Ae.mp l with h | h
  ·left
   rw[show(y,x.1+x.2 - y)=x from UR h (by show x.1+x.2 - y=x.2;lia)];exact m
  ·right
   have h:=Ad.mp h;rw[show(x.1+x.2 - y,y)=x from UR (by show x.1+x.2 - y=x.1;lia) h];exact m
 ·rintro(h | h)
  ·exact⟨_,Am.mpr ⟨h,wX (by simp)⟩,by show y+z - y=z;lia⟩
  ·exact⟨_,Am.mpr ⟨h,wX (by simp)⟩,by show z+y - y=z;lia⟩
theorem CF:x∈Bv l↔x∈l:=(EM l).mem_iff
theorem LQ.near(h:LQ o ts)(l:0<=g)(z:Int):z∈nr (HD ts) g.toNat↔z∈Bv (lnr ts g):=by
 rw[ZB,CF,aT,h.mem,h.mem,Bq l]
theorem fq:∀n:Nat,n < 128->∀x:Nat,x < 7->Ck (n:Int) (1 * 2 ^ x)=((n ||| 2 ^ x:Nat):Int)/\(n ||| 2 ^ x) < 128/\∀y:Nat,y < 7->(n ||| 2 ^ x).testBit y=(n.testBit y||decide (x=y)):=by decide +kernel
theorem bu:∀x:Nat,x < 8->P3 1 (x:Int)=some (1 * 2 ^ x):=by decide +kernel
theorem qw(h:∀x∈l,0<=x/\x < 7):Ok (G5 l) λr=>∃n:Nat,r=n/\n < 128/\∀y:Nat,y < 7->(n.testBit y=true↔(y:Int)∈l):=by
 unfold G5 Nk;simp only[AE,BX];refine OkF.out (OkF.seq (OkF.for (λm (s:Int)=>∃n:Nat,s=n/\n < 128/\∀y:Nat,y < 7->(n.testBit y=true↔(y:Int)∈m)) ⟨0,rfl,by decide,λy _=>by simp⟩ ?_) ?_)
 ·rintro m x s A L ⟨n,rfl,B,C⟩
  obtain⟨N,O⟩:=h x A
  obtain⟨k,rfl⟩:∃k:Nat,x=k:=⟨x.toNat,by lia⟩
  rw[bu k (by lia)];obtain⟨E,G,H⟩:=fq n B k (by lia);refine .nx ⟨n ||| 2 ^ k,E,G,λy o=>?_⟩;rw[H y o,Mt,C y o,Ay,Ad,decide_eq_true_eq];refine⟨λq=>q.elim .inl λq=>.inr (by rw[q]),λq=>q.elim .inl λq=>.inr (by lia)⟩
 ·rintro s ⟨n,rfl,I,J⟩
  exact .rt ⟨n,rfl,I,J⟩
noncomputable def Tg(us:List ZPi)(g:Int):ZLi:=Bv ([g]++nr us g.toNat)
noncomputable def tkl(o:Nat)(us:List ZPi):List ZLi:=(D3 0 o).map (Tg us)
theorem md{o:Nat}{us:List ZPi}{g:Int}(l:0<=g)(m:g < o):atI (tkl o us) g=some (Tg us g):=by
 refine J6 l ?_;unfold tkl D3;rw[Ai,Ai,E6 (by lia)];show some (Tg us (0+(g.toNat:Int)))=_;rw[show(0:Int)+(g.toNat:Int)=g by lia]
theorem ed{o:Nat}{us:List ZPi}{g:Int}(l:0<=g)(m:g < o):Tk (tkl o us) g=Tg us g:=by
 unfold Tk;rw[md l m];rfl
structure Im(o:Nat)(us:List ZPi):Prop where
 sm:o < 8
 len:∀g:Int,0<=g->g < o->(nr us g.toNat).length<=6
 rg:∀g:Int,0<=g->g < o->∀x∈nr us g.toNat,0<=x/\x < o/\x≠g
 nd:∀g:Int,0<=g->g < o->(nr us g.toNat).Nodup
section
variable{o:Nat}{us:List ZPi}
theorem QY:x∈Tg us g↔x=g∨x∈nr us g.toNat:=by
 unfold Tg;rw[CF];simp
theorem Im.tg(h:Im o us){g:Int}(l:0<=g)(m:g < o):(Tg us g).length<=7/\(∀x∈Tg us g,0<=x/\x < o)/\(Tg us g).Pairwise (· < ·):=by
 refine⟨?_,λx s=>?_,?_⟩
 ·unfold Tg
  rw[(EM _).length_eq,AZ,A0];have:=h.len g l m
  lia
 ·rcases QY.mp s with rfl | s
  ·exact⟨l,m⟩
  ·exact⟨(h.rg g l m x s).1,(h.rg g l m x s).2.1⟩
 ·have A:(Tg us g).Nodup:=by
   unfold Tg;rw[(EM _).nodup_iff];show(g :: nr us g.toNat).Nodup;rw[Bf];exact⟨λz=>(h.rg g l m g z).2.2 rfl,h.nd g l m⟩
  have:=(SL ([g]++nr us g.toNat))
  exact(UW this A).imp λ⟨a,b⟩=>by lia
theorem jw(h:Im o us):L1 (o,us)=some (tkl o us):=by
 unfold L1 Lx;simp only[AE];rw[Ni (by lia) (by have:=h.sm;lia),A9];simp only[AE]
 rw[GY (f:=Tg us) (by rw[Bw];have:=h.sm;lia) λx m=>by
  obtain⟨l,s⟩:=CM.mp m;rw[pd l (by lia),qh];simp only[AE];rw[Nq (by have:=h.len x l (by lia);rw[A0];lia)]
  rfl]
 rfl
theorem Rv(f:Int->Int):∀l:ZLi,l.zip (l.map f)=l.map λg=>(g,f g)
 | []=>rfl
 | x :: l=>by rw[BA,Pi,Rv f l];rfl
theorem Zu{a b:ZLi}{x y z:Int}(B:b.Nodup)(C:(x,z)∈a.zip b)(E:(y,z)∈a.zip b):x=y:=by
 obtain⟨i,G,l⟩:=B2 C;obtain⟨j,H,m⟩:=B2 E;rw[JT]at G H;rw[Ip]at l m;have s:=(Wv l);have A:=(Wv m);have:i=j:=(MW B).mp (s.2.trans A.2.symm);subst this;exact s.1.symm.trans A.1
end
open PySem L2 L4
open Srt (ltL)
theorem Xs:∀a:ZLi,ltL a a=false
 | []=>rfl
 | x :: a=>by unfold ltL;rw[qX rfl];exact Xs a
section
variable{o:Nat}{us:List ZPi}
noncomputable def dB(us:List ZPi)(gs:ZLi)(c:Int)(r:ZLi):Prop:=r.length=gs.length/\r.Nodup/\(∀y∈gs.zip r,y.2∈Tg us y.1)/\c∈r
theorem dB.rg(h:Im o us){gs r:ZLi}{c:Int}(s:∀g∈gs,0<=g/\g < o)(l:dB us gs c r):∀x∈r,0<=x/\x < o:=λx A=>by
 obtain⟨i,B,rfl⟩:=B2 A
 have C:i < gs.length:=by rw[<-l.1];exact B
 have m:(gs[i],r[i])∈gs.zip r:=by
  have:(gs.zip r)[i]'(by rw[JT];lia)=(gs[i],r[i]):=Ip;rw[<-this];exact Cb _
 have:=s gs[i] (Cb _);exact(h.tg this.1 this.2).2.1 _ (l.2.2.1 _ m)
end
theorem qL:∀n:Nat,n < 128->∀x:Nat,x < 7->hb (n:Int) (x:Int)=n.testBit x:=by decide +kernel
noncomputable abbrev bit(n:Nat)(x:Int):Prop:=n.testBit x.toNat=true
noncomputable def InS(us:List ZPi)(gs:ZLi)(P:Int->Prop)(r:ZLi):Prop:=r.length=gs.length/\r.Nodup/\(∀y∈gs.zip r,y.2∈Tg us y.1)/\∀x∈r,P x
section
variable{o:Nat}{us:List ZPi}{gs rest:ZLi}{P Q:Int->Prop}{g:Int}{n:Nat}
theorem InS.rg(h:Im o us)(A:∀g∈gs,0<=g/\g < o)(l:InS us gs P r):∀x∈r,0<=x/\x < o:=λx B=>by
 obtain⟨i,C,rfl⟩:=B2 B;have E:=l.1
 have m:(gs[i]'(by lia),r[i])∈gs.zip r:=by
  have:(gs.zip r)[i]'(by rw[JT];lia)=(gs[i]'(by lia),r[i]):=Ip;rw[<-this];exact Cb _
 have s:=A _ (Cb (show i < gs.length by lia));exact(h.tg s.1 s.2).2.1 _ (l.2.2.1 _ m)
theorem InS.imp(l:InS us gs P r)(i:∀x∈r,P x->Q x):InS us gs Q r:=⟨l.1,l.2.1,l.2.2.1,λx m=>i x m (l.2.2.2 x m)⟩
theorem oY(h:Im o us)(I:n < 128)(s:∀g∈rest,0<=g/\g < o)(J:rest.Nodup):Sdr (Tk (tkl o us)) (n:Int) rest↔∃r,InS us rest (bit n) r:=by
 have U:=h.sm
 have hw:∀g∈rest,∀x,x∈w0 (Tk (tkl o us)) (n:Int) g↔x∈Tg us g/\bit n x:=λg m x=>by
  unfold w0;rw[Am,ed (s g m).1 (s g m).2]
  refine and_congr_right λa=>?_
  have:=(h.tg (s g m).1 (s g m).2).2.1 x a
  obtain⟨k,rfl⟩:∃k:Nat,x=k:=⟨x.toNat,by lia⟩
  unfold bit;rw[qL n I k (by lia),A9]
 constructor
 ·rintro⟨f,E,L⟩
  refine⟨rest.map f,AD _,?_,λy G=>?_,λx N=>?_⟩
  ·unfold Ga
   rw[Bn]
   exact J.imp_of_mem λ{a b} B C O e=>O (L a B b C e)
  ·rw[Rv]at G
   obtain⟨g,m,rfl⟩:=BF.mp G;exact((hw g m _).mp (E g m)).1
  ·obtain⟨g,m,rfl⟩:=BF.mp N
   exact((hw g m _).mp (E g m)).2
 ·rintro⟨l,X,R,S,T⟩
  have ex:∀a:Int,∃z:Int,a∈rest->(a,z)∈rest.zip l:=λa=>by
   by_cases q:a∈rest
   ·obtain⟨i,Y,e⟩:=B2 q
    refine⟨l[i]'(by lia),λ_=>?_⟩
    have:(rest.zip l)[i]'(by rw[JT];lia)=(a,l[i]'(by lia)):=by rw[Ip,e]
    rw[<-this];exact Cb _
   ·exact⟨0,λz=>zX z q⟩
  have A:=λa=>EG (ex a)
  refine⟨λa=>C2 (ex a),λg m=>(hw g m _).mpr ⟨S _ (A g m),T _ (JS (A g m)).2⟩,λa B b C e=>?_⟩;have e:C2 (ex a)=C2 (ex b):=e;have H:=A a B;rw[e]at H;exact Zu R H (A b C)
theorem qf(h:Im o us)(E:n < 128)(m:∀g∈rest,0<=g/\g < o)(C:rest.Nodup):Ok (Se (tkl o us) rest (n:Int)) λb=>b=true↔∃r,InS us rest (bit n) r:=by
 have J:=h.sm
 have s:((tkl o us).length:Int)=o:=by unfold tkl;rw[AD,Bw]
 have G:(∀t∈tkl o us,t.length<=1000/\∀x∈t,0<=x)/\∀g∈rest,0<=g/\g < ((tkl o us).length:Int):=by
  refine⟨λt B=>?_,λg l=>by rw[s];exact m g l⟩;obtain⟨g,l,rfl⟩:=BF.mp B;obtain⟨H,L⟩:=CM.mp l;have:=h.tg H (by lia);exact⟨by omega,λx A=>(this.2.1 x A).1⟩
 have fs:=cg (T:=Tk (tkl o us)) (bits:=(n:Int)) (U:=D3 0 o) (Gd:=λg=>0<=g/\g < o) (n:=9) (gs:=rest) (λg l x A=>by
  rw[ed l.1 l.2]at A;have:=(h.tg l.1 l.2).2.1 x A
  exact CM.mpr ⟨this.1,by lia⟩) (by rw[Bw];lia) (by rw[Bw];lia) (λg l=>⟨m g l,by rw[ed (m g l).1 (m g l).2];exact QY.mpr (.inl rfl)⟩) C
 have I:Se (tkl o us) rest (n:Int)=Uu (Tk (tkl o us)) (n:Int) 9 rest:=qX G;rw[I]
 exact fs.imp λb hb=>hb.trans (oY h E m C)
end
end M
namespace L4
theorem YZ{ρ l:Type}{c:l->Option Bool}{q:l->Option (Fw ρ l)}(I:l->Prop)(m:l->Nat)(h:∀s,I s->c s=some false∨(c s=some true/\∃s',q s=some (.nx s')/\I s'/\m s' < m s)) :
  ∀(n:Nat) (s:l),I s->m s < n->∃s',whF c q n s=some (.nx s')/\I s'/\c s'=some false
 | 0,s,_,A=>zX A (Nc _)
 | n+1,s,B,A=>by
  unfold whF
  rcases h s B with o | ⟨o,s',C,E,G⟩
  ·rw[o]
   exact⟨s,rfl,B,o⟩
  ·rw[o]
   simp only[AE,if_true];rw[C];exact YZ I m h n s' E (by lia)
end L4
namespace M
open PySem L2 L4
theorem Ro(a b:Nat):Bg (a:Int) (b:Int)=((a &&& b:Nat):Int):=by
 unfold Bg;rw[wX (Kb a),wX (Kb b)];rfl
theorem V3(a b:Nat):Ck (a:Int) (b:Int)=((a ||| b:Nat):Int):=by
 unfold Ck Bg dc;rw[wY (show ¬0<=-(a:Int) - 1 by lia),wY (show ¬0<=-(b:Int) - 1 by lia)];show -(-((((-(-(a:Int) - 1) - 1).toNat ||| (-(-(b:Int) - 1) - 1).toNat:Nat):Nat):Int) - 1) - 1=_;rw[show(-(-(a:Int) - 1) - 1).toNat=a by lia,show(-(-(b:Int) - 1) - 1).toNat=b by lia]
 lia
theorem fo:∀a b:Nat,(a ||| b)=(a ^^^ b)+(a &&& b):=by
 intro a
 induction a using mS with
 | ind a o=>
  intro b
  by_cases h:a=0
  ·subst h
   simp
  ·have e:=o (a / 2) (by lia) (b / 2)
   have s:=Nat.or_div_two (a:=a) (b:=b);have A:=Nat.xor_div_two (a:=a) (b:=b);have B:=Tt (a:=a) (b:=b);have l:(a ||| b) % 2=(a % 2 ||| b % 2):=Nat.or_mod_two_pow (a:=a) (b:=b) (n:=1);have m2:(a ^^^ b) % 2=(a % 2 ^^^ b % 2):=Nat.xor_mod_two_pow (a:=a) (b:=b) (n:=1);have m3:(a &&& b) % 2=(a % 2 &&& b % 2):=Op (a:=a) (b:=b) (n:=1)
   rcases Ka a with m | m <;> rcases Ka b with hb | hb <;> rw[m,hb]at l m2 m3 <;> simp only[Nat.reduceOr,Nat.reduceXor,Nat.reduceAnd]at l m2 m3 <;> lia
theorem jM(a b:Nat):E1 (a:Int) (b:Int)=((a ^^^ b:Nat):Int):=by
 unfold E1;rw[V3,Ro,fo]
 lia
theorem lH:∀b:Nat,0 < b->∃i:Nat,b.testBit i=true/\(∀j,j < i->b.testBit j=false)/\b=(b &&& (b - 1))+2 ^ i/\∀j,(b &&& (b - 1)).testBit j=(b.testBit j&&!decide (i=j)):=by
 intro b
 induction b using mS with
 | ind b m=>
  intro hb
  rcases Ka b with h | h
  ·obtain⟨i,o,s,B,A⟩:=m (b / 2) (by lia) (by lia)
   have d:=Tt (a:=b) (b:=b - 1);rw[show(b - 1) / 2=b / 2 - 1 by lia]at d;have m3:(b &&& (b - 1)) % 2=(b % 2 &&& (b - 1) % 2):=Op (a:=b) (b:=b - 1) (n:=1);rw[h]at m3;simp at m3;refine⟨i+1,by rw[Gk];exact o,λj l=>?_,?_,λj=>?_⟩
   ·cases j with
    | zero=>rw[Gj];exact wY (by lia)
    | succ j=>rw[Gk];exact s j (by lia)
   ·rw[rn];lia
   ·cases j with
    | zero=>
     rw[Gj,Gj,wY (show ¬(b &&& (b - 1)) % 2=1 by lia),wY (show ¬b % 2=1 by lia)];rfl
    | succ j=>
     rw[Gk,Gk,d,A j]
     congr 2
     exact decide_eq_decide.mpr (by lia)
  ·have d:=Tt (a:=b) (b:=b - 1)
   rw[show(b - 1) / 2=b / 2 by omega,Nat.and_self]at d;have m3:(b &&& (b - 1)) % 2=(b % 2 &&& (b - 1) % 2):=Op (a:=b) (b:=b - 1) (n:=1);rw[h,show(b - 1) % 2=0 by lia]at m3;simp at m3;refine⟨0,by rw[Gj];exact wX h,λj l=>zX l (Nc _),by rw[Nat.pow_zero];lia,λj=>?_⟩
   cases j with
   | zero=>
    rw[Gj,Gj,wY (show ¬(b &&& (b - 1)) % 2=1 by lia),wX h];rfl
   | succ j=>
    rw[Gk,Gk,d];simp
theorem cN{b i:Nat}(h:b=(b &&& (b - 1))+2 ^ i)(hb:0 < b):Bg (b:Int) (-(b:Int))=((2 ^ i:Nat):Int):=by
 unfold Bg dc;rw[wX (Kb b),wY (show ¬0<=-(b:Int) by lia)];show(b:Int) - ((((b:Int).toNat &&& (- -(b:Int) - 1).toNat:Nat)):Int)=_;rw[show(- -(b:Int) - 1).toNat=b - 1 by lia,A9]
 lia
theorem iY(i:Nat):Ds ((2 ^ i:Nat):Int)=i+1:=by
 unfold Ds;have h:(2 ^ i:Nat)≠0:=FS (mR i);rw[qY (by rw[beq_iff_eq];lia),Int.natAbs_natCast,Nat.log2_two_pow]
noncomputable def Bm(b:Nat)(l:ZLi):Prop:=l.Pairwise (· < ·)/\∀x:Int,x∈l↔0<=x/\b.testBit x.toNat=true
theorem cP{b N:Nat}(hb:b < 2 ^ N)(hN:N<=1000):Ok (Nl (b:Int)) (Bm b):=by
 unfold Nl Nj;simp only[AE,qi,BX]
 obtain⟨⟨t,l⟩,e,Q,A⟩:=YZ (ρ:=ZLi) (c:=λs:ZLi×Int=>some (s.2 != 0)) (q:=λs:ZLi×Int=>BD ((Wb s.1 ((Ds (Bg s.2 (-s.2)):Int) - 1)).bind λl=>some (.nx l)) λv=>EC (λw=>(v,w)) (some (.nx (Bg s.2 (s.2 - 1)))))
  (λs=>∃c:Nat,s.2=c/\s.1.Pairwise (· < ·)/\(∀x∈s.1,0<=x/\x < N/\b.testBit x.toNat=true/\∀j:Nat,c.testBit j=true->x < j)/\(∀j:Nat,b.testBit j=true->(j:Int)∈s.1∨c.testBit j=true)/\(∀j:Nat,c.testBit j=true->b.testBit j=true))
  (λs=>N - s.1.length) (by
   rintro s ⟨c,A,C,B,I,E⟩
   by_cases J:c=0
   ·left
    rw[A,J];rfl
   ·right
    obtain⟨i,G,R,S,H⟩:=lH c (by lia)
    have hi:i < N:=by
     have:=E i G
     refine jE λL=>?_
     have T:b.testBit i=false:=YW (AY hb (JM (by decide) L));rw[T]at this;cases this
    have P:s.1.length < N:=by
     have U:(s.1++[(i:Int)]).Nodup:=by
      refine D1.mpr ⟨C.imp λh=>by lia,by simp,λx m y O=>?_⟩;rw[Ad.mp O];have:=(B x m).2.2.2 i G
      lia
     have:=JB (k:=D3 0 N) U λx m=>by
      rw[CM]
      rcases Ay.mp m with m | m
      ·have:=B x m;omega
      ·rw[Ad.mp m];omega
     rw[Bw,AZ,A0]at this;exact this
    refine⟨by rw[A];exact congrArg some (bne_iff_ne.mpr (by lia)),(s.1++[(i:Int)],((c &&& (c - 1):Nat):Int)),?_,⟨_,rfl,?_,λx m=>?_,λj o=>?_,λj o=>?_⟩,?_⟩
    ·rw[A,cN S (by lia),iY,bJ (by lia),show(c:Int) - 1=((c - 1:Nat):Int) by lia,Ro]
     simp only[AE,BX,lE];rw[show((i+1:Nat):Int) - 1=(i:Int) by lia]
    ·refine BM.mpr ⟨C,MU _ _,λx m y O=>?_⟩
     rw[Ad.mp O];exact(B x m).2.2.2 i G
    ·rcases Ay.mp m with m | m
     ·obtain⟨X,Y,Z,a4⟩:=B x m
      refine⟨X,Y,Z,λj o=>a4 j ?_⟩;rw[H j,DI]at o;exact o.1
     ·rw[Ad.mp m]
      refine⟨by lia,by lia,by rw[A9];exact E i G,λj o=>?_⟩;rw[H j,DI]at o
      have vq:i≠j:=by simpa using o.2
      have:¬j < i:=λz=>by rw[R j z]at o;exact zX o.1 AH
      lia
    ·rcases I j o with h | h
     ·exact .inl (BO _ h)
     ·by_cases e:i=j
      ·subst e;exact .inl (by simp)
      ·right
       rw[H j,h,wY e];rfl
    ·rw[H j,DI]at o
     exact E j o.1
    ·show N - (s.1++[(i:Int)]).length < N - s.1.length
     rw[AZ,A0]
     omega) wN ([],(b:Int)) ⟨b,rfl,.nil,λ_ h=>(nomatch h),λj o=>.inr o,λ_ h=>h⟩ (by show N - 0 < wN;unfold wN;lia)
 refine⟨t,?_,?_⟩
 ·rw[e]
  rfl
 ·obtain⟨c,vM,C,B,I,E⟩:=Q
  have J:c=0:=by
   have A:=Br A
   have:(c:Int)=0:=by rw[<-vM];simpa using A
   lia
  subst J;refine⟨C,λx=>⟨λm=>⟨(B x m).1,(B x m).2.2.1⟩,λ⟨x0,m⟩=>?_⟩⟩
  rcases I x.toNat m with h | h
  ·rwa [Bq x0]at h
  ·simp at h
open PySem L2 L4
open Srt (ltL)
theorem NA:∀{l k:ZLi},l.Pairwise (· < ·)->k.Pairwise (· < ·)->(∀x,x∈l↔x∈k)->l=k
 | [],[],_,_,_=>rfl
 | [],y :: k,_,_,h=>zX ((h y).mpr (AX ..)) MV
 | x :: l,[],_,_,h=>zX ((h x).mp (AX ..)) MV
 | x :: l,y :: k,A,B,h=>by
  have o:=KC.mp A;have s:=KC.mp B
  have e:x=y:=by
   rcases Ae.mp ((h x).mp (AX ..))with a | a
   ·exact a
   ·rcases Ae.mp ((h y).mpr (AX ..))with b | b
    ·exact b.symm
    ·have:=s.1 x a
     have:=o.1 y b
     lia
  subst e
  congr 1
  refine NA o.2 s.2 λz=>⟨λm=>?_,λm=>?_⟩
  ·rcases Ae.mp ((h z).mp (AN _ m))with a | a
   ·have:=o.1 z m;lia
   ·exact a
  ·rcases Ae.mp ((h z).mpr (AN _ m))with a | a
   ·have:=s.1 z m;lia
   ·exact a
noncomputable def Yq:ZLi->List ZLi
 | []=>[[]]
 | x :: l=>(Yq l).map (x :: ·)++Yq l
theorem NN(P:Int->Bool):∀l:ZLi,l.filter P∈Yq l
 | []=>by simp[Yq]
 | x :: l=>by
  unfold Yq;rw[List.filter_cons];split
  ·exact BO _ (BF.mpr ⟨_,NN P l,rfl⟩)
  ·exact BW _ (NN P l)
noncomputable def sts(o g:Nat):List ZLi:=(Ik o g).getD []
noncomputable def Stg(o g:Nat)(r:ZLi):Prop:=r.length=g/\(∀x∈r,0<=x/\x < (o:Int))/\r.Pairwise (· < ·)
theorem oR:∀o:Nat,o < 8->∀g:Nat,g < 8->g<=o->1<=g->decide (GD (o,[]) g=some (sts o g)/\Ik o g=some (sts o g)/\sts o g≠[]/\(sts o g).length<=35)=true:=by decide +kernel
theorem Oz(o:Nat)(ho:o < 8)(g:Nat)(l:g < 8)(m:g<=o)(s:1<=g):GD (o,[]) g=some (sts o g)/\Ik o g=some (sts o g)/\sts o g≠[]/\(sts o g).length<=35:=of_decide_eq_true (oR o ho g l m s)
theorem oQ:∀o:Nat,o < 8->∀g:Nat,g < 8->g<=o->1<=g->decide (∀r∈sts o g,r.length=g/\(∀x∈r,0<=x/\x < (o:Int))/\r.Pairwise (· < ·))=true:=by decide +kernel
theorem sr(o:Nat)(ho:o < 8)(g:Nat)(l:g < 8)(m:g<=o)(s:1<=g):∀r∈sts o g,r.length=g/\(∀x∈r,0<=x/\x < (o:Int))/\r.Pairwise (· < ·):=of_decide_eq_true (oQ o ho g l m s)
theorem oP:∀o:Nat,o < 8->∀g:Nat,g < 8->g<=o->1<=g->decide ((sts o g).Pairwise (λa b=>ltL a b=true)/\∀l∈Yq (D3 0 o),l.length=g->l∈sts o g)=true:=by decide +kernel
theorem fA(o:Nat)(ho:o < 8)(g:Nat)(m:g < 8)(s:g<=o)(A:1<=g):(sts o g).Pairwise (λa b=>ltL a b=true)/\∀l∈Yq (D3 0 o),l.length=g->l∈sts o g:=of_decide_eq_true (oP o ho g m s A)
section
variable{o g:Nat}{us:List ZPi}{r:ZLi}
theorem bo(ho:o < 8)(l:g<=o)(m:1<=g):GD (o,us) g=some (sts o g):=(show GD (o,us) g=GD (o,[]) g from rfl).trans (Oz o ho g (by lia) l m).1
theorem GV(ho:o < 8)(m:g<=o)(s:1<=g):r∈sts o g↔Stg o g r:=by
 have a:=sr o ho g (by lia) m s;have b:=(fA o ho g (by lia) m s).2;refine⟨a r,λ⟨l,q,p⟩=>?_⟩
 have e:r=(D3 0 o).filter λx=>decide (x∈r):=NA p ((O2 0 o).filter _) λx=>by
  rw[Am,CM,decide_eq_true_eq];exact⟨λh=>⟨⟨(q x h).1,by have:=(q x h).2;lia⟩,h⟩,λh=>h.2⟩
 have:=b _ (NN (λx=>decide (x∈r)) (D3 0 o)) (by rw[<-e];exact l);rwa [<-e]at this
theorem Vk(ho:o < 8)(m:g<=o)(s:1<=g):(sts o g).Nodup:=by
 have a:=(fA o ho g (by lia) m s).1
 exact a.imp λ{a b} l e=>by
  subst e;rw[Xs]at l;cases l
end
theorem Ux(h:ev[i]?=some r):(Di ev).take (i+1)=(Di ev).take i++[((i:Int),r)]:=by
 rw[Ft]
 congr 1
 unfold Di;rw[Ai,JH,h];simp
theorem tX{ev:List ZLi}(B:ev.Nodup){i:Nat}{r:ZLi}(h:ev[i]?=some r):Al (nuF ev) r=some (i:Int):=by
 have m:∀k:Nat,k<=ev.length->∀(j:Nat) (s:ZLi),j < k->ev[j]?=some s->Al (((Di ev).take k).foldl nuS []) s=some (j:Int):=by
  intro k
  induction k with
  | zero=>intro _ j s o;exact zX o (Nc _)
  | succ k C=>
   intro H j s o l;have A:ev[k]?=some (ev[k]'(by lia)):=AU (by lia);rw[Ux A,Hu];show Al (CJ _ _ _) s=_;rw[DC]
   by_cases e:j=k
   ·subst e
    rw[A]at l;cases l;rw[qX rfl]
   ·rw[qY,C (by lia) j s (by lia) l]
    intro c;obtain⟨E,G⟩:=AF.mp l;rw[<-G]at c;exact Kz.mp B j k E (by lia) (by lia) c
 have:=m ev.length (AJ _) i r (AF.mp h).1 h;rwa [Co (by unfold Di;simp)]at this
noncomputable def Hb(H:ZLi)(n:Nat)(P:Nat->Nat->Prop):Prop:=H.length=n/\∀p:Nat,p < n->∃h:Nat,H[p]?=some (h:Int)/\∀j,h.testBit j=true↔P p j
theorem gr{n k:Nat}:∀(r:ZLi) {H:ZLi} {P:Nat->Nat->Prop},(∀x∈r,0<=x/\x < (n:Int))->Hb H n P->Hb (r.foldl (hvP (k:Int)) H) n (λp j=>P p j∨((p:Int)∈r/\j=k))
 | [],H,P,_,h=>⟨h.1,λp l=>by
  obtain⟨b,A,m⟩:=h.2 p l
  exact⟨b,A,λj=>by rw[m];simp⟩⟩
 | x :: r,H,P,B,h=>by
  obtain⟨E,G⟩:=B x (AX ..)
  have A:Hb (hvP (k:Int) H x) n (λp j=>P p j∨((p:Int)=x/\j=k)):=by
   refine⟨by unfold hvP;rw[D5];exact h.1,λp l=>?_⟩;obtain⟨b,o,s⟩:=h.2 p l;unfold hvP;rw[DT]
   by_cases c:x.toNat=p
   ·rw[qX c,qX (by rw[h.1];lia)]
    refine⟨b ||| 2 ^ k,?_,λj=>?_⟩
    ·rw[Bz,c,o,Qa,A9,show(1:Int) * 2 ^ k=((2 ^ k:Nat):Int) by rw[uw];norm_cast,V3]
    ·rw[nN,Mt,s,Oo]
     rw[decide_eq_true_eq]
     have:(p:Int)=x:=by lia
     exact or_congr_right ⟨λe=>⟨this,e.symm⟩,λe=>e.2.symm⟩
   ·rw[qY c]
    refine⟨b,o,λj=>?_⟩;rw[s]
    have:¬(p:Int)=x:=by lia
    exact⟨.inl,λz=>z.elim id λz=>zX z.1 this⟩
  have m:=gr (k:=k) r (λy C=>B y (AN _ C)) A;refine⟨m.1,λp l=>?_⟩;obtain⟨b,o,s⟩:=m.2 p l;refine⟨b,o,λj=>(s j).trans ?_⟩;dsimp only;rw[Ae]
  constructor
  ·rintro((a | ⟨a,e⟩) | ⟨a,e⟩)
   ·exact .inl a
   ·exact .inr ⟨.inl a,e⟩
   ·exact .inr ⟨.inr a,e⟩
  ·rintro(a | ⟨a | a,e⟩)
   ·exact .inl (.inl a)
   ·exact .inl (.inr ⟨a,e⟩)
   ·exact .inr ⟨a,e⟩
theorem uG{n:Nat}{ev:List ZLi}(G:∀r∈ev,∀x∈r,0<=x/\x < (n:Int)):Hb (hvF n ev) n (λp j=>∃r,ev[j]?=some r/\(p:Int)∈r):=by
 have o:∀k:Nat,k<=ev.length->Hb (((Di ev).take k).foldl hvS (hv0 n)) n (λp j=>j < k/\∃r,ev[j]?=some r/\(p:Int)∈r):=by
  intro k
  induction k with
  | zero=>
   intro _;refine⟨by unfold hv0;rw[mU,UU,AD,Bw],λp l=>⟨0,?_,λj=>by simp⟩⟩;unfold hv0;rw[mU,UU,Ai,AU (by rw[Bw];exact l)];rfl
  | succ k H=>
   intro J;have s:ev[k]?=some (ev[k]'(by lia)):=AU (by lia);rw[Ux s,Hu];have m:=gr (k:=k) ev[k] (G _ (Cb _)) (H (by lia));refine⟨m.1,λp l=>?_⟩;obtain⟨b,A,B⟩:=m.2 p l;refine⟨b,A,λj=>(B j).trans ?_⟩
   constructor
   ·rintro(⟨a,q⟩ | ⟨a,rfl⟩)
    ·exact⟨by lia,q⟩
    ·exact⟨by lia,_,s,a⟩
   ·rintro⟨a,r,C,E⟩
    by_cases e:j=k
    ·subst e
     rw[s]at C;cases C;exact .inr ⟨E,rfl⟩
    ·exact .inl ⟨by lia,r,C,E⟩
 have:=o ev.length (AJ _);rw[Co (by unfold Di;simp)]at this;refine⟨this.1,λp l=>?_⟩;obtain⟨b,A,B⟩:=this.2 p l;refine⟨b,A,λj=>(B j).trans ?_⟩;exact⟨λh=>h.2,λ⟨r,m,I⟩=>⟨(AF.mp m).1,r,m,I⟩⟩
theorem Jb(h:l.Nodup):(Bv l).Pairwise (· < ·):=(UW (SL l) ((EM l).nodup_iff.mpr h)).imp λ⟨a,b⟩=>by lia
theorem Mx{s:ZLi}(h:s.Pairwise (· < ·)):s.Nodup:=h.imp λh=>by lia
noncomputable def wst(r:ZLi)(a b:Int):ZLi:=r.map λx=>if x=a then b else x
theorem sO(l:r.length<=1000)(a b:Int):KP r a b=some (wst r a b):=by
 unfold KP KM
 rw[GY (f:=λx=>if x=a then b else x) (by lia) λx _=>by
  by_cases c:x=a
  ·rw[wX c,qX rfl,qX c]
  ·rw[wY c,qY AH,qY c]]
 rfl
theorem Lg(l:a∈r):x∈wst r a b↔x=b∨(x∈r/\x≠a):=by
 unfold wst;rw[BF]
 constructor
 ·rintro⟨y,m,rfl⟩
  split
  ·exact .inl rfl
  ·rename_i c;exact .inr ⟨m,c⟩
 ·rintro(rfl | ⟨h,c⟩)
  ·exact⟨a,l,qX rfl⟩
  ·exact⟨x,h,qY c⟩
theorem de(m:r.Nodup)(hb:b∉r):(wst r a b).Nodup:=by
 unfold wst Ga;rw[Bn]
 refine m.imp_of_mem λ{x y} o s l=>?_
 split <;> split
 ·rename_i c d;exact zX (c.trans d.symm) l
 ·intro e;exact hb (by rw[e];exact s)
 ·intro e;exact hb (by rw[<-e];exact o)
 ·exact l
structure Fk(o g:Nat)(us:List ZPi)(kd:Str)(f:Fp):Prop where
 ev:f.ev=sts o g
 kd:f.kd=kd
 tk:f.tk=tkl o us
 nu:f.nu=nuF (sts o g)
 hv:f.hv=hvF o (sts o g)
 pl:f.pb.length=(sts o g).length
 pb:∀(i:Nat) (r:ZLi),(sts o g)[i]?=some r->∃n:Nat,f.pb[i]?=some (n:Int)/\n < 128/\∀x:Int,0<=x->x < 7->(n.testBit x.toNat=true↔x∈r)
section
variable{o g:Nat}{us:List ZPi}{kd:Str}{f:Fp}{r r':ZLi}{i:Nat}
theorem lh(h:Im o us)(s:g<=o)(A:1<=g):Ok (Nm (o,us) g kd) (Fk o g us kd):=by
 have B:=h.sm
 have hb:∀r∈sts o g,∃n:Nat,G5 r=some (n:Int)/\n < 128/\∀x:Int,0<=x->x < 7->(n.testBit x.toNat=true↔x∈r):=λr m=>by
  obtain⟨-,q,-⟩:=(GV B s A).mp m
  obtain⟨v,e,n,rfl,C,E⟩:=qw (l:=r) λx G=>by have:=q x G;lia
  exact⟨n,e,C,λx H I=>by rw[E x.toNat (by lia),Bq H]⟩
 obtain⟨-,-,-,J⟩:=Oz o B g (by lia) s A;unfold Nm;rw[bo B s A,jw h];simp only[AE]
 rw[GY (f:=λr=>(G5 r).getD 0) (by lia) λr m=>by
  obtain⟨n,e,-⟩:=hb r m;rw[e]
  rfl]
 simp only[AE];rw[qX ⟨by lia,by show o<=1000;lia,λr m x G=>((GV B s A).mp m).2.1 x G⟩];refine⟨_,rfl,rfl,rfl,rfl,rfl,rfl,AD _,λi r m=>?_⟩;obtain⟨n,e,C,E⟩:=hb r (BN m);refine⟨n,?_,C,E⟩;show((sts o g).map _)[i]?=_;rw[Ai,m];show some ((G5 r).getD 0)=_;rw[e];rfl
noncomputable def Lk1(us:List ZPi)(r r':ZLi):Prop:=∃a∈r,∃b∈Tg us a,b∉r/\Bv (wst r a b)=r'
noncomputable def LkA(us:List ZPi)(r r':ZLi):Prop:=∃s,InS us r (·∈r') s
theorem Zv(h:Im o us){a b:Int}(A:Stg o g r)(m:a∈r)(hb:b∈Tg us a)(B:b∉r):Stg o g (Bv (wst r a b)):=by
 obtain⟨l,q,p⟩:=A;have s:=q a m;have C:=(h.tg s.1 s.2).2.1 b hb;refine⟨by rw[(EM _).length_eq];unfold wst;rw[AD];exact l,λx E=>?_,Jb (de (Mx p) B)⟩
 rcases(Lg m).mp (CF.mp E)with rfl | ⟨h,_⟩
 ·exact C
 ·exact q x h
theorem Tb(h:l[i]?=some x):atI l (i:Int)=some x:=J6 (by lia) (by rw[A9];exact h)
theorem iZ{b n:Nat}{P:Nat->Prop}(hb:∀j,b.testBit j=true↔P j)(j:Nat):(b ||| 2 ^ n).testBit j=true↔P j∨n=j:=by
 rw[nN,Mt,hb,Oo,decide_eq_true_eq]
theorem RV{n:Nat}(h:n<=1000000):P3 1 (n:Int)=some ((2 ^ n:Nat):Int):=by
 unfold P3;rw[qX ⟨by lia,by lia,by decide⟩,A9,uw]
 norm_cast
theorem tT(h:Im o us)(C:g<=o)(E:1<=g)(F:Fk o g us kd f)(R:(sts o g)[i]?=some r):Ok (Eb f i) λv=>∃l:Nat,v=l/\∀j,l.testBit j=true↔∃r',(sts o g)[j]?=some r'/\Lk1 us r r':=by
 have G:=h.sm;have I:=(GV G C E).mp (BN R);obtain⟨-,-,-,hl⟩:=Oz o G g (by lia) C E;unfold Eb EZ;rw[F.ev,Tb R];simp only[AE,BX];refine OkF.out (OkF.seq (OkF.for (λm (s:Int)=>∃l:Nat,s=l/\∀j,l.testBit j=true↔∃r',(sts o g)[j]?=some r'/\∃a∈m,∃b∈Tg us a,b∉r/\Bv (wst r a b)=r') ⟨0,rfl,λj=>by simp⟩ ?_) ?_)
 ·rintro m a s S hp ⟨l,rfl,A⟩
  have T:=I.2.1 a S;rw[F.tk,md T.1 T.2];simp only[AE];refine OkF.map (N:=λs:Int=>∃l:Nat,s=l/\∀j,l.testBit j=true↔∃r',(sts o g)[j]?=some r'/\((∃a∈m,∃b∈Tg us a,b∉r/\Bv (wst r a b)=r')∨∃b∈Tg us a,b∉r/\Bv (wst r a b)=r')) (OkF.for (λU (s:Int)=>∃l:Nat,s=l/\∀j,l.testBit j=true↔∃r',(sts o g)[j]?=some r'/\((∃a∈m,∃b∈Tg us a,b∉r/\Bv (wst r a b)=r')∨∃b∈U,b∉r/\Bv (wst r a b)=r')) ⟨l,rfl,λj=>by rw[A];simp⟩ ?_) ?_
  ·rintro U b s hb yb ⟨l,rfl,H⟩
   by_cases c:b∈r
   ·rw[wX c]
    refine .nx ⟨l,rfl,λj=>(H j).trans ⟨λ⟨r',e,z⟩=>⟨r',e,z.imp id λ⟨b,hb,z⟩=>⟨b,BO _ hb,z⟩⟩,λ⟨r',e,z⟩=>⟨r',e,z.imp id λ⟨J,L,z⟩=>?_⟩⟩⟩
    rcases Ay.mp L with q | q
    ·exact⟨J,q,z⟩
    ·rw[Ad.mp q]at z
     exact zX c z.1
   ·rw[wY c]
    have hw:=Zv h I S hb c;obtain⟨k,X,Y⟩:=B2 ((GV G C E).mpr hw)
    have B:(sts o g)[k]?=some (Bv (wst r a b)):=by rw[AU X,Y]
    simp only[mX,if_true];rw[sO (by rw[I.1];lia)];simp only[AE];rw[F.nu,tX (Vk G C E) B];simp only[AE];rw[RV (by lia)];simp only[AE];rw[V3];refine .nx ⟨_,rfl,λj=>(iZ H j).trans ⟨?_,?_⟩⟩
    ·rintro(⟨r',e,z⟩ | rfl)
     ·exact⟨r',e,z.imp id λ⟨b,hb,z⟩=>⟨b,BO _ hb,z⟩⟩
     ·exact⟨_,B,.inr ⟨b,by simp,c,rfl⟩⟩
    ·rintro⟨r',e,z | ⟨J,L,Z,O⟩⟩
     ·exact .inl ⟨r',e,.inl z⟩
     ·rcases Ay.mp L with q | q
      ·exact .inl ⟨r',e,.inr ⟨J,q,Z,O⟩⟩
      ·right
       rw[Ad.mp q]at O;rw[<-O,<-B]at e;exact(List.getElem?_inj X (Vk G C E)).mp e.symm
  ·rintro s ⟨l,rfl,H⟩
   refine⟨l,rfl,λj=>(H j).trans ⟨λ⟨r',e,z⟩=>⟨r',e,?_⟩,λ⟨r',e,P,Q,z⟩=>⟨r',e,?_⟩⟩⟩
   ·rcases z with⟨P,Q,z⟩ | z
    ·exact⟨P,BO _ Q,z⟩
    ·exact⟨a,by simp,z⟩
   ·rcases Ay.mp Q with q | q
    ·exact .inl ⟨P,q,z⟩
    ·rw[Ad.mp q]at z
     exact .inr z
 ·rintro s ⟨l,rfl,A⟩
  exact .rt ⟨l,rfl,A⟩
theorem cq{s:Type}{ev:List s}{l:List (Int×s)}{x:Int×s}(h:l++[x] <+: Di ev):∃r,ev[l.length]?=some r/\x=((l.length:Int),r):=by
 obtain⟨t,B⟩:=h
 have m:(Di ev)[l.length]?=some x:=by rw[<-B,Bu];simp
 unfold Di at m;rw[Ai,JH]at m
 cases A:ev[l.length]? with
 | none=>rw[A]at m;cases m
 | some r=>rw[A]at m;exact⟨r,rfl,by have:=Br m;rw[<-this];simp⟩
theorem uV(h:Im o us)(C:g<=o)(E:1<=g)(F:Fk o g us kd f)(L:(sts o g)[i]?=some r):Ok (Ec f i) λv=>∃l:Nat,v=l/\∀j,l.testBit j=true↔∃r',(sts o g)[j]?=some r'/\LkA us r r':=by
 have G:=h.sm;have H:=(GV G C E).mp (BN L);obtain⟨-,-,-,hl⟩:=Oz o G g (by lia) C E;unfold Ec Ea;rw[F.ev,Tb L];simp only[AE,BX];refine OkF.out (OkF.seq (OkF.for (λm (s:Int)=>∃l:Nat,s=l/\∀j,l.testBit j=true↔j < m.length/\∃r',(sts o g)[j]?=some r'/\LkA us r r') ⟨0,rfl,λj=>by simp⟩ ?_) ?_)
 ·rintro m x s N T ⟨l,rfl,A⟩
  obtain⟨n',O,rfl⟩:=cq T
  have U:m.length < (sts o g).length:=by rw[<-F.pl];exact(AF.mp O).1
  have B:(sts o g)[m.length]?=some ((sts o g)[m.length]):=AU U;generalize (sts o g)[m.length]=r' at B;have X:=(GV G C E).mp (BN B);obtain⟨n,P,Y,Q⟩:=F.pb _ _ B;rw[O]at P;cases P;obtain⟨b,Z,hb⟩:=qf h Y (rest:=r) H.2.1 (Mx H.2.2);rw[F.tk];dsimp only;rw[Z];simp only[AE]
  have R:b=true↔LkA us r r':=by
   rw[hb]
   refine exists_congr λs=>⟨λq=>q.imp λx N=>?_,λq=>?_⟩
   ·intro z
    have:=InS.rg h H.2.1 q x N;exact(Q x this.1 (by lia)).mp z
   ·refine q.imp λx _ z=>?_
    have:=X.2.1 x z;exact(Q x this.1 (by lia)).mpr z
  have up:∀j,(j < (m++[((m.length:Int),(n:Int))]).length/\∃r',(sts o g)[j]?=some r'/\LkA us r r')↔(j < m.length/\∃r',(sts o g)[j]?=some r'/\LkA us r r')∨(m.length=j/\LkA us r r'):=λj=>by
   rw[AZ,A0]
   constructor
   ·rintro⟨a,s,I,S⟩
    by_cases e:m.length=j
    ·subst e
     rw[B]at I;cases I;exact .inr ⟨rfl,S⟩
    ·exact .inl ⟨by lia,s,I,S⟩
   ·rintro(⟨a,q⟩ | ⟨rfl,q⟩)
    ·exact⟨by lia,q⟩
    ·exact⟨by lia,r',B,q⟩
  cases b with
  | true=>
   have J:=R.mp rfl;rw[qX rfl,RV (by lia)];simp only[AE];rw[V3];exact .nx ⟨_,rfl,λj=>(iZ A j).trans (Iff.trans ⟨λz=>z.imp id λe=>⟨e,J⟩,λz=>z.imp id λe=>e.1⟩ (up j).symm)⟩
  | false=>
   have J:¬LkA us r r':=λz=>by cases R.mpr z
   exact .nx ⟨l,rfl,λj=>(A j).trans (Iff.trans ⟨.inl,λz=>z.elim id λe=>zX e.2 J⟩ (up j).symm)⟩
 ·rintro s ⟨l,rfl,A⟩
  refine .rt ⟨l,rfl,λj=>(A j).trans ⟨λz=>z.2,λ⟨r',e,z⟩=>⟨?_,r',e,z⟩⟩⟩;rw[show(Di f.pb).length=f.pb.length by unfold Di;simp,F.pl];exact(AF.mp e).1
noncomputable def Lk(kd:Str)(us:List ZPi)(r r':ZLi):Prop:=if kd = "one" then Lk1 us r r' else LkA us r r'
theorem gb(h:Im o us)(m:g<=o)(s:1<=g)(F:Fk o g us kd f)(A:(sts o g)[i]?=some r):Ok (GF f i) λv=>∃l:Nat,v=l/\∀j,l.testBit j=true↔∃r',(sts o g)[j]?=some r'/\Lk kd us r r':=by
 have B:=h.sm;obtain⟨-,-,-,C⟩:=Oz o B g (by lia) m s;have E:=(AF.mp A).1;unfold GF L3;rw[qX ⟨by lia,by lia⟩,F.kd]
 by_cases c:kd = "one"
 ·rw[wX c,qX rfl,show Lk kd us r=Lk1 us r from funext λ_=>qX c]
  exact tT h m s F A
 ·rw[wY c,qY AH,show Lk kd us r=LkA us r from funext λ_=>qY c]
  exact uV h m s F A
theorem ig(h:Im o us)(C:g<=o)(E:1<=g)(F:Fk o g us kd f)(s:(sts o g)[i]?=some r){c:Int}(G:0<=c/\c < o):Ok (GH f i c) λv=>∃l:Nat,v=l/\∀j,l.testBit j=true↔∃r',(sts o g)[j]?=some r'/\Lk kd us r r'/\c∈r':=by
 obtain⟨v,e,l,rfl,I⟩:=gb h C E F s
 obtain⟨-,J⟩:=uG (n:=o) (ev:=sts o g) λr s x L=>((GV h.sm C E).mp s).2.1 x L
 obtain⟨b,N,O⟩:=J c.toNat (by lia);unfold GH HU;dsimp only;rw[e,F.hv,J6 G.1 N];simp only[AE];rw[Ro];refine⟨_,rfl,_,rfl,λj=>?_⟩;rw[Ts,DI,I,O];dsimp only;rw[Bq G.1];exact⟨λ⟨⟨r',m,A⟩,r'',H,B⟩=>by rw[m]at H;cases H;exact⟨r',m,A,B⟩,λ⟨r',m,A,B⟩=>⟨⟨r',m,A⟩,r',m,B⟩⟩
theorem ly(h:Im o us)(F:Fk o g us kd f)(l:(sts o g)[i]?=some r):Go f i=some ((D3 0 o).filter λc=>!decide (c∈r)):=by
 have m:=h.sm;unfold Go IV;rw[F.ev,Tb l,F.tk,show(tkl o us).length=o by unfold tkl;rw[AD,Bw]];simp only[AE,BX];rw[Ni (by lia) (by lia),A9];simp only[AE];rw[IJ (P:=λc=>!decide (c∈r)) (by rw[Bw];lia) λ_ _=>rfl];rfl
end
open PySem L2 L4
structure Dl(f:Fp)(N:Nat)(cl:Nat->ZLi)(B:Nat->Int->Nat->Prop):Prop where
 ln:f.ev.length=N
 sm:N<=400
 cs:∀n,n < N->Go f n=some (cl n)/\(cl n).length<=1000/\(cl n).Pairwise (· < ·)
 bh:∀n,n < N->∀c∈cl n,Ok (GH f n c) λv=>∃l:Nat,v=l/\∀j,l.testBit j=true↔B n c j
 rg:∀n c j,B n c j->j < N
noncomputable abbrev TL:=List (Int×ZPi)
structure Fa(N:Nat)(cl:Nat->ZLi)(B:Nat->Int->Nat->Prop)(T:TL):Prop where
 nd:(T.map (·.1)).Nodup
 rg:∀n∈T.map (·.1),0<=n/\n < (N:Int)
 ok:∀(m:Nat) z,Al T (m:Int)=some z->1<=z.1/\z.2∈cl m/\(∀j,B m z.2 j->∃y,Al T (j:Int)=some y/\y.1 < z.1)/\(∀c∈cl m,c < z.2->∃j,B m c j/\∀y,Al T (j:Int)=some y->z.1<=y.1)/\(2<=z.1->∀c∈cl m,∃j,B m c j/\∀y,Al T (j:Int)=some y->z.1<=y.1+1)
 no:∀m:Nat,m < N->Al T (m:Int)=none->∀c∈cl m,∃j,B m c j/\Al T (j:Int)=none
 hi:∀(m:Nat) z,Al T (m:Int)=some z->z.1<=N
section
variable{f:Fp}{N:Nat}{cl:Nat->ZLi}{B:Nat->Int->Nat->Prop}{b:Nat}
noncomputable def RK(B:Nat->Int->Nat->Prop)(b m:Nat)(c:Int):Prop:=∀j,B m c j->b.testBit j=false
noncomputable def Fst(cl:Nat->ZLi)(B:Nat->Int->Nat->Prop)(b m:Nat)(c:Int):Prop:=c∈cl m/\RK B b m c/\∀l∈cl m,l < c->¬RK B b m l
theorem Sn(h:¬RK B b m c):∃j,B m c j/\b.testBit j=true:=GP λz=>h λj l=>by
 cases hb:b.testBit j with
 | false=>rfl
 | true=>exact zX ⟨j,l,hb⟩ z
theorem ik:(a &&& b)=0↔∀j,a.testBit j=true->b.testBit j=false:=by
 constructor
 ·intro h j l
  have:uu (a &&& b) j=uu 0 j:=by rw[h]
  rw[Ts,l,Wp,jB]at this;exact this
 ·intro h
  refine Nat.eq_of_testBit_eq λj=>?_
  rw[Ts,jB]
  cases m:a.testBit j with
  | false=>rfl
  | true=>rw[h j m];rfl
noncomputable def FN(cl:Nat->ZLi)(B:Nat->Int->Nat->Prop)(b:Nat)(K:List ZPi):Prop:=(K.map (·.1)).Nodup/\(∀n∈K.map (·.1),0<=n/\b.testBit n.toNat=true)/\∀(m:Nat) c,Al K (m:Int)=some c↔b.testBit m=true/\Fst cl B b m c
theorem Za(hb:b < 2 ^ N)(h:b.testBit i=true):i < N:=jE λl=>by
 have m:b.testBit i=false:=YW (AY hb (JM (by decide) l));rw[m]at h;cases h
theorem PM{l:Type}{K:List (Int×l)}(m:(K.map (·.1)).Nodup)(o:∀n∈K.map (·.1),0<=n/\n < (N:Int)):K.length<=N:=by
 have:=JB (k:=D3 0 N) m λx s=>by rw[CM];have:=o x s;lia
 rwa [Bw,AD]at this
open Classical in
theorem Uv(D:Dl f N cl B)(hb:b < 2 ^ N):Ok (Eu f (b:Int)) (FN cl B b):=by
 obtain⟨l,e,lu,L⟩:=cP hb (by have:=D.sm;lia)
 have S:∀x∈l,0<=x/\x < (N:Int):=λx G=>by
  obtain⟨x0,G⟩:=(L x).mp G;have:=Za hb G
  lia
 unfold Eu IS;rw[e];simp only[AE,BX];refine OkF.out (OkF.seq (OkF.for (λpre (s:List ZPi)=>(s.map (·.1)).Nodup/\(∀n∈s.map (·.1),n∈pre)/\∀(m:Nat) c,Al s (m:Int)=some c↔(m:Int)∈pre/\Fst cl B b m c) ⟨by simp,λ_ h=>h,λm c=>⟨λh=>(nomatch h),λh=>(nomatch h.1)⟩⟩ ?_) ?_)
 ·rintro pre x s G U ⟨C,E,O⟩
  obtain⟨x0,H⟩:=(L x).mp G
  obtain⟨m,rfl⟩:∃m:Nat,x=m:=⟨x.toNat,by lia⟩
  rw[A9]at H;have X:=Za hb H;obtain⟨c1,c2,c3⟩:=D.cs m X
  have hxp:(m:Int)∉pre:=by
   have:=lu.sublist U.sublist;rw[BM]at this;intro z;have:=this.2.2 _ z _ (Wx _)
   lia
  rw[c1];simp only[AE]
  rw[IJ (P:=λc=>decide (RK B b m c)) (by lia) λc hc=>by
   obtain⟨v,e1,q,rfl,hq⟩:=D.bh m X c hc;rw[e1];simp only[AE];rw[Ro]
   congr 1
   refine decide_eq_decide.mpr ?_;rw[show((q &&& b:Nat):Int)=0↔(q &&& b)=0 by lia,ik]
   exact forall_congr' λj=>imp_congr_left (hq j)]
  simp only[AE,BX]
  have Q:∀c,c∈(cl m).filter (λc=>decide (RK B b m c))↔c∈cl m/\RK B b m c:=λc=>by rw[Am,decide_eq_true_eq]
  have Y:((cl m).filter λc=>decide (RK B b m c)).Pairwise (· < ·):=c3.filter _;generalize (cl m).filter (λc=>decide (RK B b m c))=o at Q Y
  cases o with
  | nil=>
   have nf:∀c,¬Fst cl B b m c:=λc ⟨I,J,_⟩=>nomatch (Q c).mpr ⟨I,J⟩
   refine .nx ⟨C,λn A=>BO _ (E n A),λk c=>(O k c).trans ⟨λ⟨a,q⟩=>⟨BO _ a,q⟩,λ⟨a,q⟩=>⟨?_,q⟩⟩⟩
   rcases Ay.mp a with a | a
   ·exact a
   ·have e:k=m:=by have:=Ad.mp a;lia
    subst e;exact zX q (nf c)
  | cons c0 o=>
   have R:Fst cl B b m c0:=by
    obtain⟨I,J⟩:=(Q c0).mp (AX ..);refine⟨I,J,λZ T h4 h5=>?_⟩
    rcases Ae.mp ((Q Z).mpr ⟨T,h5⟩)with h | h
    ·lia
    ·have:=(KC.mp Y).1 Z h;lia
   have f1:∀c,Fst cl B b m c↔c=c0:=λc=>⟨by
    rintro ⟨I,J,T⟩
    rcases Int.lt_trichotomy c c0 with h | h | h
    ·exact zX J (R.2.2 c I h)
    ·exact h
    ·exact zX R.2.1 (T c0 R.1 h),λh=>by rw[h];exact R⟩
   have zS:s.length<=N:=PM C λn A=>S n ((List.sublist_append_left pre [(m:Int)]).trans U.sublist |>.subset (E n A))
   have hN:=D.sm;rw[show(!(c0 :: o).isEmpty)=true from rfl,qX rfl,show atI (c0 :: o) 0=some c0 from J6 (by decide) rfl];simp only[AE];rw[show HE s (m:Int) c0=some (CJ s (m:Int) c0)from qX (by lia)];refine .nx ⟨?_,λn A=>?_,λk c=>?_⟩
   ·rw[HX]
    split
    ·exact C
    ·rename_i hk
     exact D1.mpr ⟨C,by simp,λy hy z hz=>by rw[Ad.mp hz];intro e;subst e;exact hk hy⟩
   ·rw[HX]at A
    split at A
    ·exact BO _ (E n A)
    ·rcases Ay.mp A with h | h
     ·exact BO _ (E n h)
     ·exact BW _ h
   ·rw[DC]
    by_cases e:(k:Int)=m
    ·have e':k=m:=by lia
     subst e';rw[qX rfl,f1];exact⟨λh=>⟨by simp,(Br h).symm⟩,λh=>by rw[h.2]⟩
    ·rw[qY e,O]
     refine and_congr_left λ_=>⟨BO _,λh=>?_⟩
     rcases Ay.mp h with h | h
     ·exact h
     ·exact zX (Ad.mp h) e
 ·rintro s ⟨C,E,O⟩
  refine .rt ⟨C,λn A=>(L n).mp (E n A),λm c=>(O m c).trans (and_congr_left λ_=>?_)⟩;rw[L];exact⟨λh=>by rw[A9]at h;exact h.2,λh=>⟨by lia,by rw[A9];exact h⟩⟩
structure Rnd(N:Nat)(cl:Nat->ZLi)(B:Nat->Int->Nat->Prop)(s:TL×Int×Int×List ZPi)(b:Nat):Prop where
 lf:s.2.1=b
 lt:b < 2 ^ N
 bt:∀j,b.testBit j=true↔j < N/\Al s.1 (j:Int)=none
 st:1<=s.2.2.1
 nd:(s.1.map (·.1)).Nodup
 rg:∀n∈s.1.map (·.1),0<=n/\n < (N:Int)
 ok:∀(m:Nat) z,Al s.1 (m:Int)=some z->z.1 < s.2.2.1/\1<=z.1/\z.2∈cl m/\(∀j,B m z.2 j->∃y,Al s.1 (j:Int)=some y/\y.1 < z.1)/\(∀c∈cl m,c < z.2->∃j,B m c j/\∀y,Al s.1 (j:Int)=some y->z.1<=y.1)/\(2<=z.1->∀c∈cl m,∃j,B m c j/\∀y,Al s.1 (j:Int)=some y->z.1<=y.1+1)
 mn:2<=s.2.2.1->∀m:Nat,m < N->Al s.1 (m:Int)=none->∀c∈cl m,∃j,B m c j/\∀y,Al s.1 (j:Int)=some y->s.2.2.1<=y.1+1
 fn:FN cl B b s.2.2.2
 sl:s.2.2.1<=s.1.length+1
theorem Xt{l:ZLi}{P:Int->Prop}(h:∃c∈l,P c):∃c∈l,P c/\∀c'∈l,c' < c->¬P c':=by
 induction l with
 | nil=>obtain⟨c,h,_⟩:=h;cases h
 | cons x l I=>
  by_cases A:∃c∈l,P c
  ·obtain⟨c,C,s,G⟩:=I A
   by_cases H:P x/\x < c
   ·exact⟨x,AX ..,H.1,λc' o E m=>by
     rcases Ae.mp o with h | h
     ·lia
     ·exact G c' h (by lia) m⟩
   ·exact⟨c,AN _ C,s,λc' o E m=>by
     rcases Ae.mp o with h | h
     ·exact H ⟨by rw[<-h];exact m,by omega⟩
     ·exact G c' h E m⟩
  ·obtain⟨c,C,s⟩:=h
   rcases Ae.mp C with h | h
   ·subst h
    exact⟨c,AX ..,s,λc' o E m=>by
     rcases Ae.mp o with h | h
     ·omega
     ·exact A ⟨c',h,m⟩⟩
   ·exact zX ⟨c,h,s⟩ A
theorem kB(D:Dl f N cl B)(h:Rnd N cl B s b)(vq:s.2.2.2≠[]) :
  ∃s' I,BD (Ez (s.2.2.2.map (·.1)) (s.1,s.2.1) λ(wb:TL×Int) S=>BD (((Al s.2.2.2 S).bind λwg=>some (s.2.2.1,wg)).bind λxD=>(HE wb.1 S xD).bind λy0=>some (.nx y0)) λw8=>EC (λym=>(w8,ym)) ((P3 (1:Int) S).bind λwF=>some (.nx (E1 wb.2 wF)))) (λwO=>BD (some (.nx (s.2.2.1+(1:Int)))) λxI=>EC (λxu=>(wO.1,wO.2,xI,xu)) ((Eu f wO.2).bind λy8=>some (.nx y8)))=some (.nx (ρ:=TL) s')/\Rnd N cl B s' I/\s.1.length < s'.1.length:=by
 obtain⟨T,left,L,K⟩:=s;obtain⟨lf,lt,U,st,nd,rg,ok,mn,fn,sl⟩:=h;dsimp only at lf U st nd rg ok mn fn vq sl ⊢;subst lf;have hN:=D.sm;obtain⟨k1,k2,k3⟩:=fn
 have kN:∀n∈K.map (·.1),0<=n/\n < (N:Int):=λn O=>by
  obtain⟨a,q⟩:=k2 n O;have:=Za lt q
  lia
 have kT:∀n∈K.map (·.1),Al T n=none:=λn O=>by
  obtain⟨a,q⟩:=k2 n O;have:=((U _).mp q).2;rwa [Bq a]at this
 obtain⟨⟨G,X⟩,e,Y,Z,t3,I,rfl,b1,b2⟩:=Pa (ρ:=TL) (l:=K.map (·.1)) (s0:=(T,(b:Int))) (q:=λ(wb:TL×Int) S=>BD (((Al K S).bind λwg=>some (L,wg)).bind λxD=>(HE wb.1 S xD).bind λy0=>some (.nx y0)) λw8=>EC (λym=>(w8,ym)) ((P3 (1:Int) S).bind λwF=>some (.nx (E1 wb.2 wF))))
  (λpre s=>(s.1.map (·.1)).Nodup/\(∀n∈s.1.map (·.1),0<=n/\n < (N:Int))/\(∀n,Al s.1 n=if n∈pre then(Al K n).map λc=>(L,c)else Al T n)/\∃I:Nat,s.2=I/\I < 2 ^ N/\∀j:Nat,I.testBit j=true↔b.testBit j=true/\(j:Int)∉pre)
  ⟨nd,rg,λn=>by simp,b,rfl,lt,λj=>by simp⟩ (by
   rintro pre x ⟨G,X⟩ hx hp ⟨Y,Z,t3,I,rfl,b1,b2⟩;dsimp only at Y Z t3 ⊢;obtain⟨x0,xN⟩:=kN x hx;obtain⟨-,xb⟩:=k2 x hx
   have xp:x∉pre:=by
    have:=k1.sublist hp.sublist;unfold Ga at this;rw[BM]at this
    exact λz=>this.2.2 _ z _ (Wx _) rfl
   obtain⟨c,o⟩:=CD.mp ((Cv K x).mpr hx);have hl:=PM Y Z;rw[o];simp only[AE];rw[show HE G x (L,c)=some (CJ G x (L,c))from qX (by lia)];simp only[AE,BX];rw[show x=((x.toNat:Nat):Int) by lia,RV (by lia)];simp only[AE];rw[jM,<-show x=((x.toNat:Nat):Int) by lia];refine⟨_,rfl,?_,λn O=>?_,λn=>?_,_,rfl,Nat.xor_lt_two_pow b1 (Nat.pow_lt_pow_right (by decide) (by lia)),λj=>?_⟩
   ·rw[HX]
    split
    ·exact Y
    ·rename_i hk
     exact D1.mpr ⟨Y,by simp,λy E z A=>by rw[Ad.mp A];intro e;subst e;exact hk E⟩
   ·rw[HX]at O
    split at O
    ·exact Z n O
    ·rcases Ay.mp O with h | h
     ·exact Z n h
     ·rw[Ad.mp h];exact⟨x0,xN⟩
   ·rw[DC]
    by_cases e:n=x
    ·subst e
     rw[qX rfl,qX (by simp),o];rfl
    ·rw[qY e,t3]
     have:n∈pre++[x]↔n∈pre:=by rw[Ay,Ad];exact⟨λz=>z.elim id λz=>zX z e,.inl⟩
     simp only[this]
   ·rw[Nat.testBit_xor,Oo,bne_iff_ne,ne_eq,Ay,Ad]
    have ve:=b2 j
    by_cases e:x.toNat=j
    ·subst e
     rw[wX rfl];have:I.testBit x.toNat=true:=(b2 _).mpr ⟨xb,by rw[Bq x0];exact xp⟩;rw[this];refine⟨λz=>zX rfl z,λz=>zX (.inr (by lia)) z.2⟩
    ·rw[wY e]
     have:¬(j:Int)=x:=by lia
     rw[Bool.not_eq_false,ve]
     exact and_congr_right λ_=>⟨λz q=>q.elim z this,λz q=>z (.inl q)⟩)
 rw[e];simp only[BX];dsimp only at Y Z t3;obtain⟨K',eK,hK⟩:=Uv D b1;rw[eK]
 have tv:∀n,Al G n=match Al K n with | some c=>some (L,c) | none=>Al T n:=λn=>by
  rw[t3]
  by_cases h:n∈K.map (·.1)
  ·rw[qX h]
   obtain⟨c,o⟩:=CD.mp ((Cv K n).mpr h);rw[o];rfl
  ·rw[qY h]
   cases o:Al K n with
   | none=>rfl
   | some c=>exact zX ((Cv K n).mp (by rw[o];rfl)) h
 have J:∀n z,Al T n=some z->Al G n=some z:=λn z A=>by
  rw[tv]
  cases o:Al K n with
  | none=>exact A
  | some c=>
   have:=kT n ((Cv K n).mp (by rw[o];rfl));rw[this]at A;cases A
 have xw:∀n z,Al G n=some z->Al T n=some z∨(Al T n=none/\z.1=L):=λn z A=>by
  rw[tv]at A
  cases o:Al K n with
  | none=>rw[o]at A;exact .inl A
  | some c=>
   rw[o]at A;cases A;exact .inr ⟨kT n ((Cv K n).mp (by rw[o];rfl)),rfl⟩
 have bt':∀j,I.testBit j=true↔j < N/\Al G (j:Int)=none:=λj=>by
  rw[b2,U,tv]
  constructor
  ·rintro⟨⟨H,C⟩,h3⟩
   refine⟨H,?_⟩
   cases o:Al K (j:Int)with
   | none=>exact C
   | some c=>exact zX ((Cv K _).mp (by rw[o];rfl)) h3
  ·rintro⟨H,C⟩
   cases o:Al K (j:Int)with
   | none=>rw[o]at C;exact⟨⟨H,C⟩,λz=>by have:=(Cv K _).mpr z;rw[o]at this;cases this⟩
   | some c=>rw[o]at C;cases C
 have up:∀(j:Nat) (r:Int),r<=L->(∀y,Al T (j:Int)=some y->r<=y.1)->∀y,Al G (j:Int)=some y->r<=y.1:=λj r hr h y E=>by
  rcases xw _ _ E with H | ⟨_,C⟩
  ·exact h y H
  ·lia
 have hlen:T.length < G.length:=by
  cases K with
  | nil=>exact zX rfl vq
  | cons x K=>
   have hx:=kT x.1 (AX ..);have O:((x.1:Int) :: T.map (·.1)).Nodup:=Bf.mpr ⟨λz=>AH (by have:=(Cv T _).mpr z;rw[hx]at this;exact this),nd⟩
   have:=JB (k:=G.map (·.1)) O λy E=>by
    rw[<-Cv]
    rcases Ae.mp E with h | h
    ·subst h
     rw[tv];obtain⟨c,o⟩:=CD.mp ((Cv (x :: K) x.1).mpr (AX ..));rw[o];rfl
    ·obtain⟨z,A⟩:=CD.mp ((Cv T y).mpr h)
     rw[J _ _ A];rfl
   rw[At,AD,AD]at this
   lia
 refine⟨(G,(I:Int),L+1,K'),I,rfl,⟨rfl,b1,bt',by show 1<=L+1;lia,Y,Z,λm z A=>?_,λ_ m hm A c o=>?_,hK,by show L+1<=(G.length:Int)+1;lia⟩,hlen⟩
 ·dsimp only at A ⊢
  rcases xw _ _ A with H | ⟨H,C⟩
  ·obtain⟨o1,o2,o3,o4,o5,o6⟩:=ok m z H
   refine⟨by lia,o2,o3,λj hj=>?_,λc o vw=>?_,λC c o=>?_⟩
   ·obtain⟨y,y1,y2⟩:=o4 j hj
    exact⟨y,J _ _ y1,y2⟩
   ·obtain⟨j,Q,R⟩:=o5 c o vw
    exact⟨j,Q,up j z.1 (by lia) R⟩
   ·obtain⟨j,Q,R⟩:=o6 C c o
    refine⟨j,Q,λy E=>?_⟩;have:=up j (z.1 - 1) (by lia) (λy E=>by have:=R y E;lia) y E
    lia
  ·obtain⟨r,c⟩:=z
   have o:Al K (m:Int)=some c:=by
    have:=tv (m:Int);rw[A]at this
    cases o:Al K (m:Int)with
    | none=>rw[o,H]at this;cases this
    | some c'=>rw[o]at this;cases this;rfl
   dsimp only at C;subst C;obtain⟨f0,f1,f2,f3⟩:=(k3 m c).mp o;refine⟨by dsimp only;lia,st,f1,λj hj=>?_,λc' vM vw=>?_,λC c' vM=>?_⟩
   ·have hjN:=D.rg _ _ _ hj
    cases hv:Al T (j:Int)with
    | none=>
     have:=(U j).mpr ⟨hjN,hv⟩;rw[f2 j hj]at this;cases this
    | some y=>exact⟨y,J _ _ hv,(ok j y hv).1⟩
   ·obtain⟨j,Q,R⟩:=Sn (f3 c' vM vw)
    refine⟨j,Q,λy E=>?_⟩
    rcases xw _ _ E with q | ⟨_,q⟩
    ·rw[((U j).mp R).2]at q;cases q
    ·dsimp only;lia
   ·obtain⟨j,Q,R⟩:=mn C m ((U m).mp f0).1 H c' vM
    refine⟨j,Q,λy E=>?_⟩
    rcases xw _ _ E with q | ⟨_,q⟩
    ·exact R y q
    ·dsimp only;lia
 ·dsimp only at A ⊢
  obtain⟨H,C⟩:=(b2 m).mp ((bt' m).mpr ⟨hm,A⟩)
  have nl:¬RK B b m c:=λhl=>by
   obtain⟨c0,q1,q2,q3⟩:=Xt (P:=RK B b m) ⟨c,o,hl⟩;have:=(k3 m c0).mpr ⟨H,q1,q2,q3⟩;exact C ((Cv K _).mp (by rw[this];rfl))
  obtain⟨j,Q,R⟩:=Sn nl;refine⟨j,Q,λy E=>?_⟩
  rcases xw _ _ E with q | ⟨_,q⟩
  ·rw[((U j).mp R).2]at q;cases q
  ·lia
theorem iF(D:Dl f N cl B):Ok (O9 f) (Fa N cl B):=by
 have hN:=D.sm;unfold O9 O4;rw[D.ln,RV (by lia)];simp only[AE,BX];have hp:0 < 2 ^ N:=mR N;rw[show((2 ^ N:Nat):Int) - 1=((2 ^ N - 1:Nat):Int) by omega]
 have lt:2 ^ N - 1 < 2 ^ N:=by omega
 obtain⟨K,Q,R⟩:=Uv D lt;rw[Q];simp only[AE,BX];have S:Rnd N cl B ([],((2 ^ N - 1:Nat):Int),1,K) (2 ^ N - 1):=⟨rfl,lt,λj=>by rw[Nat.testBit_two_pow_sub_one,decide_eq_true_eq];exact⟨λh=>⟨h,rfl⟩,λh=>h.1⟩,ux 1,Ee,λ_ h=>(nomatch h),λm z h=>(nomatch h),λh=>zX (show(2:Int)<=1 from h) (by decide),R,ux 1⟩
 obtain⟨l,e,⟨b,h⟩,C⟩:=YZ (ρ:=TL) (c:=λ(T:TL×Int×Int×(List ZPi))=>some (!T.2.2.2.isEmpty)) (q:=λ(s:TL×Int×Int×(List ZPi))=>BD (Ez (s.2.2.2.map (·.1)) (s.1,s.2.1) λ(I:TL×Int) E=>BD (((Al s.2.2.2 E).bind λU=>some (s.2.2.1,U)).bind λX=>(HE I.1 E X).bind λY=>some (.nx Y)) λZ=>EC (λym=>(Z,ym)) ((P3 (1:Int) E).bind λwF=>some (.nx (E1 I.2 wF)))) (λG=>BD (some (.nx (s.2.2.1+(1:Int)))) λxI=>EC (λxu=>(G.1,G.2,xI,xu)) ((Eu f G.2).bind λy8=>some (.nx y8)))) (λs=>∃b,Rnd N cl B s b) (λs=>N - s.1.length) (by
   rintro s ⟨b,h⟩
   cases o:s.2.2.2 with
   | nil=>left;rfl
   | cons x K=>
    right
    obtain⟨l,b',J,H,e3⟩:=kB D h (by rw[o];exact λz=>nomatch z);rw[o]at J;refine⟨rfl,l,J,⟨b',H⟩,?_⟩;have:=PM H.nd H.rg;show N - l.1.length < N - s.1.length
    omega) wN _ ⟨_,S⟩ (by show N - 0 < wN;unfold wN;lia)
 simp only[BX]at e;rw[e];refine⟨l.1,rfl,?_⟩
 have o:l.2.2.2=[]:=by
  have:=Br C
  cases o:l.2.2.2 with
  | nil=>rfl
  | cons x K=>rw[o]at this;cases this
 obtain⟨lf,lt,L,st,O,rg,ok,mn,fn,sl⟩:=h;refine⟨O,rg,λm z A=>(ok m z A).2,λm hm A c C=>?_,λm z A=>by have:=(ok m z A).1;have:=PM O rg;lia⟩;have hb:=(L m).mpr ⟨hm,A⟩
 have nl:¬RK B b m c:=λhl=>by
  obtain⟨c0,q1,q2,q3⟩:=Xt (P:=RK B b m) ⟨c,C,hl⟩;have:=(fn.2.2 m c0).mpr ⟨hb,q1,q2,q3⟩;rw[o]at this;cases this
 obtain⟨j,j1,j2⟩:=Sn nl;exact⟨j,j1,((L j).mp j2).2⟩
end
section
variable{N:Nat}{cl:Nat->ZLi}{B:Nat->Int->Nat->Prop}{T:TL}
theorem lI(F:Fa N cl B T):Bv (T.map (·.1))=(D3 0 N).filter λn=>(Al T n).isSome:=NA (Jb F.nd) ((O2 0 N).filter _) λx=>by
 rw[CF,Am,Cv,CM];exact⟨λh=>⟨by have:=F.rg x h;lia,h⟩,λh=>h.2⟩
end
noncomputable def evN(o g:Nat)(n:Int):ZLi:=(sts o g).getD n.toNat []
noncomputable def clS(o g:Nat)(n:Nat):ZLi:=(D3 0 o).filter λc=>!decide (c∈evN o g n)
noncomputable def BS(o g:Nat)(us:List ZPi)(kd:Str)(n:Nat)(c:Int)(j:Nat):Prop:=∃r l,(sts o g)[n]?=some r/\(sts o g)[j]?=some l/\Lk kd us r l/\c∈l
section
variable{o g:Nat}{us:List ZPi}{kd:Str}{f:Fp}{T:TL}
theorem TC{n:Nat}{r:ZLi}(h:(sts o g)[n]?=some r):evN o g n=r:=by
 unfold evN;rw[A9,Bz,h];rfl
theorem uP(h:Im o us)(B:g<=o)(C:1<=g)(F:Fk o g us kd f):Dl f (sts o g).length (clS o g) (BS o g us kd):=by
 have I:=h.sm;obtain⟨-,-,-,E⟩:=Oz o I g (by lia) B C;refine⟨by rw[F.ev],by lia,λn A=>?_,λn A c G=>?_,λn c j ⟨r,s,_,e,_⟩=>(AF.mp e).1⟩
 ·have m:=AU A
  refine⟨?_,?_,(O2 0 o).filter _⟩
  ·rw[ly h F m]
   unfold clS;rw[TC m]
  ·have:=Cy (λc=>!decide (c∈evN o g n)) (D3 0 o)
   rw[Bw]at this;unfold clS
   lia
 ·have m:=AU A
  unfold clS at G;obtain⟨J,-⟩:=Am.mp G;obtain⟨L,N⟩:=CM.mp J
  refine(ig h B C F m (c:=c) ⟨L,by lia⟩).imp λv ⟨l,e,E⟩=>⟨l,e,λj=>(E j).trans ⟨λ⟨s,q⟩=>⟨_,s,m,q⟩,λ⟨r,s,H,q⟩=>?_⟩⟩
  rw[m]at H;cases H;exact⟨s,q⟩
theorem qm(h:Im o us)(s:g<=o)(m:1<=g):∃T:TL,Fa (sts o g).length (clS o g) (BS o g us kd) T /\
  RZ (o,us) g kd=some (((D3 0 (sts o g).length).filter λn=>(Al T n).isSome).map λn=>(evN o g n,(Al T n).getD (0,0))):=by
 have G:=h.sm;obtain⟨-,-,-,L⟩:=Oz o G g (by lia) s m;obtain⟨f,H,F⟩:=lh (kd:=kd) h s m;have D:=uP h s m F;obtain⟨T,eT,B⟩:=iF D
 have at':∀n∈D3 0 (sts o g).length,atI f.ev n=some (evN o g n):=λn A=>by
  obtain⟨C,N⟩:=CM.mp A;have E:=AU (l:=sts o g) (i:=n.toNat) (by lia);rw[F.ev,J6 C E]
  congr 1
  have:=TC E;rw[Bq C]at this;exact this.symm
 refine⟨T,B,?_⟩
 ·unfold RZ RY
  simp only[AE];rw[H];simp only[AE,BX];rw[eT];simp only[AE,BX]
  rw[lI B,GY (f:=λn=>(evN o g n,(Al T n).getD (0,0))) (by have:=Cy (λn=>(Al T n).isSome) (D3 0 (sts o g).length);rw[Bw]at this;lia) λn A=>by
   obtain⟨m,I⟩:=Am.mp A;rw[at' n m];obtain⟨z,J⟩:=CD.mp I;rw[J]
   rfl]
  rfl
end
open PySem L2 L4
open Srt (ltL)
theorem Sr:z∈DM us x↔((x:Int),z)∈us∨(z,(x:Int))∈us:=by
 rw[<-ZB];exact CF.symm
theorem Ui:∀{us:List ZPi},us.Nodup->(∀t∈us,t.1 < t.2)->(DM us x).Nodup
 | [],_,_=>Ee
 | t :: us,h,l=>by
  have m:=Ui (x:=x) (Bf.mp h).2 λs C=>l s (AN _ C)
  have B:=(Bf.mp h).1;have lt:=l t AX
  have e:DM (t :: us) x=((if t.1=(x:Int)then[t.2]else[])++(if t.2=(x:Int)then[t.1]else[]))++DM us x:=by
   unfold DM;rw[LC]
  rw[e]
  have lt':∀a b:Int,(a,b)∈us->a < b:=λa b E=>l _ (AN _ E)
  by_cases o:t.1=(x:Int)
  ·rw[qX o,qY (by lia),CB]
   show(t.2 :: DM us x).Nodup;rw[Bf];refine⟨λz=>?_,m⟩
   rcases Sr.mp z with z | z
   ·rw[<-o]at z;exact B z
   ·have:=lt' _ _ z;lia
  ·rw[qY o,jH]
   by_cases A:t.2=(x:Int)
   ·rw[qX A]
    show(t.1 :: DM us x).Nodup;rw[Bf];refine⟨λz=>?_,m⟩
    rcases Sr.mp z with z | z
    ·have:=lt' _ _ z;lia
    ·rw[<-A]at z;exact B z
   ·rw[qY A];exact m
section
variable{o:Nat}{ts:List ZPi}
theorem LQ.ties(h:LQ o ts)(ho:o < 8):Im o (HD ts):=by
 have rg:∀g:Int,0<=g->g < o->∀x∈nr (HD ts) g.toNat,0<=x/\x < o/\x≠g:=λg m s x l=>by
  rw[ZB,h.mem,h.mem,Bq m]at l
  rcases l with l | l
  ·have:0<=g/\g < x/\x < o:=h.rg _ l;lia
  ·have:0<=x/\x < g/\g < o:=h.rg _ l;lia
 have A:∀g:Int,0<=g->g < o->(nr (HD ts) g.toNat).Nodup:=λg _ _=>by
  refine(EM _).nodup_iff.mpr (Ui ?_ λt B=>?_)
  ·rw[(P0 ts).nodup_iff,h.nrm];exact h.nd
  ·exact(h.rg t (h.mem.mp B)).2.1
 refine⟨ho,λg m s=>?_,rg,A⟩;have C:(g :: nr (HD ts) g.toNat).Nodup:=Bf.mpr ⟨λz=>(rg g m s g z).2.2 rfl,A g m s⟩
 have:=JB (k:=D3 0 o) C λx l=>by
  rw[CM]
  rcases Ae.mp l with rfl | l
  ·lia
  ·have:=rg g m s x l;lia
 rw[Bw,At]at this
 lia
theorem p0(h:LQ o ts)(y:Int):(lnr ts y).Nodup:=by
 unfold lnr Ga;rw[Bn]
 refine(h.nd.filter _).imp_of_mem λ{a b} s A B e=>B ?_
 obtain⟨C,l⟩:=Am.mp s;obtain⟨E,m⟩:=Am.mp A;have l:=of_decide_eq_true l;have m:=of_decide_eq_true m;have G:=h.rg a C;have H:=h.rg b E;simp only[Ae,MV,or_false]at l m
 refine UR ?_ ?_ <;> omega
theorem oS(h:LQ o ts)(g:Int):([g]++Bv (lnr ts g)).Nodup:=by
 show(g :: Bv (lnr ts g)).Nodup;rw[Bf,(EM _).nodup_iff,CF,aT];refine⟨λz=>?_,p0 h g⟩
 rcases z with z | z <;> (have:=h.rg _ z;lia)
theorem j3(h:LQ o ts)(l:0<=g):x∈[g]++Bv (lnr ts g)↔x∈Tg (HD ts) g:=by
 rw[QY,h.near l];simp
structure Rw(us:List ZPi)(gs:ZLi)(s:List ZLi):Prop where
 mem:∀r,r∈s↔r.length=gs.length/\r.Nodup/\∀y∈gs.zip r,y.2∈Tg us y.1
 nd:s.Nodup
 ln:s.length<=7 ^ gs.length
theorem Yw(h:r.length=n+1):∃t p,r=t++[p]/\t.length=n:=by
 have l:r≠[]:=λz=>by rw[z]at h;cases h
 exact⟨r.dropLast,r.getLast l,(List.dropLast_concat_getLast l).symm,by rw[List.length_dropLast,h];rfl⟩
theorem Sq:(t++[p]).Nodup↔t.Nodup/\p∉t:=by
 unfold Ga;rw[BM]
 constructor
 ·rintro⟨a,-,c⟩
  exact⟨a,λz=>c p z p (by simp) rfl⟩
 ·rintro⟨a,b⟩
  exact⟨a,by simp,λx l y m e=>b (by rw[Ad.mp m]at e;rw[<-e];exact l)⟩
noncomputable def lnx(v:ZLi)(r:ZLi):List ZLi:=(v.filter λp=>!decide (p∈r)).map λp=>r++[p]
theorem Rc:t∈lnx v r↔∃p,t=r++[p]/\p∈v/\p∉r:=by
 unfold lnx;rw[BF]
 constructor
 ·rintro⟨p,s,rfl⟩
  obtain⟨l,m⟩:=Am.mp s;exact⟨p,rfl,l,by simpa using m⟩
 ·rintro⟨p,rfl,l,m⟩
  exact⟨p,Am.mpr ⟨l,by simpa using m⟩,rfl⟩
theorem aS:(lnx v r).length<=v.length:=by
 unfold lnx;rw[AD];exact Cy _ _
theorem Ss(l:v.length<=7):∀L:List ZLi,(L.flatMap (lnx v)).length<=7 * L.length
 | []=>by simp
 | t :: L=>by
  rw[LC,AZ,At];have:=Ss l L;have:=aS (v:=v) (r:=t)
  lia
theorem Rw.step(h:Rw us gs s)(B:∀x,x∈v↔x∈Tg us g)(C:v.Nodup)(E:v.length<=7):Rw us (gs++[g]) (s.flatMap (lnx v)):=by
 refine⟨λr=>?_,?_,?_⟩
 ·rw[ir]
  constructor
  ·rintro⟨t,m,G⟩
   obtain⟨p,rfl,H,I⟩:=Rc.mp G;obtain⟨a,b,c⟩:=(h.mem t).mp m;refine⟨by rw[AZ,AZ,a];rfl,Sq.mpr ⟨b,I⟩,λy l=>?_⟩;rw[jF a.symm]at l
   rcases Ay.mp l with l | l
   ·exact c y l
   ·rw[Pi,dJ,Ad]at l
    rw[l];exact(B p).mp H
  ·rintro⟨a,b,c⟩
   rw[AZ,A0]at a;obtain⟨t,p,rfl,m⟩:=Yw a;obtain⟨J,L⟩:=Sq.mp b;rw[jF m.symm]at c;refine⟨t,(h.mem t).mpr ⟨m,J,λy l=>c y (BO _ l)⟩,Rc.mpr ⟨p,rfl,(B p).mpr (c (g,p) (BW _ (by simp))),L⟩⟩
 ·unfold Ga
  rw[List.pairwise_flatMap];refine⟨λt _=>?_,h.nd.imp λ{a b} A x N y l e=>?_⟩
  ·unfold lnx
   rw[Bn]
   refine(C.filter _).imp λ{a b} A e=>A ?_
   simpa using e
  ·obtain⟨p,rfl,_⟩:=Rc.mp N
   obtain⟨q,rfl,_⟩:=Rc.mp l;exact A (List.append_inj' e rfl).1
 ·have:=Ss E s
  have:=h.ln;rw[AZ,A0,rn]
  lia
end
open PySem L2 L4
noncomputable def GC(U:(List ZPi))(l:ZLi)(m:Int)(Bh:Str):Option (Fw (List ZLi) Unit):=
 BD (if (decide (Bh=("one" : Str)))=true then BD ((((some (l.length:Int)).bind Nx).bind λo=>EV o (λs=>((((atI l s).bind λyh=>some (yh,())).bind λxY=>some (U,xY)).bind λX=>Il X.1 X.2.1).bind λx7=>some (decide (m∈x7))) (λs=>some s)).bind λwG=>some (.nx wG)) λv3=>((EV v3 (λA=>some true) (λA=>(((some (m :: [])).bind Gq).bind λB=>NR (Hs l none (some A)) B).bind λyL=>NR yL (Hs l (some (A+(1:Int))) none))).bind Lr).bind λwF=>some (.rt wF)else some (.nx ())) λ_=>BD (((((some []).bind Gq).bind λC=>some (C :: [])).bind Gq).bind λzZ=>some (.nx zZ)) λxI=>BD (Ez l xI λ(E':(List ZLi)) Y=>BD ((((some (Y :: [])).bind Gq).bind λE=>(Il U Y).bind λyY=>NR E yY).bind λG=>some (.nx G)) λH=>BD (((some []).bind Gq).bind λyj=>some (.nx yj)) λI=>BD (Ez E' I λ(J:(List ZLi)) Z=>EC (λL=>L) ((EV H (λN=>some (!decide (N∈Z))) (λN=>((some (N :: [])).bind Gq).bind λO=>NR Z O)).bind λP=>(NR J P).bind λQ=>some (.nx Q))) λR=>EC (λ_=>R) (some (.nx ()))) λS=>((EV S (λT=>some (decide (m∈T))) (λT=>some T)).bind Lr).bind λZ'=>some (.rt Z')
noncomputable def EO(l:(List ZPi))(m:ZLi)(o:Int)(s:Str):Option (List ZLi):=Gp (GC l m o s)
theorem SE(W:Wd)(l:(List ZPi))(m:ZLi)(o:Int)(s:Str):VF (Jx W) [.z ((oL (eP D.int D.int)) l),.v ((eT D.int) m),.v (D.int o),.v (D.str s)] (rN (oL (eT D.int))) (EO l m o s):=by
 refine Ex (n:=10) (b:=J3 W) (p:=GC l m o s) (B:=λ_=>[]) ?_;show VS [.z ((oL (eP D.int D.int)) l),.v ((eT D.int) m),.v (D.int o),.v (D.str s),.u,.u,.u,.u,.u,.u] _ _ _ _;unfold J3 GC;exact(Aw (Fd (B:=(λ(_:Unit)=>[.z ((oL (eP D.int D.int)) l),.v ((eT D.int) m),.v (D.int o),.v (D.str s),.u,.u,.u,.u,.u,.u])) (Gb (LG az gJ (AI rfl) (CS rfl))) (Aw (FD (Cf (DB (VI.k (Em (ji (AI rfl)))) (λJ=>(Gb (nv DX (AI rfl) (HH (CO (Mv (Cz rfl) (DL (Vh (AI rfl) (AI rfl)) Ca)) (λI=>Ql W I.1 I.2.1) (λ_=>rfl) JJ))))) (λJ=>(AI rfl))))) (λY=>(FE (W5 (HH (Cf (DB (VI.k (KH rfl)) (λL=>GU) (λL=>(Nh (Nh (Z0 (AI rfl) RT (RS (AI rfl))) (Li (Gw (AI rfl) D9))) (Z0 (AI rfl) (RS (F9 (AI rfl) (CS rfl))) RT)))))))))) (Fb (.refl _))) (λ_=>(Aw (FD (Cf (EL (Gw (Li D9) D9)))) (λN=>(Aw (Eh (s0:=N) (B:=(λ(C:(List ZLi))=>[.z ((oL (eP D.int D.int)) l),.v ((eT D.int) m),.v (D.int o),.v (D.str s),.u,.y ((oL (eT D.int)) C),.u,.u,.u,.u])) (Pw (AI rfl)) Du (.refl _) (λO P=>(Aw (FD (Z1 (HH (Cf (EL (Gw (AI rfl) D9)))) (HH (CO (Mv (Cz rfl) (DL (AI rfl) Ca)) (λA=>Ql W A.1 A.2.1) (λ_=>rfl) JJ)))) (λE=>(Aw (Gv (Cf (EL D9))) (λG=>(Aw (Eh (s0:=G) (B:=(λ(H:(List ZLi))=>[.z ((oL (eP D.int D.int)) l),.v ((eT D.int) m),.v (D.int o),.v (D.str s),.u,.y ((oL (eT D.int)) O),.v (D.int P),.y ((oL D.int) E),.w 8 ((oL (eT D.int)) H),.u])) (KH rfl) Du (.refl _) (λQ Z=>(C9 (dk rfl (Cf (DB (VI.k (KH rfl)) (λR=>(Gb (Vf DX (AI rfl) (AI rfl)))) (λR=>(Nh (AI rfl) (Li (Gw (AI rfl) D9)))))) rfl) (λS=>(.same (.same (.same (.same (.same (.same (.same (.same (.same (.drop .nil)))))))))))))) (λT=>(C9 (Ya 8 rfl rfl (Pv rfl)) (λ_=>(.same (.same (.same (.same (.same (.same (.drop (.drop (.drop (.same .nil)))))))))))))))))))) (λU=>(FE (W5 (HH (Cf (DB (VI.k (KH rfl)) (λX=>(Gb (eD DX (AI rfl) (AI rfl)))) (λX=>(AI rfl)))))))))))))
noncomputable def IU(U:(List ZPi))(X:Int)(R:(List (ZLi×ZPi)))(S:ZLi)(o:ZLi)(Y:Str):Option (Fw Bool Unit):=
 BD ((Al R S).bind λZ=>some (.nx Z)) λs=>BD (((some s.1).bind Nx).bind λA=>Ez A (S,s.1,s.2) λ(l:ZLi×Int×Int) m=>BD ((if (decide (l.2.2∈l.1))=true then some true else if (decide (l.2.2 < (0:Int)))=true then some true else some (decide (X<=l.2.2))).bind λwG=>if wG=true then some (.rt false)else some (.nx ())) λ_=>BD ((EO U l.1 l.2.2 Y).bind λB=>some (.nx B)) λC=>BD ((((some []).bind Gq).bind λxZ=>some (decide (C=xZ))).bind λyL=>if yL=true then some (.rt true)else some (.nx ())) λ_=>BD ((gP m m).bind λE=>some (.nx E)) λxo=>BD ((((some []).bind Gq).bind λG=>some (!decide (o=G))).bind λH=>if H=true then EC (λxu=>xu) ((((UG m (o.length:Int)).bind λzV=>atI o zV).bind λy8=>some (y8+m)).bind λI=>some (.nx I))else some (.nx xo)) λJ=>BD ((((UG J (C.length:Int)).bind λL=>atI C L).bind λV'=>some (Bv V')).bind λN=>some (.nx N)) λT=>BD (some (.nx l.2.1)) λO=>BD ((Al R T).bind λP=>some (.nx P)) λQ=>EC (λ_=>(T,Q.1,Q.2)) (if (decide (O<=Q.1))=true then some (.rt false)else some (.nx ()))) λs75=>some (.rt false)
noncomputable def IX(l:(List ZPi))(m:Int)(o:(List (ZLi×ZPi)))(s:ZLi)(A:ZLi)(B:Str):Option Bool:=Gp (IU l m o s A B)
theorem Tz(W:Wd)(l:(List ZPi))(m:Int)(o:(List (ZLi×ZPi)))(G:ZLi)(s:ZLi)(A:Str):VF (Kp W) [.z ((oL (eP D.int D.int)) l),.v (D.int m),.z ((oDR (eP D.int D.int)) o),.v ((eT D.int) G),.z ((oL D.int) s),.v (D.str A)] (rV D.bl) (IX l m o G s A):=by
 refine Ex (n:=12) (b:=Kx W) (p:=IU l m o G s A) (B:=λ_=>[]) ?_;show VS [.z ((oL (eP D.int D.int)) l),.v (D.int m),.z ((oDR (eP D.int D.int)) o),.v ((eT D.int) G),.z ((oL D.int) s),.v (D.str A),.u,.u,.u,.u,.u,.u] _ _ _ _;unfold Kx IU;exact(Aw (Zx (R9 (Cz rfl) (AI rfl))) (λP=>(Aw (Eh (s0:=(G,P.1,P.2)) (B:=(λ(E:ZLi×Int×Int)=>[.z ((oL (eP D.int D.int)) l),.v (D.int m),.z ((oDR (eP D.int D.int)) o),.v ((eT D.int) E.1),.z ((oL D.int) s),.v (D.str A),.v (D.int E.2.1),.v (D.int E.2.2),.u,.u,.u,.u])) (Em (AI rfl)) Du (.refl _) (λC H=>(Aw (Fd (B:=(λ(_:Unit)=>[.z ((oL (eP D.int D.int)) l),.v (D.int m),.z ((oDR (eP D.int D.int)) o),.v ((eT D.int) C.1),.z ((oL D.int) s),.v (D.str A),.v (D.int C.2.1),.v (D.int C.2.2),.v (D.int H),.u,.u,.u])) (eS (Gb (eD DX (AI rfl) (AI rfl))) (eS (Gb (dw (AI rfl) (CS rfl))) (Gb (mY (AI rfl) (AI rfl))))) (E2 (CS rfl)) (Fb (.refl _))) (λ_=>(Aw (FD (CO (Mv (Cz rfl) (DL (AI rfl) (DL (AI rfl) (DL (AI rfl) Ca)))) (λI=>SE W I.1 I.2.1 I.2.2.1 I.2.2.2.1) (λ_=>rfl) JJ)) (λJ=>(Aw (Fd (B:=(λ(_:Unit)=>[.z ((oL (eP D.int D.int)) l),.v (D.int m),.z ((oDR (eP D.int D.int)) o),.v ((eT D.int) C.1),.z ((oL D.int) s),.v (D.str A),.v (D.int C.2.1),.v (D.int C.2.2),.v (D.int H),.y ((oL (eT D.int)) J),.u,.u])) (Gb (ny (WR DX) (DW rfl) (HH (Cf (EL D9))))) (E2 (CS rfl)) (Fb (.refl _))) (λ_=>(Aw (Do (dv (AI rfl) (AI rfl))) (λT=>(Aw (Fd (B:=(λ(L:Int)=>[.z ((oL (eP D.int D.int)) l),.v (D.int m),.z ((oDR (eP D.int D.int)) o),.v ((eT D.int) C.1),.z ((oL D.int) s),.v (D.str A),.v (D.int C.2.1),.v (D.int C.2.2),.v (D.int H),.y ((oL (eT D.int)) J),.v (D.int L),.u])) (Gb (Yd DX (Cz rfl) (HH (Cf (EL D9))))) (C9 (Do (F9 (HI (Cz rfl) (Vg (AI rfl) (Ll (Cz rfl)))) (AI rfl))) (λU=>(.refl _))) (Fb (.refl _))) (λN=>(Aw (Do (Ng (HH (Px (HI (DW rfl) (Vg (AI rfl) (Ll (DW rfl)))))))) (λR=>(Aw (Do (AI rfl)) (λO=>(Aw (Zx (R9 (Cz rfl) (AI rfl))) (λQ=>(C9 (Fd (B:=(λ(_:Unit)=>[.z ((oL (eP D.int D.int)) l),.v (D.int m),.z ((oDR (eP D.int D.int)) o),.v ((eT D.int) R),.z ((oL D.int) s),.v (D.str A),.v (D.int Q.1),.v (D.int Q.2),.v (D.int H),.y ((oL (eT D.int)) J),.v (D.int N),.v (D.int O)])) (Gb (mY (AI rfl) (AI rfl))) (E2 (CS rfl)) (Fb (.refl _))) (λ_=>(.same (.same (.same (.same (.same (.same (.same (.same (.drop (.drop (.drop (.drop .nil)))))))))))))))))))))))))))))))) (λS=>(E2 (CS rfl))))))
noncomputable def Gx(B:(Nat×List ZPi))(C:Int)(E:Str):Option (Fw Int Unit):=
 BD (((Vz (1:Int) (C+(1:Int))).bind λm=>EV m (λs=>some true) (λs=>(EN B s E).bind λG=>some G.isSome)).bind λH=>some (.nx H)) λl=>BD ((if (!decide (l=(upB l)))=true then some true else atI l (-(1:Int))).bind λI=>if I=true then some (.rt (-(1:Int)))else some (.nx ())) λ_=>((EV l (λA=>some true) (λA=>some (if A=true then 1 else 0))).bind λo=>some (Yp o)).bind λJ=>some (.rt J)
noncomputable def Gz(l:(Nat×List ZPi))(m:Int)(o:Str):Option Int:=Gp (Gx l m o)
theorem Qz(W:Wd)(l:(Nat×List ZPi))(m:Int)(o:Str):VF (JC W) [.z ((GJ W) l),.v (D.int m),.v (D.str o)] (rV D.int) (Gz l m o):=by
 refine Ex (n:=4) (b:=JE W) (p:=Gx l m o) (B:=λ_=>[]) ?_;show VS [.z ((GJ W) l),.v (D.int m),.v (D.str o),.u] _ _ _ _;unfold JE Gx;exact(Aw (FD (Cf (DB (VI.k (JV (CS rfl) (F9 (AI rfl) (CS rfl)))) (λA=>GU) (λA=>(np (CO (Mv (Cz rfl) (DL (AI rfl) (DL (AI rfl) Ca))) (λs=>Mw W s.1 s.2.1 s.2.2.1) (λ_=>rfl) fN)))))) (λC=>(Aw (Fd (B:=(λ(_:Unit)=>[.z ((GJ W) l),.v (D.int m),.v (D.str o),.y ((oL D.bl) C)])) (eS (Gb (Yd qj (DW rfl) (HH (dr (DW rfl))))) (Vi (HI (DW rfl) (R8 (CS rfl))))) (E2 (R8 (CS rfl))) (Fb (.refl _))) (λ_=>(E2 (nc (HH (Cf (DB (VI.k (KH rfl)) (λE=>GU) (λE=>(eC (AI rfl))))))))))))
noncomputable def aF(m:ZLi):Option (Fw Bool Unit):=
 BD ((Cj m (0:Int)).bind λx7=>some (.nx x7)) λv1=>BD (some (.nx (((2:Int)+(v1 % 5))+(if (decide (((v1 / 84) % 8)=(1:Int)))=true then 1 else 0)))) λo=>BD ((Ij m (2:Int) o).bind λwg=>some (.nx wg)) λs=>BD (((IW m s).bind λwF=>dh o wF).bind λR=>some (.nx R)) λw8=>BD ((Cj m (1:Int)).bind λA'=>some (.nx A')) λS=>BD ((((some (("one" : Str) :: (("all" : Str) :: []))).bind Gq).bind λT=>atI T (S % 2)).bind λU=>some (.nx U)) λX=>BD ((Gz w8 o X).bind λY=>some (.nx Y)) λQ=>BD (if (decide (Q < (1:Int)))=true then some (.rt (decide (Q=(0:Int))))else some (.nx ())) λ_=>BD (some (.nx Q)) λZ=>BD (if (decide (((S / 2) % 3)=(1:Int)))=true then EC (λυ=>υ) (((UG (S / 6) Q).bind λx82=>some ((1:Int)+x82)).bind λZ'=>some (.nx Z'))else some (.nx Z)) λyP=>BD (some (.nx [])) λv87=>BD (((EN w8 yP X).bind id).bind λA=>Ez A v87 λ(s96:(List (ZLi×ZPi))) χ=>EC (λΑ=>Α) ((HE s96 χ.1 (χ.2.1,χ.2.2)).bind λB=>some (.nx B))) λwH=>BD ((Ik o yP).bind λC=>some (.nx C)) λwj=>BD (((Lr (wH.map (·.1))).bind λE=>some (!decide (E=wj))).bind λG=>if G=true then some (.rt false)else some (.nx ())) λ_=>BD (some (.nx (Hs m none (some (63:Int))))) λy9=>BD (((some (wj.length:Int)).bind Nx).bind λH=>Ez H () λ(_:Unit) ya=>EC (λ_=>()) ((((((((atI wj ya).bind λI=>some (I,((Hs y9 (some (ya % 5)) none),(X,())))).bind λJ=>some (wH,J)).bind λL=>some (o,L)).bind λN=>some (s,N)).bind λl=>IX l.1 l.2.1 l.2.2.1 l.2.2.2.1 l.2.2.2.2.1 l.2.2.2.2.2.1).bind λO=>some (!O)).bind λP=>if P=true then some (.rt false)else some (.nx ()))) λ_=>some (.rt true)
noncomputable def fj(l:ZLi):Option Bool:=Gp (aF l)
theorem sT(W:Wd)(m:ZLi):VF (av W) [.v (eF m)] (rV D.bl) (fj m):=by
 refine Ex (n:=16) (b:=ij W) (p:=aF m) (B:=λ_=>[]) ?_;show VS [.v (eF m),.u,.u,.u,.u,.u,.u,.u,.u,.u,.u,.u,.u,.u,.u,.u] _ _ _ _;unfold ij aF;exact(Aw (Do (CO (DL (AI rfl) (DL (CS rfl) Ca)) (λX=>HJ W X.1 X.2.1) (λ_=>rfl) Gn)) (λC=>(Aw (Do (F9 (F9 (CS rfl) (Lj rfl (AI rfl))) (eC (LG DX Jo (Lj rfl (Mu rfl (AI rfl))) (CS rfl))))) (λE=>(Aw (FD (CO (DL (AI rfl) (DL (CS rfl) (DL (AI rfl) Ca))) (λo=>XE W o.1 o.2.1 o.2.2.1) (λ_=>rfl) JJ)) (λl=>(Aw (FD (nZ (AI rfl) (HH (CO (DL (AI rfl) (Mv (DW rfl) Ca)) (λN=>Tx W N.1 N.2.1) (λ_=>rfl) JJ)))) (λG=>(Aw (Do (CO (DL (AI rfl) (DL (CS rfl) Ca)) (λO=>HJ W O.1 O.2.1) (λ_=>rfl) Gn)) (λH=>(Aw (Do (HI (HH (Cf (EL (Gw (CS rfl) (Gw (CS rfl) D9))))) (Lj rfl (AI rfl)))) (λI=>(Aw (Do (CO (Mv (DW rfl) (DL (AI rfl) (DL (AI rfl) Ca))) (λs=>Qz W s.1 s.2.1 s.2.2.1) (λ_=>rfl) Gn)) (λJ=>(Aw (Fd (B:=(λ(_:Unit)=>[.v (eF m),.v (D.int C),.v (D.int E),.y ((oL (eP D.int D.int)) l),.y ((GJ W) G),.v (D.int H),.v (D.str I),.v (D.int J),.u,.u,.u,.u,.u,.u,.u,.u])) (Gb (dw (AI rfl) (CS rfl))) (E2 (LG DX Jo (AI rfl) (CS rfl))) (Fb (.refl _))) (λ_=>(Aw (Do (AI rfl)) (λv71=>(Aw (Fd (B:=(λ(R:Int)=>[.v (eF m),.v (D.int C),.v (D.int E),.y ((oL (eP D.int D.int)) l),.y ((GJ W) G),.v (D.int H),.v (D.str I),.v (D.int J),.v (D.int R),.u,.u,.u,.u,.u,.u,.u])) (Gb (LG DX Jo (Lj rfl (Mu rfl (AI rfl))) (CS rfl))) (C9 (Do (F9 (CS rfl) (Vg (Mu rfl (AI rfl)) (AI rfl)))) (λυ=>(.refl _))) (Fb (.refl _))) (λQ=>(Aw (Gv eJ) (λS=>(Aw (Eh (s0:=S) (B:=(λ(P:(List (ZLi×ZPi)))=>[.v (eF m),.v (D.int C),.v (D.int E),.y ((oL (eP D.int D.int)) l),.y ((GJ W) G),.v (D.int H),.v (D.str I),.v (D.int J),.v (D.int Q),.w 9 ((oDR (eP D.int D.int)) P),.u,.u,.u,.u,.u,.u])) (R6 (je (CO (Mv (DW rfl) (DL (AI rfl) (DL (AI rfl) Ca))) (λA=>Mw W A.1 A.2.1 A.2.2.1) (λ_=>rfl) fN))) di (.refl _) (λs96 χ=>(C9 (dm rfl (AI rfl) (KI (AI rfl) (AI rfl)) rfl) (λΑ=>(.same (.same (.same (.same (.same (.same (.same (.same (.same (.same (.drop (.drop (.drop (.same (.same (.same .nil)))))))))))))))))))) (λT=>(Aw (FD (CO (DL (AI rfl) (DL (AI rfl) Ca)) (λY=>XF W Y.1 Y.2.1) (λ_=>rfl) JJ)) (λU=>(Aw (Fd (B:=(λ(_:Unit)=>[.v (eF m),.v (D.int C),.v (D.int E),.y ((oL (eP D.int D.int)) l),.y ((GJ W) G),.v (D.int H),.v (D.str I),.v (D.int J),.v (D.int Q),.w 9 ((oDR (eP D.int D.int)) T),.u,.u,.u,.y ((oL (eT D.int)) U),.u,.u])) (Gb (Yd (WR DX) (HH (ba (JN rfl))) (DW rfl))) (E2 (CS rfl)) (Fb (.refl _))) (λ_=>(Aw (FD (jm (AI rfl) RT (RS (CS rfl)))) (λZ=>(Aw (Eh (s0:=()) (B:=(λ(_:Unit)=>[.v (eF m),.v (D.int C),.v (D.int E),.y ((oL (eP D.int D.int)) l),.y ((GJ W) G),.v (D.int H),.v (D.str I),.v (D.int J),.v (D.int Q),.w 9 ((oDR (eP D.int D.int)) T),.u,.u,.u,.y ((oL (eT D.int)) U),.y ((oL D.int) Z),.u])) (Em (Ll (DW rfl))) Du (.refl _) (λ_ ya=>(C9 (Fd (B:=(λ(_:Unit)=>[.v (eF m),.v (D.int C),.v (D.int E),.y ((oL (eP D.int D.int)) l),.y ((GJ W) G),.v (D.int H),.v (D.str I),.v (D.int J),.v (D.int Q),.w 9 ((oDR (eP D.int D.int)) T),.u,.u,.u,.y ((oL (eT D.int)) U),.y ((oL D.int) Z),.v (D.int ya)])) (Yf (Vi (CO (Mv (DW rfl) (DL (AI rfl) (Mv (JN rfl) (DL (HI (DW rfl) (AI rfl)) (Mv (HH (jl (DW rfl) (RS (Lj rfl (AI rfl))) RT)) (DL (AI rfl) Ca)))))) (λL=>Tz W L.1 L.2.1 L.2.2.1 L.2.2.2.1 L.2.2.2.2.1 L.2.2.2.2.2.1) (λ_=>rfl) Gn))) (E2 (CS rfl)) (Fb (.refl _))) (λ_=>(.same (.same (.same (.same (.same (.same (.same (.same (.same (.same (.same (.same (.same (.same (.same (.drop .nil)))))))))))))))))))) (λ_=>(E2 (CS rfl))))))))))))))))))))))))))))))))))
open PySem L2 L4
open Srt (ltL)
noncomputable def Ans(kd:Str)(us:List ZPi)(r:ZLi)(c:Int)(s:ZLi):Prop:=if kd = "one" then ∃a∈r,c∈nr us a.toNat/\s=wst r a c else dB us r c s
theorem Vj{s r:ZLi}(m:s.Nodup)(h:∀x∈s,x∈r)(B:s.length=r.length):∀x∈r,x∈s:=λx o=>GP λA=>by
 have:=JB (k:=r) (Bf.mpr ⟨A,m⟩) λy l=>by
  rcases Ae.mp l with rfl | l
  ·exact o
  ·exact h y l
 rw[At]at this
 lia
section
variable{o g:Nat}{us ts:List ZPi}{kd:Str}{r r':ZLi}{c:Int}
theorem Pe(h:Im o us)(B:Stg o g r)(A:c∉r):(∃s,Ans kd us r c s/\Bv s=r')↔Stg o g r'/\Lk kd us r r'/\c∈r':=by
 unfold Ans Lk
 by_cases k:kd = "one"
 ·simp only[qX k]
  constructor
  ·rintro⟨s,⟨a,l,L,rfl⟩,rfl⟩
   have hb:c∈Tg us a:=QY.mpr (.inr L);exact⟨Zv h B l hb A,⟨a,l,c,hb,A,rfl⟩,CF.mpr ((Lg l).mpr (.inl rfl))⟩
  ·rintro⟨-,⟨a,l,b,hb,O,rfl⟩,C⟩
   have e:c=b:=by
    rcases(Lg l).mp (CF.mp C)with e | e
    ·exact e
    ·exact zX e.1 A
   subst e
   rcases QY.mp hb with e | e
   ·rw[e]at A;exact zX l A
   ·exact⟨_,⟨a,l,e,rfl⟩,rfl⟩
 ·simp only[qY k]
  constructor
  ·rintro⟨s,m,rfl⟩
   have rg:=dB.rg h B.2.1 m;refine⟨⟨by rw[(EM _).length_eq,m.1,B.1],λx E=>rg x (CF.mp E),Jb m.2.1⟩,⟨s,m.1,m.2.1,m.2.2.1,λx E=>CF.mpr E⟩,CF.mpr m.2.2.2⟩
  ·rintro⟨H,⟨s,I,G,N,J⟩,C⟩
   have all:=Vj G J (by rw[I,B.1,H.1]);exact⟨s,⟨I,G,N,all c C⟩,NA (Jb G) H.2.2 λx=>CF.trans ⟨J x,all x⟩⟩
theorem jN(m:r.Nodup)(l:k < r.length)(x:Int):r.take k++[x]++r.drop (k+1)=wst r r[k] x:=by
 have e:r.set k x=r.take k++x :: r.drop (k+1):=by rw[List.set_eq_take_append_cons_drop,qX l]
 rw[Bu,Fm,<-e]
 refine Hv λi=>?_
 unfold wst;rw[Ai,DT]
 by_cases c:k=i
 ·subst c
  rw[qX rfl,qX l,AU l];show some x=some (if r[k]=r[k]then x else r[k]);rw[qX rfl]
 ·rw[qY c]
  cases s:r[i]? with
  | none=>rfl
  | some y=>
   obtain⟨B,A⟩:=AF.mp s;show some y=some (if y=r[k]then x else y);rw[qY];intro z;rw[<-A]at z;exact c ((MW m).mp z).symm
theorem Vx(h:∀r∈f,r≠[]):Lr f=some (Ih f):=qX (Iq.mpr λr l=>by
 cases r with
 | nil=>exact zX rfl (h _ l)
 | cons a r=>rfl)
theorem px(h:LQ o ts)(G:∀g∈gs,0<=g/\g < (o:Int))(L:gs.Nodup)(N:gs≠[])(X:gs.length<=6)(x:Int):Ok (EO ts gs x "one") λB=>(∀s,s∈B↔∃a∈gs,x∈nr (HD ts) a.toNat/\s=wst gs a x)/\B.length<=117649:=by
 have O:=h.ln;unfold EO GC;rw[qX (wX rfl)];simp only[AE];rw[Ni (by lia) (by lia),A9];simp only[AE]
 rw[IJ (P:=λk:Int=>decide (x∈Bv (lnr ts (gs.getD k.toNat 0)))) (by rw[Bw];lia) λk m=>by
  obtain⟨C,H⟩:=CM.mp m
  have l:k.toNat < gs.length:=by lia
  rw[J6 C (AU l)];simp only[AE];rw[aU (by lia),Bz,AU l]
  rfl]
 simp only[AE,BX];have Q:=Cy (λk:Int=>decide (x∈Bv (lnr ts (gs.getD k.toNat 0)))) (D3 0 gs.length);rw[Bw]at Q
 rw[GY (f:=λk:Int=>wst gs (gs.getD k.toNat 0) x) (by lia) λk m=>by
  obtain⟨C,H⟩:=CM.mp (Am.mp m).1
  have l:k.toNat < gs.length:=by lia
  rw[qh];simp only[AE];rw[show k=((k.toNat:Nat):Int) by lia,qu gs (by lia),show((k.toNat:Nat):Int)+1=((k.toNat+1:Nat):Int) by lia,iS gs (by lia),Nq (by rw[Dk,A0];lia)];simp only[AE];rw[Nq (by rw[AZ,Dk,Io,A0];omega),jN L l,A9,Bz,AU l]
  rfl]
 simp only[AE]
 have E:∀s,s∈((D3 0 gs.length).filter λk:Int=>decide (x∈Bv (lnr ts (gs.getD k.toNat 0)))).map (λk:Int=>wst gs (gs.getD k.toNat 0) x)↔∃a∈gs,x∈nr (HD ts) a.toNat/\s=wst gs a x:=λs=>by
  rw[BF]
  constructor
  ·rintro⟨k,m,rfl⟩
   obtain⟨R,I⟩:=Am.mp m;obtain⟨C,H⟩:=CM.mp R
   have l:k.toNat < gs.length:=by lia
   have A:gs.getD k.toNat 0=gs[k.toNat]:=by rw[Bz,AU l];rfl
   rw[A]at I ⊢;exact⟨_,Cb l,(h.near (G _ (Cb l)).1 x).mpr (of_decide_eq_true I),rfl⟩
  ·rintro⟨a,S,T,rfl⟩
   obtain⟨k,m,rfl⟩:=B2 S
   have A:gs.getD ((k:Int)).toNat 0=gs[k]:=by rw[A9,Bz,AU m];rfl
   refine⟨(k:Int),Am.mpr ⟨CM.mpr ⟨by lia,by lia⟩,?_⟩,by rw[A]⟩;rw[A];exact wX ((h.near (G _ (Cb m)).1 x).mp T)
 have J:(((D3 0 gs.length).filter λk:Int=>decide (x∈Bv (lnr ts (gs.getD k.toNat 0)))).map (λk:Int=>wst gs (gs.getD k.toNat 0) x)).length<=117649:=by rw[AD];lia
 generalize ((D3 0 gs.length).filter λk:Int=>decide (x∈Bv (lnr ts (gs.getD k.toNat 0)))).map (λk:Int=>wst gs (gs.getD k.toNat 0) x)=f at E J
 rw[Vx λr U z=>by
  obtain⟨a,_,_,e⟩:=(E r).mp U;rw[z]at e;unfold wst at e
  exact N (List.map_eq_nil_iff.mp e.symm)]
 exact⟨_,rfl,λs=>(Et f).mem_iff.trans (E s),by rw[(Et f).length_eq];exact J⟩
theorem p8(h:LQ o ts)(ho:o < 8)(U:∀g∈gs,0<=g/\g < (o:Int))(X:gs≠[])(Y:gs.length<=6)(x:Int)(Z:¬kd = "one"):Ok (EO ts gs x kd) λB=>(∀s,s∈B↔dB (HD ts) gs x s)/\B.length<=117649:=by
 unfold EO GC;rw[wY Z,qY AH];simp only[BX,qi,qh,AE];refine OkF.out (OkF.seq (OkF.for (λm s=>Rw (HD ts) m s) ⟨λr=>?_,by simp,AJ _⟩ ?_) ?_)
 ·rw[Ad]
  exact⟨λe=>by rw[e];exact⟨rfl,Ee,by simp⟩,λe=>FI e.1⟩
 ·intro m g s yW hp G
  have vB:=hp.length_le;rw[AZ,A0]at vB;have A:=U g yW;rw[aU (by have:=h.ln;lia)];simp only[AE]
  have C:=λx=>j3 h (g:=g) (x:=x) A.1
  have E:=oS h g
  have J:([g]++Bv (lnr ts g)).length<=7:=by
   have:=JB (k:=D3 0 o) E λx hx=>by
    have:=((h.ties ho).tg A.1 A.2).2.1 x ((C x).mp hx);rw[CM];lia
   rw[Bw]at this
   lia
  rw[Nq (l:=[g]) (k:=Bv (lnr ts g)) (by rw[<-AZ];lia)];generalize [g]++Bv (lnr ts g)=v at J C E;simp only[AE,BX];have R:(7:Nat) ^ m.length<=16807:=Au (JM (by decide) (show m.length<=5 by lia)) (by decide);have S:=G.ln;refine OkF.seq (N:=λs'=>s'=s.flatMap (lnx v)) (OkF.for (λH L=>L=H.flatMap (lnx v)) rfl ?_) ?_
  ·rintro H r L O yb rfl
   have I:=yb.length_le;rw[AZ,A0]at I;have hrl:=((G.mem r).mp O).1;rw[TU (P:=λp=>!decide (p∈r)) (f:=λp=>r++[p]) (by lia) (λ_ _=>rfl) λp _ _=>Nq (by rw[A0];lia)];simp only[AE];have k1:=Ss J H;have k2:=aS (v:=v) (r:=r);unfold lnx at k2;rw[Nq (by lia)];refine .nx ?_;show H.flatMap (lnx v)++_=(H++[r]).flatMap (lnx v);rw[bU,LC,List.flatMap_nil,CB];rfl
  ·rintro L rfl
   exact .nx (G.step C E J)
 ·intro s G
  have R:(7:Nat) ^ gs.length<=117649:=Au (JM (by decide) Y) (by decide);have S:=G.ln;rw[IJ (P:=λr=>decide (x∈r)) (by lia) λ_ _=>rfl];simp only[AE]
  have Q:∀r,r∈s.filter (λr=>decide (x∈r))↔dB (HD ts) gs x r:=λr=>by
   rw[Am,G.mem,decide_eq_true_eq];exact⟨λ⟨⟨a,b,c⟩,d⟩=>⟨a,b,c,d⟩,λ⟨a,b,c,d⟩=>⟨⟨a,b,c⟩,d⟩⟩
  have T:(s.filter λr=>decide (x∈r)).length<=117649:=Au (Cy _ _) (Au S R);generalize s.filter (λr=>decide (x∈r))=f at Q T
  rw[Vx λr O z=>by
   have:=((Q r).mp O).1;rw[z]at this
   exact X (FI this.symm)]
  exact .rt ⟨λr=>(Et f).mem_iff.trans (Q r),by rw[(Et f).length_eq];exact T⟩
theorem lans(h:LQ o ts)(ho:o < 8)(l:Stg o g gs)(E:1<=g)(A:g<=6)(x:Int)(kd:Str):Ok (EO ts gs x kd) λB=>(∀s,s∈B↔Ans kd (HD ts) gs x s)/\B.length<=117649:=by
 have C:gs≠[]:=λz=>by have:=l.1;rw[z]at this;simp at this;lia
 by_cases k:kd = "one"
 ·subst k
  refine(px h l.2.1 (Mx l.2.2) C (by rw[l.1];exact A) x).imp λB m=>⟨λs=>(m.1 s).trans ?_,m.2⟩
  unfold Ans;rw[qX rfl]
 ·refine(p8 h ho l.2.1 C (by rw[l.1];exact A) x k).imp λB m=>⟨λs=>(m.1 s).trans ?_,m.2⟩
  unfold Ans;rw[qY k]
end
section
variable{o g:Nat}{kd:Str}
theorem Yr(ho:o < 8)(m:g<=o)(s:1<=g)(h:Stg o g r):∃n:Nat,(sts o g)[n]?=some r/\n < (sts o g).length:=by
 obtain⟨n,l,e⟩:=B2 ((GV ho m s).mpr h);exact⟨n,by rw[AU l,e],l⟩
theorem ZY(h:(sts o g)[n]?=some r):c∈clS o g n↔(0<=c/\c < (o:Int))/\c∉r:=by
 unfold clS;rw[Am,CM,TC h];simp
theorem ZZ(l:Im o us)(C:g<=o)(E:1<=g)(A:(sts o g)[n]?=some r)(G:c∉r):BS o g us kd n c j↔∃s,Ans kd us r c s/\(sts o g)[j]?=some (Bv s):=by
 have H:=(GV l.sm C E).mp (BN A)
 constructor
 ·rintro⟨L,N,I,m,q⟩
  rw[A]at I;cases I;obtain⟨s,B,J⟩:=(Pe (kd:=kd) l H G).mpr ⟨(GV l.sm C E).mp (BN m),q⟩;exact⟨s,B,by rw[J];exact m⟩
 ·rintro⟨s,B,m⟩
  exact⟨r,_,A,m,((Pe (kd:=kd) l H G).mp ⟨s,B,rfl⟩).2⟩
end
noncomputable def Te(o g:Nat)(us:List ZPi)(kd:Str)(P:ZLi->Prop):Prop:=∀r,P r->Stg o g r/\∀c:Int,0<=c->c < o->c∉r->∃s,Ans kd us r c s/\P (Bv s)
noncomputable def La(o g:Nat)(T:TL)(r:ZLi):Prop:=∃n:Nat,(sts o g)[n]?=some r/\Al T (n:Int)=none
section
variable{o g:Nat}{us:List ZPi}{kd:Str}{T:TL}{P:ZLi->Prop}
theorem cR(A:Im o us)(B:g<=o)(C:1<=g)(F:Fa (sts o g).length (clS o g) (BS o g us kd) T):Te o g us kd (La o g T):=by
 rintro r ⟨n,l,G⟩
 refine⟨(GV A.sm B C).mp (BN l),λc H I E=>?_⟩;obtain⟨j,J,m⟩:=F.no n (AF.mp l).1 G c ((ZY l).mpr ⟨⟨H,I⟩,E⟩);obtain⟨s,L,N⟩:=(ZZ A B C l E).mp J;exact⟨s,L,j,N,m⟩
theorem cz(A:Im o us)(B:g<=o)(C:1<=g)(F:Fa (sts o g).length (clS o g) (BS o g us kd) T)(E:Te o g us kd P)(m:P r):La o g T r:=by
 have G:∀(k:Nat) (r:ZLi) (n:Nat) (z:Int×Int),P r->(sts o g)[n]?=some r->Al T (n:Int)=some z->z.1.toNat<=k->False:=by
  intro k
  induction k with
  | zero=>
   intro r n z _ _ H Q;have:=(F.ok n z H).1
   lia
  | succ k R=>
   intro r n z m l H Q;obtain⟨Z,S,U,-⟩:=F.ok n z H;obtain⟨I,J⟩:=(ZY l).mp S;obtain⟨s,X,L⟩:=(E r m).2 z.2 I.1 I.2 J;obtain⟨j,N,-⟩:=Yr A.sm B C (E _ L).1;obtain⟨y,Y,vw⟩:=U j ((ZZ A B C l J).mpr ⟨s,X,N⟩);exact R _ j y L N Y (by lia)
 obtain⟨n,l,-⟩:=Yr A.sm B C (E r m).1
 cases O:Al T (n:Int)with
 | none=>exact⟨n,l,O⟩
 | some z=>exact(G _ r n z m l O (AJ _)).elim
theorem uT:∀(k:Nat) (r A:ZLi) (f:Int->Int) (x:Int),r.length=k->r.Nodup->A.Nodup->r.length=A.length->(∀a∈r,f a∈A)->(∀a∈r,∀b∈r,f a=f b->a=b)->x∉r ->
  ∃z,z∉A/\z∈x :: r/\∃F:Int->Int,(∀a∈x :: r,(F a=a∨(a∈r/\F a=f a))/\F a∈z :: A)/\∀a∈x :: r,∀b∈x :: r,F a=F b->a=b:=by
 intro k
 induction k with
 | zero=>
  intro r A f x I _ _ J _ _ _;have e:r=[]:=FI I;have Y:A=[]:=FI (by rw[<-J];exact I);subst e Y;exact⟨x,by simp,by simp,λa=>a,λa C=>⟨.inl rfl,C⟩,λ_ _ _ _ h=>h⟩
 | succ k Z=>
  intro r A f x I L O J E H N
  by_cases s:x∈A
  ·have hm:(r.map f).Nodup:=by
    unfold Ga;rw[Bn]
    exact L.imp_of_mem λ{a b} C hb ne e=>ne (H a C b hb e)
   obtain⟨a,C,fa⟩:=BF.mp (Vj hm (λy l=>by obtain⟨b,hb,rfl⟩:=BF.mp l;exact E b hb) (by rw[AD];exact J) x s)
   have Q:(r.filter λy=>decide (y≠a)).length=k:=by
    have:=L.erase_eq_filter a;have G:=LW C;rw[this]at G
    have e:(λy:Int=>y != a)=λy=>decide (y≠a):=by funext y;by_cases q:y=a <;> simp[q]
    rw[e]at G
    lia
   have l2:(A.filter λy=>decide (y≠x)).length=k:=by
    have:=O.erase_eq_filter x;have G:=LW s;rw[this]at G
    have e:(λy:Int=>y != x)=λy=>decide (y≠x):=by funext y;by_cases q:y=x <;> simp[q]
    rw[e]at G
    lia
   have B:∀y,y∈r.filter (λy=>decide (y≠a))↔y∈r/\y≠a:=λy=>by rw[Am,decide_eq_true_eq]
   have m2:∀y,y∈A.filter (λy=>decide (y≠x))↔y∈A/\y≠x:=λy=>by rw[Am,decide_eq_true_eq]
   obtain⟨z,z1,z2,F,R,F2⟩:=Z _ _ f a Q (L.filter _) (O.filter _) (Q.trans l2.symm)
    (λb hb=>(m2 _).mpr ⟨E b ((B b).mp hb).1,λe=>((B b).mp hb).2 (H b ((B b).mp hb).1 a C (e.trans fa.symm))⟩)
    (λb hb c hc=>H b ((B b).mp hb).1 c ((B c).mp hc).1) (λh=>((B a).mp h).2 rfl)
   have S:z∈r:=by
    rcases Ae.mp z2 with h | h
    ·rw[h];exact C
    ·exact((B z).mp h).1
   have U:z≠x:=λe=>N (by rw[<-e];exact S)
   have inA:∀y∈r,y∈a :: r.filter (λy=>decide (y≠a)):=λy l=>by
    by_cases q:y=a
    ·rw[q];exact AX ..
    ·exact AN _ ((B y).mpr ⟨l,q⟩)
   have nx:∀y∈r,y≠x:=λy l e=>N (by rw[<-e];exact l)
   have X:∀y∈r,F y≠x:=λy l e=>by
    rcases Ae.mp (R y (inA y l)).2 with h | h
    ·exact U (h.symm.trans e)
    ·exact((m2 _).mp h).2 e
   refine⟨z,λh=>z1 ((m2 z).mpr ⟨h,U⟩),AN _ S,λy=>if y=x then x else F y,λy l=>?_,λy l w hw e=>?_⟩
   ·dsimp only
    rcases Ae.mp l with h | h
    ·rw[qX h]
     exact⟨.inl h.symm,AN _ s⟩
    ·rw[qY (nx y h)]
     obtain⟨q1,q2⟩:=R y (inA y h);refine⟨q1.imp id λq=>⟨h,q.2⟩,?_⟩
     rcases Ae.mp q2 with q | q
     ·rw[q];exact AX ..
     ·exact AN _ ((m2 _).mp q).1
   ·dsimp only at e
    rcases Ae.mp l with h | h <;> rcases Ae.mp hw with m | m
    ·rw[h,m]
    ·rw[qX h,qY (nx w m)]at e
     exact zX e.symm (X w m)
    ·rw[qY (nx y h),qX m]at e
     exact zX e (X y h)
    ·rw[qY (nx y h),qY (nx w m)]at e
     exact F2 y (inA y h) w (inA w m) e
  ·have nx:∀y∈r,y≠x:=λy l e=>N (by rw[<-e];exact l)
   refine⟨x,s,AX ..,λy=>if y=x then x else f y,λy l=>?_,λy l w hw e=>?_⟩
   ·dsimp only
    rcases Ae.mp l with h | h
    ·rw[qX h]
     exact⟨.inl h.symm,AX ..⟩
    ·rw[qY (nx y h)]
     exact⟨.inr ⟨h,rfl⟩,AN _ (E y h)⟩
   ·dsimp only at e
    rcases Ae.mp l with h | h <;> rcases Ae.mp hw with m | m
    ·rw[h,m]
    ·rw[qX h,qY (nx w m)]at e
     exact zX (E w m) (by rw[<-e];exact s)
    ·rw[qY (nx y h),qX m]at e
     exact zX (E y h) (by rw[e];exact s)
    ·rw[qY (nx y h),qY (nx w m)]at e
     exact H y h w m e
theorem aV(E:r.Nodup):LkA us r G↔∃f:Int->Int,(∀a∈r,f a∈Tg us a/\f a∈G)/\∀a∈r,∀b∈r,f a=f b->a=b:=by
 constructor
 ·rintro⟨l,Q,H,I,J⟩
  have ex:∀a:Int,∃z:Int,a∈r->(a,z)∈r.zip l:=λa=>by
   by_cases q:a∈r
   ·obtain⟨i,R,e⟩:=B2 q
    refine⟨l[i]'(by lia),λ_=>?_⟩
    have:(r.zip l)[i]'(by rw[JT];lia)=(a,l[i]'(by lia)):=by rw[Ip,e]
    rw[<-this];exact Cb _
   ·exact⟨0,λz=>zX z q⟩
  have s:=λa=>EG (ex a)
  refine⟨λa=>C2 (ex a),λa m=>⟨I _ (s a m),J _ (JS (s a m)).2⟩,λa m b hb e=>?_⟩;have e:C2 (ex a)=C2 (ex b):=e;have A:=s a m;rw[e]at A;exact Zu H A (s b hb)
 ·rintro⟨f,B,L⟩
  refine⟨r.map f,AD _,?_,λy C=>?_,λx N=>?_⟩
  ·unfold Ga
   rw[Bn]
   exact E.imp_of_mem λ{a b} m hb O e=>O (L a m b hb e)
  ·rw[Rv]at C
   obtain⟨a,m,rfl⟩:=BF.mp C;exact(B a m).1
  ·obtain⟨a,m,rfl⟩:=BF.mp N
   exact(B a m).2
theorem XM(l:Stg o g r)(m:0<=x/\x < (o:Int))(s:x∉r):Stg o (g+1) (Bv (x :: r)):=by
 refine⟨by rw[(EM _).length_eq,At,l.1],λy A=>?_,Jb (Bf.mpr ⟨s,Mx l.2.2⟩)⟩
 rcases Ae.mp (CF.mp A)with h | h
 ·rw[h];exact m
 ·exact l.2.1 y h
theorem grow(X:Im o us)(hP:Te o g us kd P):Te o (g+1) us kd (λR=>∃r x,P r/\(0<=x/\x < (o:Int))/\x∉r/\R=Bv (x :: r)):=by
 rintro R ⟨r,x,hr,L,I,rfl⟩;obtain⟨A,hA⟩:=hP r hr;have J:=XM A L I;refine⟨J,λc c0 c1 N=>?_⟩
 have m:∀y,y∈Bv (x :: r)↔y=x∨y∈r:=λy=>by rw[CF,Ae]
 have cx:c≠x:=λe=>N ((m c).mpr (.inl e))
 have O:c∉r:=λe=>N ((m c).mpr (.inr e))
 obtain⟨s,hs,Y⟩:=hA c c0 c1 O;obtain⟨C,B,Q⟩:=(Pe (kd:=kd) X A O).mp ⟨s,hs,rfl⟩;generalize Bv s=r' at Y C B Q
 have fin:∀z,(0<=z/\z < (o:Int))->z∉r'->Lk kd us (Bv (x :: r)) (Bv (z :: r'))->∃s,Ans kd us (Bv (x :: r)) c s/\∃r x,P r/\(0<=x/\x < (o:Int))/\x∉r/\Bv s=Bv (x :: r):=λz Z E hl=>by
  obtain⟨S,h1,G⟩:=(Pe (kd:=kd) X J N).mpr ⟨XM C Z E,hl,CF.mpr (AN _ Q)⟩;exact⟨S,h1,r',z,Y,Z,E,G⟩
 unfold Lk at B fin
 by_cases k:kd = "one"
 ·simp only[qX k]at B fin
  obtain⟨a,l,b,hb,M',e⟩:=B
  have U:b≠x:=λe2=>by
   have:c∈wst r a b:=CF.mp (by rw[e];exact Q)
   rcases(Lg l).mp this with h | h
   ·exact cx (h.trans e2)
   ·exact O h.1
  have H:x∉r':=λh=>by
   rw[<-e]at h
   rcases(Lg l).mp (CF.mp h)with h | h
   ·exact U h.symm
   ·exact I h.1
  refine fin x L H ⟨a,(m a).mpr (.inr l),b,hb,λh=>((m b).mp h).elim U M',?_⟩;have aR:=(m a).mpr (.inr l)
  have bR:b∉Bv (x :: r):=λh=>((m b).mp h).elim U M'
  refine NA (Jb (de (Mx J.2.2) bR)) (Jb (Bf.mpr ⟨H,Mx C.2.2⟩)) λy=>?_
  rw[CF,CF,Lg aR,m,Ae,<-e,CF,Lg l]
  have xa:x≠a:=λe=>I (by rw[e];exact l)
  constructor
  ·rintro(h | ⟨h | h,G⟩)
   ·exact .inr (.inl h)
   ·exact .inl h
   ·exact .inr (.inr ⟨h,G⟩)
  ·rintro(h | h | ⟨h,G⟩)
   ·exact .inr ⟨.inl h,by rw[h];exact xa⟩
   ·exact .inl h
   ·exact .inr ⟨.inr h,G⟩
 ·simp only[qY k]at B fin
  obtain⟨f,f1,f2⟩:=(aV (Mx A.2.2)).mp B;obtain⟨z,z1,z2,F,F1,F2⟩:=uT _ r r' f x rfl (Mx A.2.2) (Mx C.2.2) (by rw[A.1,C.1]) (λa l=>(f1 a l).2) f2 I;refine fin z ?_ z1 ((aV (Mx J.2.2)).mpr ⟨F,λa l=>?_,λa l b hb=>F2 a (CF.mp l) b (CF.mp hb)⟩)
  ·rcases Ae.mp z2 with h | h
   ·rw[h];exact L
   ·exact A.2.1 z h
  ·obtain⟨w1,w2⟩:=F1 a (CF.mp l)
   refine⟨?_,CF.mpr w2⟩
   rcases w1 with h | ⟨h,e⟩
   ·rw[h];exact QY.mpr (.inl rfl)
   ·rw[e];exact(f1 a h).1
end
open PySem L2 L4
section
variable{o g:Nat}{us ts:List ZPi}{kd:Str}{T:TL}
noncomputable def Emp(o g:Nat)(us:List ZPi)(kd:Str):Prop:=∀(P:ZLi->Prop) r,Te o g us kd P->¬P r
theorem qJ:∀o:Nat,o < 8->∀g:Nat,g < 8->g<=o->1<=g->decide (G4 (o,[]) g=some ((sts o g).length:Int))=true:=by decide +kernel
theorem uH(ho:o < 8)(l:g<=o)(m:1<=g):G4 (o,us) g=some ((sts o g).length:Int):=(show G4 (o,us) g=G4 (o,[]) g from rfl).trans (of_decide_eq_true (qJ o ho g (by lia) l m))
noncomputable abbrev FL(o g:Nat)(T:TL):List (ZLi×ZPi):=(D3 0 (sts o g).length).map λn=>(evN o g n,(Al T n).getD (0,0))
theorem qv(h:Im o us)(A:g<=o)(B:1<=g):Ok (EN (o,us) g kd) λc=>(c.isSome=true↔Emp o g us kd)/\∀L,c=some L->∃T,Fa (sts o g).length (clS o g) (BS o g us kd) T/\(∀n:Nat,n < (sts o g).length->(Al T (n:Int)).isSome=true)/\L=FL o g T:=by
 obtain⟨T,C,N⟩:=qm (kd:=kd) h A B;have O:=h.sm;unfold EN HQ;rw[N];simp only[AE,BX];rw[uH O A B];simp only[AE];refine⟨_,rfl,?_⟩;rw[AD];have E:=Qe (l:=D3 0 (sts o g).length) (p:=λn=>(Al T n).isSome);rw[Bw]at E
 have at':∀n:Nat,n < (sts o g).length->∃r,(sts o g)[n]?=some r:=λn m=>⟨_,AU m⟩
 by_cases c:((D3 0 (sts o g).length).filter λn=>(Al T n).isSome).length=(sts o g).length
 ·rw[c,wX (rfl:((sts o g).length:Int)=_),qX rfl]
  have J:=E.mp c
  have s:∀n:Nat,n < (sts o g).length->(Al T (n:Int)).isSome=true:=λn m=>J n (CM.mpr (by lia))
  refine⟨⟨λ_ P r Q G=>?_,λ_=>rfl⟩,λL H=>⟨T,C,s,?_⟩⟩
  ·obtain⟨n,m,I⟩:=cz h A B C Q G
   have:=s n (AF.mp m).1;rw[I]at this;cases this
  ·cases H
   rw[bV.mpr J]
 ·rw[wY (show ¬(((D3 0 (sts o g).length).filter λn=>(Al T n).isSome).length:Int)=((sts o g).length:Int) by lia),qY AH]
  refine⟨⟨λz=>zX z AH,λz=>zX (E.mpr λn m=>?_) c⟩,λL H=>by cases H⟩;obtain⟨R,S⟩:=CM.mp m
  cases I:Al T n with
  | some z=>rfl
  | none=>
   obtain⟨r,G⟩:=at' n.toNat (by lia);exact zX ⟨n.toNat,G,by rw[Bq R];exact I⟩ (z _ r (cR h A B C))
theorem iJ(h:Im o us)(G:g < o)(s:Emp o (g+1) us kd):Emp o g us kd:=λP r l m=>by
 have A:=(l r m).1
 obtain⟨x,B,C⟩:∃x∈D3 0 o,x∉r:=GP λz=>by
  have:=JB (k:=r) ((O2 0 o).imp λ{a b} h=>by lia) λx E=>GP λq=>z ⟨x,E,q⟩
  rw[Bw,A.1]at this
  lia
 have:=CM.mp B;exact s _ _ (grow h l) ⟨r,x,m,⟨by lia,by lia⟩,C,rfl⟩
theorem iK(h:Im o us)(l:Emp o g us kd):∀k j:Nat,j+k=g->g<=o->Emp o j us kd
 | 0,j,e,m=>by rw[show j=g from e];exact l
 | k+1,j,e,m=>iJ h (by lia) (iK h l k (j+1) (by lia) m)
theorem iL:¬Emp o o us kd:=λs=>by
 have A:Stg o o (D3 0 o):=⟨Bw _ _,λx m=>by have:=CM.mp m;lia,O2 0 o⟩;refine s (λr=>Stg o o r) _ (λr l=>⟨l,λc C E B=>?_⟩) A;exact zX (Vj (r:=D3 0 o) (Mx l.2.2) (λx m=>CM.mpr (by have:=l.2.1 x m;lia)) (by rw[l.1,Bw]) c (CM.mpr (by lia))) B
theorem sk:∀l:List Bool,Yp (l.map λx=>if x=true then(1:Int)else 0)=((l.filter id).length:Int):=λl=>by
 rw[Z7]
 induction l with
 | nil=>rfl
 | cons b l m=>
  rw[BA,nO,m]
  cases b with
  | true=>rw[MX rfl,At,qX rfl];lia
  | false=>rw[MY AH,qY AH];lia
theorem lM(h:Im o us)(S:1<=o):∃m:Nat,Gz (o,us) o kd=some (m:Int)/\m < o/\∀g:Nat,1<=g->g<=m->Emp o g us kd:=by
 have U:=h.sm
 obtain⟨l,J,X,B⟩:∃l:List Bool,EV (D3 1 o) (λ_=>some true) (λL=>(EN (o,us) L kd).bind λN=>some N.isSome)=some l/\l.length=o/\∀j (s:j < l.length),l[j]=true↔Emp o (j+1) us kd:=by
  refine⟨_,GY (f:=λx=>((EN (o,us) x kd).getD none).isSome) (by rw[Bw];lia) λx H=>?_,by rw[AD,Bw],λj s=>?_⟩
  ·obtain⟨Y,Z⟩:=CM.mp H
   obtain⟨k,rfl⟩:∃k:Nat,x=(k:Int):=⟨x.toNat,by lia⟩
   obtain⟨c,E,-⟩:=qv (kd:=kd) h (g:=k) (by lia) (by lia);rw[E];rfl
  ·rw[AD,Bw]at s
   obtain⟨c,E,O,-⟩:=qv (kd:=kd) h (g:=j+1) (by lia) (by lia);rw[Gi,show(D3 1 o)[j]'(by rw[Bw];exact s)=((j+1:Nat):Int) by unfold D3;rw[Gi,dN];lia,E];exact O
 have up:∀i j (C:i < l.length) (s:j < l.length),i < j->l[j]=true->l[i]=true:=λi j C s lt e=>(B i C).mpr (iK h ((B j s).mp e) (j - i) (i+1) (by lia) (by lia))
 have A:l=upB l:=by
  refine X9 (bW _) (Kz.mpr λi j C s lt=>?_);have:=up i j C s lt;generalize l[i]=a at this;generalize l[j]=b at this
  cases a <;> cases b <;> first | rfl | exact zX (this rfl) AH
 have G:o - 1 < l.length:=by lia
 have I:l[o - 1]=false:=Bool.eq_false_iff.mpr λz=>by
  have:=(B _ G).mp z;rw[show o - 1+1=o by lia]at this;exact iL this
 have P:(l.filter id).length < o:=by
  rcases Nat.lt_or_ge (l.filter id).length o with z | z
  ·exact z
  ·exfalso
   have e:(l.filter id).length=l.length:=Nat.le_antisymm (Cy _ _) (by lia);have:=Qe.mp e _ (Cb G);rw[I]at this;cases this
 refine⟨(l.filter id).length,?_,P,λg g1 gm=>?_⟩
 ·unfold Gz Gx
  rw[aB (by lia) (by lia) (by lia) (by lia),show((o:Int)+1 - 1).toNat=o by lia];simp only[AE];rw[J];simp only[AE,BX];rw[wX A]
  have Q:atI l (-(1:Int))=some false:=by
   unfold atI ixN;rw[qY (by decide),qX (by lia)];show l[_]?=_;rw[show(-(1:Int)+(l.length:Int)).toNat=o - 1 by lia,AU G,I]
  simp only[Wq,CI,if_false];rw[Q];simp only[AE,CI,if_false,BX];rw[GY (f:=λx:Bool=>if x=true then(1:Int)else 0) (by lia) λx H=>rfl];simp only[AE];rw[sk];rfl
 ·have s:g - 1 < l.length:=by lia
  have e:l[g - 1]?=(upB l)[g - 1]?:=congrArg (λz=>z[g - 1]?) A;unfold upB at e;rw[Ap (by lia),AU s,AU (show g - 1 < (l.filter id).length by lia)]at e;have R:=Br e;have:=(Am.mp (Cb (show g - 1 < (l.filter id).length by lia))).2;rw[<-R]at this;have:=(B _ s).mp this;rwa [show g - 1+1=g by lia]at this
theorem qq{L:List (ZLi×ZPi)}(A:(L.map (·.1)).Nodup)(J:L.length<=1000):Ez (ρ:=Bool) L [] (λ(s:List (ZLi×ZPi)) x=>EC (λv=>v) ((HE s x.1 (x.2.1,x.2.2)).bind λl=>some (.nx l)))=some (.nx L):=by
 obtain⟨D,e,C⟩:=Pa (ρ:=Bool) (l:=L) (s0:=[]) (q:=λ(s:List (ZLi×ZPi)) x=>EC (λv=>v) ((HE s x.1 (x.2.1,x.2.2)).bind λl=>some (.nx l))) (λm s=>s=m) rfl (by
  rintro m x s N E rfl;obtain⟨r,B⟩:=E;refine⟨s++[x],?_,rfl⟩
  have G:s.length < 1000000:=by
   have:=congrArg HF B;rw[AZ,AZ]at this
   lia
  have nx:x.1∉s.map (·.1):=λz=>by
   rw[<-B,CW,CW,D1]at A;have H:=(D1.mp A.1).2.2;exact H _ z _ (by rw[BA,Mm,Ad]) rfl
  rw[show HE s x.1 (x.2.1,x.2.2)=some (CJ s x.1 x.2)from qX G];unfold CJ
  rw[qY λz=>by
   obtain⟨y,I,e⟩:=E8.mp z
   exact nx (BF.mpr ⟨y,I,of_decide_eq_true e⟩)]
  rfl)
 rw[e,C]
theorem n8{L:List (ZLi×ZPi)}(A:(L.map (·.1)).Nodup)(h:(r,z)∈L):Al L r=some z:=by
 cases m:Al L r with
 | none=>
  have:=(Cv L r).mpr (BF.mpr ⟨_,h,rfl⟩);rw[m]at this;cases this
 | some y=>
  have B:=Z3 m;obtain⟨i,C,s⟩:=B2 h;obtain⟨j,E,l⟩:=B2 B
  have:i=j:=by
   refine(MW (i:=i) (j:=j) (h₀:=by rw[AD];exact C) (h₁:=by rw[AD];exact E) A).mp ?_;rw[Gi,Gi,s,l]
  subst this;rw[s]at l;rw[(Wv l).2]
theorem WO:(FL o g T).map (·.1)=sts o g:=by
 unfold FL;rw[BC]
 refine List.ext_getElem (by rw[AD,Bw]) λi m l=>?_
 rw[Gi];show evN o g ((D3 0 (sts o g).length)[i]'_)=_
 have:(D3 0 (sts o g).length)[i]'(by rw[Bw];exact l)=(i:Int):=by unfold D3;rw[Gi,dN];lia
 rw[this];exact TC (AU l)
theorem iB(ho:o < 8)(m:g<=o)(s:1<=g){n:Nat}{r:ZLi}(l:(sts o g)[n]?=some r){z:Int×Int}(A:Al T (n:Int)=some z):Al (FL o g T) r=some z:=by
 refine n8 (by rw[WO];exact Vk ho m s) (BF.mpr ⟨(n:Int),CM.mpr ?_,?_⟩)
 ·have:=(AF.mp l).1
  lia
 ·rw[TC l,A]
  rfl
theorem e8(ho:o < 8)(l:g<=o)(m:1<=g):Lr (sts o g)=some (sts o g):=by
 rw[Vx λr s=>by
  have:=((GV ho l m).mp s).1
  exact List.ne_nil_of_length_pos (by lia)]
 congr 1
 exact P2 (Et _) (O0 _) ((fA o ho g (by lia) l m).1.imp λh=>Srt.PJ _ _ h)
theorem ii(h:LQ o ts)(ho:o < 8)(H:g<=o)(B:1<=g)(h6:g<=6)(F:Fa (sts o g).length (clS o g) (BS o g (HD ts) kd) T){A:ZLi}{n:Nat}{r:ZLi}(X:(sts o g)[n]?=some r){z:Int×Int}(O:Al T (n:Int)=some z) :
  IX ts o (FL o g T) r A kd=some true:=by
 refine Ok.is (v:=true) ?_;have Y:=h.ties ho;unfold IX IU;rw[iB ho H B X O];simp only[AE,BX];obtain⟨-,-,-,hl⟩:=Oz o ho g (by lia) H B;have hz1:=(F.ok n z O).1;have hzN:=F.hi n z O;rw[Ni (by lia) (by lia)];simp only[AE];refine OkF.out (OkF.seq (OkF.for (λI (s:ZLi×Int×Int)=>∃(m:Nat) (y:Int×Int),(sts o g)[m]?=some s.1/\Al T (m:Int)=some y/\s.2=y/\y.1<=z.1 - I.length) ⟨n,z,X,O,rfl,by simp⟩ ?_) ?_)
 ·rintro I k ⟨s,C⟩ hk hp ⟨m,y,J,P,rfl,E⟩
  dsimp only at J E P ⊢;have Z:=(GV ho H B).mp (BN J);obtain⟨y1,y2,y3,-⟩:=F.ok m C P;obtain⟨k0,k1⟩:=CM.mp hk;have G:=(ZY J).mp y2;rw[wY G.2,qY AH,wY (show ¬C.2 < 0 by lia),qY AH,wY (show ¬(o:Int)<=C.2 by lia)];simp only[AE,CI,if_false,BX];obtain⟨Bl,eB,hB,hBl⟩:=lans h ho Z B h6 C.2 kd;rw[eB];simp only[AE,BX,qi]
  by_cases c:Bl=[]
  ·rw[wX c,qX rfl]
   exact .rt rfl
  ·rw[wY c,qY AH]
   simp only[BX];rw[show gP k k=some (k * k)from qX (.inl ⟨sE (by decide) (show(-1:Int) < k by lia),sE (show k < 1000 by lia) (by decide)⟩)];simp only[AE,BX]
   have vx:∃w:Int,(if (!decide (A=[]))=true then EC (ρ:=Bool) (λxu=>xu) ((((UG k (A.length:Int)).bind λzV=>atI A zV).bind λy8=>some (y8+k)).bind λR=>some (.nx R))else some (.nx (k * k)))=some (.nx w):=by
    by_cases Q:A=[]
    ·rw[wX Q]
     exact⟨_,rfl⟩
    ·rw[wY Q]
     simp only[mX,if_true];rw[Ra (by have:=Ja.mpr Q;lia)];obtain⟨w,S,-⟩:=Rn (l:=A) k Q;simp only[AE];rw[S];exact⟨w+k,rfl⟩
   obtain⟨w,S⟩:=vx;rw[S];simp only[BX];rw[Ra (by have:=Ja.mpr c;lia)];obtain⟨x,ex,hx⟩:=Rn (l:=Bl) w c;simp only[AE];rw[ex];simp only[AE,BX];have hA:=(hB x).mp hx;obtain⟨yn,-⟩:=(Pe (kd:=kd) Y Z G.2).mp ⟨x,hA,rfl⟩;obtain⟨j,U,-⟩:=Yr ho H B yn;obtain⟨v,L,hv2⟩:=y3 j ((ZZ Y H B J G.2).mpr ⟨x,hA,U⟩);rw[iB ho H B U L];simp only[AE,BX];rw[wY (show ¬C.1<=v.1 by lia),qY AH]
   refine OkF.map (N:=λ_=>True) (.nx trivial) λ_ _=>⟨j,v,U,L,rfl,?_⟩
   rw[AZ,A0]
   lia
 ·rintro⟨s,C⟩ ⟨m,y,J,P,rfl,E⟩
  have:=(F.ok m C P).1;rw[Bw]at E
  lia
end
theorem TV{l m:Type}(a:l)(f:l->Option m):(some a).bind f=f a:=congrArg id (AE a f)
theorem UM{ρ l m:Type}(s:l)(q:l->Option (Fw ρ m)):BD (some (.nx s)) q=q s:=congrArg id BX
theorem t7(ns:ZLi)(Q:ns.length<=63):fj ns=some true:=by
 refine Ok.is (v:=true) ?_;unfold fj aF;rw[show Cj ns 0=some (ns.getD 0 0)from WX ns 0,show Cj ns 1=some (ns.getD 1 0)from WX ns 1];simp only[TV,UM]
 have R:∃o:Nat,2<=o/\o < 8/\(2+ns.getD 0 0 % 5+if decide (ns.getD 0 0 / 84 % 8=1)=true then 1 else 0)=(o:Int):=
  ⟨(2+ns.getD 0 0 % 5+if decide (ns.getD 0 0 / 84 % 8=1)=true then 1 else 0).toNat,by split <;> omega,by split <;> omega,by split <;> lia⟩
 obtain⟨o,S,s,U⟩:=R;rw[U];obtain⟨P,X⟩:=oF ns Q 2 (by decide) S s;rw[show Ij ns 2 o=_ from X];have B:=jv s P;generalize (prs o).filter P=ts at B;simp only[TV,UM];obtain⟨hs,Y,Z⟩:=gu ns (ts:=ts) (by have:=B.ln;lia);rw[Y];simp only[TV];rw[B.web (by lia) (by lia) Z];simp only[TV,UM,few2];generalize ns.getD 1 0=cell
 obtain⟨kd,ek⟩:∃kd:Str,atI [("one" : Str), "all"] (cell % 2)=some kd:=by
  obtain⟨x,hx,-⟩:=Rn (l:=[("one" : Str), "all"]) cell (by simp);exact⟨x,hx⟩
 rw[ek];simp only[TV,UM];have H:=B.ties s;obtain⟨m,em,mo,hm⟩:=lM (kd:=kd) H (by lia);rw[em];simp only[TV,UM]
 by_cases c:(m:Int) < 1
 ·rw[wX c,qX rfl,wX (show(m:Int)=0 by lia)]
  exact⟨true,rfl,rfl⟩
 rw[wY c,qY AH];simp only[UM]
 obtain⟨g,A,gm,eg⟩:∃g:Nat,1<=g/\g<=m/\(if decide (cell / 2 % 3=1)=true then EC (ρ:=Bool) (λυ=>υ) (((UG (cell / 6) (m:Int)).bind λC=>some ((1:Int)+C)).bind λZ'=>some (.nx Z'))else some (.nx (m:Int)))=some (.nx (g:Int)):=by
  by_cases I:cell / 2 % 3=1
  ·rw[wX I,qX rfl,Ra (by lia)]
   have w0:=mW (cell / 6) (show(m:Int)≠0 by lia);have w1:=db (cell / 6) (show 0 < (m:Int) by lia);refine⟨(1+cell / 6 % (m:Int)).toNat,by lia,by lia,?_⟩;rw[Bq (by lia)];rfl
  ·rw[wY I]
   exact⟨m,by lia,AJ _,rfl⟩
 rw[eg];simp only[UM]
 have go:g<=o:=by lia
 obtain⟨cp,ec,E,yr⟩:=qv (kd:=kd) H go A;obtain⟨L,J⟩:=CD.mp (E.mpr (hm g A gm));obtain⟨T,hT,G,eL⟩:=yr L J;subst J;subst eL;rw[ec];obtain⟨-,es,vq,hl⟩:=Oz o s g (by lia) go A;simp only[TV,id_eq];rw[qq (by rw[WO];exact Vk s go A) (by rw[AD,Bw];lia)];simp only[UM];rw[es];simp only[TV,UM];rw[WO,e8 s go A];simp only[TV,decide_true,Wq,CI,if_false,UM];rw[Ni (by lia) (by lia),A9];simp only[TV];refine OkF.out (OkF.seq (OkF.for (λ_ _=>True) trivial ?_) λ_ _=>.rt rfl);intro pre k _ hk _ _
 refine OkF.map (N:=λ_=>True) ?_ λ_ _=>trivial
 obtain⟨k0,k1⟩:=CM.mp hk;have O:=AU (l:=sts o g) (i:=k.toNat) (by lia);rw[J6 k0 O];simp only[TV];obtain⟨z,hz⟩:=CD.mp (G k.toNat (by lia));rw[ii B s go A (by lia) hT O hz];exact .nx trivial
theorem good:∀(W:Wd),W.excs.Nodup->∀ns:ZLi,ns.length<=63->∃S',av W [.fro (ns.map D.int)] []=.ok (.bl true) S':=λW _ ns h=>VF.law (by rw[<-t7 ns h];exact sT W ns)
end M
namespace PySem.W.Fast
noncomputable def tw12200157369664277855:Nat:=0
noncomputable def tw11274083530989968255:Nat:=0
noncomputable def tw10637814238569546547:Nat:=0
noncomputable def tw8365499595388003922:Nat:=0
noncomputable def tw5992020377138414881:Nat:=0
noncomputable def tw7408773398589436634:Nat:=0
noncomputable def tw9899026848632021618:Nat:=0
noncomputable def tw8070422122376372300:Nat:=0
noncomputable def tw9844962929131270722:Nat:=0
noncomputable def tw1431798820391509769:Nat:=0
noncomputable def tw12628304023021390409:Nat:=0
noncomputable def tw3035010075906739622:Nat:=0
noncomputable def tw16144939969315347114:Nat:=0
noncomputable def tw10984846254228205711:Nat:=0
noncomputable def tw17360849918850730381:Nat:=0
noncomputable def tw11333494513226080235:Nat:=0
noncomputable def tw17825108041664513828:Nat:=0
noncomputable def tw14440961745488316975:Nat:=0
noncomputable def tw15538883903799901410:Nat:=0
noncomputable def tw3477742814723881136:Nat:=0
noncomputable def tw17530550649531425290:Nat:=0
noncomputable def tw14909583991602336886:Nat:=0
noncomputable def tw16024180485956559787:Nat:=0
noncomputable def tw1610739319618960517:Nat:=0
noncomputable def tw13473736091534056599:Nat:=0
noncomputable def tw12950699094799154718:Nat:=0
noncomputable def tw18278298710748562965:Nat:=0
noncomputable def tw16520150801749034597:Nat:=0
noncomputable def tw6579823255436698104:Nat:=0
noncomputable def tw17717272315798404159:Nat:=0
noncomputable def tw1189203250638331366:Nat:=0
noncomputable def tw1705304334529408223:Nat:=0
noncomputable def tw6830099972607811582:Nat:=0
noncomputable def tw13582588291765700546:Nat:=0
noncomputable def tw8858557448140899628:Nat:=0
noncomputable def tw11113928539023941240:Nat:=0
noncomputable def tw10899586524364011207:Nat:=0
noncomputable def tw10506953425801668027:Nat:=0
noncomputable def tw18409103994736353896:Nat:=0
noncomputable def tw11282342856031094804:Nat:=0
noncomputable def tw263877327490918980:Nat:=0
noncomputable def tw8809857746953496332:Nat:=0
noncomputable def tw13435688301507721326:Nat:=0
noncomputable def tw1464078048511901819:Nat:=0
noncomputable def tw7947126971612631670:Nat:=0
noncomputable def tw4047854031561290541:Nat:=0
noncomputable def tw520226706434315988:Nat:=0
noncomputable def tw5192336248233231637:Nat:=0
noncomputable def tw2134106934386181402:Nat:=0
noncomputable def tw3221048922778873342:Nat:=0
noncomputable def tw11034810217526916938:Nat:=0
noncomputable def tw2338236153538211689:Nat:=0
noncomputable def tw8899532822676623418:Nat:=0
noncomputable def tw2057537617568553395:Nat:=0
noncomputable def tw9909085667255921550:Nat:=0
noncomputable def tw8798407831482916671:Nat:=0
noncomputable def tw12070750764530508677:Nat:=0
noncomputable def tw11036239190696237907:Nat:=0
noncomputable def tw13547693700598389391:Nat:=0
noncomputable def tw15727181584507761096:Nat:=0
noncomputable def tw993443233071943205:Nat:=0
noncomputable def tw10851476352581677559:Nat:=0
noncomputable def tw13078191497361557780:Nat:=0
noncomputable def tw15213030384431223234:Nat:=0
noncomputable def tw6155323493215807684:Nat:=0
noncomputable def tw10221658725951530114:Nat:=0
noncomputable def tw8587373757109076304:Nat:=0
noncomputable def tw3063351964141370887:Nat:=0
noncomputable def tw14975662422375648650:Nat:=0
noncomputable def tw8485651549998572696:Nat:=0
noncomputable def tw14976528951304489843:Nat:=0
noncomputable def tw335469824825987719:Nat:=0
noncomputable def tw7657469866853932049:Nat:=0
noncomputable def tw15646510308817793002:Nat:=0
noncomputable def tw5491533558269435754:Nat:=0
noncomputable def tw1068242110679360531:Nat:=0
noncomputable def tw11006765611329154939:Nat:=0
noncomputable def tw14823761140746221534:Nat:=0
noncomputable def tw4504687564589344859:Nat:=0
noncomputable def tw10799221326547430517:Nat:=0
noncomputable def tw7737249439732349310:Nat:=0
noncomputable def tw14462319946930867427:Nat:=0
noncomputable def tw12117982112076085481:Nat:=0
noncomputable def tw384036264999868835:Nat:=0
noncomputable def tw6813215260904141034:Nat:=0
noncomputable def tw16968822820647341261:Nat:=0
noncomputable def tw3242057287896986382:Nat:=0
noncomputable def tw5109002554936268015:Nat:=0
noncomputable def tw17785343608944125468:Nat:=0
noncomputable def tw3560360092539066215:Nat:=0
noncomputable def tw16815614068756496291:Nat:=0
noncomputable def tw256402870169144028:Nat:=0
noncomputable def tw13263029610753436473:Nat:=0
noncomputable def tw13262765361511866465:Nat:=0
noncomputable def tw7021332770735601024:Nat:=0
noncomputable def tw931921465777027179:Nat:=0
noncomputable def tw13975964027707497963:Nat:=0
noncomputable def tw11139023329134197739:Nat:=0
noncomputable def tw3504642774914334026:Nat:=0
noncomputable def tw13937157731716641267:Nat:=0
noncomputable def tw4807544417472093182:Nat:=0
noncomputable def tw16120650978166164232:Nat:=0
noncomputable def tw1121849346068155340:Nat:=0
noncomputable def tw11023047724945038523:Nat:=0
noncomputable def tw10395808866846160671:Nat:=0
noncomputable def tw10984222564633139766:Nat:=0
noncomputable def tw3377538374530023737:Nat:=0
noncomputable def tw114465082834976691:Nat:=0
noncomputable def tw14895737821431738984:Nat:=0
noncomputable def tw12867527902754495472:Nat:=0
noncomputable def tw7319444827638923497:Nat:=0
noncomputable def tw11652851940047115676:Nat:=0
noncomputable def tw2538281866024604529:Nat:=0
noncomputable def tw16004713116563472529:Nat:=0
noncomputable def tw11759837467518206704:Nat:=0
noncomputable def tw8540975264351097907:Nat:=0
noncomputable def tw4277273524765016413:Nat:=0
noncomputable def tw4549095345407211850:Nat:=0
noncomputable def tw16314677163089302483:Nat:=0
noncomputable def tw5020912479451364313:Nat:=0
end PySem.W.Fast
namespace M
open PySem PySem.Spec PyProof.Rows L2 PySem.W
theorem q9{l:OpenLaw}{w:CQ}{K:Frag}{h:DS}{B:Str->Option Value}{fa:Aa}(X:K.In h)(G:h.Ns Bb B)(C:B "law" = some (.ref fa))
  {f1 f2 f3 f4 f5 f6 f7 f8 f9 E H I J L N O P Q R S U Y Z f24 f25 f26 f27 f28 f29 f30 f31 f32 f33 f34 f35 A o m:Aa} {vy vg:Tok}
  (o_Web:ClsAt K "Web" o)
  (o_Field:ClsAt K "Field" m)
  (d1:Ef K "checked_ties" Jd f1)
  (d2:Ef K "near_sets_of" Jc f2)
  (d4:Ef K "refuse_no_place" HM f4)
  (d5:Ef K "near" Y1 f5)
  (d6:Ef K "takes_of" OL f6)
  (d7:Ef K "bits_of" P8 f7)
  (d8:Ef K "members" P7 f8)
  (d9:Ef K "settle" SU f9)
  (d10:Ef K "fits" Y2 E)
  (d11:Ef K "with_step" M1 H)
  (d12:Ef K "sets_of" P6 I)
  (d13:Ef K "ways_to_choose" IE J)
  (d14:Ef K "how_many" OM L)
  (d15:Ef K "standings" M2 N)
  (d22:Ef K "falling_now" Ke Y)
  (d23:Ef K "fallen" SV Z)
  (d24:Ef K "falls" Vw f24)
  (d25:Ef K "caller_paper" Je f25)
  (d26:Ef K "_law_cell_at" Jf f26)
  (d27:Ef K "_law_pairs" Lv f27)
  (d28:Ef K "_law_first_ties" HN f28)
  (d29:Ef K "_law_ties" M3 f29)
  (d30:Ef K "_law_handed" Kf f30)
  (d31:Ef K "_law_near" M5 f31)
  (d32:Ef K "_law_sets" M4 f32)
  (d33:Ef K "_law_answers" Jg f33)
  (d34:Ef K "_law_beaten" Kg f34)
  (d35:Ef K "_law_greatest" Iy f35)
  (d36:Ef K "law" Z9 A)
  (d3:OC K o "__init__" "Web.__init__" ON f3)
  (d16:OC K m "linked_by_one" "Field.linked_by_one" FT O)
  (d17:OC K m "linked_by_all" "Field.linked_by_all" FU P)
  (d18:OC K m "__init__" "Field.__init__" Lw Q)
  (d19:OC K m "calls" "Field.calls" Kh R)
  (d20:OC K m "linked" "Field.linked" Jh S)
  (d21:OC K m "behind" "Field.behind" Ji U)
  (n_Web_places:findIn K (.ref o) "places" = some none)
  (n_Web_ties:findIn K (.ref o) "ties" = some none)
  (n_Web_near_sets:findIn K (.ref o) "near_sets" = some none)
  (n_Field_everything:findIn K (.ref m) "everything" = some none)
  (n_Field_kind:findIn K (.ref m) "kind" = some none)
  (n_Field_takes:findIn K (.ref m) "takes" = some none)
  (n_Field_numbers:findIn K (.ref m) "numbers" = some none)
  (n_Field_having:findIn K (.ref m) "having" = some none)
  (n_Field_place_bits:findIn K (.ref m) "place_bits" = some none)
  (n_Field_known:findIn K (.ref m) "known" = some none)
  (z_enumerate:To K Bb "enumerate" = some none)
  (z_int:To K Bb "int" = some none)
  (z_len:To K Bb "len" = some none)
  (z_list:To K Bb "list" = some none)
  (z_max:To K Bb "max" = some none)
  (z_min:To K Bb "min" = some none)
  (z_range:To K Bb "range" = some none)
  (z_reversed:To K Bb "reversed" = some none)
  (z_sorted:To K Bb "sorted" = some none)
  (z_sum:To K Bb "sum" = some none)
  (z_tuple:To K Bb "tuple" = some none)
  (g_MOST_PLACES:To K Bb "MOST_PLACES" = some (some (.int 60 vy)))
  (g_MOST_STANDINGS:To K Bb "MOST_STANDINGS" = some (some (.int 400 vg)))
  : ∃(W:Wd) (T:Txt K B W),fa=T.d_law.f/\W.excs.Nodup/\∀(s:AS) (v:Value),YQ s T.d_law.fd ⟨[v],[]⟩ [("script",v)]:=by
 obtain⟨zl,_,_,_,_,_,_,_,_,_,l,c,k⟩:=d36;have F:=hW (st:=Z9) l c k
 let W:Wd:=⟨o,m⟩
 let T:Txt K B W:={
  d_checked_ties:=mkD X G d1 (bd2 λ_ _ _ _ _ _ _ _ _ _=>rfl)
  d_near_sets_of:=mkD X G d2 (bd2 λ_ _ _ _ _ _ _ _ _ _=>rfl)
  d_Web_init:=mkM d3 (bd3 λ_ _ _ _ _ _ _ _ _ _ _=>rfl)
  d_refuse_no_place:=mkD X G d4 (bd2 λ_ _ _ _ _ _ _ _ _ _=>rfl)
  d_near:=mkD X G d5 (bd2 λ_ _ _ _ _ _ _ _ _ _=>rfl)
  d_takes_of:=mkD X G d6 (bd1 λ_ _ _ _ _ _ _ _ _=>rfl)
  d_bits_of:=mkD X G d7 (bd1 λ_ _ _ _ _ _ _ _ _=>rfl)
  d_members:=mkD X G d8 (bd1 λ_ _ _ _ _ _ _ _ _=>rfl)
  d_settle:=mkD X G d9 (bd5 λ_ _ _ _ _ _ _ _ _ _ _ _ _=>rfl)
  d_fits:=mkD X G d10 (bd3 λ_ _ _ _ _ _ _ _ _ _ _=>rfl)
  d_with_step:=mkD X G d11 (bd3 λ_ _ _ _ _ _ _ _ _ _ _=>rfl)
  d_sets_of:=mkD X G d12 (bd2 λ_ _ _ _ _ _ _ _ _ _=>rfl)
  d_ways_to_choose:=mkD X G d13 (bd2 λ_ _ _ _ _ _ _ _ _ _=>rfl)
  d_how_many:=mkD X G d14 (bd2 λ_ _ _ _ _ _ _ _ _ _=>rfl)
  d_standings:=mkD X G d15 (bd2 λ_ _ _ _ _ _ _ _ _ _=>rfl)
  d_Field_linked_by_one:=mkM d16 (bd2 λ_ _ _ _ _ _ _ _ _ _=>rfl)
  d_Field_linked_by_all:=mkM d17 (bd2 λ_ _ _ _ _ _ _ _ _ _=>rfl)
  d_Field_init:=mkM d18 (bd4 λ_ _ _ _ _ _ _ _ _ _ _ _=>rfl)
  d_Field_calls:=mkM d19 (bd2 λ_ _ _ _ _ _ _ _ _ _=>rfl)
  d_Field_linked:=mkM d20 (bd2 λ_ _ _ _ _ _ _ _ _ _=>rfl)
  d_Field_behind:=mkM d21 (bd3 λ_ _ _ _ _ _ _ _ _ _ _=>rfl)
  d_falling_now:=mkD X G d22 (bd2 λ_ _ _ _ _ _ _ _ _ _=>rfl)
  d_fallen:=mkD X G d23 (bd1 λ_ _ _ _ _ _ _ _ _=>rfl)
  d_falls:=mkD X G d24 (bd3 λ_ _ _ _ _ _ _ _ _ _ _=>rfl)
  d_caller_paper:=mkD X G d25 (bd3 λ_ _ _ _ _ _ _ _ _ _ _=>rfl)
  d__law_cell_at:=mkD X G d26 (bd2 λ_ _ _ _ _ _ _ _ _ _=>rfl)
  d__law_pairs:=mkD X G d27 (bd1 λ_ _ _ _ _ _ _ _ _=>rfl)
  d__law_first_ties:=mkD X G d28 (bd2 λ_ _ _ _ _ _ _ _ _ _=>rfl)
  d__law_ties:=mkD X G d29 (bd3 λ_ _ _ _ _ _ _ _ _ _ _=>rfl)
  d__law_handed:=mkD X G d30 (bd2 λ_ _ _ _ _ _ _ _ _ _=>rfl)
  d__law_near:=mkD X G d31 (bd2 λ_ _ _ _ _ _ _ _ _ _=>rfl)
  d__law_sets:=mkD X G d32 (bd2 λ_ _ _ _ _ _ _ _ _ _=>rfl)
  d__law_answers:=mkD X G d33 (bd4 λ_ _ _ _ _ _ _ _ _ _ _ _=>rfl)
  d__law_beaten:=mkD X G d34 (bd6 λ_ _ _ _ _ _ _ _ _ _ _ _ _ _=>rfl)
  d__law_greatest:=mkD X G d35 (bd3 λ_ _ _ _ _ _ _ _ _ _ _=>rfl)
  d_law:=⟨A,_,F,F.binds ((bd1 λ_ _ _ _ _ _ _ _ _=>rfl) _ _),rL X G zl⟩
  c_Web:=mkO X G o_Web d3
  n_Web_places:=n_Web_places
  n_Web_ties:=n_Web_ties
  n_Web_near_sets:=n_Web_near_sets
  c_Field:=mkO X G o_Field d18
  n_Field_everything:=n_Field_everything
  n_Field_kind:=n_Field_kind
  n_Field_takes:=n_Field_takes
  n_Field_numbers:=n_Field_numbers
  n_Field_having:=n_Field_having
  n_Field_place_bits:=n_Field_place_bits
  n_Field_known:=n_Field_known
  m_Field_linked_by_one:=mkE d16
  m_Field_linked_by_all:=mkE d17
  m_Field_calls:=mkE d19
  m_Field_linked:=mkE d20
  m_Field_behind:=mkE d21
  b_enumerate:=Fo X G z_enumerate
  b_int:=Fo X G z_int
  b_len:=Fo X G z_len
  b_list:=Fo X G z_list
  b_max:=Fo X G z_max
  b_min:=Fo X G z_min
  b_range:=Fo X G z_range
  b_reversed:=Fo X G z_reversed
  b_sorted:=Fo X G z_sorted
  b_sum:=Fo X G z_sum
  b_tuple:=Fo X G z_tuple
  g_MOST_PLACES:=⟨vy,rL X G g_MOST_PLACES⟩
  g_MOST_STANDINGS:=⟨vg,rL X G g_MOST_STANDINGS⟩ }
 refine⟨W,T,?_,Ee,λs v=>.of_eq rfl⟩;have e:=C.symm.trans (rL X G zl);cases e;rfl
theorem walk{l:OpenLaw}{q:Bs}{m:List Str}{E:(Str->Option Value)->DS->Prop}{B:CQ->DS->Prop}{d:DefRec}{K:Params->Frag}(I:l.most=some 63)(J:d.params.defaults=[])
  (L:∀(w:CQ) (h:DS),B w h->(K w.params).In h)
  (F:∀(w:CQ) (o:Str->Option Value) (A:Aa) (h:DS),(K w.params).In h->h.Ns Bb o->o d.name=some (.ref A) ->
   ∃(W:Wd) (T:Txt (K w.params) o W),A=T.d_law.f/\W.excs.Nodup/\∀(s:AS) (v:Value),YQ s T.d_law.fd ⟨[v],[]⟩ [("script",v)])
  (good:∀(W:Wd),W.excs.Nodup->∀ns:ZLi,ns.length<=63->∃N,av W [.fro (ns.map D.int)] []=.ok (.bl true) N) :
  WalkO q m E B l.row.toRowW d [] (λf vs=>bO f vs):=
 L2.jT (n:=63) (k:=20) (x:="script") (CX:=λw=>CXG l.prog w) (sp:=λw=>fC (K w.params)) I (by decide) J ⟨rfl,by decide,by decide⟩ L
  (λw o A h O G P=>by
   obtain⟨W,T,e,Q,hb⟩:=F w o A h O G P;subst e
   exact⟨T.d_law.fd,hb,λC _ _=>ge (pX T) (good W Q)⟩)
  (λ_ _ a ns R S U=>⟨a,ns,rfl,qZ S U,R,λ_=>rfl⟩) (λw H s e X z=>qt z)
end M
open PySem PySem.W PyProof.Rows
set_option maxRecDepth 100000 in
set_option maxHeartbeats 0 in
theorem PySem.Challenge.cw_guardround_k63_whole_caller_beats_all_holds : PySem.Challenge.rw_guardround_k63_whole_caller_beats_all.Holds := by
 w_on;o_law;k_head;(case hw=>w_witness2)
 k_fill
 refine M.walk (l:=HB) rfl rfl (λw h Y=>by first | exact kIn_of Y | exact km_in_of Y) ?F M.good
 case F=>
  intro w mg fa h KX G yu;refine' M.q9 (l:=HB) (w:=w) KX G yu ?o_Web ?o_Field ?d1 ?d2 ?d4 ?d5 ?d6 ?d7 ?d8 ?d9 ?d10 ?d11 ?d12 ?d13 ?d14 ?d15 ?d22 ?d23 ?d24 ?d25 ?d26 ?d27 ?d28 ?d29 ?d30 ?d31 ?d32 ?d33 ?d34 ?d35 ?d36 ?d3 ?d16 ?d17 ?d18 ?d19 ?d20 ?d21 ?n_Web_places ?n_Web_ties ?n_Web_near_sets ?n_Field_everything ?n_Field_kind ?n_Field_takes ?n_Field_numbers ?n_Field_having ?n_Field_place_bits ?n_Field_known ?z_enumerate ?z_int ?z_len ?z_list ?z_max ?z_min ?z_range ?z_reversed ?z_sorted ?z_sum ?z_tuple ?g_MOST_PLACES ?g_MOST_STANDINGS
  (case o_Web | o_Field=>exact⟨by k_is,by k_is,by k_is,by k_is,by k_is,by k_is,by k_is⟩)
  (case d1 | d2 | d4 | d5 | d6 | d7 | d8 | d9 | d10 | d11 | d12 | d13 | d14 | d15 | d22 | d23 | d24 | d25 | d26 | d27 | d28 | d29 | d30 | d31 | d32 | d33 | d34 | d35 | d36=>exact⟨by k_is,_,_,_,_,_,_,_,_,_,by k_is,by k_is,by k_is⟩)
  (case d3 | d16 | d17 | d18 | d19 | d20 | d21=>exact⟨by k_is,by k_is,_,_,_,_,_,_,_,_,_,by k_is,by k_is,by k_is⟩)
  (case n_Web_places | n_Web_ties | n_Web_near_sets | n_Field_everything | n_Field_kind | n_Field_takes | n_Field_numbers | n_Field_having | n_Field_place_bits | n_Field_known | z_enumerate | z_int | z_len | z_list | z_max | z_min | z_range | z_reversed | z_sorted | z_sum | z_tuple | g_MOST_PLACES | g_MOST_STANDINGS=>k_is)
#print axioms PySem.Challenge.cw_guardround_k63_whole_caller_beats_all_holds
